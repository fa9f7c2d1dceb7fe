import PyProof.Rows.All
import Wide.All
import OpenK.AllK
import Wide.FinOn
import PyProof.EqAt
import PyProof.EqKinds
import PyProof.TupleCall
import KE.BitLaws
import Open.SpecLaws
import KE.OsHead
import KE.OsGo
import KE.KDictSum
import KE.KSortRegAny
import KE.KSortedAny
import PyWideLaws
import KE.KSortTupG
import PySem.Challenge.RW_relayleases_s01_answers
import PyVbcnag
set_option compiler.extract_closed false
set_option Elab.async false
set_option linter.all false
set_option maxRecDepth 100000
namespace L2
open PySem PySem.Spec PyProof.Rows
abbrev Key:=Sum Int Str
def CB:Key→Value→Bool
 | .inl k,v=>Value.isInt k v
 | .inr x,v=>Value.isStrOf x v
def ahO (w:World):Key→Int
 | .inl k=>hashInt k
 | .inr x=>hashStr w x
theorem dQ:∀ {k:Key}{v:Value},CB k v=true→(∃i t,k=Sum.inl i∧v=Value.int i t)∨(∃x t,k=Sum.inr x∧v=Value.str x t)
 | .inl i,v,h=>by
  obtain ⟨t,e⟩:=Value.isInt_shape (k:=i) (v:=v) h
  exact .inl ⟨i,t,rfl,e⟩
 | .inr x,v,h=>by
  obtain ⟨t,e⟩:=Value.isStrOf_shape (x:=x) (v:=v) h
  exact .inr ⟨x,t,rfl,e⟩
theorem Ma (i:Int)(t:Tok):CB (.inl i) (.int i t)=true:=by simp [CB,Value.isInt]
theorem Mb (x:Str)(t:Tok):CB (.inr x) (.str x t)=true:=by simp [CB,Value.isStrOf]
theorem VT (a b:Int):decide ((Sum.inl a:Key)=Sum.inl b)=(a==b):=by
 by_cases e:a=b
 ·subst e;simp
 ·have h:¬ (Sum.inl a:Key)=Sum.inl b:=fun q=>e (Sum.inl.inj q)
  rw [decide_eq_false h]
  exact (beq_eq_false_iff_ne.mpr e).symm
theorem VU (a b:Str):decide ((Sum.inr a:Key)=Sum.inr b)=decide (a=b):=by
 by_cases e:a=b
 ·subst e;simp
 ·have h:¬ (Sum.inr a:Key)=Sum.inr b:=fun q=>e (Sum.inr.inj q)
  rw [decide_eq_false h,decide_eq_false e]
theorem VV (a:Int)(b:Str):decide ((Sum.inl a:Key)=Sum.inr b)=false:=decide_eq_false (fun q=>nomatch q)
theorem VX (a:Str)(b:Int):decide ((Sum.inr a:Key)=Sum.inl b)=false:=decide_eq_false (fun q=>nomatch q)
def bY (prog:Program)(w:World):PySem.KeyKind prog w Key where
 is:=CB
 hash:=ahO w
 inj:=fun v a b ha hb=>by
  rcases dQ ha with ⟨i,t,rfl,rfl⟩|⟨x,t,rfl,rfl⟩
  ·rcases dQ hb with ⟨j,u,rfl,e⟩|⟨y,u,rfl,e⟩
   ·injection e with e1 _;rw [e1]
   ·exact nomatch e
  ·rcases dQ hb with ⟨j,u,rfl,e⟩|⟨y,u,rfl,e⟩
   ·exact nomatch e
   ·injection e with e1 _;rw [e1]
 byValue:=fun k v h=>by
  rcases dQ h with ⟨i,t,rfl,rfl⟩|⟨x,t,rfl,rfl⟩ <;>rfl
 pyHash:=fun hv h=>by
  rcases dQ hv with ⟨i,t,rfl,rfl⟩|⟨x,t,rfl,rfl⟩
  ·exact wpAny_pyHash_int h
  ·exact wpAny_pyHash_str h
 eqBool:=fun hu hv h=>by
  rcases dQ hu with ⟨i,t,rfl,rfl⟩|⟨x,t,rfl,rfl⟩
  ·rcases dQ hv with ⟨j,u,rfl,rfl⟩|⟨y,u,rfl,rfl⟩
   ·rw [VT] at h;exact wpAny_eqBool_int h
   ·rw [VV] at h;exact SeqAt.EqAt.int_str i t y u _ _ _ _ h
  ·rcases dQ hv with ⟨j,u,rfl,rfl⟩|⟨y,u,rfl,rfl⟩
   ·rw [VX] at h;exact SeqAt.EqAt.str_int x t j u _ _ _ _ h
   ·rw [VU] at h;exact wpAny_eqBool_str h
 «strs»:=fun k x t v h=>by
  rcases dQ h with ⟨i,u,rfl,e⟩|⟨y,u,rfl,e⟩
  ·exact nomatch e
  ·injection e with e1 _
   subst e1
   cases v <;>rfl
theorem xm (prog:Program)(w:World)(i:Int)(t:Tok):(bY prog w).is (.inl i) (.int i t)=true:=Ma i t
theorem GD (prog:Program)(w:World)(x:Str)(t:Tok):(bY prog w).is (.inr x) (.str x t)=true:=Mb x t
inductive V where
 |bX|bl (b:Bool)|int (i:Int)|str (x:Str)|GF (b:Array UInt8)|ZJ (b:UInt64)|ref (a:Addr)|ty (n:String)
 deriving DecidableEq
def RelV:V→Value→Prop
 | .bX,u=>u=Value.none
 | .bl b,u=>u=Value.bool b
 | .int i,u=>∃t,u=Value.int i t
 | .str x,u=>∃t,u=Value.str x t
 | .GF b,u=>∃t,u=Value.bytes b t
 | .ZJ b,u=>∃t,u=Value.float b t
 | .ref a,u=>u=Value.ref a
 | .ty n,u=>u=Value.type n
abbrev Vals:List V→List Value→Prop:=Paired RelV
theorem Vals.length {xs:List V}{us:List Value}(r:Vals xs us):xs.length=us.length:=Paired.length r
theorem Vals.get:∀ {xs:List V}{us:List Value}{i:Nat}{x:V},Vals xs us→xs[i]?=some x→∃u,us[i]?=some u∧RelV x u
 |_,_,_,_,.nil,e=>by simp at e
 |_,_,0,_,.cons r _,e=>by simp at e;subst e;exact ⟨_,rfl,r⟩
 |_,_,i + 1,x,.cons _ t,e=>by
  obtain ⟨u,h1,h2⟩:=Vals.get (i:=i) (x:=x) t (by simpa using e)
  exact ⟨u,by simpa using h1,h2⟩
theorem Vals.set {x:V}{u:Value}(r:RelV x u):∀ {xs:List V}{us:List Value}(i:Nat),Vals xs us→Vals (xs.set i x) (us.set i u)
 |_,_,_,.nil=> .nil
 |_,_,0,.cons _ t=> .cons r t
 |_,_,i + 1,.cons q t=> .cons q (Vals.set r i t)
theorem Vals.append:∀ {xs ys:List V}{us ws:List Value},Vals xs us→Vals ys ws→Vals (xs ++ ys) (us ++ ws)
 |_,_,_,_,.nil,s=>s
 |_,_,_,_,.cons r t,s=> .cons r (Vals.append t s)
theorem Vals.take:∀ {xs:List V}{us:List Value}(n:Nat),Vals xs us→Vals (xs.take n) (us.take n)
 |_,_,0,_=> .nil
 |_,_,_ + 1,.nil=> .nil
 |_,_,n + 1,.cons r t=> .cons r (Vals.take n t)
theorem Vals.drop:∀ {xs:List V}{us:List Value}(n:Nat),Vals xs us→Vals (xs.drop n) (us.drop n)
 |_,_,0,r=>r
 |_,_,_ + 1,.nil=> .nil
 |_,_,n + 1,.cons _ t=>Vals.drop n t
def qV:Option V→Option Value→Prop
 |some v,some u=>RelV v u
 |none,none=>True
 |_,_=>False
def KV {κ:Type}:List (κ×V)→List (κ×Value)→Prop:=Paired fun (p:κ×V) (q:κ×Value)=>p.1=q.1∧RelV p.2 q.2
def kV:Key→V
 | .inl i=> .int i
 | .inr x=> .str x
inductive HO where
 |lst (xs:List V)
 |tup (xs:List V)
 |dK (kvs:List (Key×V))|dT (kvs:List (List Key×V))
 |set (S:Int→Bool) (n:Nat)
 |ins (C dx:Addr) (fs:List (Str×V))
 |own (x:Addr)
 |xd (fs:List (Str×V))
 |met (f x:Addr)
 |rng (lo hi:Int)
 |jn (o:Obj) (u:HO)
 |VY (ps:Array Value)
 |ext (φ:Heap→Prop)
abbrev Hp:=Addr→Option HO
def upd (H:Hp)(a:Addr)(o:HO):Hp:=fun b=>if b=a then some o else H b
theorem ab {H:Hp}{a:Addr}{o:HO}:upd H a o a=some o:=by unfold upd;rw [if_pos rfl]
theorem az {H:Hp}{a b:Addr}{o:HO}(h:b≠a):upd H a o b=H b:=by unfold upd;rw [if_neg h]
theorem cJ {H:Hp}{a:Addr}{o u:HO}:upd (upd H a o) a u=upd H a u:=by
 funext b;unfold upd;split <;>rfl
theorem a8 {H:Hp}{a b:Addr}{o u:HO}(h:H a=some o)(h':H b=some u)(d:o≠u):a≠b:=by
 intro e;subst e;rw [h] at h';exact d (Option.some.inj h')
theorem aH {H:Hp}{a b:Addr}{o:HO}(h:H a=some o)(h':H b=none):a≠b:=by
 intro e;subst e;rw [h] at h';cases h'
section
variable (P:Program)(w:World)
def d7 (H:Hp)(h:Heap)(a:Addr):HO→Prop
 | .lst xs=>xs.length≤sizeLine∧∃ (a7:List Value)(n:Nat),Vals xs a7∧h.get? a=some {cls:= .type "list",data:= .seq a7.toArray n}
 | .tup xs=>xs.length≤sizeLine∧∃a7:List Value,Vals xs a7∧IsTup h a a7.toArray
 | .dK kvs=>kvs.length≤sizeLine∧(a==sysModules)=false∧∃vs,KV kvs vs∧h.DictOf (bY P w) a vs
 | .dT kvs=>kvs.length≤sizeLine∧(a==sysModules)=false∧∃xs:List (List Key×Addr×Value),
   Paired (fun (p:List Key×V) (q:List Key×Addr×Value)=>p.1=q.1∧H q.2.1=some (.tup (p.1.map kV))∧RelV p.2 q.2.2) kvs xs∧
   ∃o es ep,h.get? a=some o∧o.ExactDict∧o.data= .dict es ep∧es.toList=xs.map (entryOfKey (tupleKind (bY P w)))∧(xs.map (·.1)).Nodup
 | .set S n=>h.SetOf (intKind P w) a S n
 | .ins C dx fs=>H dx=some (.own a)∧fs.length≤1000∧dx≠a∧h.get? a=some (PySem.W.instObj C dx)∧
   ∃mA,h.Ns1 dx mA∧(∀f,qV (fs.lookup f) (mA f))∧PySem.Within mA (fs.map (·.1))
 | .own _=>∃o,h.get? a=some o
 | .xd fs=>∃mA,h.Ns1 a mA∧∀f,qV (fs.lookup f) (mA f)
 | .rng lo hi=>∃t u v,h.get? a=some {cls:= .type "range",data:= .fields #[.int lo t,.int hi u,.int 1 v] }
 | .jn o u=>h.get? a=some o∧d7 H h a u
 | .VY ps=>h.get? a=some {cls:= .none,data:= .fields ps}
 | .met f x=>h.get? a=some (PySem.W.methodObj (.ref f) (.ref x))
 | .ext φ=>φ h∧(∃o,h.get? a=some o)∧∀h1 h2:Heap,φ h1→(∀o,h1.get? a=some o→h2.get? a=some o)→φ h2
def ox (H:Hp)(h:Heap):Prop:=∀a o,H a=some o→d7 P w H h a o
end
section
variable {P:Program}{w:World}{H H':Hp}{h h':Heap}{a:Addr}{o:HO}
theorem d7.lt (x:d7 P w H h a o):a < h.objs.size:=by
 cases o with
 |lst xs=>obtain ⟨_,_,_,_,e⟩:=x;exact Heap.lt_size e
 |tup xs=>obtain ⟨_,_,_,p⟩:=x;exact p.lt
 |dK kvs=>obtain ⟨_,_,_,_,o,_,_,e,_⟩:=x;exact Heap.lt_size e
 |dT kvs=>obtain ⟨_,_,_,_,o,_,_,e,_⟩:=x;exact Heap.lt_size e
 |set S n=>obtain ⟨o,_,_,_,e,_⟩:=x;exact Heap.lt_size e
 |ins C dx fs=>obtain ⟨_,_,_,e,_⟩:=x;exact Heap.lt_size e
 |own y=>obtain ⟨_,e⟩:=x;exact Heap.lt_size e
 |xd fs=>obtain ⟨_,⟨_,_,_,e,_⟩,_⟩:=x;exact Heap.lt_size e
 |rng lo hi=>obtain ⟨_,_,_,e⟩:=x;exact Heap.lt_size e
 |jn ob u=>obtain ⟨e,_⟩:=x;exact Heap.lt_size e
 |VY ps=>exact Heap.lt_size (show h.get? a=some _ from x)
 |met f y=>exact Heap.lt_size (show h.get? a=some _ from x)
 |ext φ=>obtain ⟨_,⟨_,e⟩,_⟩:=x;exact Heap.lt_size e
theorem Paired.cN {α β:Type}{F G:α→β→Prop}:∀ {l₁:List α}{l₂:List β},Paired F l₁ l₂→(∀a b,F a b→G a b)→Paired G l₁ l₂
 |_,_,.nil,_=> .nil
 |_,_,.cons r t,f=> .cons (f _ _ r) (Paired.cN t f)
theorem d7.BC (x:d7 P w H h a o)(k:∀b u,(b=a∨H b=some (.own a))→h.get? b=some u→h'.get? b=some u)
  (ho:∀b,H b=some (.own a)→H' b=some (.own a))(ht:∀b xs,H b=some (.tup xs)→H' b=some (.tup xs)):d7 P w H' h' a o:=by
 induction o with
 |lst xs=>obtain ⟨z,a7,n,r,e⟩:=x;exact ⟨z,a7,n,r,k _ _ (.inl rfl) e⟩
 |tup xs=>obtain ⟨z,a7,r,ob,e,c⟩:=x;exact ⟨z,a7,r,ob,k _ _ (.inl rfl) e,c⟩
 |dK kvs=>obtain ⟨z,y,vs,r,ob,es,ep,e,c⟩:=x;exact ⟨z,y,vs,r,ob,es,ep,k _ _ (.inl rfl) e,c⟩
 |dT kvs=>
  obtain ⟨z,y,xs,r,ob,es,ep,e,c⟩:=x
  exact ⟨z,y,xs,Paired.cN r fun p q z=>⟨z.1,ht _ _ z.2.1,z.2.2⟩,ob,es,ep,k _ _ (.inl rfl) e,c⟩
 |set S n=>obtain ⟨ob,es,ep,t,e,c⟩:=x;exact ⟨ob,es,ep,t,k _ _ (.inl rfl) e,c⟩
 |ins C dx fs=>
  obtain ⟨d,z,ne,e,mA,⟨od,es,ep,e2,c⟩,r⟩:=x
  exact ⟨ho _ d,z,ne,k _ _ (.inl rfl) e,mA,⟨od,es,ep,k _ _ (.inr d) e2,c⟩,r⟩
 |own y=>obtain ⟨ob,e⟩:=x;exact ⟨ob,k _ _ (.inl rfl) e⟩
 |xd fs=>obtain ⟨mA,⟨od,es,ep,e,c⟩,r⟩:=x;exact ⟨mA,⟨od,es,ep,k _ _ (.inl rfl) e,c⟩,r⟩
 |rng lo hi=>obtain ⟨t,u,v,e⟩:=x;exact ⟨t,u,v,k _ _ (.inl rfl) e⟩
 |jn ob u ih=>obtain ⟨e,q⟩:=x;exact ⟨k _ _ (.inl rfl) e,ih q⟩
 |VY ps=>
  have e:h.get? a=some {cls:= .none,data:= .fields ps}:=x
  show h'.get? a=some {cls:= .none,data:= .fields ps}
  exact k a _ (.inl rfl) e
 |met f y=>
  have e:h.get? a=some (PySem.W.methodObj (.ref f) (.ref y)):=x
  show h'.get? a=some (PySem.W.methodObj (.ref f) (.ref y))
  exact k a _ (.inl rfl) e
 |ext φ=>obtain ⟨p,⟨o,e⟩,st⟩:=x;exact ⟨st _ _ p fun o q=>k _ _ (.inl rfl) q,⟨o,k _ _ (.inl rfl) e⟩,st⟩
theorem ox.lt (x:ox P w H h)(e:H a=some o):a < h.objs.size:=(x a o e).lt
theorem ox.fresh (x:ox P w H h)(e:h.objs.size≤a):H a=none:=by
 cases q:H a with
 |none=>rfl
 |some u=>exact absurd (Nat.lt_of_lt_of_le (x.lt q) e) (Nat.lt_irrefl _)
theorem ox.kept (x:ox P w H h)(k:∀b u,h.get? b=some u→h'.get? b=some u):ox P w H h':=fun a o e=>
 (x a o e).BC (fun b u _ q=>k b u q) (fun _ q=>q) fun _ _ q=>q
theorem ox.laid (x:ox P w H h)(k:∀b u,h.get? b=some u→h'.get? b=some u)(hp:h.objs.size≤a)(new:d7 P w (upd H a o) h' a o):ox P w (upd H a o) h':=fun b u e=>by
 have hn:=x.fresh hp
 by_cases hb:b=a
 ·subst hb;rw [ab] at e;cases e;exact new
 ·rw [az hb] at e
  exact (x b u e).BC (fun c v _ q=>k c v q) (fun c q=>by rw [az (aH q hn)];exact q) fun c xs q=>by rw [az (aH q hn)];exact q
end
def Rd (H:Hp)(a:Addr)(u:HO):Prop:=H a=some u∨∃o,H a=some (.jn o u)
theorem Rd.ok {P:Program}{w:World}{H:Hp}{h:Heap}{a:Addr}{u:HO}(r:Rd H a u)(x:ox P w H h):d7 P w H h a u:=by
 rcases r with r|⟨o,r⟩
 ·exact x a u r
 ·obtain ⟨_,q⟩:=x a _ r
  exact q
def UW:Option HO→Prop
 |some (.lst _)=>True
 |some (.dK _)=>True
 |some (.dT _)=>True
 |some (.set _ _)=>True
 |some (.ins _ _ _)=>True
 |some (.ext _)=>True
 |_=>False
section
variable {P:Program}{w:World}{H:Hp}{h h':Heap}{x e:Addr}{o':HO}
theorem ox.write (ok:ox P w H h)(mu:UW (H x))(he:e=x∨H e=some (.own x))(k:∀b u,b≠e→h.get? b=some u→h'.get? b=some u)(Zb:∃u,h'.get? e=some u)
  (new:d7 P w (upd H x o') h' x o'):ox P w (upd H x o') h':=fun b u q=>by
 have ZK:∀c y,H c=some (.own y)→c≠x:=fun c y r z=>by subst z;rw [r] at mu;exact mu
 have ahQ:∀c xs,H c=some (.tup xs)→c≠x:=fun c xs r z=>by subst z;rw [r] at mu;exact mu
 by_cases hb:b=x
 ·subst hb;rw [ab] at q;cases q;exact new
 ·rw [az hb] at q
  by_cases Gz:b=e
  ·have q':H b=some (.own x):=by
    rcases he with z|z
    ·exact absurd (Gz.trans z) hb
    ·rw [Gz];exact z
   rw [q] at q';cases q'
   obtain ⟨v,hv⟩:=Zb
   exact ⟨v,by rw [Gz];exact hv⟩
  ·refine (ok b u q).BC (fun c v hc r=>k c v ?_ r) (fun c r=>by rw [az (ZK c b r)];exact r) fun c xs r=>by rw [az (ahQ c xs r)];exact r
   rcases hc with rfl|hc
   ·exact Gz
   ·rintro rfl
    rcases he with z|z
    ·exact ZK c b hc z
    ·rw [hc] at z;cases z;exact hb rfl
end
structure Un (fs ex:List Addr) (H H':Hp) (h h':Heap):Prop where
 keep:∀b o,h.get? b=some o→H b=none→b ∉ fs→b ∉ ex→h'.get? b=some o
 slot:∀b o,h.get? b=some o→H b=none→b∈fs→b ∉ ex→∃sl,h'.get? b=some {o with slots:=sl}
 free:∀b o,h.get? b=some o→H b=none→b ∉ ex→H' b=none
 there:∀b o,h.get? b=some o→b ∉ ex→∃o',h'.get? b=some o'
 zo:∀b xs,H b=some (.tup xs)→H' b=some (.tup xs)
 zp:∀b o u,H b=some (.jn o u)→H' b=some (.jn o u)
 Eg:∀b ps,H b=some (.VY ps)→∃more,H' b=some (.VY (ps ++ more))
section
variable {fs Zc ex ex':List Addr}{H H1 H2:Hp}{h h1 h2 h':Heap}{a x e:Addr}{o:HO}
theorem Un.any (u:Un fs ex H H1 h h1){b:Addr}{ob:Obj}(q:h.get? b=some ob)(n:H b=none)(hx:b ∉ ex):∃sl,h1.get? b=some {ob with slots:=sl}:=by
 by_cases hb:b∈fs
 ·exact u.slot b ob q n hb hx
 ·exact ⟨ob.slots,u.keep b ob q n hb hx⟩
theorem Un.kept (k:∀b u,h.get? b=some u→h'.get? b=some u):Un fs ex H H h h':=
 ⟨fun b ob q _ _ _=>k b ob q,fun b ob q _ _ _=>⟨ob.slots,k b ob q⟩,fun _ _ _ n _=>n,fun b ob q _=>⟨ob,k b ob q⟩,fun _ _ q=>q,fun _ _ _ q=>q,fun _ ps q=>⟨#[],by rw [q];simp⟩⟩
theorem Un.refl:Un fs ex H H h h:=Un.kept fun _ _ q=>q
theorem Un.laid (k:∀b u,h.get? b=some u→h'.get? b=some u)(hp:h.objs.size≤a)(hn:H a=none):Un fs ex H (upd H a o) h h' where
 keep:=fun b u q _ _ _=>k b u q
 slot:=fun b u q _ _ _=>⟨u.slots,k b u q⟩
 free:=fun b u q n _=>by rw [az (Nat.ne_of_lt (Nat.lt_of_lt_of_le (Heap.lt_size q) hp))];exact n
 there:=fun b u q _=>⟨u,k b u q⟩
 zo:=fun b xs q=>by rw [az (aH q hn)];exact q
 zp:=fun b u xs q=>by rw [az (aH q hn)];exact q
 Eg:=fun b ps q=>⟨#[],by rw [az (aH q hn),q];simp⟩
theorem Un.write (mu:UW (H x))(he:e=x∨H e=some (.own x))(k:∀b u,b≠e→h.get? b=some u→h'.get? b=some u)(Zb:∃u,h'.get? e=some u):Un fs ex H (upd H x o) h h':=by
 have hx:∀b,H b=none→b≠x:=fun b n z=>by subst z;rw [n] at mu;exact mu
 have hb:∀b,H b=none→b≠e:=fun b n z=>by
  subst z
  rcases he with r|r
  ·exact hx b n r
  ·rw [n] at r;cases r
 have hm:∀b u,H b=some u→¬UW (some u)→b≠x:=fun b u q nm z=>by subst z;rw [q] at mu;exact nm mu
 refine ⟨fun b u q n _ _=>k b u (hb b n) q,fun b u q n _ _=>⟨u.slots,k b u (hb b n) q⟩,fun b u q n _=>by rw [az (hx b n)];exact n,fun b u q _=> ?_,
  fun b xs q=>by rw [az (hm b _ q fun z=>z)];exact q,fun b u xs q=>by rw [az (hm b _ q fun z=>z)];exact q,fun b ps q=>⟨#[],by rw [az (hm b _ q fun z=>z),q];simp⟩⟩
 by_cases Gz:b=e
 ·subst Gz;exact Zb
 ·exact ⟨u,k b u Gz q⟩
end
def trk (h:Heap)(H:Hp):List Addr:=(List.range h.objs.size).filter fun a=>(H a).isSome
def Eh (h:Heap)(H:Hp):Heap:=PySem.W.hideAll h (trk h H)
theorem Mc (h:Heap)(H:Hp):(Eh h H).objs.size=h.objs.size:=PySem.W.hideAll_size _ _
theorem Oj {h:Heap}{H:Hp}{b:Addr}{o:Obj}(e:h.get? b=some o)(n:H b=none):(Eh h H).get? b=some o:=
 PySem.W.hideAll_get _ e fun hm=>by
  have q:(H b).isSome=true:=(List.mem_filter.mp hm).2
  rw [n] at q;simp at q
theorem SG {h:Heap}{H:Hp}{b:Addr}{o:Obj}(e:(Eh h H).get? b=some o):h.get? b=some o∧H b=none:=by
 have e':h.get? b=some o:=PySem.W.of_hideAll (trk h H) e
 refine ⟨e',?_⟩
 cases q:H b with
 |none=>rfl
 |some x=>
  have hm:b∈trk h H:=List.mem_filter.mpr ⟨List.mem_range.mpr (Heap.lt_size e'),by simp [q]⟩
  have z:(Eh h H).get? b=none:=PySem.W.hideAll_none (trk h H) hm
  rw [z] at e;cases e
structure Mod (K:PySem.W.Frag) (mg:Str→Option Value) (base:Heap):Prop where
 ZL:K.In base
 glob:base.Ns mainGlobals mg
 blt:∃mb,base.Ns builtinsNs mb∧∀x:Str,x≠"__name__"→mb x=bootBuiltins x
 nolimit:base.NoLimit
structure Cx where
 prog:Program
 w:World
 K:PySem.W.Frag
 mg:Str→Option Value
 base:Heap
 A:Around
 N:List Str
 CC:Shared
 VZ:Hp
 env:Env
 outer:List Env
 stack:List Env
 ex:List Addr
 fn:Str→Bool
 calm:Bool
 pn:List (Addr×Obj)
 xe:Value→Shared→Prop
def Ol (l:List Env):List Addr:=l.filterMap (·.frame)
abbrev Cx.fs (X:Cx):List Addr:=Ol X.outer
def Zd (sc:Scope)(x:Str):Prop:=sc.names.lookup x=some .local∨sc.names.lookup x=some .cell∨sc.names.lookup x=some .free
def Loc (sc:Scope)(x:Str):Prop:=sc.names.lookup x=some .local∨sc.names.lookup x=some .cell
def Look (env:Env)(h:Heap)(m:Str→Option Value)(x:Str)(u:Value):Prop:=
 (env.kindOf x=some .local∧m x=some u)∨((env.kindOf x=some .cell∨env.kindOf x=some .free)∧∃c,env.cells.lookup x=some c∧h.IsCell c (some u))
structure Cx.Ok (X:Cx):Prop where
 mod:Mod X.K X.mg X.base
 kind:X.env.scope.kind= .function
 glob:X.env.globals=mainGlobals
 blt:X.env.builtins=builtinsNs
 above:X.CC.heap.objs.size≤X.env.locals
 inj:∀x y c,X.env.cells.lookup x=some c→X.env.cells.lookup y=some c→x=y
 has:∀x,(X.env.kindOf x=some .cell∨X.env.kindOf x=some .free)→∃c,X.env.cells.lookup x=some c
 ZM:∀x c,X.fn x=true→X.env.cells.lookup x=some c→X.CC.heap.objs.size≤c
 hd:X.calm=true→X.A.handled=none
 frames:X.A.frames=some X.stack
 stk:X.stack=X.outer∨(X.stack=X.env::X.outer∧X.env.frame=some X.env.locals)
 exf:∀b∈X.ex,b≠X.env.locals∧∀x c,X.env.cells.lookup x=some c→c≠b
 bs:∀b o,X.base.get? b=some o→X.CC.heap.get? b=some o∧X.VZ b=none
 SH:X.base.objs.size≤X.CC.heap.objs.size
 Om:∀b o,X.base.get? b=some o→b ∉ X.ex
 Oo:∀b∈X.ex,b ∉ X.fs
 yK:X.CC.heap.FunFrames X.base X.outer
 V0:∀b∈X.fs,X.VZ b=none
structure Inv (X:Cx) (pins:List (Addr×Obj)) (σ:List (Option V)) (H:Hp) (s:Shared):Prop where
 ok:X.Ok
 os:s.os=X.CC.os
 bare:AllBare s.gens
 base:Un X.fs X.ex X.VZ H X.CC.heap s.heap
 loc:∃m,s.heap.Ns X.env.locals m∧∀ (i:Nat)(x:Str)(v:V),X.N[i]?=some x→σ[i]?=some (some v)→Zd X.env.scope x→∃u,RelV v u∧Look X.env s.heap m x u
 cell:∀x c,X.env.cells.lookup x=some c→∃v,s.heap.IsCell c v
 free:H X.env.locals=none
 lU:∀x c,X.env.cells.lookup x=some c→H c=none
 pin:∀p∈X.pn ++ pins,s.heap.get? p.1=some p.2∧H p.1=none∧p.1≠X.env.locals∧p.1 ∉ X.fs∧∀v,p.2.data≠ .cell v
 cx:ox X.prog X.w H s.heap
 len:σ.length=X.N.length
section
variable {X:Cx}{pins:List (Addr×Obj)}{σ:List (Option V)}{H H':Hp}{s:Shared}{h':Heap}
theorem Cx.Ok.ahR (ok:X.Ok){b:Addr}{o:Obj}(e:X.base.get? b=some o):b ∉ X.fs:=fun hb=>by
 have:=(ok.yK.mem hb).1
 rw [e] at this;cases this
theorem Inv.bs (I:Inv X pins σ H s):∀b o,X.base.get? b=some o→s.heap.get? b=some o∧H b=none:=fun b o e=>
 ⟨I.base.keep b o (I.ok.bs b o e).1 (I.ok.bs b o e).2 (I.ok.ahR e) (I.ok.Om b o e),I.base.free b o (I.ok.bs b o e).1 (I.ok.bs b o e).2 (I.ok.Om b o e)⟩
theorem Inv.bk (I:Inv X pins σ H s):∀b o,X.base.get? b=some o→s.heap.get? b=some o:=fun b o e=>(I.bs b o e).1
theorem Inv.mod (I:Inv X pins σ H s):Mod X.K X.mg X.base:=I.ok.mod
theorem Inv.KD (I:Inv X pins σ H s):X.K.In s.heap:=I.ok.mod.ZL.keeps I.bk
theorem Inv.lt (I:Inv X pins σ H s):X.env.locals < s.heap.objs.size:=let ⟨_,hn,_⟩:=I.loc;hn.lt
theorem Inv.sz (I:Inv X pins σ H s):X.CC.heap.objs.size≤s.heap.objs.size:=Nat.le_trans I.ok.above (Nat.le_of_lt I.lt)
theorem Inv.ahS (I:Inv X pins σ H s){a:Addr}(h:s.heap.objs.size≤a):a ∉ X.fs:=fun hb=>by
 obtain ⟨_,o,ho,_⟩:=I.ok.yK.mem hb
 exact absurd (Nat.lt_of_lt_of_le (Heap.lt_size ho) (Nat.le_trans I.sz h)) (Nat.lt_irrefl _)
theorem Inv.V1 (I:Inv X pins σ H s):∀x c,X.env.cells.lookup x=some c→c≠X.env.locals:=fun x c e z=>by
 obtain ⟨v,o,ho,hd⟩:=I.cell x c e
 obtain ⟨m,⟨o',es,ep,BD,ZN,_⟩,_⟩:=I.loc
 rw [z,BD] at ho;cases ho;rw [ZN] at hd;cases hd
theorem Inv.yK (I:Inv X pins σ H s):s.heap.FunFrames X.base X.outer:=by
 have all:∀ (l:List Env),(∀b∈Ol l,b∈X.fs)→X.CC.heap.FunFrames X.base l→s.heap.FunFrames X.base l:=by
  intro l
  induction l with
  |nil=>intro _ _;trivial
  |cons env r ih=>
   intro hs hl
   obtain ⟨hk,⟨L,o,hf,hn,ho,hd⟩,hr⟩:=hl
   have hL:L∈X.fs:=hs L (by unfold Ol;rw [List.filterMap_cons,hf];exact List.mem_cons_self)
   obtain ⟨sl,e⟩:=I.base.slot L o ho (I.ok.V0 L hL) hL fun z=>I.ok.Oo L z hL
   exact ⟨hk,⟨L,_,hf,hn,e,hd⟩,ih (fun b hb=>hs b (by unfold Ol;rw [List.filterMap_cons,hf];exact List.mem_cons_of_mem _ hb)) hr⟩
 exact all X.outer (fun _ hb=>hb) I.ok.yK
theorem Inv.stack (I:Inv X pins σ H s):s.heap.FunFrames X.base X.stack:=by
 rcases I.ok.stk with e|⟨e,hf⟩
 ·rw [e];exact I.yK
 ·rw [e]
  obtain ⟨m,hn,_⟩:=I.loc
  refine .cons (by rw [I.ok.kind];decide) hf hn ?_ I.yK
  exact Heap.get?_none_of_le (Nat.le_trans I.ok.SH I.ok.above)
theorem Inv.Jb (I:Inv X pins σ H s):∀b∈Ol X.stack,b∈X.env.locals::X.fs:=fun b hb=>by
 rcases I.ok.stk with e|⟨e,hf⟩
 ·rw [e] at hb;exact List.mem_cons_of_mem _ hb
 ·rw [e] at hb
  unfold Ol at hb
  rw [List.filterMap_cons,hf] at hb
  exact hb
theorem Inv.KG (I:Inv X pins σ H s):∀b∈Ol X.stack,H b=none:=fun b hb=>by
 rcases List.mem_cons.mp (I.Jb b hb) with e|hb
 ·rw [e];exact I.free
 ·obtain ⟨_,o,ho,_⟩:=I.ok.yK.mem hb
  exact I.base.free b o ho (I.ok.V0 b hb) fun z=>I.ok.Oo b z hb
theorem Inv.step {g':Array GenState}{t':Nat}{d':Drawn}{ch:List Addr}(I:Inv X pins σ H s)
  (BE:∀b∈ch,(b∈X.ex∨X.CC.heap.objs.size≤b)∧b≠X.env.locals∧(∀x c,X.env.cells.lookup x=some c→c≠b)∧∀p∈X.pn ++ pins,p.1≠b)
  (keep:∀b o,b≠X.env.locals→b ∉ X.fs→b ∉ ch→s.heap.get? b=some o→H b=none→h'.get? b=some o)
  (slot:∀b o,b≠X.env.locals→b∈X.fs→b ∉ ch→s.heap.get? b=some o→H b=none→∃sl,h'.get? b=some {o with slots:=sl})(free:∀b o,b ∉ ch→s.heap.get? b=some o→H b=none→H' b=none)
  (there:∀b o,b ∉ ch→s.heap.get? b=some o→∃o',h'.get? b=some o')
  (zo:∀b xs,H b=some (.tup xs)→H' b=some (.tup xs))(zp:∀b o u,H b=some (.jn o u)→H' b=some (.jn o u))(Eg:∀b ps,H b=some (.VY ps)→∃more,H' b=some (.VY (ps ++ more)))
  (ns:∀m,s.heap.Ns X.env.locals m→h'.Ns X.env.locals m)(cx:ox X.prog X.w H' h')(hg:AllBare g'):
  Inv X pins σ H' {s with heap:=h',gens:=g',drawn:=d',toks:=t'}:=by
 have neL:∀b o,X.CC.heap.get? b=some o→b≠X.env.locals:=fun b o e=>Nat.ne_of_lt (Nat.lt_of_lt_of_le (Heap.lt_size e) I.ok.above)
 have neC:∀b o,X.CC.heap.get? b=some o→b ∉ X.ex→b ∉ ch:=fun b o e hx hb=>by
  rcases (BE b hb).1 with z|z
  ·exact hx z
  ·exact absurd (Nat.lt_of_lt_of_le (Heap.lt_size e) z) (Nat.lt_irrefl _)
 have cellK:∀x c,X.env.cells.lookup x=some c→∀v,s.heap.IsCell c v→h'.IsCell c v:=fun x c e v ⟨o,ho,hd⟩=>by
  have ZO:c ∉ ch:=fun z=>(BE c z).2.2.1 x c e rfl
  by_cases hc:c∈X.fs
  ·obtain ⟨sl,q⟩:=slot c o (I.V1 x c e) hc ZO ho (I.lU x c e)
   exact ⟨_,q,hd⟩
  ·exact ⟨o,keep c o (I.V1 x c e) hc ZO ho (I.lU x c e),hd⟩
 refine ⟨I.ok,I.os,hg,⟨fun b o e n hb hx=> ?_,fun b o e n hb hx=> ?_,fun b o e n hx=> ?_,fun b o e hx=> ?_,fun b xs e=>zo b xs (I.base.zo b xs e),fun b o xs e=>zp b o xs (I.base.zp b o xs e),fun b ps e=> ?_⟩,?_,fun x c e=> ?_,?_,fun x c e=> ?_,fun p hp=> ?_,cx,I.len⟩
 ·exact keep b o (neL b o e) hb (neC b o e hx) (I.base.keep b o e n hb hx) (I.base.free b o e n hx)
 ·obtain ⟨sl,e1⟩:=I.base.slot b o e n hb hx
  obtain ⟨sl',e2⟩:=slot b _ (neL b o e) hb (neC b o e hx) e1 (I.base.free b o e n hx)
  exact ⟨sl',e2⟩
 ·obtain ⟨o',e1⟩:=I.base.there b o e hx
  exact free b o' (neC b o e hx) e1 (I.base.free b o e n hx)
 ·obtain ⟨o',e1⟩:=I.base.there b o e hx
  exact there b o' (neC b o e hx) e1
 ·obtain ⟨m1,e1⟩:=I.base.Eg b ps e
  obtain ⟨m2,e2⟩:=Eg b _ e1
  exact ⟨m1 ++ m2,by rw [e2,Array.append_assoc]⟩
 ·obtain ⟨m,hn,hl⟩:=I.loc
  refine ⟨m,ns m hn,fun i x v e1 e2 e3=> ?_⟩
  obtain ⟨u,r,l⟩:=hl i x v e1 e2 e3
  refine ⟨u,r,?_⟩
  rcases l with l|⟨k,c,e,z⟩
  ·exact .inl l
  ·exact .inr ⟨k,c,e,cellK x c e _ z⟩
 ·obtain ⟨v,z⟩:=I.cell x c e
  exact ⟨v,cellK x c e v z⟩
 ·obtain ⟨m,⟨o,_,_,ho,_⟩,_⟩:=I.loc
  exact free _ o (fun z=>(BE _ z).2.1 rfl) ho I.free
 ·obtain ⟨v,o,ho,hd⟩:=I.cell x c e
  exact free c o (fun z=>(BE c z).2.2.1 x c e rfl) ho (I.lU x c e)
 ·obtain ⟨e,n,ne,nf,d⟩:=I.pin p hp
  have ZO:p.1 ∉ ch:=fun z=>(BE p.1 z).2.2.2 p hp rfl
  exact ⟨keep p.1 p.2 ne nf ZO e n,free p.1 p.2 ZO e n,ne,nf,d⟩
theorem Inv.un {t':Nat}(I:Inv X pins σ H s)(u:Un X.fs [] H H' s.heap h')(cx:ox X.prog X.w H' h'):Inv X pins σ H' {s with heap:=h',toks:=t'}:=by
 obtain ⟨m,⟨o,es,ep,ho,r⟩,_⟩:=id I.loc
 obtain ⟨sl,hL⟩:=u.any ho I.free (by simp)
 exact I.step (g':=s.gens) (d':=s.drawn) (ch:= []) (fun _ z=>nomatch z) (fun b o _ hb _ e n=>u.keep b o e n hb (by simp)) (fun b o _ hb _ e n=>u.slot b o e n hb (by simp)) (fun b o _ e n=>u.free b o e n (by simp)) (fun b o _ e=>u.there b o e (by simp)) u.zo u.zp u.Eg (fun m' hm=>by
  obtain ⟨o',Sj,Oa,BD,r'⟩:=hm
  rw [ho] at BD;cases BD
  exact ⟨_,Sj,Oa,hL,r'⟩) cx I.bare
theorem Inv.call {g':Array GenState}{t':Nat}{d':Drawn}{ch:List Addr}(I:Inv X pins σ H s)(u:Un (Ol X.stack) ch H H' s.heap h')(cx:ox X.prog X.w H' h')(hg:AllBare g')
  (BE:∀b∈ch,(b∈X.ex∨X.CC.heap.objs.size≤b)∧b≠X.env.locals∧(∀x c,X.env.cells.lookup x=some c→c≠b)∧∀p∈X.pn ++ pins,p.1≠b):
  Inv X pins σ H' {s with heap:=h',gens:=g',drawn:=d',toks:=t'}:=by
 obtain ⟨m,⟨o,es,ep,ho,r⟩,_⟩:=id I.loc
 obtain ⟨sl,hL⟩:=u.any ho I.free fun z=>(BE _ z).2.1 rfl
 exact I.step (ch:=ch) BE (fun b o hL hb hc e n=>u.keep b o e n (fun z=>(List.mem_cons.mp (I.Jb b z)).elim hL hb) hc) (fun b o _ _ hc e n=>u.any e n hc) (fun b o hc e n=>u.free b o e n hc) (fun b o hc e=>u.there b o e hc) u.zo u.zp u.Eg (fun m' hm=>by
  obtain ⟨o',Sj,Oa,BD,r'⟩:=hm
  rw [ho] at BD;cases BD
  exact ⟨_,Sj,Oa,hL,r'⟩) cx hg
theorem Inv.turned {t':Nat}{it:Addr}(I:Inv X pins σ H s)(k:∀b o,b≠it→s.heap.get? b=some o→h'.get? b=some o)(hn:H it=none)(hL:it≠X.env.locals)
  (h1:it∈X.ex∨X.CC.heap.objs.size≤it)(h2:∀x c,X.env.cells.lookup x=some c→c≠it)(h3:∀p∈X.pn ++ pins,p.1≠it):Inv X pins σ H {s with heap:=h',toks:=t'}:=by
 have UX:∀b u,H b=some u→b≠it:=fun b u e z=>by rw [z,hn] at e;cases e
 refine I.step (g':=s.gens) (d':=s.drawn) (ch:= [it]) (fun b hb=> ?_) (fun b o _ _ hc e _=>k b o (fun z=>hc (by simp [z])) e) (fun b o _ _ hc e _=>⟨o.slots,k b o (fun z=>hc (by simp [z])) e⟩) (fun _ _ _ _ n=>n)
  (fun b o hc e=>⟨o,k b o (fun z=>hc (by simp [z])) e⟩) (fun _ _ e=>e) (fun _ _ _ e=>e) (fun b ps e=>⟨#[],by rw [e];simp⟩) (fun m hm=> ?_) (fun b u e=> ?_) I.bare
 ·have e:b=it:=by simpa using hb
  subst e
  exact ⟨h1,hL,h2,h3⟩
 ·obtain ⟨o,es,ep,ho,r⟩:=hm
  exact ⟨o,es,ep,k _ o (Ne.symm hL) ho,r⟩
 ·refine (I.cx b u e).BC (fun c v hc q=>k c v ?_ q) (fun _ q=>q) fun _ _ q=>q
  rcases hc with z|z
  ·rw [z];exact UX b u e
  ·exact UX c _ z
theorem Inv.tok (I:Inv X pins σ H s)(t:Nat):Inv X pins σ H {s with toks:=t}:=I.un (h':=s.heap) (t':=t) Un.refl I.cx
theorem Inv.kept {t':Nat}(I:Inv X pins σ H s)(k:∀b u,s.heap.get? b=some u→h'.get? b=some u):Inv X pins σ H {s with heap:=h',toks:=t'}:=I.un (Un.kept k) (I.cx.kept k)
theorem Inv.laid {a:Addr}{o:HO}{t':Nat}(I:Inv X pins σ H s)(k:∀b u,s.heap.get? b=some u→h'.get? b=some u)(hp:s.heap.objs.size≤a)(new:d7 X.prog X.w (upd H a o) h' a o):
  Inv X pins σ (upd H a o) {s with heap:=h',toks:=t'}:=I.un (Un.laid k hp (I.cx.fresh hp)) (I.cx.laid k hp new)
theorem Inv.write {x e:Addr}{o:HO}{t':Nat}(I:Inv X pins σ H s)(mu:UW (H x))(he:e=x∨H e=some (.own x))(k:∀b u,b≠e→s.heap.get? b=some u→h'.get? b=some u)(Zb:∃u,h'.get? e=some u)
  (new:d7 X.prog X.w (upd H x o) h' x o):Inv X pins σ (upd H x o) {s with heap:=h',toks:=t'}:=I.un (Un.write mu he k Zb) (I.cx.write mu he k Zb new)
theorem Inv.weak {σ':List (Option V)}(I:Inv X pins σ H s)(hl:σ'.length=σ.length)(w:∀ (i:Nat) v,σ'[i]?=some (some v)→σ[i]?=some (some v)):Inv X pins σ' H s:=
 ⟨I.ok,I.os,I.bare,I.base,let ⟨m,hn,ZP⟩:=I.loc;⟨m,hn,fun i x v e1 e2 e3=>ZP i x v e1 (w i v e2) e3⟩,I.cell,I.free,I.lU,I.pin,I.cx,hl.trans I.len⟩
theorem Inv.KH {UY:List (Addr×Obj)}(I:Inv X pins σ H s)(h:∀p∈UY,s.heap.get? p.1=some p.2∧H p.1=none∧p.1≠X.env.locals∧p.1 ∉ X.fs∧∀v,p.2.data≠ .cell v):Inv X UY σ H s:=
 ⟨I.ok,I.os,I.bare,I.base,I.loc,I.cell,I.free,I.lU,fun p hp=>(List.mem_append.mp hp).elim (fun z=>I.pin p (List.mem_append_left _ z)) (h p),I.cx,I.len⟩
theorem zq {N:List Str}(hN:N.Nodup){i j:Nat}{x:Str}(a:N[i]?=some x)(b:N[j]?=some x):i=j:=by
 obtain ⟨h1,e1⟩:=List.getElem?_eq_some_iff.mp a
 obtain ⟨h2,e2⟩:=List.getElem?_eq_some_iff.mp b
 exact (List.getElem_inj hN).mp (e1.trans e2.symm)
theorem CD {M:Model}{A:Around}{E:Value→Shared→Prop}{i:Nat}{x:Str}{v:V}{u:Value}{Q:Unit→Shared→Prop}(I:Inv X pins σ H s)(hN:X.N.Nodup)(hi:X.N[i]?=some x)(hx:Loc X.env.scope x)(r:RelV v u)
  (h:∀s',Inv X pins (σ.set i (some v)) H s'→(∃a,Heap.SameBut a s.heap s'.heap∧(a=X.env.locals∨X.env.cells.lookup x=some a))→Q () s')(hf:X.fn x=true∨X.env.scope.names.lookup x=some .local:=by first|exact .inl rfl|exact .inr rfl|assumption):wpAny M A (storeName X.env x u) Q E s:=by
 obtain ⟨m,hn,hl⟩:=id I.loc
 have ahT:(X.env.scope.kind== .class||(X.env.scope.kind== .module && X.env.locals !=X.env.globals))=false:=by rw [I.ok.kind];rfl
 have hiσ:i < σ.length:=by rw [I.len];exact (List.getElem?_eq_some_iff.mp hi).1
 have V1:=I.V1
 have tracked:∀ {a:Addr}{h':Heap},(∃o,s.heap.get? a=some o∧H a=none)→Heap.SameBut a s.heap h'→ox X.prog X.w H h':=fun {a h'} ha hs b ob e=>by
  obtain ⟨_,_,CF⟩:=ha
  refine (I.cx b ob e).BC (fun c w' hc q=>(hs.2 c ?_).trans q) (fun _ q=>q) fun _ _ q=>q
  rintro rfl
  rcases hc with rfl|hc
  ·rw [CF] at e;cases e
  ·rw [CF] at hc;cases hc
 rcases hx with hk|hk
 ·refine wpAny_storeName_local hk hn (fun h' hn' hs=> ?_) ahT
  obtain ⟨oL,_,_,hoL,_⟩:=id hn
  refine h _ ⟨I.ok,I.os,I.bare,⟨fun b o e n hb hx=> ?_,fun b o e n hb hx=> ?_,I.base.free,fun b o e hx=> ?_,I.base.zo,I.base.zp,I.base.Eg⟩,⟨_,hn',fun j y v' e1 e2 e3=> ?_⟩,fun y c e=> ?_,I.free,I.lU,fun p hp=> ?_,tracked ⟨oL,hoL,I.free⟩ hs,by simpa using I.len⟩ ⟨_,hs,.inl rfl⟩
  ·exact (hs.2 b (Nat.ne_of_lt (Nat.lt_of_lt_of_le (Heap.lt_size e) I.ok.above))).trans (I.base.keep b o e n hb hx)
  ·obtain ⟨sl,e1⟩:=I.base.slot b o e n hb hx
   exact ⟨sl,(hs.2 b (Nat.ne_of_lt (Nat.lt_of_lt_of_le (Heap.lt_size e) I.ok.above))).trans e1⟩
  ·obtain ⟨o',e1⟩:=I.base.there b o e hx
   exact ⟨o',(hs.2 b (Nat.ne_of_lt (Nat.lt_of_lt_of_le (Heap.lt_size e) I.ok.above))).trans e1⟩
  ·by_cases hj:j=i
   ·subst hj
    rw [hi] at e1;cases e1
    rw [List.getElem?_set_self hiσ] at e2
    cases e2
    exact ⟨u,r,.inl ⟨hk,by simp⟩⟩
   ·rw [List.getElem?_set_ne (Ne.symm hj)] at e2
    obtain ⟨u',r',q⟩:=hl j y v' e1 e2 e3
    refine ⟨u',r',?_⟩
    rcases q with ⟨k,e⟩|⟨k,c,e,z⟩
    ·refine .inl ⟨k,?_⟩
     have:y≠x:=fun e=>hj (zq hN e1 (e ▸ hi))
     simp [this,e]
    ·exact .inr ⟨k,c,e,z.sameBut hs (V1 y c e)⟩
  ·obtain ⟨w',z⟩:=I.cell y c e
   exact ⟨w',z.sameBut hs (V1 y c e)⟩
  ·obtain ⟨e,n,ne,nf,d⟩:=I.pin p hp
   exact ⟨(hs.2 p.1 ne).trans e,n,ne,nf,d⟩
 ·have hfn:X.fn x=true:=by
   rcases hf with z|z
   ·exact z
   ·rw [z] at hk;cases hk
  obtain ⟨c,hc⟩:=I.ok.has x (.inl hk)
  obtain ⟨w',z⟩:=I.cell x c hc
  refine wpAny_storeName_cell I.ok.kind hk hc z (fun h' UZ hs=> ?_)
  obtain ⟨oc,hoc,ahW⟩:=id z
  refine h {s with heap:=h'} ⟨I.ok,I.os,I.bare,⟨fun b o e n hb hx=> ?_,fun b o e n hb hx=> ?_,I.base.free,fun b o e hx=> ?_,I.base.zo,I.base.zp,I.base.Eg⟩,⟨m,hn.sameBut hs (Ne.symm (V1 x c hc)),fun j y v' e1 e2 e3=> ?_⟩,fun y c' e=> ?_,I.free,I.lU,fun p hp=> ?_,tracked ⟨oc,hoc,I.lU x c hc⟩ hs,by simpa using I.len⟩ ⟨c,hs,.inr hc⟩
  ·exact (hs.2 b (Nat.ne_of_lt (Nat.lt_of_lt_of_le (Heap.lt_size e) (I.ok.ZM x c hfn hc)))).trans (I.base.keep b o e n hb hx)
  ·obtain ⟨sl,e1⟩:=I.base.slot b o e n hb hx
   exact ⟨sl,(hs.2 b (Nat.ne_of_lt (Nat.lt_of_lt_of_le (Heap.lt_size e) (I.ok.ZM x c hfn hc)))).trans e1⟩
  ·obtain ⟨o',e1⟩:=I.base.there b o e hx
   exact ⟨o',(hs.2 b (Nat.ne_of_lt (Nat.lt_of_lt_of_le (Heap.lt_size e) (I.ok.ZM x c hfn hc)))).trans e1⟩
  ·by_cases hj:j=i
   ·subst hj
    rw [hi] at e1;cases e1
    rw [List.getElem?_set_self hiσ] at e2
    cases e2
    exact ⟨u,r,.inr ⟨.inl hk,c,hc,UZ⟩⟩
   ·rw [List.getElem?_set_ne (Ne.symm hj)] at e2
    obtain ⟨u',r',q⟩:=hl j y v' e1 e2 e3
    refine ⟨u',r',?_⟩
    rcases q with q|⟨k,c',e,z'⟩
    ·exact .inl q
    ·refine .inr ⟨k,c',e,z'.sameBut hs ?_⟩
     rintro rfl
     exact hj (zq hN e1 (I.ok.inj _ _ _ e hc ▸ hi))
  ·by_cases hcc:c'=c
   ·subst hcc;exact ⟨_,UZ⟩
   ·obtain ⟨w2,z2⟩:=I.cell y c' e
    exact ⟨w2,z2.sameBut hs hcc⟩
  ·obtain ⟨e,n,ne,nf,d⟩:=I.pin p hp
   refine ⟨(hs.2 p.1 ?_).trans e,n,ne,nf,d⟩
   intro q
   rw [q,hoc] at e
   have q':oc=p.2:=Option.some.inj e
   exact d w' (by rw [←q'];exact ahW)
theorem zr {M:Model}{A:Around}{E:Value→Shared→Prop}{i:Nat}{x:Str}{v:V}{u:Value}{Q:Unit→Shared→Prop}(I:Inv X pins σ H s)(hN:X.N.Nodup)(hi:X.N[i]?=some x)(hx:Loc X.env.scope x)(r:RelV v u)
  (h:∀s',Inv X pins (σ.set i (some v)) H s'→Q () s')(hf:X.fn x=true∨X.env.scope.names.lookup x=some .local:=by first|exact .inl rfl|exact .inr rfl|assumption):wpAny M A (storeName X.env x u) Q E s:=
 CD I hN hi hx r (fun s' I' _=>h s' I') hf
theorem Inv.ZQ {s':Shared}{ch:List Addr}(I:Inv X pins σ H s)(ho:s'.os=s.os)(u:Un (Ol X.stack) ch H H' s.heap s'.heap)(cx:ox X.prog X.w H' s'.heap)(hg:AllBare s'.gens)
  (BE:∀b∈ch,(b∈X.ex∨X.CC.heap.objs.size≤b)∧b≠X.env.locals∧(∀x c,X.env.cells.lookup x=some c→c≠b)∧∀p∈X.pn ++ pins,p.1≠b):Inv X pins σ H' s':=by
 obtain ⟨h',g',d',t',o'⟩:=s'
 have e:o'=s.os:=ho
 subst e
 exact I.call (g':=g') (t':=t') (d':=d') u cx hg BE
end
abbrev XK:=Value→Option Addr→Hp→Prop
abbrev St:=List (Option V)
abbrev VK:=V→Hp→Prop
abbrev TE:=St→Hp→VK→Prop
abbrev TT:=St→Hp→(Bool→Hp→Prop)→Prop
abbrev TA:=St→Hp→(List V→Hp→Prop)→Prop
structure Ends where
 nx:St→Hp→Prop
 rt:VK
 bk:St→Hp→Prop:=fun _ _=>False
 ct:St→Hp→Prop:=fun _ _=>False
abbrev TS:=Ends→St→Hp→Prop
def EP (X:Cx)(pins:List (Addr×Obj))(σ:St)(Q:VK)(u:Value)(s':Shared):Prop:=∃v H',Inv X pins σ H' s'∧RelV v u∧Q v H'
def TP (X:Cx)(pins:List (Addr×Obj))(σ:St)(Q:Bool→Hp→Prop)(b:Bool)(s':Shared):Prop:=∃H',Inv X pins σ H' s'∧Q b H'
def AP (X:Cx)(pins:List (Addr×Obj))(σ:St)(Q:List V→Hp→Prop)(us:List Value)(s':Shared):Prop:=∃vs H',Inv X pins σ H' s'∧Vals vs us∧Q vs H'
def SP (X:Cx)(pins:List (Addr×Obj))(D:Ends)(f:Flow)(s':Shared):Prop:=
 match f with
 | .next=>∃σ' H',Inv X pins σ' H' s'∧D.nx σ' H'
 | .brk=>∃σ' H',Inv X pins σ' H' s'∧D.bk σ' H'
 | .cont=>∃σ' H',Inv X pins σ' H' s'∧D.ct σ' H'
 | .ret u=>∃v σ' H',Inv X pins σ' H' s'∧RelV v u∧D.rt v H'
def PE (X:Cx)(e:Expr)(t:TE):Prop:=
 ∀ (pins:List (Addr×Obj))(s:Shared)(σ:St)(H:Hp)(Q:VK),Inv X pins σ H s→t σ H Q→wpAny (model X.prog X.w) X.A (eval e X.env) (EP X pins σ Q) X.xe s
def PT (X:Cx)(e:Expr)(t:TT):Prop:=
 ∀ (pins:List (Addr×Obj))(s:Shared)(σ:St)(H:Hp)(Q:Bool→Hp→Prop),Inv X pins σ H s→t σ H Q→wpAny (model X.prog X.w) X.A (isTrue e X.env (eval e X.env)) (TP X pins σ Q) X.xe s
def PW (X:Cx)(e:Expr)(t:TT):Prop:=
 ∀ (whole:Sem Value)(pins:List (Addr×Obj))(s:Shared)(σ:St)(H:Hp)(Q:Bool→Hp→Prop),Inv X pins σ H s→t σ H Q→wpAny (model X.prog X.w) X.A (isTrue e X.env whole) (TP X pins σ Q) X.xe s
theorem PW.pt {X:Cx}{e:Expr}{t:TT}(h:PW X e t):PT X e t:=h _
def PA (X:Cx)(es:List Expr)(t:TA):Prop:=
 ∀ (pos:Pos)(pins:List (Addr×Obj))(s:Shared)(σ:St)(H:Hp)(Q:List V→Hp→Prop),Inv X pins σ H s→t σ H Q→wpAny (model X.prog X.w) X.A (spliced (backTo pos (starEach es X.env))) (AP X pins σ Q) X.xe s
def PS (X:Cx)(st:Stmt)(t:TS):Prop:=
 ∀ (pins:List (Addr×Obj))(s:Shared)(σ:St)(H:Hp)(D:Ends),Inv X pins σ H s→t D σ H→wpAny (model X.prog X.w) X.A (exec st X.env) (SP X pins D) X.xe s
def Md (X:Cx)(st:List Stmt)(t:TS):Prop:=
 ∀ (pins:List (Addr×Obj))(s:Shared)(σ:St)(H:Hp)(D:Ends),Inv X pins σ H s→t D σ H→wpAny (model X.prog X.w) X.A (execs st X.env) (SP X pins D) X.xe s
theorem dz {α:Type}{t:Sem α}{Q Q':α→Shared→Prop}{M:Model}{A:Around}{E:Value→Shared→Prop}{s:Shared}(h:wpAny M A t Q E s)(hQ:∀a s,Q a s→Q' a s):wpAny M A t Q' E s:=wpAny_mono h hQ fun _ _ x=>x
section
variable {X:Cx}
def ZR (i:Nat):TE:=fun σ H Q=>∃v,σ[i]?=some (some v)∧Q v H
def tC (v:V):TE:=fun _ H Q=>Q v H
theorem V2 {i:Nat}{x:Str}{pos:Pos}(hN:X.N[i]?=some x)(hv:Zd X.env.scope x)(hd:(x==("__debug__":Str))=false:=by decide)(tD:(x==("__classdict__":Str))=false:=by decide):PE X (.Name x pos) (ZR i):=by
 intro pins s σ H Q I h
 obtain ⟨v,e,h⟩:=h
 obtain ⟨m,hn,hl⟩:=I.loc
 obtain ⟨u,r,l⟩:=hl i x v hN e hv
 have fin:EP X pins σ Q u s:=⟨v,H,I,r,h⟩
 rcases l with ⟨hk,hm⟩|⟨hk,c,hc,KI⟩
 ·exact wpAny_Name (wpAny_loadName_local I.ok.kind hk hn hm fin) hd
 ·rcases hk with hk|hk
  ·exact wpAny_Name (wpAny_loadName_cell I.ok.kind hk hc KI fin) hd
  ·exact wpAny_Name (wpAny_loadName_free I.ok.kind hk hc KI fin tD) hd
theorem ah {i j pos}:PE X (.Constant (.int i) j pos) (tC (.int i)):=fun _ _ _ H _ I h=>wpAny_Constant_int ⟨.int i,H,I.tok _,⟨_,rfl⟩,h⟩
theorem KJ {b j pos}:PE X (.Constant (.bool b) j pos) (tC (.bl b)):=fun _ _ _ H _ I h=>Constant_bool ⟨.bl b,H,I,rfl,h⟩
theorem eS {j pos}:PE X (.Constant .none j pos) (tC .bX):=fun _ _ _ H _ I h=>Constant_none ⟨.bX,H,I,rfl,h⟩
theorem zt {x j pos}:PE X (.Constant (.str x) j pos) (tC (.str x)):=fun _ _ _ H _ I h=>Calls.Constant_str ⟨.str x,H,I.tok _,⟨_,rfl⟩,h⟩
def Gl (X:Cx)(x:Str):Prop:=X.env.kindOf x=some .globalImplicit
theorem Ei {E:Value→Shared→Prop}{pins:List (Addr×Obj)}{s:Shared}{σ:St}{H:Hp}{x:Str}{u:Value}{pos:Pos}{Q:Value→Shared→Prop}(I:Inv X pins σ H s)(hg:Gl X x)(hm:X.mg x=some u)(h:Q u s)
  (hd:(x==("__debug__":Str))=false:=by decide):wpAny (model X.prog X.w) X.A (eval (.Name x pos) X.env) Q E s:=
 Calls.Name_function_global I.ok.kind hg (Calls.loadGlobal_global (by rw [I.ok.glob];exact I.mod.glob.keeps I.bk) hm h) hd
theorem wk {E:Value→Shared→Prop}{pins:List (Addr×Obj)}{s:Shared}{σ:St}{H:Hp}{x:Str}{u:Value}{pos:Pos}{Q:Value→Shared→Prop}(I:Inv X pins σ H s)(hg:Gl X x)(hm:X.mg x=none)(hv:bootBuiltins x=some u)(h:Q u s)
  (hn:x≠"__name__":=by decide)(hd:(x==("__debug__":Str))=false:=by decide):wpAny (model X.prog X.w) X.A (eval (.Name x pos) X.env) Q E s:=by
 obtain ⟨mb,h1,h2⟩:=I.mod.blt
 exact Calls.Name_function_global I.ok.kind hg (Calls.loadGlobal_builtin (by rw [I.ok.glob];exact I.mod.glob.keeps I.bk) hm (by rw [I.ok.blt];exact h1.keeps I.bk) ((h2 x hn).trans hv) h) hd
theorem aD {x:Str}{v:V}{u:Value}{pos:Pos}(hg:Gl X x)(hm:X.mg x=some u)(r:RelV v u)(hd:(x==("__debug__":Str))=false:=by decide):PE X (.Name x pos) (tC v):=
 fun _ _ _ H _ I h=>Ei I hg hm ⟨v,H,I,r,h⟩ hd
variable {a b:Expr}{ta tb:TE}{pos:Pos}
def PC (X:Cx)(op:CmpOp)(a b:Expr)(t:TE):Prop:=
 ∀ (pins:List (Addr×Obj))(s:Shared)(σ:St)(H:Hp)(Q:VK),Inv X pins σ H s→t σ H Q→
  wpAny (model X.prog X.w) X.A (eval a X.env) (fun v s₁=>wpAny (model X.prog X.w) X.A (eval b X.env) (fun u s₂=>wpAny (model X.prog X.w) X.A (compareOp op v u) (EP X pins σ Q) X.xe s₂) X.xe s₁) X.xe s
theorem Oq (b:Expr){op:CmpOp}(h:op≠ .In)(h2:op≠ .NotIn):behindInMarks op b=false:=by
 have e1:(op==CmpOp.In)=false:=by cases op <;>first|rfl|exact absurd rfl h
 have e2:(op==CmpOp.NotIn)=false:=by cases op <;>first|rfl|exact absurd rfl h2
 cases b <;>simp [behindInMarks,e1,e2]
def ahX (ta:TE):TE:=fun σ H Q=>ta σ H fun x H1=>Q (.bl (decide (x= .bX))) H1
def ZS (ta:TE):TE:=fun σ H Q=>ta σ H fun x H1=>Q (.bl (!decide (x= .bX))) H1
theorem RelV.GG {x:V}{v:Value}(r:RelV x v):(v==Value.none)=decide (x= .bX):=by
 cases x with
 |bX=>cases r;rfl
 |bl _=>cases r;rfl
 |int _=>obtain ⟨t,rfl⟩:=r;rfl
 |str _=>obtain ⟨t,rfl⟩:=r;rfl
 |GF _=>obtain ⟨t,rfl⟩:=r;rfl
 |ZJ _=>obtain ⟨t,rfl⟩:=r;rfl
 |ref _=>cases r;rfl
 |ty _=>cases r;rfl
theorem gR {j pos'}(ha:PE X a ta):PC X .Is a (.Constant .none j pos') (ahX ta):=by
 intro pins s σ H Q I h
 refine dz (ha pins s σ H _ I h) fun v s1 ⟨x,H1,I1,r1,q1⟩=> ?_
 exact Constant_none (is_none_gen ⟨.bl _,H1,I1,by rw [r1.GG];rfl,q1⟩)
theorem gS {j pos'}(ha:PE X a ta):PC X .IsNot a (.Constant .none j pos') (ZS ta):=by
 intro pins s σ H Q I h
 refine dz (ha pins s σ H _ I h) fun v s1 ⟨x,H1,I1,r1,q1⟩=> ?_
 exact Constant_none (isnot_none_gen ⟨.bl _,H1,I1,by rw [r1.GG];rfl,q1⟩)
def tB (t:TE):TT:=fun σ H Q=>t σ H fun x H1=>∃c,x= .bl c∧Q c H1
theorem cq {op:CmpOp}{t:TE}(h:PC X op a b t)(h1:behindInMarks op b=false:=by first|exact Oq _ (by decide) (by decide)|rfl):PT X (.Compare a [op] [b] pos) (tB t):=by
 intro pins s σ H Q I hw
 refine wpAny_isTrue_Compare1 (dz (h pins s σ H _ I hw) fun v s1 h1=>dz h1 fun u s2 h2=>dz h2 fun c s3 ⟨x,H1,I1,r1,q1⟩=> ?_) h1
 obtain ⟨d,rfl,q⟩:=q1
 cases r1
 exact wpAny_truthy_bool ⟨H1,I1,q⟩
theorem oy {e:Expr}{t:TE}(h:PE X e t)(he:∀whole,isTrue e X.env whole=(do let v←whole;standAt e.pos;holding [v] (truthy v)):=by intro _;rfl):PT X e (tB t):=by
 intro pins s σ H Q I hw
 refine isTrue_plain (dz (h pins s σ H _ I hw) fun v s1 ⟨x,H1,I1,r1,q1⟩=> ?_) (he _)
 obtain ⟨d,rfl,q⟩:=q1
 cases r1
 exact wpAny_truthy_bool ⟨H1,I1,q⟩
variable {tA tB':TT}{rest:List Expr}
def ahY (t u:TT):TT:=fun σ H Q=>t σ H fun c H1=>if c=true then u σ H1 Q else Q false H1
def tOr (t u:TT):TT:=fun σ H Q=>t σ H fun c H1=>if c=true then Q true H1 else u σ H1 Q
def ahZ (t:TT):TT:=fun σ H Q=>t σ H fun c H1=>Q (!c) H1
theorem fJ (ha:PT X a tA):PW X (.BoolOp .And [a] pos) tA:=by
 intro wh pins s σ H Q I h
 refine isTrue_and (dz (ha pins s σ H Q I h) fun c s1 e=> ?_)
 cases c with
 |true=>exact isTrue_and_nil e
 |false=>exact e
theorem mG (ha:PT X a tA):PW X (.BoolOp .Or [a] pos) tA:=by
 intro wh pins s σ H Q I h
 refine isTrue_or (dz (ha pins s σ H Q I h) fun c s1 e=> ?_)
 cases c with
 |false=>exact isTrue_or_nil e
 |true=>exact e
theorem ip (ha:PT X a tA)(hb:PW X (.BoolOp .And (b::rest) pos) tB'):PW X (.BoolOp .And (a::b::rest) pos) (ahY tA tB'):=by
 intro wh pins s σ H Q I h
 refine isTrue_and (dz (ha pins s σ H _ I h) fun c s1 ⟨H1,I1,q1⟩=> ?_)
 cases c with
 |true=>exact hb wh pins s1 σ H1 Q I1 q1
 |false=>exact ⟨H1,I1,q1⟩
theorem tE (ha:PT X a tA)(hb:PW X (.BoolOp .Or (b::rest) pos) tB'):PW X (.BoolOp .Or (a::b::rest) pos) (tOr tA tB'):=by
 intro wh pins s σ H Q I h
 refine isTrue_or (dz (ha pins s σ H _ I h) fun c s1 ⟨H1,I1,q1⟩=> ?_)
 cases c with
 |true=>exact ⟨H1,I1,q1⟩
 |false=>exact hb wh pins s1 σ H1 Q I1 q1
theorem Ot (ha:PT X a tA):PT X (.UnaryOp .Not a pos) (ahZ tA):=by
 intro pins s σ H Q I h
 exact isTrue_not (ha pins s σ H (fun c H1=>Q (!c) H1) I h)
def ZT (ta tb:TE):TE:=fun σ H Q=>ta σ H fun x H1=>∃c,x= .bl c∧if c=true then tb σ H1 Q else Q (.bl false) H1
theorem Ou {op}{t:TE}(h:PE X a t):PE X (.BoolOp op [a] pos) t:=fun pins s σ H Q I hw=>BoolOp_one (h pins s σ H Q I hw)
theorem Ov (ha:PE X a ta)(hb:PE X (.BoolOp .And (b::rest) pos) tb):PE X (.BoolOp .And (a::b::rest) pos) (ZT ta tb):=by
 intro pins s σ H Q I h
 refine BoolOp_and (dz (ha pins s σ H _ I h) fun v s1 ⟨x,H1,I1,r1,q1⟩=> ?_)
 obtain ⟨c,rfl,q1⟩:=q1
 cases r1
 refine wpAny_truthy_bool ?_
 cases c with
 |true=>exact hb pins s1 σ H1 Q I1 q1
 |false=>exact ⟨.bl false,H1,I1,rfl,q1⟩
def tIf (t:TT)(ta tb:TE):TE:=fun σ H Q=>t σ H fun c H1=>if c=true then ta σ H1 Q else tb σ H1 Q
theorem GH {c:Expr}(hc:PT X c tA)(ha:PE X a ta)(hb:PE X b tb):PE X (.IfExp c a b pos) (tIf tA ta tb):=by
 intro pins s σ H Q I h
 refine wpAny_IfExp (dz (hc pins s σ H _ I h) fun d s1 ⟨H1,I1,q1⟩=> ?_)
 cases d with
 |true=>exact ha pins s1 σ H1 Q I1 q1
 |false=>exact hb pins s1 σ H1 Q I1 q1
end
def cK (K:PySem.W.Frag)(H:Hp)(a:Addr)(xs:List V):Prop:=
 Rd H a (.lst xs)∨
  ∃ (o:Obj)(a7:Array Value)(n:Nat),K.lookup a=some o∧o.cls= .type "list"∧o.dict=none∧o.data= .seq a7 n∧a7.size≤sizeLine∧Vals xs a7.toList
def bJ (K:PySem.W.Frag)(H:Hp)(a:Addr)(xs:List V):Prop:=
 Rd H a (.tup xs)∨
  ∃ (o:Obj)(a7:Array Value)(n:Nat),K.lookup a=some o∧o.cls= .type "tuple"∧o.data= .seq a7 n∧a7.size≤sizeLine∧Vals xs a7.toList
def ah0:Value→Option V
 | .none=>some .bX
 | .bool b=>some (.bl b)
 | .int i _=>some (.int i)
 | .str x _=>some (.str x)
 | .bytes b _=>some (.GF b)
 | .float b _=>some (.ZJ b)
 | .ref a=>some (.ref a)
 | .type n=>some (.ty n)
 |_=>none
theorem RelV.abs {x:V}{u:Value}(r:RelV x u):ah0 u=some x:=by
 cases x with
 |bX=>cases r;rfl
 |bl _=>cases r;rfl
 |int _=>obtain ⟨t,rfl⟩:=r;rfl
 |str _=>obtain ⟨t,rfl⟩:=r;rfl
 |GF _=>obtain ⟨t,rfl⟩:=r;rfl
 |ZJ _=>obtain ⟨t,rfl⟩:=r;rfl
 |ref _=>cases r;rfl
 |ty _=>cases r;rfl
theorem RelV.inj {x y:V}{u:Value}(r:RelV x u)(q:RelV y u):x=y:=Option.some.inj (r.abs.symm.trans q.abs)
theorem Vals.inj:∀ {xs ys:List V}{us:List Value},Vals xs us→Vals ys us→xs=ys
 |_,_,_,.nil,.nil=>rfl
 |_,_,_,.cons r t,.cons r' t'=>by rw [r.inj r',Vals.inj t t']
section
variable {X:Cx}{pins:List (Addr×Obj)}{σ:St}{H:Hp}{s:Shared}{a:Addr}{xs ys:List V}
theorem cK.of {K:PySem.W.Frag}(h:H a=some (.lst xs)):cK K H a xs:= .inl (.inl h)
theorem bJ.of {K:PySem.W.Frag}(h:H a=some (.tup xs)):bJ K H a xs:= .inl (.inl h)
theorem Inv.list (I:Inv X pins σ H s)(h:cK X.K H a xs):∃a7:List Value,Vals xs a7∧PlainL s.heap a a7.toArray∧xs.length≤sizeLine:=by
 rcases h with h|⟨o,a7,n,hk,hc,hd,hs,hz,r⟩
 ·obtain ⟨z,a7,n,r,e⟩:=h.ok I.cx
  exact ⟨a7,r,⟨_,n,e,rfl,rfl,rfl⟩,z⟩
 ·refine ⟨a7.toList,r,⟨o,n,I.KD a o hk,hc,hd,by simpa using hs⟩,?_⟩
  have e:=r.length
  simp only [Array.length_toList] at e
  omega
theorem Inv.tuple (I:Inv X pins σ H s)(h:bJ X.K H a xs):∃a7:List Value,Vals xs a7∧IsTup s.heap a a7.toArray∧xs.length≤sizeLine:=by
 rcases h with h|⟨o,a7,n,hk,hc,hs,hz,r⟩
 ·obtain ⟨z,a7,r,p⟩:=h.ok I.cx
  exact ⟨a7,r,p,z⟩
 ·refine ⟨a7.toList,r,⟨o,I.KD a o hk,hc,n,by simpa using hs⟩,?_⟩
  have e:=r.length
  simp only [Array.length_toList] at e
  omega
theorem Inv.GI (I:Inv X pins σ H s)(h:cK X.K H a xs)(h':cK X.K H a ys):xs=ys:=by
 obtain ⟨a7,r,⟨o,n,e,_,_,d⟩,_⟩:=I.list h
 obtain ⟨its',r',⟨o',n',e',_,_,d'⟩,_⟩:=I.list h'
 rw [e] at e';cases e'
 rw [d] at d'
 injection d' with d1 _
 have:a7=its':=by simpa using congrArg Array.toList d1
 subst this
 exact r.inj r'
theorem Inv.CG (I:Inv X pins σ H s)(h:bJ X.K H a xs)(h':bJ X.K H a ys):xs=ys:=by
 obtain ⟨a7,r,⟨o,e,_,n,d⟩,_⟩:=I.tuple h
 obtain ⟨its',r',⟨o',e',_,n',d'⟩,_⟩:=I.tuple h'
 rw [e] at e';cases e'
 rw [d] at d'
 injection d' with d1 _
 have:a7=its':=by simpa using congrArg Array.toList d1
 subst this
 exact r.inj r'
end
abbrev Cx.BF (X:Cx)(E:Value→Shared→Prop):Cx:={X with xe:=E}
abbrev Cx.nox (X:Cx):Cx:=X.BF fun _ _=>False
theorem Cx.Ok.BF {X:Cx}(ok:X.Ok)(E:Value→Shared→Prop):(X.BF E).Ok:=
 ⟨ok.mod,ok.kind,ok.glob,ok.blt,ok.above,ok.inj,ok.has,ok.ZM,ok.hd,ok.frames,ok.stk,ok.exf,ok.bs,ok.SH,ok.Om,ok.Oo,ok.yK,ok.V0⟩
theorem Cx.Ok.oz {X:Cx}{E:Value→Shared→Prop}(ok:(X.BF E).Ok):X.Ok:=
 ⟨ok.mod,ok.kind,ok.glob,ok.blt,ok.above,ok.inj,ok.has,ok.ZM,ok.hd,ok.frames,ok.stk,ok.exf,ok.bs,ok.SH,ok.Om,ok.Oo,ok.yK,ok.V0⟩
section
variable {X:Cx}{pins:List (Addr×Obj)}{σ:St}{H:Hp}{s:Shared}{E:Value→Shared→Prop}
theorem Inv.BF (I:Inv X pins σ H s)(E:Value→Shared→Prop):Inv (X.BF E) pins σ H s:=⟨I.ok.BF E,I.os,I.bare,I.base,I.loc,I.cell,I.free,I.lU,I.pin,I.cx,I.len⟩
theorem Inv.oz (I:Inv (X.BF E) pins σ H s):Inv X pins σ H s:=⟨I.ok.oz,I.os,I.bare,I.base,I.loc,I.cell,I.free,I.lU,I.pin,I.cx,I.len⟩
theorem SP.oz {D:Ends}{f:Flow}{s':Shared}(h:SP (X.BF E) pins D f s'):SP X pins D f s':=by
 cases f with
 |next=>obtain ⟨σ',H',I,q⟩:=h;exact ⟨σ',H',I.oz,q⟩
 |brk=>obtain ⟨σ',H',I,q⟩:=h;exact ⟨σ',H',I.oz,q⟩
 |cont=>obtain ⟨σ',H',I,q⟩:=h;exact ⟨σ',H',I.oz,q⟩
 |ret u=>obtain ⟨v,σ',H',I,r,q⟩:=h;exact ⟨v,σ',H',I.oz,r,q⟩
theorem Md.nox {st:List Stmt}{t:TS}(h:Md X.nox st t):Md X st t:=fun pins s σ H D I hw=>
 wpAny_mono (h pins s σ H D (I.BF _) hw) (fun _ _ q=>q.oz) fun _ _ z=>False.elim z
end
section
variable {X:Cx}{st:Stmt}{rest:List Stmt}{t u:TS}{e:Expr}{te:TE}{pos:Pos}
def ZU:TS:=fun D σ H=>D.nx σ H
def ah1 (t u:TS):TS:=fun D σ H=>t {D with nx:=u D} σ H
theorem aV:Md X [] ZU:=fun _ _ σ H _ I h=>wpAny_execs_nil ⟨σ,H,I,h⟩
theorem ae (h1:PS X st t)(h2:Md X rest u):Md X (st::rest) (ah1 t u):=by
 intro pins s σ H D I h
 refine wpAny_execs_cons (dz (h1 pins s σ H {D with nx:=u D} I h) fun f s1 q=> ?_)
 cases f with
 |next=>
  obtain ⟨σ',H',I',q⟩:=q
  exact h2 pins s1 σ' H' D I' q
 |ret v=>exact q
 |brk=>exact q
 |cont=>exact q
theorem ak (h1:PS X st t):Md X [st] t:=by
 intro pins s σ H D I h
 refine wpAny_execs_cons (dz (h1 pins s σ H D I h) fun f s1 q=> ?_)
 cases f with
 |next=>exact wpAny_execs_nil q
 |ret v=>exact q
 |brk=>exact q
 |cont=>exact q
theorem Inv.quiet {pins:List (Addr×Obj)}{σ:St}{H:Hp}{s:Shared}(I:Inv X pins σ H s):interactive X.env=false:=by simp [interactive,I.ok.kind]
def ZV (te:TE):TS:=fun D σ H=>te σ H fun _ H1=>D.nx σ H1
theorem aI (he:PE X e te)(hs:swapsWith e none pos.line X.env=pure false:=by rfl):PS X (.Expr e pos) (ZV te):=by
 intro pins s σ H D I h
 exact wpAny_Expr_any (dz (he pins s σ H _ I h) fun v s1 ⟨x,H1,I1,r1,q1⟩=>⟨σ,H1,I1,q1⟩) I.quiet hs
def ah2 (te:TE):TS:=fun D σ H=>te σ H D.rt
theorem aK (he:PE X e te):PS X (.Return (some e) pos) (ah2 te):=by
 intro pins s σ H D I h
 exact wpAny_Return_some (dz (he pins s σ H _ I h) fun v s1 ⟨x,H1,I1,r1,q1⟩=>⟨x,σ,H1,I1,r1,q1⟩)
def ZW:TS:=fun D _ H=>D.rt .bX H
theorem tF:PS X (.Return none pos) ZW:=fun _ _ σ H _ I h=>wpAny_Return_none ⟨.bX,σ,H,I,rfl,h⟩
def ah3 (c:TT)(t u:TS):TS:=fun D σ H=>c σ H fun b H1=>if b=true then t D σ H1 else u D σ H1
theorem bp {c:Expr}{a b:List Stmt}{tc:TT}(hc:PT X c tc)(ha:Md X a t)(hb:Md X b u):PS X (.If c a b pos) (ah3 tc t u):=by
 intro pins s σ H D I h
 refine wpAny_If (dz (hc pins s σ H _ I h) fun d s1 ⟨H1,I1,q1⟩=> ?_)
 cases d with
 |true=>exact ha pins s1 σ H1 D I1 q1
 |false=>exact hb pins s1 σ H1 D I1 q1
end
abbrev TG:=V→St→Hp→(St→Hp→Prop)→Prop
abbrev U0:=List V→St→Hp→(St→Hp→Prop)→Prop
def PG (X:Cx)(target:Expr)(t:TG):Prop:=
 ∀ (pins:List (Addr×Obj))(s:Shared)(σ:St)(H:Hp)(v:V)(u:Value)(Q:St→Hp→Prop),Inv X pins σ H s→RelV v u→t v σ H Q→
  wpAny (model X.prog X.w) X.A (assign target X.env u) (fun _ s'=>∃σ' H',Inv X pins σ' H' s'∧Q σ' H') X.xe s
def ZX (X:Cx)(ts:List Expr)(t:U0):Prop:=
 ∀ (pins:List (Addr×Obj))(s:Shared)(σ:St)(H:Hp)(vs:List V)(us:List Value)(Q:St→Hp→Prop),Inv X pins σ H s→Vals vs us→t vs σ H Q→
  wpAny (model X.prog X.w) X.A (assignInOrder ((assignEach ts X.env).map (·.2)) us) (fun _ s'=>∃σ' H',Inv X pins σ' H' s'∧Q σ' H') X.xe s
abbrev V3:=V→V→V→Hp→(Hp→Prop)→Prop
def ZY (X:Cx)(t:V3):Prop:=
 ∀ (pins:List (Addr×Obj))(s:Shared)(σ:St)(H:Hp)(o i v:V)(ov iv u:Value)(Q:Hp→Prop),Inv X pins σ H s→RelV o ov→RelV i iv→RelV v u→t o i v H Q→
  wpAny (model X.prog X.w) X.A (setItem ov iv u) (fun _ s'=>∃H',Inv X pins σ H' s'∧Q H') X.xe s
abbrev TIp:=V→V→Hp→VK→Prop
def PIp (X:Cx)(op:Operator)(t:TIp):Prop:=
 ∀ (pins:List (Addr×Obj))(s:Shared)(σ:St)(H:Hp)(x y:V)(v u:Value)(Q:VK),Inv X pins σ H s→RelV x v→RelV y u→t x y H Q→
  wpAny (model X.prog X.w) X.A (inplaceOp op v u) (EP X pins σ Q) X.xe s
section
variable {X:Cx}{pos:Pos}
def KL (i:Nat):TG:=fun v σ H Q=>Q (σ.set i (some v)) H
theorem eU {i:Nat}{x:Str}(hN:X.N.Nodup)(hi:X.N[i]?=some x)(hx:Loc X.env.scope x)(hf:X.fn x=true∨X.env.scope.names.lookup x=some .local:=by first|exact .inl rfl|exact .inr rfl|assumption):PG X (.Name x pos) (KL i):=by
 intro pins s σ H v u Q I r h
 exact wpAny_assign_Name (zr I hN hi hx r (fun s' I'=>⟨_,H,I',h⟩) hf)
def ah4:U0:=fun vs σ H Q=>vs= [] ∧Q σ H
def ZZ (t:TG)(u:U0):U0:=fun vs σ H Q=>∃v r,vs=v::r∧t v σ H fun σ' H'=>u r σ' H' Q
theorem Ej:ZX X [] ah4:=by
 intro pins s σ H vs us Q I r h
 obtain ⟨e,h⟩:=h
 subst e
 cases r
 exact assignInOrder_nil ⟨σ,H,I,h⟩
theorem lV {e:Expr}{es:List Expr}{t:TG}{u:U0}(h1:PG X e t)(h2:ZX X es u)
  (hs:(assignEach (e::es) X.env).map (·.2)=assign e X.env::(assignEach es X.env).map (·.2):=by rfl):ZX X (e::es) (ZZ t u):=by
 intro pins s σ H vs us Q I r h
 obtain ⟨v,vr,e1,h⟩:=h
 subst e1
 cases r with
 |cons r rr=>
  rw [hs]
  refine assignInOrder_cons (dz (h1 pins s σ H _ _ _ I r h) fun _ s1 ⟨σ1,H1,I1,q1⟩=> ?_)
  exact h2 pins s1 σ1 H1 _ _ Q I1 rr q1
def Z0 (K:PySem.W.Frag)(n:Nat)(t:U0):TG:=fun v σ H Q=>∃a xs,v= .ref a∧bJ K H a xs∧xs.length=n∧t xs σ H Q
theorem Jc {es:List Expr}{k:Nat}{t:U0}{n:Nat}(hc:X.calm=true)(h:ZX X es t)
  (hn:(assignEach es X.env).length=n:=by rfl)(nU:(assignEach es X.env).findIdx? (·.1)=none:=by rfl):PG X (.Tuple es k pos) (Z0 X.K n t):=by
 intro pins s σ H v u Q I r hw
 obtain ⟨a,xs,e1,hq,hl,hw⟩:=hw
 subst e1
 cases r
 obtain ⟨a7,rv,ht,hz⟩:=I.tuple hq
 refine assign_Tuple_tuple (I.ok.hd hc) ht (by simp [hn,←hl,rv.length]) nU fun h' hx=> ?_
 have I1:Inv X pins σ H {s with heap:=h'}:=I.kept (t':=s.toks) fun b o e=>hx b o (Nat.ne_of_lt (Heap.lt_size e)) e
 exact h pins _ σ H xs _ Q I1 (by simpa using rv) hw
def ah5 (to ti:TE)(t:V3):TG:=fun v σ H Q=>to σ H fun o H1=>ti σ H1 fun i H2=>t o i v H2 fun H3=>Q σ H3
theorem Ow {o i:Expr}{to ti:TE}{t:V3}(ho:PE X o to)(hi:PE X i ti)(hs:ZY X t)
  (ha:∀v,assign (.Subscript o i pos) X.env v=(do
   let ov←holding [v] (eval o X.env)
   let iv←holding [v,ov] (eval i X.env)
   standAt pos
   holding [v,ov,iv] (setItem ov iv v)
   release [v,ov,iv] []):=by intro _;rfl):PG X (.Subscript o i pos) (ah5 to ti t):=by
 intro pins s σ H v u Q I r h
 rw [ha]
 refine wpAny_bind (wpAny_holding (dz (ho pins s σ H _ I h) fun ov s1 ⟨x,H1,I1,r1,q1⟩=> ?_))
 refine wpAny_bind (wpAny_holding (dz (hi pins s1 σ H1 _ I1 q1) fun iv s2 ⟨y,H2,I2,r2,q2⟩=> ?_))
 refine wpAny_bind (wpAny_standAt (wpAny_bind (wpAny_holding (dz (hs pins s2 σ H2 x y v ov iv u _ I2 r1 r2 r q2) fun _ s3 ⟨H3,I3,q3⟩=> ?_))))
 exact wpAny_release ⟨σ,H3,I3,q3⟩
def V4 (te:TE)(g:TG):TS:=fun D σ H=>te σ H fun x H1=>g x σ H1 D.nx
theorem Ox {tg e:Expr}{te:TE}{g:TG}(he:PE X e te)(hg:PG X tg g)(hs:swapsWithSole [tg] e pos.line X.env=pure false:=by rfl)(hw:swappedStores [tg] e X.env=pure none:=by rfl)
  (h1:(assignEach [tg] X.env).map (·.2)= [assign tg X.env] :=by rfl):PS X (.Assign [tg] e pos) (V4 te g):=by
 intro pins s σ H D I h
 refine wpAny_Assign_stores (dz (he pins s σ H _ I h) fun v s1 ⟨x,H1,I1,r1,q1⟩=> ?_) hs hw
 rw [h1]
 exact dz (hg pins s1 σ H1 x v _ I1 r1 q1) fun _ s2 q=>q
theorem aW {i:Nat}{x:Str}{e:Expr}{te:TE}{pos':Pos}(hN:X.N.Nodup)(hi:X.N[i]?=some x)(hx:Loc X.env.scope x)(he:PE X e te)(hs:swapsWith e (some (.Name x pos')) pos.line X.env=pure false:=by rfl)(hf:X.fn x=true∨X.env.scope.names.lookup x=some .local:=by first|exact .inl rfl|exact .inr rfl|assumption):
  PS X (.Assign [.Name x pos'] e pos) (V4 te (KL i)):=by
 intro pins s σ H D I h
 refine wpAny_Assign_Name (dz (he pins s σ H _ I h) fun v s1 ⟨y,H1,I1,r1,q1⟩=> ?_) hs
 exact zr I1 hN hi hx r1 (fun s2 I2=>⟨_,H1,I2,q1⟩) hf
def ah6 (i:Nat)(te:TE)(ti:TIp):TS:=fun D σ H=>∃x,σ[i]?=some (some x)∧te σ H fun y H1=>ti x y H1 fun z H2=>D.nx (σ.set i (some z)) H2
theorem Jd {i:Nat}{x:Str}{e:Expr}{te:TE}{op:Operator}{ti:TIp}{pos':Pos}(hN:X.N.Nodup)(hi:X.N[i]?=some x)(hx:Loc X.env.scope x)(he:PE X e te)(ho:PIp X op ti)(hf:X.fn x=true∨X.env.scope.names.lookup x=some .local:=by first|exact .inl rfl|exact .inr rfl|assumption):
  PS X (.AugAssign (.Name x pos') op e pos) (ah6 i te ti):=by
 intro pins s σ H D I h
 obtain ⟨v,e1,h⟩:=h
 obtain ⟨m,hn,hl⟩:=I.loc
 have vis:Zd X.env.scope x:=by rcases hx with k|k;exact .inl k;exact .inr (.inl k)
 obtain ⟨u,r,l⟩:=hl i x v hi e1 vis
 refine wpAny_AugAssign_Name ?_
 have go:wpAny (model X.prog X.w) X.A (eval e X.env) (fun w s₂=>wpAny (model X.prog X.w) X.A (inplaceOp op u w) (fun r s₃=>wpAny (model X.prog X.w) X.A (storeName X.env x r) (fun _=>SP X pins D .next) X.xe s₃) X.xe s₂) X.xe s:=by
  refine dz (he pins s σ H _ I h) fun w s1 ⟨y,H1,I1,r1,q1⟩=> ?_
  refine dz (ho pins s1 σ H1 v y u w _ I1 r r1 q1) fun z s2 ⟨zv,H2,I2,r2,q2⟩=> ?_
  exact zr I2 hN hi hx r2 (fun s3 I3=>⟨_,H2,I3,q2⟩) hf
 rcases l with ⟨hk,hm⟩|⟨hk,c,hc,KI⟩
 ·exact wpAny_loadName_local I.ok.kind hk hn hm go
 ·rcases hk with hk|hk
  ·exact wpAny_loadName_cell I.ok.kind hk hc KI go
  ·rcases hx with k|k
   ·have:X.env.scope.names.lookup x=some .free:=hk
    rw [k] at this;cases this
   ·have:X.env.scope.names.lookup x=some .free:=hk
    rw [k] at this;cases this
def ipI (f:Int→Int→Int):TIp:=fun x y H Q=>∃i j,x= .int i∧y= .int j∧Q (.int (f i j)) H
theorem Je:PIp X .Add (ipI fun i j=>i + j):=by
 intro pins s σ H x y v u Q I r1 r2 h
 obtain ⟨i,j,e1,e2,q⟩:=h
 subst e1;subst e2
 obtain ⟨t,rfl⟩:=r1
 obtain ⟨t',rfl⟩:=r2
 exact iadd_int ⟨.int _,H,I.tok _,⟨_,rfl⟩,q⟩
end
section
variable {X:Cx}{pos:Pos}
def V5 (c:TT)(tb:TS):TS:=fun D σ H=>∃W:Nat→St→Hp→Prop,(∃m,W m σ H)∧∀m σ H,W m σ H→
 c σ H fun b H1=>if b=true then ∃N:St→Hp→Prop,(∀σ' H',N σ' H'→∃m',m' < m∧W m' σ' H')∧tb {D with nx:=N,ct:=N,bk:=D.nx} σ H1 else D.nx σ H1
theorem tG {c:Expr}{body:List Stmt}{tc:TT}{tb:TS}(hp:PassesOwn (model X.prog X.w) X.A X.env X.xe)(hc:PT X c tc)(hb:Md X body tb):PS X (.While c body [] pos) (V5 tc tb):=by
 intro pins s σ H D I h
 obtain ⟨W,⟨m0,w0⟩,turn⟩:=h
 refine wpAny_While (codeAny_whileLoop (fun n s'=>∃σ' H',Inv X pins σ' H' s'∧W n σ' H') ?_ m0 ⟨σ,H,I,w0⟩)
 rintro n s1 ⟨σ1,H1,I1,w1⟩
 refine wpAny_passesOwn hp (dz (hc pins s1 σ1 H1 _ I1 (turn n σ1 H1 w1)) fun b s2 ⟨H2,I2,q2⟩=> ?_)
 cases b with
 |true=>
  obtain ⟨N,hN,q2⟩:=q2
  rw [if_pos rfl]
  refine wpAny_passesOwn hp (dz (hb pins s2 σ1 H2 _ I2 q2) fun f s3 q3=> ?_)
  cases f with
  |next=>
   obtain ⟨σ3,H3,I3,n3⟩:=q3
   obtain ⟨m',hm,w3⟩:=hN σ3 H3 n3
   exact ⟨m',hm,σ3,H3,I3,w3⟩
  |cont=>
   obtain ⟨σ3,H3,I3,n3⟩:=q3
   obtain ⟨m',hm,w3⟩:=hN σ3 H3 n3
   exact ⟨m',hm,σ3,H3,I3,w3⟩
  |brk=>exact q3
  |ret v=>exact q3
 |false=>
  rw [if_neg Bool.false_ne_true]
  exact wpAny_execs_nil ⟨σ1,H2,I2,q2⟩
end
structure It where
 go:Nat→Hp→Prop
 Ob:Nat→Hp→V→Hp→Prop
 stop:Nat→Hp→Prop
def yL (X:Cx)(pins:List (Addr×Obj))(H:Hp)(b:Addr):Prop:=
 H b=none∧b≠X.env.locals∧b ∉ X.fs∧(b∈X.ex∨X.CC.heap.objs.size≤b)∧(∀x c,X.env.cells.lookup x=some c→c≠b)∧∀p∈X.pn ++ pins,p.1≠b
theorem Inv.Me {X:Cx}{pins:List (Addr×Obj)}{σ:St}{H H':Hp}{s:Shared}{b:Addr}(I:Inv X pins σ H s)(hb:s.heap.objs.size≤b)(hn:H' b=none):yL X pins H' b:=by
 refine ⟨hn,Nat.ne_of_gt (Nat.lt_of_lt_of_le I.lt hb),I.ahS hb,.inr (Nat.le_trans I.sz hb),fun x c e z=> ?_,fun p hp z=> ?_⟩
 ·obtain ⟨v,q⟩:=I.cell x c e
  exact absurd (Nat.lt_of_lt_of_le q.lt (by rw [z];exact hb)) (Nat.lt_irrefl _)
 ·exact absurd (Nat.lt_of_lt_of_le (Heap.lt_size (I.pin p hp).1) (by rw [z];exact hb)) (Nat.lt_irrefl _)
structure Turn (P:Program) (w:World) (K:PySem.W.Frag) (tg:Expr) (J:It) (fp:List Addr) (it:Addr) (tn:Nat→Heap→Prop):Prop where
 mem:it∈fp
 obj:∀i h,tn i h→∀b∈fp,∃o,h.get? b=some o∧∀v,o.data≠ .cell v
 keep:∀i h h',tn i h→(∀b∈fp,∀o,h.get? b=some o→h'.get? b=some o)→tn i h'
 item:∀ (X:Cx),X.prog=P→X.w=w→X.K=K→X.calm=true→∀ (i:Nat)(pins:List (Addr×Obj))(s:Shared)(σ:St)(H:Hp)(E:Value→Shared→Prop),Inv X pins σ H s→(∀b∈fp,yL X pins H b)→tn i s.heap→J.go i H→
  wpAny (model P w) X.A (pyNext (.ref it)) (fun r s1=>∃u,r=some u∧
   wpAny (model P w) X.A (letOwnedTupleGo tg (.ref it) u) (fun _ s2=>∃x H',Inv X pins σ H' s2∧RelV x u∧J.Ob i H x H'∧tn (i + 1) s2.heap∧∀b∈fp,H' b=none) E s1) E s
 done:∀ (X:Cx),X.prog=P→X.w=w→X.K=K→X.calm=true→∀ (i:Nat)(pins:List (Addr×Obj))(s:Shared)(σ:St)(H:Hp)(E:Value→Shared→Prop),Inv X pins σ H s→(∀b∈fp,yL X pins H b)→tn i s.heap→J.stop i H→
  wpAny (model P w) X.A (pyNext (.ref it)) (fun r s1=>r=none∧Inv X pins σ H s1) E s
 self:∀ (A:Around)(i:Nat)(s:Shared)(Q:Value→Shared→Prop)(E:Value→Shared→Prop),tn i s.heap→Q (.ref it) s→wpAny (model P w) A (pyIter (.ref it)) Q E s
abbrev TI:=St→Hp→(It→Hp→Prop)→Prop
def Z1 (X:Cx)(pins:List (Addr×Obj))(σ:St)(tg:Expr)(R:It→Hp→Prop)(itv:Value)(s2:Shared):Prop:=
 ∃ (it:Addr)(fp:List Addr)(tn:Nat→Heap→Prop)(J:It)(H':Hp),itv= .ref it∧Inv X pins σ H' s2∧Turn X.prog X.w X.K tg J fp it tn∧tn 0 s2.heap∧(∀b∈fp,yL X pins H' b)∧R J H'
def PI (X:Cx)(tg iter:Expr)(wi:TI):Prop:=
 ∀ (pins:List (Addr×Obj))(s:Shared)(σ:St)(H:Hp)(R:It→Hp→Prop),Inv X pins σ H s→wi σ H R→
  wpAny (model X.prog X.w) X.A (eval iter X.env) (fun v s1=>wpAny (model X.prog X.w) X.A (pyIter v) (Z1 X pins σ tg R) X.xe s1) X.xe s
theorem GJ {M:Model}{A:Around}{E:Value→Shared→Prop}{s:Shared}{tg:Expr}{it:Addr}{u:Value}{o:Obj}{n:String}{vs:Array Value}{Q:Unit→Shared→Prop}(ho:s.heap.get? it=some o)(hc:o.cls= .type n)(hd:o.data= .fields vs)
  (hn: ["enumerate","zip","dict_itemiterator","dict_reverseitemiterator","odict_iterator","itertools.zip_longest","itertools.pairwise"].contains n=false)(hQ:Q () s):wpAny M A (letOwnedTupleGo tg (.ref it) u) Q E s:=by
 unfold letOwnedTupleGo
 cases tg <;>first
  |exact wpAny_pure hQ
  |(cases u <;>first
    |exact wpAny_pure hQ
    |(refine wpAny_bind (wpAny_load ho ?_)
      rw [hc,hd]
      show wpAny M A (if (["enumerate","zip","dict_itemiterator","dict_reverseitemiterator","odict_iterator","itertools.zip_longest","itertools.pairwise"].contains n && vs[0]?==some (rawInt _))=true then _ else _) Q E s
      rw [if_neg (by intro h;rw [hn,Bool.false_and] at h;cases h)]
      exact wpAny_pure hQ))
def Va (K:PySem.W.Frag)(a:Addr):It:=
 ⟨fun i H=>∃xs x,cK K H a xs∧xs[i]?=some x,fun i H x H'=>H'=H∧∀xs,cK K H a xs→xs[i]?=some x,fun i H=>∃xs,cK K H a xs∧xs.length≤i⟩
def Z2 (K:PySem.W.Frag)(a:Addr):It:=
 ⟨fun i H=>∃xs x,bJ K H a xs∧xs[i]?=some x,fun i H x H'=>H'=H∧∀xs,bJ K H a xs→xs[i]?=some x,fun i H=>∃xs,bJ K H a xs∧xs.length≤i⟩
def Ze (lo:Int)(n:Nat):It:=⟨fun i _=>i < n,fun i H x H'=>H'=H∧x= .int (lo + i),fun i _=>n≤i⟩
theorem Mf {P:Program}{w:World}{K:PySem.W.Frag}{tg:Expr}(a it:Addr):Turn P w K tg (Va K a) [it] it (fun i h=>h.IsListIter it a i) where
 mem:=by simp
 obj:=fun i h st b hb=>by
  have e:b=it:=by simpa using hb
  subst e
  obtain ⟨o,e,c,d⟩:=st
  exact ⟨o,e,fun v z=>by rw [d] at z;cases z⟩
 keep:=fun i h h' st k=>st.at fun o e=>k it (by simp) o e
 item:=by
  intro X hP hw hK hc i pins s σ H E I hf st hg
  subst hP hw hK
  obtain ⟨xs,x,hq,hx⟩:=hg
  obtain ⟨a7,rv,p,hz⟩:=I.list hq
  obtain ⟨u,hu,ru⟩:=rv.get hx
  obtain ⟨f0,f1,f2,f3,f4,f5⟩:=hf it (by simp)
  refine wpAny_pyNext_list_item st p.isList (x:=u) (by simpa using hu) fun h' BG sb=> ?_
  have I1:Inv X pins σ H {s with heap:=h'}:=I.turned (t':=s.toks) (fun b o hb e=>(sb.2 b hb).trans e) f0 f1 f3 f4 f5
  obtain ⟨o,e,c,d⟩:=id BG
  exact ⟨u,rfl,GJ (s:={s with heap:=h'}) e c d (by decide) ⟨x,H,I1,ru,⟨rfl,fun ys hy=>by rw [I.GI hy hq];exact hx⟩,BG,fun b hb=>(hf b hb).1⟩⟩
 done:=by
  intro X hP hw hK hc i pins s σ H E I hf st hg
  subst hP hw hK
  obtain ⟨xs,hq,hx⟩:=hg
  obtain ⟨a7,rv,p,hz⟩:=I.list hq
  obtain ⟨f0,f1,f2,f3,f4,f5⟩:=hf it (by simp)
  have hl:=rv.length
  exact wpAny_pyNext_list_end (I.ok.hd hc) st p.isList (by simp;omega) fun h' eb=>⟨rfl,I.turned (t':=s.toks) (fun b o hb e=>eb b o hb e) f0 f1 f3 f4 f5⟩
 self:=fun _ _ _ _ _ st h=>wpAny_pyIter_listiter st h
theorem Jf {P:Program}{w:World}{K:PySem.W.Frag}{tg:Expr}(a it:Addr):Turn P w K tg (Z2 K a) [it] it (fun i h=>h.IsTupleIter it a i) where
 mem:=by simp
 obj:=fun i h st b hb=>by
  have e:b=it:=by simpa using hb
  subst e
  obtain ⟨o,e,c,d⟩:=st
  exact ⟨o,e,fun v z=>by rw [d] at z;cases z⟩
 keep:=fun i h h' st k=>st.at fun o e=>k it (by simp) o e
 item:=by
  intro X hP hw hK hc i pins s σ H E I hf st hg
  subst hP hw hK
  obtain ⟨xs,x,hq,hx⟩:=hg
  obtain ⟨a7,rv,p,hz⟩:=I.tuple hq
  obtain ⟨u,hu,ru⟩:=rv.get hx
  obtain ⟨f0,f1,f2,f3,f4,f5⟩:=hf it (by simp)
  refine wpAny_pyNext_tuple_item st (show s.heap.IsTuple a a7.toArray from p) (x:=u) (by simpa using hu) fun h' BG sb=> ?_
  have I1:Inv X pins σ H {s with heap:=h'}:=I.turned (t':=s.toks) (fun b o hb e=>(sb.2 b hb).trans e) f0 f1 f3 f4 f5
  obtain ⟨o,e,c,d⟩:=id BG
  exact ⟨u,rfl,GJ (s:={s with heap:=h'}) e c d (by decide) ⟨x,H,I1,ru,⟨rfl,fun ys hy=>by rw [I.CG hy hq];exact hx⟩,BG,fun b hb=>(hf b hb).1⟩⟩
 done:=by
  intro X hP hw hK hc i pins s σ H E I hf st hg
  subst hP hw hK
  obtain ⟨xs,hq,hx⟩:=hg
  obtain ⟨a7,rv,p,hz⟩:=I.tuple hq
  obtain ⟨f0,f1,f2,f3,f4,f5⟩:=hf it (by simp)
  have hl:=rv.length
  exact wpAny_pyNext_tuple_end (I.ok.hd hc) st (show s.heap.IsTuple a a7.toArray from p) (by simp;omega) fun h' eb=>⟨rfl,I.turned (t':=s.toks) (fun b o hb e=>eb b o hb e) f0 f1 f3 f4 f5⟩
 self:=fun _ _ _ _ _ st h=>wpAny_pyIter_tupleiter st h
theorem Jg {P:Program}{w:World}{K:PySem.W.Frag}{tg:Expr}(it:Addr)(lo:Int)(n:Nat):Turn P w K tg (Ze lo n) [it] it (fun i h=>IsRangeIter h it (lo + (i:Nat) * 1) ((n:Int) - (i:Nat)) 1) where
 mem:=by simp
 obj:=fun i h st b hb=>by
  have e:b=it:=by simpa using hb
  subst e
  exact ⟨_,st,fun v z=>by
   have z':Data.fields _=Data.cell v:=z
   cases z'⟩
 keep:=fun i h h' st k=>k it (by simp) _ st
 item:=by
  intro X hP hw hK hc i pins s σ H E I hf st hg
  subst hP hw hK
  obtain ⟨f0,f1,f2,f3,f4,f5⟩:=hf it (by simp)
  have W:=Walks.range (prog:=X.prog) (w:=X.w) (I.ok.hd hc) it lo 1 n
  refine W.item i s _ _ hg st fun v h' tk hv BG kk=> ?_
  obtain ⟨t,rfl⟩:=hv
  have I1:Inv X pins σ H {s with heap:=h',toks:=tk}:=I.turned (fun b o hb e=>kk b o (by simpa using hb) e) f0 f1 f3 f4 f5
  refine ⟨_,rfl,GJ (s:={s with heap:=h',toks:=tk}) (n:="range_iterator") BG rfl rfl (by decide) ⟨.int (lo + i),H,I1,⟨t,?_⟩,⟨rfl,rfl⟩,BG,fun b hb=>(hf b hb).1⟩⟩
  rw [Int.mul_one]
 done:=by
  intro X hP hw hK hc i pins s σ H E I hf st hg
  subst hP hw hK
  obtain ⟨f0,f1,f2,f3,f4,f5⟩:=hf it (by simp)
  exact wpAny_pyNext_range_end (I.ok.hd hc) st (by have:n≤i:=hg;omega) fun h' eb=>⟨rfl,I.turned (t':=s.toks) (fun b o hb e=>eb b o hb e) f0 f1 f3 f4 f5⟩
 self:=fun _ _ _ _ _ st h=>wpAny_pyIter_rangeiter st h
section
variable {X:Cx}{tg:Expr}
def Vb (K:PySem.W.Frag)(tl:TE):TI:=fun σ H R=>tl σ H fun x H1=>∃a,x= .ref a∧(∃xs,cK K H1 a xs)∧R (Va K a) H1
def Z3 (K:PySem.W.Frag)(tl:TE):TI:=fun σ H R=>tl σ H fun x H1=>∃a,x= .ref a∧(∃xs,bJ K H1 a xs)∧R (Z2 K a) H1
theorem qg {l:Expr}{tl:TE}(hl:PE X l tl):PI X tg l (Vb X.K tl):=by
 intro pins s σ H R I h
 refine dz (hl pins s σ H _ I h) fun v s1 ⟨x,H1,I1,r1,q1⟩=> ?_
 obtain ⟨a,e,⟨xs,hq⟩,q⟩:=q1
 subst e
 cases r1
 obtain ⟨a7,rv,p,hz⟩:=I1.list hq
 refine wpAny_pyIter_list p.isList ?_
 refine ⟨s1.heap.objs.size,[s1.heap.objs.size],_,_,H1,rfl,I1.kept (t':=s1.toks) fun b o e=>Heap.get?_push_of_some _ e,Mf a _,⟨_,Heap.get?_push_size _ rfl,rfl,rfl⟩,fun b hb=> ?_,q⟩
 have e:b=s1.heap.objs.size:=by simpa using hb
 subst e
 exact I1.Me (Nat.le_refl _) (I1.cx.fresh (Nat.le_refl _))
theorem V6 {l:Expr}{tl:TE}(hl:PE X l tl):PI X tg l (Z3 X.K tl):=by
 intro pins s σ H R I h
 refine dz (hl pins s σ H _ I h) fun v s1 ⟨x,H1,I1,r1,q1⟩=> ?_
 obtain ⟨a,e,⟨xs,hq⟩,q⟩:=q1
 subst e
 cases r1
 obtain ⟨a7,rv,p,hz⟩:=I1.tuple hq
 refine wpAny_pyIter_tuple (show s1.heap.IsTuple a a7.toArray from p) ?_
 refine ⟨s1.heap.objs.size,[s1.heap.objs.size],_,_,H1,rfl,I1.kept (t':=s1.toks) fun b o e=>Heap.get?_push_of_some _ e,Jf a _,⟨_,Heap.get?_push_size _ rfl,rfl,rfl⟩,fun b hb=> ?_,q⟩
 have e:b=s1.heap.objs.size:=by simpa using hb
 subst e
 exact I1.Me (Nat.le_refl _) (I1.cx.fresh (Nat.le_refl _))
theorem Oy {pins:List (Addr×Obj)}{σ:St}{H:Hp}{s:Shared}{R:It→Hp→Prop}{E:Value→Shared→Prop}{lo hi:Int}{t u v:Tok}{tk:Nat}(I:Inv X pins σ H s)(h1: -(2 ^ 62)≤lo)(h2:lo < 2 ^ 62)(h3: -(2 ^ 62)≤hi)(h4:hi < 2 ^ 62)
  (q:R (Ze lo (hi - lo).toNat) H):wpAny (model X.prog X.w) X.A (pyIter (.ref s.heap.objs.size)) (Z1 X pins σ tg R) E {s with heap:=s.heap.push {cls:= .type "range",data:= .fields #[.int lo t,.int hi u,.int 1 v] },toks:=tk}:=by
 refine wpAny_pyIter_range (IsRange.new ..) (small_one h1 h2 h3 h4) ?_
 have I1:Inv X pins σ H {s with heap:=s.heap.push {cls:= .type "range",data:= .fields #[.int lo t,.int hi u,.int 1 v] },toks:=tk}:=I.kept fun b o e=>Heap.get?_push_of_some _ e
 refine ⟨(s.heap.push {cls:= .type "range",data:= .fields #[.int lo t,.int hi u,.int 1 v] }).objs.size,[(s.heap.push {cls:= .type "range",data:= .fields #[.int lo t,.int hi u,.int 1 v] }).objs.size],_,_,H,rfl,
  I1.kept (t':=tk) fun b o e=>Heap.get?_push_of_some _ e,Jg _ lo (hi - lo).toNat,?_,fun b hb=> ?_,q⟩
 ·have e1:lo + ((0:Nat):Int) * 1=lo:=by simp
  have e2:(((hi - lo).toNat:Nat):Int) - ((0:Nat):Int)=Builtin.Range.rangeSize lo hi 1:=by rw [rangeSize_one];split <;>omega
  show IsRangeIter _ _ (lo + ((0:Nat):Int) * 1) ((((hi - lo).toNat:Nat):Int) - ((0:Nat):Int)) 1
  rw [e1,e2]
  exact Heap.get?_push_size _ rfl
 ·have e:b=(s.heap.push {cls:= .type "range",data:= .fields #[.int lo t,.int hi u,.int 1 v] }).objs.size:=by simpa using hb
  subst e
  exact I1.Me (Nat.le_refl _) (I1.cx.fresh (Nat.le_refl _))
def Z4 (ta:TA):TI:=fun σ H R=>ta σ H fun vs H1=>∃j:Int,vs= [.int j] ∧ -(2 ^ 62)≤j∧j < 2 ^ 62∧R (Ze 0 j.toNat) H1
theorem Mg {a:Expr}{ta:TA}{p pos:Pos}(hg:Gl X "range")(hm:X.mg "range"=none)(ha:PA X [a] ta)(hs:starEach [a] X.env= [(false,eval a X.env)] :=by rfl):PI X tg (.Call (.Name "range" p) [a] [] pos) (Z4 ta):=by
 intro pins s σ H R I h
 refine Call_ (wk I hg hm boot_range (PyProof.Rows.callWith_type1 (dz (ha pos pins s σ H _ I h) fun us s1 ⟨vs,H1,I1,r1,q1⟩=> ?_) hs rfl))
 obtain ⟨j,e,q1,q2,q⟩:=q1
 subst e
 cases r1 with
 |cons r rr=>
  cases rr
  obtain ⟨t,rfl⟩:=r
  exact call_range_1 (Oy I1 (by omega) (by omega) q1 q2 (by simpa using q))
def ah8 (wi:TI)(g:TG)(tb:TS):TS:=fun D σ H=>wi σ H fun J H1=>∃W:Nat→Nat→St→Hp→Prop,(∃m,W 0 m σ H1)∧∀i m σ H,W i m σ H→
 (J.stop i H∧D.nx σ H)∨(J.go i H∧∃N:St→Hp→Prop,(∀σ' H',N σ' H'→∃m',m' < m∧W (i + 1) m' σ' H')∧∀x H',J.Ob i H x H'→g x σ H' fun σ2 H2=>tb {D with nx:=N,ct:=N,bk:=D.nx} σ2 H2)
def zu (fp:List Addr)(h:Heap):List (Addr×Obj):=fp.filterMap fun b=>(h.get? b).map fun o=>(b,o)
theorem sQ {fp:List Addr}{h:Heap}{b:Addr}{o:Obj}(hb:b∈fp)(e:h.get? b=some o):(b,o)∈zu fp h:=List.mem_filterMap.mpr ⟨b,hb,by rw [e];rfl⟩
theorem Mh {fp:List Addr}{h:Heap}{p:Addr×Obj}(hp:p∈zu fp h):p.1∈fp∧h.get? p.1=some p.2:=by
 obtain ⟨b,hb,e⟩:=List.mem_filterMap.mp hp
 cases q:h.get? b with
 |none=>rw [q] at e;cases e
 |some o=>
  rw [q] at e
  have e':(b,o)=p:=Option.some.inj e
  subst e'
  exact ⟨hb,q⟩
theorem Inv.pinned {pins:List (Addr×Obj)}{σ:St}{H:Hp}{s:Shared}{fp:List Addr}(I:Inv X pins σ H s)(hf:∀b∈fp,yL X pins H b)(ho:∀b∈fp,∃o,s.heap.get? b=some o∧∀v,o.data≠ .cell v):Inv X (pins ++ zu fp s.heap) σ H s:=
 I.KH fun p hp=>(List.mem_append.mp hp).elim (fun z=>I.pin p (List.mem_append_right _ z)) fun z=>by
  obtain ⟨hb,e⟩:=Mh z
  obtain ⟨f0,f1,f2,_⟩:=hf p.1 hb
  obtain ⟨o,e',d⟩:=ho p.1 hb
  rw [e] at e';cases e'
  exact ⟨e,f0,f1,f2,d⟩
theorem Inv.tH {pins pl:List (Addr×Obj)}{σ:St}{H:Hp}{s:Shared}(I:Inv X (pins ++ pl) σ H s):Inv X pins σ H s:=I.KH fun p hp=>I.pin p (List.mem_append_right _ (List.mem_append_left _ hp))
theorem zw {iter:Expr}{body:List Stmt}{wi:TI}{g:TG}{tb:TS}{pos:Pos}(hp:PassesOwn (model X.prog X.w) X.A X.env X.xe)(hc:X.calm=true)(hi:PI X tg iter wi)(hg:PG X tg g)(hb:Md X body tb)
  (hs:∀x,foldedSetIterable iter X.env x=pure x:=by intro _;rfl):PS X (.For tg iter body [] pos) (ah8 wi g tb):=by
 intro pins s σ H D I h
 refine wpAny_For (dz (hi pins s σ H _ I h) fun v s1 h1=>dz h1 fun itv s2 h2=> ?_) hs
 obtain ⟨it,fp,tn,J,H2,e,I2,T,st2,f2,W,⟨m0,w0⟩,turn⟩:=h2
 subst e
 have stat:∀ {H':Hp},(∀b∈fp,H' b=none)→∀b∈fp,yL X pins H' b:=fun hn b hb=>⟨hn b hb,(f2 b hb).2⟩
 refine codeAny_forLoop_any (fun n s'=>∃i σ' H',Inv X pins σ' H' s'∧tn i s'.heap∧(∀b∈fp,H' b=none)∧W i n σ' H') ?_ m0 ⟨0,σ,H2,I2,st2,fun b hb=>(f2 b hb).1,w0⟩
 rintro n s3 ⟨i,σ3,H3,I3,st3,fr3,w3⟩
 rcases turn i n σ3 H3 w3 with ⟨stop,qn⟩|⟨go,N,hN,step⟩
 ·refine wpAny_passesOwn hp (dz (T.done X rfl rfl rfl hc i pins s3 σ3 H3 X.xe I3 (stat fr3) st3 stop) fun r s4 ⟨hr,I4⟩=> ?_)
  subst hr
  exact wpAny_execs_nil ⟨σ3,H3,I4,qn⟩
 ·refine wpAny_passesOwn hp (dz (T.item X rfl rfl rfl hc i pins s3 σ3 H3 X.xe I3 (stat fr3) st3 go) fun r s4 ⟨u,hr,h4⟩=> ?_)
  subst hr
  refine wpAny_passesOwn hp (dz h4 fun _ s5 ⟨x,H5,I5,r5,y5,Zf,fr5⟩=> ?_)
  have I5':=I5.pinned (stat fr5) (T.obj _ _ Zf)
  refine wpAny_passesOwn hp (dz (hg _ s5 σ3 H5 x u _ I5' r5 (step x H5 y5)) fun _ s6 ⟨σ6,H6,I6,q6⟩=> ?_)
  refine wpAny_passesOwn hp (dz (hb _ s6 σ6 H6 _ I6 q6) fun f s7 q7=> ?_)
  have again:∀ {σ7:St}{H7:Hp},Inv X (pins ++ zu fp s5.heap) σ7 H7 s7→N σ7 H7→∃m,m < n∧∃i σ' H',Inv X pins σ' H' s7∧tn i s7.heap∧(∀b∈fp,H' b=none)∧W i m σ' H':=fun {σ7 H7} I7 n7=>by
   obtain ⟨m',hm,w7⟩:=hN σ7 H7 n7
   refine ⟨m',hm,i + 1,σ7,H7,I7.tH,T.keep _ _ _ Zf fun b hb o e=>(I7.pin (b,o) (List.mem_append_right _ (List.mem_append_right _ (sQ hb e)))).1,fun b hb=> ?_,w7⟩
   obtain ⟨o,e,d⟩:=T.obj _ _ Zf b hb
   exact (I7.pin (b,o) (List.mem_append_right _ (List.mem_append_right _ (sQ hb e)))).2.1
  cases f with
  |next=>obtain ⟨σ7,H7,I7,n7⟩:=q7;exact again I7 n7
  |cont=>obtain ⟨σ7,H7,I7,n7⟩:=q7;exact again I7 n7
  |brk=>obtain ⟨σ7,H7,I7,q7⟩:=q7;exact ⟨σ7,H7,I7.tH,q7⟩
  |ret v=>obtain ⟨x7,σ7,H7,I7,r7,q7⟩:=q7;exact ⟨x7,σ7,H7,I7.tH,r7,q7⟩
end
theorem zx {K:PySem.W.Frag}{a:Addr}{xs:List V}{g:TG}{tb:TS}{D:Ends}{σ:St}{H:Hp}(Pv:Nat→St→Hp→Prop)(h0:Pv 0 σ H)(hl:∀i σ H,i≤xs.length→Pv i σ H→cK K H a xs)
  (hs:∀i x σ H,xs[i]?=some x→Pv i σ H→g x σ H fun σ2 H2=>tb {D with nx:=Pv (i + 1),ct:=Pv (i + 1),bk:=D.nx} σ2 H2)(hd:∀σ H,Pv xs.length σ H→D.nx σ H):
  ∃W:Nat→Nat→St→Hp→Prop,(∃m,W 0 m σ H)∧∀i m σ H,W i m σ H→
   ((Va K a).stop i H∧D.nx σ H)∨((Va K a).go i H∧∃N:St→Hp→Prop,(∀σ' H',N σ' H'→∃m',m' < m∧W (i + 1) m' σ' H')∧∀x H',(Va K a).Ob i H x H'→g x σ H' fun σ2 H2=>tb {D with nx:=N,ct:=N,bk:=D.nx} σ2 H2):=by
 refine ⟨fun i m σ H=>m=xs.length - i∧i≤xs.length∧Pv i σ H,⟨xs.length,by simp,Nat.zero_le _,h0⟩,?_⟩
 rintro i m σ H ⟨rfl,hi,p⟩
 have q:=hl i σ H hi p
 by_cases eA:i < xs.length
 ·refine .inr ⟨⟨xs,xs[i],q,by simp [eA]⟩,Pv (i + 1),fun σ' H' p'=>⟨xs.length - (i + 1),by omega,rfl,eA,p'⟩,fun x H' y=> ?_⟩
  obtain ⟨e,y⟩:=y
  subst e
  exact hs i x σ _ (y xs q) p
 ·have e:i=xs.length:=by omega
  subst e
  exact .inl ⟨⟨xs,q,Nat.le_refl _⟩,hd σ H p⟩
theorem SI {K:PySem.W.Frag}{a:Addr}{xs:List V}{g:TG}{tb:TS}{D:Ends}{σ:St}{H:Hp}(Pv:Nat→St→Hp→Prop)(h0:Pv 0 σ H)(hl:∀i σ H,i≤xs.length→Pv i σ H→bJ K H a xs)
  (hs:∀i x σ H,xs[i]?=some x→Pv i σ H→g x σ H fun σ2 H2=>tb {D with nx:=Pv (i + 1),ct:=Pv (i + 1),bk:=D.nx} σ2 H2)(hd:∀σ H,Pv xs.length σ H→D.nx σ H):
  ∃W:Nat→Nat→St→Hp→Prop,(∃m,W 0 m σ H)∧∀i m σ H,W i m σ H→
   ((Z2 K a).stop i H∧D.nx σ H)∨((Z2 K a).go i H∧∃N:St→Hp→Prop,(∀σ' H',N σ' H'→∃m',m' < m∧W (i + 1) m' σ' H')∧∀x H',(Z2 K a).Ob i H x H'→g x σ H' fun σ2 H2=>tb {D with nx:=N,ct:=N,bk:=D.nx} σ2 H2):=by
 refine ⟨fun i m σ H=>m=xs.length - i∧i≤xs.length∧Pv i σ H,⟨xs.length,by simp,Nat.zero_le _,h0⟩,?_⟩
 rintro i m σ H ⟨rfl,hi,p⟩
 have q:=hl i σ H hi p
 by_cases eA:i < xs.length
 ·refine .inr ⟨⟨xs,xs[i],q,by simp [eA]⟩,Pv (i + 1),fun σ' H' p'=>⟨xs.length - (i + 1),by omega,rfl,eA,p'⟩,fun x H' y=> ?_⟩
  obtain ⟨e,y⟩:=y
  subst e
  exact hs i x σ _ (y xs q) p
 ·have e:i=xs.length:=by omega
  subst e
  exact .inl ⟨⟨xs,q,Nat.le_refl _⟩,hd σ H p⟩
theorem qh {lo:Int}{n:Nat}{g:TG}{tb:TS}{D:Ends}{σ:St}{H:Hp}(Pv:Nat→St→Hp→Prop)(h0:Pv 0 σ H)
  (hs:∀i σ H,i < n→Pv i σ H→g (.int (lo + i)) σ H fun σ2 H2=>tb {D with nx:=Pv (i + 1),ct:=Pv (i + 1),bk:=D.nx} σ2 H2)(hd:∀σ H,Pv n σ H→D.nx σ H):
  ∃W:Nat→Nat→St→Hp→Prop,(∃m,W 0 m σ H)∧∀i m σ H,W i m σ H→
   ((Ze lo n).stop i H∧D.nx σ H)∨((Ze lo n).go i H∧∃N:St→Hp→Prop,(∀σ' H',N σ' H'→∃m',m' < m∧W (i + 1) m' σ' H')∧∀x H',(Ze lo n).Ob i H x H'→g x σ H' fun σ2 H2=>tb {D with nx:=N,ct:=N,bk:=D.nx} σ2 H2):=by
 refine ⟨fun i m σ H=>m=n - i∧i≤n∧Pv i σ H,⟨n,by simp,Nat.zero_le _,h0⟩,?_⟩
 rintro i m σ H ⟨rfl,hi,p⟩
 by_cases eA:i < n
 ·refine .inr ⟨eA,Pv (i + 1),fun σ' H' p'=>⟨n - (i + 1),by omega,rfl,eA,p'⟩,fun x H' y=> ?_⟩
  obtain ⟨e,y⟩:=y
  subst e y
  exact hs i σ _ eA p
 ·have e:i=n:=by omega
  subst e
  exact .inl ⟨Nat.le_refl _,hd σ H p⟩
abbrev R2:=V→V→Hp→VK→Prop
def yM (X:Cx)(f:Value→Value→Sem Value)(r:R2):Prop:=
 ∀ (pins:List (Addr×Obj))(s:Shared)(σ:St)(H:Hp)(x y:V)(v u:Value)(Q:VK),Inv X pins σ H s→RelV x v→RelV y u→r x y H Q→
  wpAny (model X.prog X.w) X.A (f v u) (EP X pins σ Q) X.xe s
def UnR (X:Cx)(f:Value→Sem Value)(r:V→Hp→VK→Prop):Prop:=
 ∀ (pins:List (Addr×Obj))(s:Shared)(σ:St)(H:Hp)(x:V)(v:Value)(Q:VK),Inv X pins σ H s→RelV x v→r x H Q→
  wpAny (model X.prog X.w) X.A (f v) (EP X pins σ Q) X.xe s
def kO (X:Cx)(f:Value)(r:List V→Hp→VK→Prop):Prop:=
 ∀ (pins:List (Addr×Obj))(s:Shared)(σ:St)(H:Hp)(xs:List V)(us:List Value)(Q:VK),Inv X pins σ H s→Vals xs us→r xs H Q→
  wpAny (model X.prog X.w) X.A (call f us) (EP X pins σ Q) X.xe s
def tOp (r:R2)(ta tb:TE):TE:=fun σ H Q=>ta σ H fun x H1=>tb σ H1 fun y H2=>r x y H2 Q
def tUn (r:V→Hp→VK→Prop)(ta:TE):TE:=fun σ H Q=>ta σ H fun x H1=>r x H1 Q
def rI (C:Int→Int→Prop)(g:Int→Int→V):R2:=fun x y H Q=>∃i j,x= .int i∧y= .int j∧C i j∧Q (g i j) H
def Vc (g:Int→Int→V):R2:=fun x y H Q=>∃i j,x= .int i∧y= .int j∧Q (g i j) H
def rU (g:Int→V):V→Hp→VK→Prop:=fun x H Q=>∃i,x= .int i∧Q (g i) H
section
variable {X:Cx}{a b c:Expr}{ta tb tc:TE}{pos:Pos}
theorem V7 (ha:PE X a ta)(hb:PE X b tb){pins:List (Addr×Obj)}{s:Shared}{σ:St}{H:Hp}{R:V→V→Hp→Prop}(I:Inv X pins σ H s)
  (h:ta σ H fun x H1=>tb σ H1 fun y H2=>R x y H2){Q:Value→Shared→Prop}{f:Value→Value→Sem Value}
  (hf:∀v u s2 x y H2,Inv X pins σ H2 s2→RelV x v→RelV y u→R x y H2→wpAny (model X.prog X.w) X.A (f v u) Q X.xe s2):
  wpAny (model X.prog X.w) X.A (eval a X.env) (fun v s₁=>wpAny (model X.prog X.w) X.A (eval b X.env) (fun u s₂=>wpAny (model X.prog X.w) X.A (f v u) Q X.xe s₂) X.xe s₁) X.xe s:=by
 refine dz (ha pins s σ H _ I h) fun v s1 ⟨x,H1,I1,r1,q1⟩=> ?_
 refine dz (hb pins s1 σ H1 _ I1 q1) fun u s2 ⟨y,H2,I2,r2,q2⟩=> ?_
 exact hf v u s2 x y H2 I2 r1 r2 q2
theorem cO {op:Operator}{r:R2}(ho:yM X (binaryOp op) r)(ha:PE X a ta)(hb:PE X b tb):PE X (.BinOp a op b pos) (tOp r ta tb):=by
 intro pins s σ H Q I h
 exact wpAny_BinOp (V7 ha hb I h fun v u s2 x y H2 I2 rx ry q=>ho pins s2 σ H2 x y v u Q I2 rx ry q)
theorem d8 {op:UnaryOp}{r:V→Hp→VK→Prop}(ho:UnR X (unaryOp op) r)(ha:PE X a ta):PE X (.UnaryOp op a pos) (tUn r ta):=by
 intro pins s σ H Q I h
 exact UnaryOp_ (dz (ha pins s σ H _ I h) fun v s1 ⟨x,H1,I1,r1,q1⟩=>ho pins s1 σ H1 x v Q I1 r1 q1)
theorem opI {f:Value→Value→Sem Value}{C:Int→Int→Prop}{g:Int→Int→Int}
  (rule:∀ (i j:Int)(t u:Tok)(s:Shared)(Q:Value→Shared→Prop)(E:Value→Shared→Prop),C i j→Q (.int (g i j) s.toks) {s with toks:=s.toks + 1}→wpAny (model X.prog X.w) X.A (f (.int i t) (.int j u)) Q E s):
  yM X f (rI C fun i j=> .int (g i j)):=by
 intro pins s σ H x y v u Q I rx ry h
 obtain ⟨i,j,rfl,rfl,hc,q⟩:=h
 obtain ⟨t,rfl⟩:=rx
 obtain ⟨t',rfl⟩:=ry
 exact rule i j t t' s _ _ hc ⟨.int (g i j),H,I.tok _,⟨_,rfl⟩,q⟩
theorem Z5 {f:Value→Value→Sem Value}{g:Int→Int→Int}
  (rule:∀ (i j:Int)(t u:Tok)(s:Shared)(Q:Value→Shared→Prop)(E:Value→Shared→Prop),Q (.int (g i j) s.toks) {s with toks:=s.toks + 1}→wpAny (model X.prog X.w) X.A (f (.int i t) (.int j u)) Q E s):
  yM X f (Vc fun i j=> .int (g i j)):=by
 intro pins s σ H x y v u Q I rx ry h
 obtain ⟨i,j,rfl,rfl,q⟩:=h
 obtain ⟨t,rfl⟩:=rx
 obtain ⟨t',rfl⟩:=ry
 exact rule i j t t' s _ _ ⟨.int (g i j),H,I.tok _,⟨_,rfl⟩,q⟩
theorem SJ {f:Value→Value→Sem Value}{g:Int→Int→Bool}
  (rule:∀ (i j:Int)(t u:Tok)(s:Shared)(Q:Value→Shared→Prop)(E:Value→Shared→Prop),Q (.bool (g i j)) s→wpAny (model X.prog X.w) X.A (f (.int i t) (.int j u)) Q E s):
  yM X f (Vc fun i j=> .bl (g i j)):=by
 intro pins s σ H x y v u Q I rx ry h
 obtain ⟨i,j,rfl,rfl,q⟩:=h
 obtain ⟨t,rfl⟩:=rx
 obtain ⟨t',rfl⟩:=ry
 exact rule i j t t' s _ _ ⟨.bl (g i j),H,I,rfl,q⟩
def aib (i j:Int):Prop:=0 < j∧j < 1073741824
def V8 (i j:Int):Prop:=(-(2 ^ 64) < i∧i < 2 ^ 64)∨(-(2 ^ 64) < j∧j < 2 ^ 64)
theorem V8.ok {i j:Int}(h:V8 i j):IntMulOk i j:=by
 rcases h with ⟨h1,h2⟩|⟨h1,h2⟩
 ·exact .of_left (intBits_le_64 h1 h2)
 ·exact .of_right (intBits_le_64 h1 h2)
theorem eB:yM X (binaryOp .Add) (Vc fun i j=> .int (i + j)):=Z5 fun _ _ _ _ _ _ _ q=>add_int q
theorem Jh:yM X (binaryOp .Sub) (Vc fun i j=> .int (i - j)):=Z5 fun _ _ _ _ _ _ _ q=>sub_int q
theorem V9:yM X (binaryOp .Mult) (rI V8 fun i j=> .int (i * j)):=opI fun _ _ _ _ _ _ _ hc q=>mul_int q hc.ok
theorem Ek:yM X (binaryOp .FloorDiv) (rI aib fun i j=> .int (i / j)):=opI fun i j _ _ _ _ _ hc q=>by
 have h1:(0:Int) < j:=hc.1
 have h2:j < 1073741824:=hc.2
 exact floordiv_int (by omega) (by rw [Int.fdiv_eq_ediv_of_nonneg i (by omega)];exact q) (.inl (PyProof.noPylong_small (by omega)))
theorem Oz:yM X (binaryOp .Mod) (rI (fun _ j=>0 < j) fun i j=> .int (i % j)):=opI fun i j _ _ _ _ _ hc q=>by
 have h1:(0:Int) < j:=hc
 exact mod_int' (by omega) (by rw [Int.fmod_eq_emod_of_nonneg i (by omega)];exact q)
theorem unI {f:Value→Sem Value}{g:Int→Int}
  (rule:∀ (i:Int)(t:Tok)(s:Shared)(Q:Value→Shared→Prop)(E:Value→Shared→Prop),Q (.int (g i) s.toks) {s with toks:=s.toks + 1}→wpAny (model X.prog X.w) X.A (f (.int i t)) Q E s):
  UnR X f (rU fun i=> .int (g i)):=by
 intro pins s σ H x v Q I rx h
 obtain ⟨i,rfl,q⟩:=h
 obtain ⟨t,rfl⟩:=rx
 exact rule i t s _ _ ⟨.int (g i),H,I.tok _,⟨_,rfl⟩,q⟩
theorem cG:UnR X (unaryOp .USub) (rU fun i=> .int (-i)):=unI fun _ _ _ _ _ q=>neg_int q
end
def Z6:V→V→Bool
 | .bX,.bX=>true| .bX,.int _=>true| .int _,.bX=>true| .bX,.bl _=>true| .bl _,.bX=>true| .bX,.str _=>true| .str _,.bX=>true
 | .int _,.int _=>true| .bl _,.bl _=>true| .str _,.str _=>true| .GF _,.GF _=>true
 | .int _,.str _=>true| .str _,.int _=>true| .bl _,.str _=>true| .str _,.bl _=>true
 |_,_=>false
def rEq:R2:=fun x y H Q=>Z6 x y=true∧Q (.bl (decide (x=y))) H
def rNe:R2:=fun x y H Q=>Z6 x y=true∧Q (.bl (!decide (x=y))) H
theorem KN {i j:Int}:decide (V.int i=V.int j)=(i==j):=by
 rw [Bool.eq_iff_iff]
 simp
theorem OA {i j:Bool}:decide (V.bl i=V.bl j)=(i==j):=by
 rw [Bool.eq_iff_iff]
 simp
theorem KO {i j:Str}:decide (V.str i=V.str j)=(i==j):=by
 rw [Bool.eq_iff_iff]
 simp
theorem KP {i j:Array UInt8}:decide (V.GF i=V.GF j)=(i.toList==j.toList):=by
 rw [Bool.eq_iff_iff]
 cases i
 cases j
 simp
section
variable {X:Cx}{a b c:Expr}{ta tb tc:TE}{pos:Pos}
theorem cE {pins:List (Addr×Obj)}{σ:St}{H:Hp}{s:Shared}{Q:VK}{k k':Bool}(I:Inv X pins σ H s)(q:Q (.bl k) H)(e:k=k'):EP X pins σ Q (.bool k') s:=by
 subst e
 exact ⟨.bl k,H,I,rfl,q⟩
theorem cV:yM X (compareOp .Eq) rEq:=by
 intro pins s σ H x y v u Q I rx ry h
 obtain ⟨hs,q⟩:=h
 cases x with
 |bX=>
  cases rx
  cases y with
  |bX=>cases ry;exact PySem.EqNone.eq_none_none (cE I q (by simp))
  |bl j=>cases ry;exact PySem.EqNone.eq_none_bool (cE I q (by simp))
  |int j=>obtain ⟨t',rfl⟩:=ry;exact PySem.EqNone.eq_none_int (cE I q (by simp))
  |str j=>obtain ⟨t',rfl⟩:=ry;exact PySem.EqNone.eq_none_str (cE I q (by simp))
  |_=>exact absurd (show false=true from hs) Bool.false_ne_true
 |bl i=>
  cases rx
  cases y with
  |bX=>cases ry;exact PySem.EqNone.eq_bool_none (cE I q (by simp))
  |bl j=>cases ry;exact eq_bool (cE I q OA)
  |str j=>obtain ⟨t',rfl⟩:=ry;exact PySem.EqMixed.eq_bool_str (cE I q (by simp))
  |_=>exact absurd (show false=true from hs) Bool.false_ne_true
 |int i=>
  obtain ⟨t,rfl⟩:=rx
  cases y with
  |bX=>cases ry;exact PySem.EqNone.eq_int_none (cE I q (by simp))
  |int j=>obtain ⟨t',rfl⟩:=ry;exact eq_int (cE I q KN)
  |str j=>obtain ⟨t',rfl⟩:=ry;exact PySem.EqMixed.eq_int_str (cE I q (by simp))
  |_=>exact absurd (show false=true from hs) Bool.false_ne_true
 |str i=>
  obtain ⟨t,rfl⟩:=rx
  cases y with
  |bX=>cases ry;exact PySem.EqNone.eq_str_none (cE I q (by simp))
  |bl j=>cases ry;exact PySem.EqMixed.eq_str_bool (cE I q (by simp))
  |int j=>obtain ⟨t',rfl⟩:=ry;exact PySem.EqMixed.eq_str_int (cE I q (by simp))
  |str j=>obtain ⟨t',rfl⟩:=ry;exact eq_str (cE I q KO)
  |_=>exact absurd (show false=true from hs) Bool.false_ne_true
 |GF i=>
  obtain ⟨t,rfl⟩:=rx
  cases y with
  |GF j=>obtain ⟨t',rfl⟩:=ry;exact PySem.W.eq_bytes (cE I q KP)
  |_=>exact absurd (show false=true from hs) Bool.false_ne_true
 |_=>cases y <;>exact absurd (show false=true from hs) Bool.false_ne_true
theorem zy:yM X (compareOp .NotEq) rNe:=by
 intro pins s σ H x y v u Q I rx ry h
 obtain ⟨hs,q⟩:=h
 cases x with
 |bX=>
  cases rx
  cases y with
  |bX=>cases ry;exact PySem.EqNone.ne_none_none (cE I q (by simp))
  |bl j=>cases ry;exact PySem.EqNone.ne_none_bool (cE I q (by simp))
  |int j=>obtain ⟨t',rfl⟩:=ry;exact PySem.EqNone.ne_none_int (cE I q (by simp))
  |str j=>obtain ⟨t',rfl⟩:=ry;exact PySem.EqNone.ne_none_str (cE I q (by simp))
  |_=>exact absurd (show false=true from hs) Bool.false_ne_true
 |bl i=>
  cases rx
  cases y with
  |bX=>cases ry;exact PySem.EqNone.ne_bool_none (cE I q (by simp))
  |bl j=>cases ry;exact ne_bool (cE I q (congrArg not OA))
  |str j=>obtain ⟨t',rfl⟩:=ry;exact PySem.EqMixed.ne_bool_str (cE I q (by simp))
  |_=>exact absurd (show false=true from hs) Bool.false_ne_true
 |int i=>
  obtain ⟨t,rfl⟩:=rx
  cases y with
  |bX=>cases ry;exact PySem.EqNone.ne_int_none (cE I q (by simp))
  |int j=>obtain ⟨t',rfl⟩:=ry;exact ne_int (cE I q (congrArg not KN))
  |str j=>obtain ⟨t',rfl⟩:=ry;exact PySem.EqMixed.ne_int_str (cE I q (by simp))
  |_=>exact absurd (show false=true from hs) Bool.false_ne_true
 |str i=>
  obtain ⟨t,rfl⟩:=rx
  cases y with
  |bX=>cases ry;exact PySem.EqNone.ne_str_none (cE I q (by simp))
  |bl j=>cases ry;exact PySem.EqMixed.ne_str_bool (cE I q (by simp))
  |int j=>obtain ⟨t',rfl⟩:=ry;exact PySem.EqMixed.ne_str_int (cE I q (by simp))
  |str j=>obtain ⟨t',rfl⟩:=ry;exact ne_str (cE I q (congrArg not KO))
  |_=>exact absurd (show false=true from hs) Bool.false_ne_true
 |GF i=>
  obtain ⟨t,rfl⟩:=rx
  cases y with
  |GF j=>obtain ⟨t',rfl⟩:=ry;exact PySem.W.ne_bytes (cE I q (congrArg not KP))
  |_=>exact absurd (show false=true from hs) Bool.false_ne_true
 |_=>cases y <;>exact absurd (show false=true from hs) Bool.false_ne_true
theorem lW:yM X (compareOp .Lt) (Vc fun i j=> .bl (decide (i < j))):=SJ fun _ _ _ _ _ _ _ q=>lt_int q
theorem zz:yM X (compareOp .LtE) (Vc fun i j=> .bl (decide (i≤j))):=SJ fun _ _ _ _ _ _ _ q=>le_int q
theorem tI:yM X (compareOp .Gt) (Vc fun i j=> .bl (decide (j < i))):=SJ fun _ _ _ _ _ _ _ q=>gt_int q
theorem Z7:yM X (compareOp .GtE) (Vc fun i j=> .bl (decide (j≤i))):=SJ fun _ _ _ _ _ _ _ q=>ge_int q
theorem aQ (b:Expr){op:CmpOp}(h:op≠ .In:=by decide)(h2:op≠ .NotIn:=by decide):behindInMarks op b=false:=by
 have e1:(op==CmpOp.In)=false:=by cases op <;>first|rfl|exact absurd rfl h
 have e2:(op==CmpOp.NotIn)=false:=by cases op <;>first|rfl|exact absurd rfl h2
 cases b <;>simp [behindInMarks,e1,e2]
theorem jy {op:CmpOp}{r:R2}(ho:yM X (compareOp op) r)(ha:PE X a ta)(hb:PE X b tb)(hm:behindInMarks op b=false):PE X (.Compare a [op] [b] pos) (tOp r ta tb):=by
 intro pins s σ H Q I h
 exact wpAny_Compare1 (V7 ha hb I h fun v u s2 x y H2 I2 rx ry q=>ho pins s2 σ H2 x y v u Q I2 rx ry q) hm
def Z8 (t:TE):TT:=fun σ H Q=>t σ H fun x H'=>∃k,x= .bl k∧Q k H'
theorem aL {op:CmpOp}{r:R2}(ho:yM X (compareOp op) r)(ha:PE X a ta)(hb:PE X b tb)(hm:behindInMarks op b=false):PT X (.Compare a [op] [b] pos) (Z8 (tOp r ta tb)):=by
 intro pins s σ H Q I h
 refine wpAny_isTrue_Compare1 (dz (ha pins s σ H _ I h) fun v s1 ⟨x,H1,I1,r1,q1⟩=>dz (hb pins s1 σ H1 _ I1 q1) fun u s2 ⟨y,H2,I2,r2,q2⟩=>
  dz (ho pins s2 σ H2 x y v u _ I2 r1 r2 q2) fun c s3 ⟨z,H3,I3,r3,k,e,q3⟩=> ?_) hm
 subst e
 cases r3
 exact wpAny_truthy_bool ⟨H3,I3,q3⟩
def Wa (r r':R2)(ta tb tc:TE):TE:=fun σ H Q=>ta σ H fun x H1=>tb σ H1 fun y H2=>r x y H2 fun z H3=>∃k,z= .bl k∧
 (if k=true then tc σ H3 fun w' H4=>r' y w' H4 Q else Q (.bl false) H3)
theorem oA {op op':CmpOp}{r r':R2}(ho:yM X (compareOp op) r)(BD:yM X (compareOp op') r')(ha:PE X a ta)(hb:PE X b tb)(hc:PE X c tc)
  (hm:lastMarks [op,op'] [b,c] =false:=by with_unfolding_all rfl):PE X (.Compare a [op,op'] [b,c] pos) (Wa r r' ta tb tc):=by
 intro pins s σ H Q I h
 refine Compare_chain (dz (ha pins s σ H _ I h) fun v s1 ⟨x,H1,I1,r1,q1⟩=>chain_link (dz (hb pins s1 σ H1 _ I1 q1) fun u s2 ⟨y,H2,I2,r2,q2⟩=>
  dz (ho pins s2 σ H2 x y v u _ I2 r1 r2 q2) fun d s3 ⟨z,H3,I3,r3,k,e,q3⟩=> ?_)) hm
 subst e
 cases r3
 refine wpAny_truthy_bool ?_
 cases k with
 |false=>exact ite_ff ⟨.bl false,H3,I3,rfl,q3⟩
 |true=>exact ite_tt (chain_last (dz (hc pins s3 σ H3 _ I3 q3) fun w' s4 ⟨z',H4,I4,r4,q4⟩=>BD pins s4 σ H4 y z' u w' Q I4 r2 r4 q4))
theorem zA:(sizeLine:Nat) < 2 ^ 63:=by rw [sizeLine_eq];decide
theorem vals1 {x:V}{us:List Value}(r:Vals [x] us):∃u,us= [u] ∧RelV x u:=by
 cases r with
 |cons r1 r2=>cases r2;exact ⟨_,rfl,r1⟩
theorem vals2 {x y:V}{us:List Value}(r:Vals [x,y] us):∃u w',us= [u,w'] ∧RelV x u∧RelV y w':=by
 cases r with
 |cons r1 r2=>
  cases r2 with
  |cons r3 r4=>cases r4;exact ⟨_,_,rfl,r1,r3⟩
theorem CH (hc:X.calm=true):kO X (.builtin "max") (fun xs H Q=>∃i j,xs= [.int i,.int j] ∧Q (.int (if j >i then j else i)) H):=by
 intro pins s σ H xs us Q I r h
 obtain ⟨i,j,rfl,q⟩:=h
 obtain ⟨u,w',rfl,⟨t,rfl⟩,⟨t',rfl⟩⟩:=vals2 r
 refine max_two_ints (I.ok.hd hc) fun h' tk k=>⟨_,H,I.kept k,?_,q⟩
 by_cases hj:j >i
 ·rw [if_pos hj,if_pos hj];exact ⟨_,rfl⟩
 ·rw [if_neg hj,if_neg hj];exact ⟨_,rfl⟩
theorem CI (hc:X.calm=true):kO X (.builtin "min") (fun xs H Q=>∃i j,xs= [.int i,.int j] ∧Q (.int (if j < i then j else i)) H):=by
 intro pins s σ H xs us Q I r h
 obtain ⟨i,j,rfl,q⟩:=h
 obtain ⟨u,w',rfl,⟨t,rfl⟩,⟨t',rfl⟩⟩:=vals2 r
 refine min_two_ints (I.ok.hd hc) fun h' tk k=>⟨_,H,I.kept k,?_,q⟩
 by_cases hj:j < i
 ·rw [if_pos hj,if_pos hj];exact ⟨_,rfl⟩
 ·rw [if_neg hj,if_neg hj];exact ⟨_,rfl⟩
end
structure Mi (h:Heap) (x dx C:Addr) (mA:Str→Option Value):Prop where
 obj:h.get? x=some (PySem.W.instObj C dx)
 ns:h.Ns1 dx mA
 ne:dx≠x
theorem Mj {h:Heap}{dx:Addr}{mA:Str→Option Value}(n:h.Ns1 dx mA):∃od,h.get? dx=some od∧∀name,PySem.W.lookIn name od=some (mA name):=by
 obtain ⟨o,es,ep,ho,hd,hk,_,hm⟩:=n
 refine ⟨o,ho,fun name=> ?_⟩
 have e:=hm name
 unfold nsFind findBy at e
 rw [←Array.find?_toList] at e
 unfold PySem.W.lookIn
 rw [hd]
 dsimp only
 split
 ·rename_i y q
  rw [q] at e
  exact congrArg some e
 ·rename_i q
  rw [q] at e
  have a:es.toList.any (·.refKey)=false:=by
   rw [List.any_eq_false]
   intro y hy
   obtain ⟨z,t,sR⟩:=hk y (Array.mem_toList_iff.mp hy)
   simp [DictEntry.refKey,sR]
  have a':¬es.toList.any (·.refKey)=true:=by rw [a];exact Bool.false_ne_true
  rw [if_neg a']
  exact congrArg some e
theorem Mi.look {h:Heap}{x dx C:Addr}{mA:Str→Option Value}(I:Mi h x dx C mA):∃od,PySem.W.InstAt h x (PySem.W.instObj C dx) C (some od)∧∀name,PySem.W.lookIn name od=some (mA name):=
 let ⟨od,ho,hl⟩:=Mj I.ns
 ⟨od,⟨I.obj,rfl,rfl,ho⟩,hl⟩
section
variable {prog:Program}{w:World}{A:Around}{E:Value→Shared→Prop}{s:Shared}{K:PySem.W.Frag}{x dx C f:Addr}{mA:Str→Option Value}{name:Str}{v:Value}
theorem get_map {expr:Bool}{Q:Value→Shared→Prop}(X:K.In s.heap)(I:Mi s.heap x dx C mA)(hg:PySem.W.plainGet K C name=true)(hh:PySem.W.hasDictIn K C=true)
  (ha:PySem.W.findIn K (.ref C) name=some none)(hv:mA name=some v)(hv':PySem.W.handedIn v=true)(h:Q v {s with toks:=s.toks + 1}):
  wpAny (model prog w) A (getAttr (.ref x) name expr) Q E s:=by
 obtain ⟨od,J,hl⟩:=I.look
 exact PySem.W.get_value X J (PySem.W.plainGet_of hg).1 (PySem.W.findObj_own hh ha rfl (by rw [hl,hv])) hv' h
theorem SK {ns:List Str}{Q:Unit→Shared→Prop}(X:K.In s.heap)(I:Mi s.heap x dx C mA)
  (hs:PySem.W.findIn K (.ref C) "__setattr__"=some (some (.builtin "object.__setattr__")))(hp:PySem.W.plainOver K C=true)(ht:PySem.W.takerIn K C name=some none)(hh:PySem.W.hasDictIn K C=true)
  (hw:PySem.Within mA ns)(hsz:ns.length≤sizeLine)
  (h:∀h',Mi h' x dx C (fun y=>if y=name then some v else mA y)→Heap.SameBut dx s.heap h'→Q () {s with heap:=h',toks:=s.toks + 2}):
  wpAny (model prog w) A (setAttr (.ref x) name v) Q E s:=by
 obtain ⟨od,J,hl⟩:=I.look
 refine PySem.W.set_plain X J hs (PySem.W.osa_open (s:={s with toks:=s.toks + 1}) (r:=none) X J hp ht fun b=> ?_)
 obtain ⟨cd,hc,ZN⟩:=PySem.W.any_some hh
 have hx:s.heap.get? x=some ⟨.ref C,some dx,.plain,#[]⟩:=I.obj
 refine wpAny_bind (wpAny_pure (wpAny_bind (wpAny_bind (wpAny_loadPart hx (wpAny_bind (PySem.W.Looks.here (s:={s with toks:=s.toks + 1}) (PySem.W.looks_clsIn X hc) ?_))))))
 rw [ZN]
 refine wpAny_pure (a:=some dx) (wpAny_bind (wpAny_pure (wpAny_bind ?_)))
 refine wpAny_nsSet1 (s:={s with toks:=s.toks + 1}) I.ns fun h' hn2 Wb=> ?_
 obtain ⟨oD,esD,epD,hoD,hdD,hcD⟩:=hn2.count (PySem.Within.cons name v hw)
 refine wpAny_bind (wpAny_lookBehind hoD (by rw [hdD];exact pastItsLine_dict (Nat.le_trans hcD (by rw [List.length_cons];omega))) ?_)
 exact wpAny_pure (h _ ⟨(Wb.2 _ (Ne.symm I.ne)).trans I.obj,hn2,I.ne⟩ Wb)
theorem OB {R:Result→Shared→Prop}{vs:List Value}{kw:List (Str×Value)}(X:K.In s.heap)(hm:PySem.W.makesIn K C=true)
  (hi:PySem.W.findIn K (.ref C) "__init__"=some (some (.ref f)))(hf:PySem.W.typeIn K (.ref f)=some (.type "function"))
  (h:codeAny (model prog w) (A.under (.builtin "type.__call__" ⟨.ref C::vs,kw⟩)) (.call (.ref f) ⟨.ref (s.heap.objs.size + 1)::vs,kw⟩) (PySem.W.InitBack (s.heap.objs.size + 1) R)
   {s with heap:=(s.heap.push PySem.W.emptyDict).push (PySem.W.instObj C s.heap.objs.size)}):
  codeAny (model prog w) A (.call (.ref C) ⟨vs,kw⟩) R s:=by
 obtain ⟨hh,g,d,t,os⟩:=s
 exact PySem.W.make_core (PySem.W.makes_of X hm) (PySem.W.looks_findIn X hi) (fun self=>PySem.W.bind_fn X self hf) (.inl rfl) h
end
def oq (f:Str)(v:V):List (Str×V)→List (Str×V)
 | [] => [(f,v)]
 |(g,x)::r=>if g=f then (g,v)::r else (g,x)::oq f v r
theorem xn (f g:Str)(v:V):∀fs:List (Str×V),(oq f v fs).lookup g=if g=f then some v else fs.lookup g
 | [] =>by
  show List.lookup g [(f,v)] =_
  by_cases h:g=f
  ·have hb:(g==f)=true:=beq_iff_eq.mpr h
   simp only [List.lookup,hb,if_pos h]
  ·have hb:(g==f)=false:=beq_eq_false_iff_ne.mpr h
   simp only [List.lookup,hb,if_neg h]
 |(k,x)::r=>by
  have ih:=xn f g v r
  rw [show oq f v ((k,x)::r)=(if k=f then (k,v)::r else (k,x)::oq f v r) from rfl]
  by_cases hk:k=f
  ·rw [if_pos hk]
   by_cases h:g=k
   ·have hb:(g==k)=true:=beq_iff_eq.mpr h
    simp only [List.lookup,hb,if_pos (h.trans hk)]
   ·have hb:(g==k)=false:=beq_eq_false_iff_ne.mpr h
    simp only [List.lookup,hb,if_neg (fun e:g=f=>h (e.trans hk.symm))]
  ·rw [if_neg hk]
   by_cases h:g=k
   ·have hb:(g==k)=true:=beq_iff_eq.mpr h
    simp only [List.lookup,hb,if_neg (fun e:g=f=>hk (h.symm.trans e))]
   ·have hb:(g==k)=false:=beq_eq_false_iff_ne.mpr h
    simp only [List.lookup,hb]
    exact ih
theorem wo (f:Str)(v:V):∀fs:List (Str×V),f∈(oq f v fs).map (·.1)∧∀g,g∈fs.map (·.1)→g∈(oq f v fs).map (·.1)
 | [] =>⟨by simp [oq],fun g h=>by simp at h⟩
 |(k,x)::r=>by
  obtain ⟨i1,i2⟩:=wo f v r
  rw [show oq f v ((k,x)::r)=(if k=f then (k,v)::r else (k,x)::oq f v r) from rfl]
  by_cases hk:k=f
  ·rw [if_pos hk]
   subst hk
   exact ⟨by simp,fun g h=>by simpa using h⟩
  ·rw [if_neg hk]
   refine ⟨?_,fun g h=> ?_⟩
   ·rw [List.map_cons]
    exact List.mem_cons_of_mem _ i1
   ·rw [List.map_cons] at h ⊢
    rcases List.mem_cons.mp h with e|e
    ·exact List.mem_cons.mpr (.inl e)
    ·exact List.mem_cons_of_mem _ (i2 g e)
theorem xo (f:Str)(v:V):∀fs:List (Str×V),(oq f v fs).length≤fs.length + 1
 | [] =>by simp [oq]
 |(k,x)::r=>by
  have ih:=xo f v r
  rw [show oq f v ((k,x)::r)=(if k=f then (k,v)::r else (k,x)::oq f v r) from rfl]
  by_cases hk:k=f
  ·rw [if_pos hk,List.length_cons,List.length_cons];omega
  ·rw [if_neg hk,List.length_cons,List.length_cons];omega
theorem qV.some_of {v:V}{o:Option Value}(r:qV (some v) o):∃u,o=some u∧RelV v u:=by
 cases o with
 |none=>exact (show False from r).elim
 |some u=>exact ⟨u,rfl,r⟩
theorem Ml {v:V}{u:Value}(r:RelV v u):PySem.W.handedIn u=true:=by
 cases v with
 |bX=>cases (show u=Value.none from r);rfl
 |bl b=>cases (show u=Value.bool b from r);rfl
 |int i=>obtain ⟨t,e⟩:=(show ∃t,u=Value.int i t from r);cases e;rfl
 |str x=>obtain ⟨t,e⟩:=(show ∃t,u=Value.str x t from r);cases e;rfl
 |GF b=>obtain ⟨t,e⟩:=(show ∃t,u=Value.bytes b t from r);cases e;rfl
 |ZJ b=>obtain ⟨t,e⟩:=(show ∃t,u=Value.float b t from r);cases e;rfl
 |ref a=>cases (show u=Value.ref a from r);rfl
 |ty n=>cases (show u=Value.type n from r);rfl
section
variable {P:Program}{w:World}{H H':Hp}{h h':Heap}{a C dx:Addr}{fs Zc:List (Str×V)}
theorem KQ (cx:ox P w H h)(e:H a=some (.ins C dx fs)):∃mA,Mi h a dx C mA∧(∀f,qV (fs.lookup f) (mA f))∧PySem.Within mA (fs.map (·.1))∧fs.length≤1000∧H dx=some (.own a):=by
 obtain ⟨d,z,ne,ob,mA,n,r,q⟩:=(show d7 P w H h a (.ins C dx fs) from cx a _ e)
 exact ⟨mA,⟨ob,n,ne⟩,r,q,z,d⟩
end
structure OC (K:PySem.W.Frag) (C:Addr):Prop where
 pg:PySem.W.plainGet K C Str.empty=true
 hd:PySem.W.hasDictIn K C=true
 po:PySem.W.plainOver K C=true
 sa:PySem.W.findIn K (.ref C) "__setattr__"=some (some (.builtin "object.__setattr__"))
theorem OC.get {K:PySem.W.Frag}{C:Addr}(c:OC K C)(f:Str):PySem.W.plainGet K C f=true:=c.pg
def bK (K:PySem.W.Frag)(C:Addr)(f:Str):Prop:=PySem.W.findIn K (.ref C) f=some none
theorem bK.Z9 {K:PySem.W.Frag}{C:Addr}{f:Str}(n:bK K C f):PySem.W.takerIn K C f=some none:=by
 unfold PySem.W.takerIn
 rw [show PySem.W.findIn K (.ref C) f=some none from n]
 rfl
section
variable {X:Cx}{pins:List (Addr×Obj)}{σ:St}{H:Hp}{s:Shared}{a C dx:Addr}{fs:List (Str×V)}{f:Str}{v:V}{A:Around}{E:Value→Shared→Prop}
theorem zB {b:Bool}{Q:Value→Shared→Prop}(I:Inv X pins σ H s)(e:H a=some (.ins C dx fs))(c:OC X.K C)(n:bK X.K C f)(l:fs.lookup f=some v)
  (h:∀u s',Inv X pins σ H s'→RelV v u→Q u s'):wpAny (model X.prog X.w) A (getAttr (.ref a) f b) Q E s:=by
 obtain ⟨mA,O,r,_,_,_⟩:=KQ I.cx e
 obtain ⟨u,hu,ru⟩:=qV.some_of (v:=v) (o:=mA f) (by rw [←l];exact r f)
 exact get_map I.KD O (c.get f) c.hd n hu (Ml ru) (h u _ (I.tok _) ru)
theorem zC {y:V}{u:Value}{Q:Unit→Shared→Prop}(I:Inv X pins σ H s)(e:H a=some (.ins C dx fs))(c:OC X.K C)(n:bK X.K C f)(hl:fs.length < 1000)(ry:RelV y u)
  (h:∀s',Inv X pins σ (upd H a (.ins C dx (oq f y fs))) s'→Q () s'):wpAny (model X.prog X.w) A (setAttr (.ref a) f u) Q E s:=by
 obtain ⟨mA,O,r,wi,_,ho⟩:=KQ I.cx e
 have hz:(fs.map (·.1)).length≤sizeLine:=by rw [List.length_map,sizeLine_eq];omega
 refine SK I.KD O c.sa c.po n.Z9 c.hd wi hz fun h' O' sb=>h _ ?_
 have hd:∃o,h'.get? dx=some o:=let ⟨o,_,_,e',_⟩:=O'.ns;⟨o,e'⟩
 refine I.write (x:=a) (e:=dx) (by rw [e];exact True.intro) (.inr ho) (fun b q hb z=>(sb.2 b hb).trans z) hd ?_
 refine ⟨by rw [az O.ne];exact ho,?_,O.ne,O'.obj,_,O'.ns,fun g=> ?_,fun g hg=> ?_⟩
 ·have:=xo f y fs;omega
 ·show qV ((oq f y fs).lookup g) (if g=f then some u else mA g)
  rw [xn]
  by_cases q:g=f
  ·rw [if_pos q,if_pos q];exact ry
  ·rw [if_neg q,if_neg q];exact r g
 ·by_cases q:g=f
  ·rw [q];exact (wo f y fs).1
  ·refine (wo f y fs).2 g (wi g fun z=>hg ?_)
   show (if g=f then some u else mA g)=none
   rw [if_neg q];exact z
theorem Inv.made (I:Inv X pins σ H s):Inv X pins σ (upd (upd H s.heap.objs.size (.own (s.heap.objs.size + 1))) (s.heap.objs.size + 1) (.ins C s.heap.objs.size []))
  {s with heap:=(s.heap.push PySem.W.emptyDict).push (PySem.W.instObj C s.heap.objs.size)}:=by
 have e1:(s.heap.push PySem.W.emptyDict).get? s.heap.objs.size=some PySem.W.emptyDict:=Heap.get?_push_size s.heap rfl
 have e2:((s.heap.push PySem.W.emptyDict).push (PySem.W.instObj C s.heap.objs.size)).get? (s.heap.objs.size + 1)=some (PySem.W.instObj C s.heap.objs.size):=by
  have:=Heap.get?_push_size (s.heap.push PySem.W.emptyDict) (o:=PySem.W.instObj C s.heap.objs.size) rfl
  rwa [Heap.size_push] at this
 have e3:(s.heap.push PySem.W.emptyDict).Ns s.heap.objs.size (fun _=>none):=⟨PySem.W.emptyDict,#[],_,e1,rfl,(fun e he=>absurd he (by simp)),fun _=>rfl⟩
 have I1:=I.laid (a:=s.heap.objs.size) (o:= .own (s.heap.objs.size + 1)) (h':=s.heap.push PySem.W.emptyDict) (t':=s.toks) (fun b u q=>Heap.get?_push_of_some _ q) (Nat.le_refl _) ⟨_,e1⟩
 refine I1.laid (a:=s.heap.objs.size + 1) (o:= .ins C s.heap.objs.size []) (t':=s.toks) (fun b u q=>Heap.get?_push_of_some _ q) (Nat.le_of_eq (Heap.size_push _ _)) ?_
 have ne:s.heap.objs.size≠s.heap.objs.size + 1:=Nat.ne_of_lt (Nat.lt_succ_self _)
 refine ⟨by rw [az ne,ab],Nat.zero_le _,ne,e2,fun _=>none,(Heap.Ns1.of_empty e3).at fun o q=>Heap.get?_push_of_some _ q,fun _=>True.intro,fun y hy=>absurd rfl hy⟩
theorem SM {prog:Program}{w:World}{env:Env}{e:Expr}{f:Str}{pos:Pos}{s:Shared}{Q:Value→Shared→Prop}(hb:attributeBase e f env (eval e env)=eval e env)
  (h:wpAny (model prog w) A (eval e env) (fun o s₁=>wpAny (model prog w) A (getAttr o f true) Q E s₁) E s):wpAny (model prog w) A (eval (.Attribute e f pos) env) Q E s:=
 Attribute_any_ h (by rw [arm_eval_Attribute,hb])
end
def aaa (K:PySem.W.Frag)(ta:TE)(f:Str):TE:=fun σ H Q=>ta σ H fun x H1=>∃a C dx fs v,x= .ref a∧H1 a=some (.ins C dx fs)∧OC K C∧bK K C f∧fs.lookup f=some v∧Q v H1
def aid (K:PySem.W.Frag)(ta tv:TE)(f:Str):TS:=fun D σ H=>tv σ H fun y H1=>ta σ H1 fun x H2=>∃a C dx fs,x= .ref a∧H2 a=some (.ins C dx fs)∧OC K C∧bK K C f∧fs.length < 1000∧
 D.nx σ (upd H2 a (.ins C dx (oq f y fs)))
def aab (X:Cx)(op:Operator)(rd:V→V→Hp→VK→Prop):Prop:=
 ∀ (pins:List (Addr×Obj))(s:Shared)(σ:St)(H:Hp)(x y:V)(u v:Value)(Q:VK),Inv X pins σ H s→RelV x u→RelV y v→rd x y H Q→wpAny (model X.prog X.w) X.A (inplaceOp op u v) (EP X pins σ Q) X.xe s
def SN (K:PySem.W.Frag)(ta tv:TE)(rd:V→V→Hp→VK→Prop)(f:Str):TS:=fun D σ H=>ta σ H fun x H1=>∃a C dx fs v,x= .ref a∧H1 a=some (.ins C dx fs)∧OC K C∧bK K C f∧fs.lookup f=some v∧
 tv σ H1 fun y H2=>rd v y H2 fun z H3=>∃dx' Zc,H3 a=some (.ins C dx' Zc)∧Zc.length < 1000∧D.nx σ (upd H3 a (.ins C dx' (oq f z Zc)))
section
variable {X:Cx}{o e value:Expr}{f:Str}{pos pos' zD:Pos}{ta tv:TE}
theorem ai (he:PE X e ta)(hb:attributeBase e f X.env (eval e X.env)=eval e X.env):PE X (.Attribute e f pos) (aaa X.K ta f):=by
 intro pins s σ H Q I h
 refine SM hb (dz (he pins s σ H _ I h) fun u s1 ⟨x,H1,I1,rx,a,C,dx,fs,v,ex,ea,c,n,l,q⟩=> ?_)
 subst ex
 obtain rfl:u=Value.ref a:=rx
 exact zB I1 ea c n l fun u' s2 I2 ru=>⟨v,H1,I2,ru,q⟩
theorem aP (ha:PE X o ta)(hv:PE X value tv)(hs:swapsWith value (some (.Attribute o f pos')) pos.line X.env=pure false):PS X (.Assign [.Attribute o f pos'] value pos) (aid X.K ta tv f):=by
 intro pins s σ H D I h
 refine plainObj_wpAny_Assign_Attribute (dz (hv pins s σ H _ I h) fun u s1 ⟨y,H1,I1,ry,q⟩=>dz (ha pins s1 σ H1 _ I1 q) fun ov s2 ⟨x,H2,I2,rx,a,C,dx,fs,ex,ea,c,n,l,q2⟩=> ?_) hs
 subst ex
 obtain rfl:ov=Value.ref a:=rx
 exact zC I2 ea c n l ry fun s3 I3=>⟨σ,_,I3,q2⟩
theorem Mm {op:Operator}{rd:V→V→Hp→VK→Prop}(ha:PE X o ta)(hv:PE X value tv)(hop:aab X op rd):PS X (.AugAssign (.Attribute o f zD) op value pos) (SN X.K ta tv rd f):=by
 intro pins s σ H D I h
 refine wpAny_AugAssign_AttributeAny (dz (ha pins s σ H _ I h) fun ov s1 ⟨x,H1,I1,rx,a,C,dx,fs,v,ex,ea,c,n,l,q⟩=> ?_)
 subst ex
 obtain rfl:ov=Value.ref a:=rx
 refine zB I1 ea c n l fun u s2 I2 ru=>dz (hv pins s2 σ H1 _ I2 q) fun w3 s3 ⟨y,H2,I3,ry,q3⟩=>dz (hop pins s3 σ H2 v y u w3 _ I3 ru ry q3) fun w4 s4 ⟨z,H3,I4,rz,dx',Zc,ea',l',q4⟩=> ?_
 exact zC I4 ea' c n l' rz fun s5 I5=>⟨σ,_,I5,q4⟩
def aif:V→V→Hp→VK→Prop:=fun x y H Q=>∃i j,x= .int i∧y= .int j∧Q (.int (i + j)) H
theorem Wc:aab X .Add aif:=by
 rintro pins s σ H x y u v Q I rx ry ⟨i,j,rfl,rfl,q⟩
 obtain ⟨t,rfl⟩:=(show ∃t,u=Value.int i t from rx)
 obtain ⟨t',rfl⟩:=(show ∃t',v=Value.int j t' from ry)
 exact PyProof.Rows.iadd_int ⟨.int (i + j),H,I.tok _,⟨_,rfl⟩,q⟩
end
structure gP (k:Nat) (A:Around):Prop where
 hd:A.handled=none
 dp:A.depth + 3 * k + 5 < recursionLimit
 un:A.units + 16 * k + 200 < cLine
theorem gP.mono {j k:Nat}{A:Around}(r:gP k A)(h:j≤k):gP j A:=⟨r.hd,by have:=r.dp;omega,by have:=r.un;omega⟩
theorem gP.deeper {k:Nat}{A:Around}(r:gP (k + 1) A)(env:Env):gP k (A.deeper env):=
 ⟨r.hd,by have:=r.dp;show A.depth + 1 + 3 * k + 5 < _;omega,by have:=r.un;show A.units + 3 + 16 * k + 200 < _;omega⟩
theorem Ji {A:Around}{C:Addr}{us:List Value}{kw:List (Str×Value)}:(A.under (.builtin "type.__call__" ⟨.ref C::us,kw⟩)).depth=A.depth + 1:=by
 first|rfl|simp [Around.under,Code.weight,Code.isCreation,Code.isGuard,Code.isCaller,Code.frames,Code.isFrame,guardIds]
theorem Jj {A:Around}{C:Addr}{us:List Value}{kw:List (Str×Value)}:(A.under (.builtin "type.__call__" ⟨.ref C::us,kw⟩)).units=A.units + 1:=by
 first|rfl|simp [Around.under,Code.cUnits,Code.frames,Code.isFrame]
theorem gP.make {k:Nat}{A:Around}(r:gP (k + 1) A)(C:Addr)(us:List Value)(kw:List (Str×Value)):gP k (A.under (.builtin "type.__call__" ⟨.ref C::us,kw⟩)):=
 ⟨r.hd,by have:=r.dp;rw [Ji];omega,by have:=r.un;rw [Jj];omega⟩
theorem gP.depth {k:Nat}{A:Around}(r:gP k A):A.depth < recursionLimit:=by have:=r.dp;omega
theorem gP.units {k:Nat}{A:Around}(r:gP k A):A.units + 64 < cLine:=by have:=r.un;omega
def SO:TA:=fun _ H Q=>Q [] H
def KR (ta:TE)(tr:TA):TA:=fun σ H Q=>ta σ H fun x H1=>tr σ H1 fun xs H2=>Q (x::xs) H2
section
variable {X:Cx}{e:Expr}{es:List Expr}{te:TE}{t:TA}{pos:Pos}
theorem af:PA X [] SO:=fun _ _ _ _ H Q I h=>Calls.spliced_nil ⟨[],H,I,.nil,h⟩
theorem aa (ha:PE X e te)(hr:PA X es t)(hs:starEach (e::es) X.env=(false,eval e X.env)::starEach es X.env:=by rfl):PA X (e::es) (KR te t):=by
 intro pos pins s σ H Q I h
 rw [hs]
 show wpAny _ _ (spliced ((false,eval e X.env)::backTo pos (starEach es X.env))) _ _ s
 refine Calls.spliced_cons (dz (ha pins s σ H _ I h) fun u s1 ⟨x,H1,I1,r1,q1⟩=> ?_)
 exact dz (hr pos pins s1 σ H1 _ I1 q1) fun us s2 ⟨xs,H2,I2,r2,q2⟩=>⟨x::xs,H2,I2,.cons r1 r2,q2⟩
def aih (t:TA):TE:=fun σ H Q=>t σ H fun xs H1=>xs.length≤sizeLine∧∀p,H1 p=none→Q (.ref p) (upd H1 p (.tup xs))
def aii (t:TA):TE:=fun σ H Q=>t σ H fun xs H1=>xs.length≤sizeLine∧∀p,H1 p=none→Q (.ref p) (upd H1 p (.lst xs))
theorem bZ {x1}(h:PA X es t):PE X (.Tuple es x1 pos) (aih t):=by
 intro pins s σ H Q I hq
 refine wpAny_Tuple_spliced (dz (h pos pins s σ H _ I hq) fun us s1 ⟨xs,H1,I1,r,z,q⟩=>⟨by rw [←r.length];exact z,?_⟩)
 have hf:H1 s1.heap.objs.size=none:=I1.cx.fresh (Nat.le_refl _)
 refine ⟨.ref s1.heap.objs.size,upd H1 s1.heap.objs.size (.tup xs),I1.laid (t':=s1.toks) (fun b u e=>Heap.get?_push_of_some _ e) (Nat.le_refl _) ?_,rfl,q _ hf⟩
 exact ⟨z,us,r,⟨_,Heap.get?_push_size _ rfl,rfl,_,rfl⟩⟩
theorem a3 (h:PA X es t):PE X (.List es pos) (aii t):=by
 intro pins s σ H Q I hq
 refine wpAny_List_spliced (dz (h pos pins s σ H _ I hq) fun us s1 ⟨xs,H1,I1,r,z,q⟩=>⟨by rw [←r.length];exact z,?_⟩)
 have hf:H1 s1.heap.objs.size=none:=I1.cx.fresh (Nat.le_refl _)
 refine ⟨.ref s1.heap.objs.size,upd H1 s1.heap.objs.size (.lst xs),I1.laid (t':=s1.toks) (fun b u e=>Heap.get?_push_of_some _ e) (Nat.le_refl _) ?_,rfl,q _ hf⟩
 exact ⟨z,us,0,r,Heap.get?_push_size _ rfl⟩
end
abbrev Sp:=List V→Hp→VK→XK→Prop
abbrev Jk:=List Env→Hp→Shared→XK→Value→Shared→Prop
structure Jl (P:Program) (w:World) (K:PySem.W.Frag) (mg:Str→Option Value) (base:Heap) (A:Around) (outer:List Env) (s:Shared) (H:Hp):Prop where
 frames:A.frames=some outer
 mod:Mod K mg base
 bs:∀b o,base.get? b=some o→s.heap.get? b=some o∧H b=none
 SH:base.objs.size≤s.heap.objs.size
 yK:s.heap.FunFrames base outer
 V0:∀b∈Ol outer,H b=none
 cx:ox P w H s.heap
 bare:AllBare s.gens
def CE (outer:List Env)(P:Program)(w:World)(H:Hp)(s:Shared)(Q:VK)(u:Value)(s':Shared):Prop:=
 ∃v H',s'.os=s.os∧AllBare s'.gens∧Un (Ol outer) [] H H' s.heap s'.heap∧ox P w H' s'.heap∧RelV v u∧Q v H'
def CR (CX:Jk)(outer:List Env)(P:Program)(w:World)(H:Hp)(s:Shared)(Q:VK)(E:XK)(r:Result)(s':Shared):Prop:=
 match r with
 | .ok (.ret u)=>CE outer P w H s Q u s'
 | .ok _=>False
 | .error e=>CX outer H s E e s'
structure bB (P:Program) (w:World) (K:PySem.W.Frag) (mg:Str→Option Value) (base:Heap) (CX:Jk) (k:Nat) (f:Addr) (fd:FuncData) (ps:List Str) (sp:Sp):Prop where
 len:∀vs H Q E,sp vs H Q E→vs.length=ps.length
 run:∀ (A:Around)(outer:List Env)(s:Shared)(H:Hp)(args:Args)(us:List Value)(vs:List V)(Q:VK)(E:XK),gP k A→Jl P w K mg base A outer s H→BindsTo s fd args (ps.zip us)→Vals vs us→sp vs H Q E→
  codeAny (model P w) A (.call (.ref f) args) (CR CX outer P w H s Q E) s
theorem bB.mono {P:Program}{w:World}{K:PySem.W.Frag}{mg:Str→Option Value}{base:Heap}{CX:Jk}{j k:Nat}{f:Addr}{fd:FuncData}{ps:List Str}{sp:Sp}(F:bB P w K mg base CX j f fd ps sp)(h:j≤k):
  bB P w K mg base CX k f fd ps sp:=⟨F.len,fun A outer s H args us vs Q E hr=>F.run A outer s H args us vs Q E (hr.mono h)⟩
theorem Jl.make {P:Program}{w:World}{K:PySem.W.Frag}{mg:Str→Option Value}{base:Heap}{A:Around}{outer:List Env}{s:Shared}{H:Hp}(e:Jl P w K mg base A outer s H)(C:Addr)(us:List Value)(kw:List (Str×Value)):
  Jl P w K mg base (A.under (.builtin "type.__call__" ⟨.ref C::us,kw⟩)) outer s H:=⟨by first|exact e.frames|(simpa [Around.under,Code.envs,Code.isFrame,pushEnvs] using e.frames),e.mod,e.bs,e.SH,e.yK,e.V0,e.cx,e.bare⟩
section
variable {X:Cx}{pins:List (Addr×Obj)}{σ:St}{H:Hp}{s s':Shared}
theorem Inv.aac (I:Inv X pins σ H s):Jl X.prog X.w X.K X.mg X.base X.A X.stack s H:=
 ⟨I.ok.frames,I.ok.mod,I.bs,Nat.le_trans I.ok.SH I.sz,I.stack,I.KG,I.cx,I.bare⟩
theorem Inv.after {Q:VK}{u:Value}(I:Inv X pins σ H s)(h:CE X.stack X.prog X.w H s Q u s'):EP X pins σ Q u s':=by
 obtain ⟨v,H',os,bare,un,cx,r,q⟩:=h
 obtain ⟨hh,g,d,t,os'⟩:=s'
 obtain rfl:os'=s.os:=os
 exact ⟨v,H',I.call (h':=hh) (g':=g) (d':=d) (t':=t) (ch:= []) un cx bare (fun b z=>absurd z (by simp)),r,q⟩
end
def aad (sp:Sp)(Jm:List V)(E:XK)(t:TA):TE:=fun σ H Q=>t σ H fun vs H1=>sp (vs ++ Jm) H1 Q E
def aae (C:Addr)(sp:Sp)(Jm:List V)(E:XK)(t:TA):TE:=fun σ H Q=>t σ H fun vs H1=>∀x dx,H1 x=none→H1 dx=none→dx≠x→
 sp (.ref x::(vs ++ Jm)) (upd (upd H1 dx (.own x)) x (.ins C dx [])) (fun v H2=>v= .bX∧Q (.ref x) H2) E
def Binds (K:PySem.W.Frag)(fd:FuncData)(ps:List Str)(ds:List Value):Prop:=
 ∀ (s:Shared)(us:List Value),K.In s.heap→(us ++ ds).length=ps.length→BindsTo s fd ⟨us,[]⟩ (ps.zip (us ++ ds))
theorem Binds.all {K:PySem.W.Frag}{fd:FuncData}{ps:List Str}(h:∀us:List Value,us.length=ps.length→bindArgs fd ⟨us,[]⟩=pure (ps.zip us)):Binds K fd ps [] :=fun s us _ hl=>by
 rw [List.append_nil] at hl ⊢
 exact .of_eq (h us hl)
def Passes (CX:Jk)(X:Cx)(E:XK):Prop:=∀ (pins:List (Addr×Obj))(σ:St)(H:Hp)(s:Shared)(e:Value)(s':Shared),Inv X pins σ H s→CX X.stack H s E e s'→X.xe e s'
section
variable {X:Cx}{CX:Jk}{k:Nat}{f C:Addr}{fd:FuncData}{ps:List Str}{sp:Sp}{Jm:List V}{ds:List Value}{E:XK}{x m:Str}{p pos apos:Pos}{e o:Expr}{es:List Expr}{ta:TE}{t:TA}
theorem OD {pins:List (Addr×Obj)}{σ:St}{H:Hp}{s:Shared}{Q:VK}{us:List Value}{vs:List V}(F:bB X.prog X.w X.K X.mg X.base CX k f fd ps sp)(hr:gP k X.A)(hb:Binds X.K fd ps ds)(hd:Vals Jm ds)(hx:Passes CX X E)
  (I:Inv X pins σ H s)(r:Vals vs us)(h:sp (vs ++ Jm) H Q E):wpAny (model X.prog X.w) X.A (call (.ref f) us) (EP X pins σ Q) X.xe s:=by
 have r2:Vals (vs ++ Jm) (us ++ ds):=r.append hd
 have hl:(us ++ ds).length=ps.length:=by rw [←r2.length];exact F.len _ _ _ _ h
 refine wpAny_call (codeAny_mono (F.run X.A X.stack s H ⟨us,[]⟩ (us ++ ds) (vs ++ Jm) Q E hr I.aac (hb s us I.KD hl) r2 h) fun r s' hq=> ?_)
 cases r with
 |error e=>exact hx pins σ H s e s' I hq
 |ok fl=>
  cases fl with
  |ret u=>exact I.after hq
  |next=>exact False.elim hq
  |brk=>exact False.elim hq
  |cont=>exact False.elim hq
theorem aB (F:bB X.prog X.w X.K X.mg X.base CX k f fd ps sp)(hr:gP k X.A)(hg:Gl X x)(hm:X.mg x=some (.ref f))(hk:PySem.W.keepIn X.K (.ref f)=true)(hb:Binds X.K fd ps ds)(hd:Vals Jm ds)(hx:Passes CX X E)
  (ha:PA X (e::es) t)(Wd:(x==("__debug__":Str))=false:=by decide)(he:starEach (e::es) X.env=(false,eval e X.env)::starEach es X.env:=by rfl)(eD:(backTo pos (starEach es X.env)).any (·.1)=false:=by rfl):
  PE X (.Call (.Name x p) (e::es) [] pos) (aad sp Jm E t):=by
 intro pins s σ H Q I h
 refine wpAny_Call_Name_kw (Ei I hg hm ?_ Wd)
 refine PySem.W.callWith_K (h₀:=X.base) I.ok.mod.ZL hk (dz (ha pos pins s σ H _ I h) fun us s1 ⟨vs,H1,I1,r,q⟩=>⟨I1.KD,?_⟩) he eD
 exact OD F hr hb hd hx I1 r q
structure Mk (K:PySem.W.Frag) (C f:Addr):Prop where
 makes:PySem.W.makesIn K C=true
 init:PySem.W.findIn K (.ref C) "__init__"=some (some (.ref f))
 fn:PySem.W.isFn K (.ref f)=true
 kp:PySem.W.keepIn K (.ref C)=true
theorem OE {pins:List (Addr×Obj)}{σ:St}{H:Hp}{s:Shared}{Q:VK}{us:List Value}{vs:List V}(M:Mk X.K C f)(F:bB X.prog X.w X.K X.mg X.base CX k f fd ps sp)(hr:gP (k + 1) X.A)(hb:Binds X.K fd ps ds)(hd:Vals Jm ds)
  (hx:Passes CX X E)(I:Inv X pins σ H s)(r:Vals vs us)
  (h:∀x dx,H x=none→H dx=none→dx≠x→sp (.ref x::(vs ++ Jm)) (upd (upd H dx (.own x)) x (.ins C dx [])) (fun v H2=>v= .bX∧Q (.ref x) H2) E):
  wpAny (model X.prog X.w) X.A (call (.ref C) us) (EP X pins σ Q) X.xe s:=by
 have hq:=h (s.heap.objs.size + 1) s.heap.objs.size (I.cx.fresh (Nat.le_succ _)) (I.cx.fresh (Nat.le_refl _)) (Nat.ne_of_lt (Nat.lt_succ_self _))
 have I2:=Inv.made (C:=C) I
 have r2:Vals (V.ref (s.heap.objs.size + 1)::(vs ++ Jm)) (Value.ref (s.heap.objs.size + 1)::(us ++ ds)):= .cons rfl (r.append hd)
 have hl:(Value.ref (s.heap.objs.size + 1)::us ++ ds).length=ps.length:=by
  have e:=r2.length
  rw [F.len _ _ _ _ hq] at e
  exact e.symm
 refine wpAny_call (OB (f:=f) I.KD M.makes M.init (beq_iff_eq.mp M.fn) (codeAny_mono (F.run _ X.stack _ _ ⟨Value.ref (s.heap.objs.size + 1)::us,[]⟩ (Value.ref (s.heap.objs.size + 1)::(us ++ ds)) _ _ E (hr.make C us [])
  (I2.aac.make C us []) (hb _ (Value.ref (s.heap.objs.size + 1)::us) I2.KD hl) r2 hq) fun r s' Vd=> ?_))
 cases r with
 |error e=>exact hx pins σ _ _ e s' I2 Vd
 |ok fl=>
  cases fl with
  |ret u=>
   obtain ⟨v,H',I3,rv,ev,q3⟩:=I2.after Vd
   subst ev
   exact ⟨rv,⟨V.ref (s.heap.objs.size + 1),H',I3,rfl,q3⟩⟩
  |next=>exact False.elim Vd
  |brk=>exact False.elim Vd
  |cont=>exact False.elim Vd
theorem kP (M:Mk X.K C f)(F:bB X.prog X.w X.K X.mg X.base CX k f fd ps sp)(hr:gP (k + 1) X.A)(hg:Gl X x)(hm:X.mg x=some (.ref C))(hb:Binds X.K fd ps ds)(hd:Vals Jm ds)(hx:Passes CX X E)
  (ha:PA X (e::es) t)(Wd:(x==("__debug__":Str))=false:=by decide)(he:starEach (e::es) X.env=(false,eval e X.env)::starEach es X.env:=by rfl)(eD:(backTo pos (starEach es X.env)).any (·.1)=false:=by rfl):
  PE X (.Call (.Name x p) (e::es) [] pos) (aae C sp Jm E t):=by
 intro pins s σ H Q I h
 refine wpAny_Call_Name_kw (Ei I hg hm ?_ Wd)
 refine PySem.W.callWith_K (h₀:=X.base) I.ok.mod.ZL M.kp (dz (ha pos pins s σ H _ I h) fun us s1 ⟨vs,H1,I1,r,q⟩=>⟨I1.KD,?_⟩) he eD
 exact OE M F hr hb hd hx I1 r q
end
def PK (X:Cx)(kws:List Keyword)(t:TA):Prop:=
 ∀ (pos:Pos)(pins:List (Addr×Obj))(s:Shared)(σ:St)(H:Hp)(Q:List V→Hp→Prop),Inv X pins σ H s→t σ H Q→wpAny (model X.prog X.w) X.A (evalAll ((backToKw pos (keywordEach kws X.env)).map (·.2))) (AP X pins σ Q) X.xe s
section
variable {X:Cx}{CX:Jk}{k:Nat}{f C:Addr}{fd:FuncData}{ps ks:List Str}{sp:Sp}{E:XK}{x m:Str}{p pos apos kpos:Pos}{e o:Expr}{es:List Expr}{kws:List Keyword}{te ta:TE}{t tk:TA}{nm:Option Str}
theorem We:PK X [] SO:=fun _ _ _ _ H Q I h=>wpAny_evalAll_nil ⟨[],H,I,.nil,h⟩
theorem SQ (ha:PE X e te)(hr:PK X kws t):PK X (⟨nm,e,kpos⟩::kws) (KR te t):=by
 intro pos pins s σ H Q I h
 show wpAny _ _ (evalAll ((do let v←eval e X.env;standAt pos;pure v)::(backToKw pos (keywordEach kws X.env)).map (·.2))) _ _ s
 refine wpAny_evalAll_cons (wpAny_bind (dz (ha pins s σ H _ I h) fun u s1 ⟨x,H1,I1,r1,q1⟩=>wpAny_bind (wpAny_standAt (wpAny_pure ?_))))
 exact dz (hr pos pins s1 σ H1 _ I1 q1) fun us s2 ⟨xs,H2,I2,r2,q2⟩=>⟨x::xs,H2,I2,.cons r1 r2,q2⟩
variable {g:List Value→List Value→List Value}{gV:List V→List V→List V}
end
structure aC (N P:List Str) (sc:Scope):Prop where
 kind:sc.kind= .function
 co:sc.isCoroutine=false
 gen:sc.isGenerator=false
 nd:N.Nodup
 pre:N.take P.length=P
 par:∀x∈P,sc.names.lookup x=some .local∨sc.names.lookup x=some .cell
 Wf:∀y∈sc.names,y.2≠ .free
theorem CJ {kindOf:Str→Option NameKind}{x:Str}:∀ {binds:List (Str×Value)}{m:Str→Option Value},(∀v,(x,v) ∉ binds)→bindL kindOf binds m x=m x
 | [],_,_=>rfl
 |(n,v)::r,m,h=>by
  unfold bindL
  rw [CJ fun w hw=>h w (List.mem_cons_of_mem _ hw)]
  split
  ·have:x≠n:=by rintro rfl;exact h v List.mem_cons_self
   simp [this]
  ·rfl
theorem CL {kindOf:Str→Option NameKind}{x:Str}:∀ {binds:List (Str×Value)}{m:Str→Option Value},(∀v,(x,v) ∉ binds)→bindC kindOf binds m x=m x
 | [],_,_=>rfl
 |(n,v)::r,m,h=>by
  unfold bindC
  rw [CL fun w hw=>h w (List.mem_cons_of_mem _ hw)]
  split
  ·rfl
  ·have:x≠n:=by rintro rfl;exact h v List.mem_cons_self
   simp [this]
theorem CM {kindOf:Str→Option NameKind}{x:Str}{v:Value}:∀ {P:List Str}{vs:List Value}{i:Nat}{m:Str→Option Value},P.Nodup→P[i]?=some x→vs[i]?=some v→kindOf x=some .local→
  bindL kindOf (P.zip vs) m x=some v
 | [],_,_,_,_,h,_,_=>by simp at h
 |_::_,[],_,_,_,_,h,_=>by simp at h
 |p::P,w::vs,0,m,nd,h1,h2,hk=>by
  simp at h1 h2;subst h1;subst h2
  show bindL kindOf ((p,w)::P.zip vs) m p=_
  unfold bindL
  rw [CJ fun v hv=>(List.nodup_cons.mp nd).1 (List.of_mem_zip hv).1,if_pos hk]
  simp
 |p::P,w::vs,i + 1,m,nd,h1,h2,hk=>by
  show bindL kindOf ((p,w)::P.zip vs) m x=_
  unfold bindL
  exact CM (i:=i) (List.nodup_cons.mp nd).2 (by simpa using h1) (by simpa using h2) hk
theorem CN {kindOf:Str→Option NameKind}{x:Str}{v:Value}:∀ {P:List Str}{vs:List Value}{i:Nat}{m:Str→Option Value},P.Nodup→P[i]?=some x→vs[i]?=some v→kindOf x≠some .local→
  bindC kindOf (P.zip vs) m x=some v
 | [],_,_,_,_,h,_,_=>by simp at h
 |_::_,[],_,_,_,_,h,_=>by simp at h
 |p::P,w::vs,0,m,nd,h1,h2,hk=>by
  simp at h1 h2;subst h1;subst h2
  show bindC kindOf ((p,w)::P.zip vs) m p=_
  unfold bindC
  rw [CL fun v hv=>(List.nodup_cons.mp nd).1 (List.of_mem_zip hv).1,if_neg hk]
  simp
 |p::P,w::vs,i + 1,m,nd,h1,h2,hk=>by
  show bindC kindOf ((p,w)::P.zip vs) m x=_
  unfold bindC
  exact CN (i:=i) (List.nodup_cons.mp nd).2 (by simpa using h1) (by simpa using h2) hk
def start (N:List Str)(vs:List V):St:=vs.map some ++ List.replicate (N.length - vs.length) none
def Mn (CX:Jk)(P:Program)(w:World)(K:PySem.W.Frag)(mg:Str→Option Value)(base:Heap)(N:List Str)(qual:Str)(scope:Scope)(f:Addr)(cd:Value)(A:Around)(outer:List Env)(s:Shared)(H:Hp)(E:XK):Cx where
 prog:=P
 w:=w
 K:=K
 mg:=mg
 base:=base
 A:=A.deeper (envOfC qual scope s.heap.objs.size f cd)
 N:=N
 CC:=s
 VZ:=H
 env:=envOfC qual scope s.heap.objs.size f cd
 outer:=outer
 stack:=envOfC qual scope s.heap.objs.size f cd::outer
 ex:= []
 calm:=true
 fn:=fun _=>true
 pn:= []
 xe:=fun e s'=>wpAny (model P w) (A.deeper (envOfC qual scope s.heap.objs.size f cd)) (leaving (envOfC qual scope s.heap.objs.size f cd) e) (fun _ s''=>CX outer H s E e s'') (fun e' s''=>CX outer H s E e' s'') s'
theorem GK {sc:Scope}{n:Nat}{x:Str}(h:sc.names.lookup x=some .cell):∃c,(cellsFrom n sc.names []).lookup x=some c:=by
 have q:=PySem.W.cellsFrom_some sc.names n [] (.inl h)
 exact Option.isSome_iff_exists.mp q
theorem Mo {CX:Jk}{P:Program}{w:World}{K:PySem.W.Frag}{mg:Str→Option Value}{base:Heap}{N ps:List Str}{qual:Str}{scope:Scope}{f:Addr}{cd:Value}{A:Around}{outer:List Env}{s s1:Shared}{H:Hp}{E:XK}{us:List Value}{vs:List V}
  (S:aC N ps scope)(hd:A.handled=none)(e0:Jl P w K mg base A outer s H)(hl:vs.length=ps.length)(r:Vals vs us)
  (x:InCallC s s.heap.objs.size (bindL (envOfC qual scope s.heap.objs.size f cd).kindOf (ps.zip us) fun _=>none) (cellsFrom (s.heap.objs.size + 1) scope.names []) (bindC (envOfC qual scope s.heap.objs.size f cd).kindOf (ps.zip us) fun _=>none) s1):
  Inv (Mn CX P w K mg base N qual scope f cd A outer s H E) [] (start N vs) H s1:=by
 have eD:ps.length≤N.length:=by have:=congrArg List.length S.pre;rw [List.length_take] at this;omega
 obtain ⟨h1,tk,rfl,hk⟩:=x.done
 have Zg:∀b:Addr,b ∉ (Mn CX P w K mg base N qual scope f cd A outer s H E).ex:=fun b z=>absurd (show b∈([] :List Addr) from z) (by simp)
 refine ⟨⟨e0.mod,S.kind,rfl,rfl,Nat.le_refl _,fun y z c h1 h2=> ?_,fun y hy=> ?_,fun y c _ h=> ?_,fun _=>hd,Around.frames_deeper e0.frames,.inr ⟨rfl,rfl⟩,fun b z=>absurd z (Zg b),e0.bs,e0.SH,fun b _ _=>Zg b,fun b z=>absurd z (Zg b),e0.yK,e0.V0⟩,
  rfl,e0.bare,Un.kept hk,⟨_,x.toInCall.ns,fun i y v h1 h2 h3=> ?_⟩,fun y c h=>⟨_,x.cell y c h⟩,e0.cx.fresh (Nat.le_refl _),fun y c h=> ?_,fun p hp=>absurd (show p∈([] :List (Addr×Obj)) from hp) (by simp),e0.cx.kept hk,?_⟩
 ·exact name_of_addr x.apart (PySem.mem_of_lookup h1) (PySem.mem_of_lookup h2)
 ·have hy:scope.names.lookup y=some .cell∨scope.names.lookup y=some .free:=hy
  rcases hy with hy|hy
  ·exact GK hy
  ·exact absurd rfl (S.Wf _ (PySem.mem_of_lookup hy))
 ·exact Nat.le_of_lt (x.above y c (PySem.mem_of_lookup h))
 ·have hi:i < vs.length:=by
   unfold start at h2
   by_cases hi:i < vs.length
   ·exact hi
   ·rw [List.getElem?_append_right (by simpa using hi)] at h2
    rw [List.getElem?_replicate] at h2
    split at h2 <;>cases h2
  have ha:vs[i]?=some v:=by
   unfold start at h2
   rw [List.getElem?_append_left (by simpa using hi),List.getElem?_map] at h2
   cases e:vs[i]? with
   |none=>rw [e] at h2;cases h2
   |some a=>rw [e] at h2;cases h2;rfl
  obtain ⟨u,hu,rv⟩:=r.get ha
  have hp:ps[i]?=some y:=by
   rw [←S.pre,List.getElem?_take_of_lt (by omega)];exact h1
  have ndP:ps.Nodup:=by rw [←S.pre];exact S.nd.sublist (List.take_sublist _ _)
  refine ⟨u,rv,?_⟩
  rcases S.par y (List.mem_of_getElem? hp) with k|k
  ·exact .inl ⟨k,CM ndP hp hu k⟩
  ·obtain ⟨c,e⟩:=GK (n:=s.heap.objs.size + 1) k
   refine .inr ⟨.inl k,c,e,?_⟩
   have q:=x.cell y c e
   rw [CN ndP hp hu (by show scope.names.lookup y≠_;rw [k];decide)] at q
   exact q
 ·exact e0.cx.fresh (Nat.le_of_lt (x.above y c (PySem.mem_of_lookup h)))
 ·unfold start
  show _=N.length
  rw [List.length_append,List.length_map,List.length_replicate]
  omega
theorem aag {CX:Jk}{P:Program}{w:World}{K:PySem.W.Frag}{mg:Str→Option Value}{base:Heap}{k:Nat}{f:Addr}{name qual:Str}{params:Arguments}{body:List Stmt}{scope:Scope}{dV kV doc pm d4 ct oc:Value}{an od:Option Addr}
  {SR:Array (Option Value)}{N ps:List Str}{sp:Sp}(lk:K.lookup f=some ⟨oc,od,.func (PySem.W.fnOf name qual params body scope dV kV doc pm an d4 ct),SR⟩)(tD:PySem.W.codeIn K d4 qual=true)(S:aC N ps scope)
  (len:∀vs H Q E,sp vs H Q E→vs.length=ps.length)
  (OF:∀ (A:Around)(outer:List Env)(s:Shared)(H:Hp)(vs:List V)(Q:VK)(E:XK),gP k (A.deeper (envOfC qual scope s.heap.objs.size f d4))→sp vs H Q E→
   ∃t,Md (Mn CX P w K mg base N qual scope f d4 A outer s H E) body t∧t {nx:=fun _ H'=>Q .bX H',rt:=Q} (start N vs) H):
  bB P w K mg base CX (k + 1) f (PySem.W.fnOf name qual params body scope dV kV doc pm an d4 ct) ps sp:=by
 refine ⟨len,fun A outer s H args us vs Q E hr e0 hb r Oc=> ?_⟩
 have hl:=len _ _ _ _ Oc
 have KX:K.In s.heap:=e0.mod.ZL.keeps fun b o e=>(e0.bs b o e).1
 have lim:s.heap.NoLimit:=e0.mod.nolimit.keeps fun b o e=>(e0.bs b o e).1
 have aah:∀y∈ps.zip us,scope.names.lookup y.1=some .local∨(scope.names.lookup y.1=some .cell∧((cellsFrom (s.heap.objs.size + 1) scope.names []).lookup y.1).isSome=true):=fun ⟨n,v⟩ hy=>by
  rcases S.par n (List.of_mem_zip hy).1 with q|q
  ·exact .inl q
  ·exact .inr ⟨q,PySem.W.cellsFrom_some _ _ _ (.inl q)⟩
 refine codeAny_call_function hr.depth (KX _ _ lk) rfl S.co S.gen rfl (PySem.W.codeRec_of KX tD) (hb _ _ _ _ ?_)
 refine wpAny_newFunctionEnv_cells S.kind aah fun env he s1 x=> ?_
 subst he
 refine ⟨lim.keeps x.toInCall.keep,codeAny_func ?_⟩
 obtain ⟨t,ht,hq⟩:=OF A outer s H vs Q E (hr.deeper _) Oc
 have I:Inv (Mn CX P w K mg base N qual scope f d4 A outer s H E) [] (start N vs) H s1:=Mo S hr.hd e0 hl r x
 refine wpAny_mono (ht [] s1 (start N vs) H _ I hq) (fun fl s' hs=> ?_) fun e s' hs=>hs
 have fin:∀ {σ':St}{H':Hp}{v:V}{u:Value},Inv (Mn CX P w K mg base N qual scope f d4 A outer s H E) [] σ' H' s'→RelV v u→Q v H'→CE outer P w H s Q u s':=
  fun {σ' H' v u} J rv q=>⟨v,H',J.os,J.bare,J.base,J.cx,rv,q⟩
 cases fl with
 |ret u=>
  obtain ⟨v,σ',H',J,rv,q⟩:=hs
  exact fin J rv q
 |next=>
  obtain ⟨σ',H',J,q⟩:=hs
  exact fin (v:=V.bX) (u:=Value.none) J rfl q
 |brk=>
  obtain ⟨_,_,_,q⟩:=hs
  exact False.elim q
 |cont=>
  obtain ⟨_,_,_,q⟩:=hs
  exact False.elim q
section
variable {X:Cx}{x:Str}{p pos:Pos}{e:Expr}{es:List Expr}{t:TA}{id T:String}{r:List V→Hp→VK→Prop}
def tCB (r:List V→Hp→VK→Prop)(t:TA):TE:=fun σ H Q=>t σ H fun vs H1=>r vs H1 Q
theorem a6 (hc:kO X (.builtin id) r)(hg:Gl X x)(hm:X.mg x=none)(hv:bootBuiltins x=some (.builtin id))(ha:PA X (e::es) t)(hn:x≠"__name__":=by decide)(Wd:(x==("__debug__":Str))=false:=by decide)
  (he:starEach (e::es) X.env=(false,eval e X.env)::starEach es X.env:=by rfl)(eD:(backTo pos (starEach es X.env)).any (·.1)=false:=by rfl):PE X (.Call (.Name x p) (e::es) [] pos) (tCB r t):=by
 intro pins s σ H Q I h
 refine wpAny_Call_Name_kw (wk I hg hm hv ?_ hn Wd)
 exact PyProof.Rows.callWith_builtin1 (dz (ha pos pins s σ H _ I h) fun us s1 ⟨vs,H1,I1,r1,q1⟩=>hc pins s1 σ H1 vs us Q I1 r1 q1) he eD
theorem CO (hc:kO X (.type T) r)(hg:Gl X x)(hm:X.mg x=none)(hv:bootBuiltins x=some (.type T))(ha:PA X (e::es) t)(hn:x≠"__name__":=by decide)(Wd:(x==("__debug__":Str))=false:=by decide)
  (he:starEach (e::es) X.env=(false,eval e X.env)::starEach es X.env:=by rfl)(eD:(backTo pos (starEach es X.env)).any (·.1)=false:=by rfl):PE X (.Call (.Name x p) (e::es) [] pos) (tCB r t):=by
 intro pins s σ H Q I h
 refine wpAny_Call_Name_kw (wk I hg hm hv ?_ hn Wd)
 exact PyProof.Rows.callWith_type1 (dz (ha pos pins s σ H _ I h) fun us s1 ⟨vs,H1,I1,r1,q1⟩=>hc pins s1 σ H1 vs us Q I1 r1 q1) he eD
end
end L2
namespace HT
open PySem PyProof.Rows
section
variable {prog:Program}{w:World}{A:Around}{E:Value→Shared→Prop}{s:Shared}
theorem SU {t b:Addr}{vs ws:List Value}{Q:Value→Shared→Prop}(ht:IsTup s.heap t vs.toArray)(hb:IsTup s.heap b ws.toArray)(hv:vs≠ [])
  (h1:ws= [] →Q (.ref t) s)(h2:ws≠ [] →Q (.ref s.heap.objs.size) {s with heap:=s.heap.push {cls:= .type "tuple",data:= .seq (vs ++ ws).toArray} })
  (hsz:vs.length + ws.length≤sizeLine):wpAny (model prog w) A (binaryOp .Add (.ref t) (.ref b)) Q E s:=by
 obtain ⟨⟨cls,dd,data,sl⟩,ho,hc,n,hd⟩:=id ht
 obtain ⟨⟨atD,dd2,data2,sl2⟩,ho2,hc2,n2,hd2⟩:=id hb
 simp only at hc hd hc2 hd2
 subst hc hd hc2 hd2
 have e:vs.toArray ++ ws.toArray=(vs ++ ws).toArray:=by simp
 by_cases hw:ws= []
 ·exact concat_meets ⟨_,ho,rfl⟩ ⟨_,ho2,rfl⟩ noFill_tuple_add seq_tuple_add PySem.F.slot_tuple_add PySem.F.entry_tuple_add (PySem.F.args_tuple_add_2 _ _)
   (tuple_addW1 t b vs.toArray ws.toArray n n2 dd dd2 sl sl2 (by simpa using hv) (by simp [hw])) ⟨ho,ho2,h1 hw⟩
 ·refine concat_meets ⟨_,ho,rfl⟩ ⟨_,ho2,rfl⟩ noFill_tuple_add seq_tuple_add PySem.F.slot_tuple_add PySem.F.entry_tuple_add (PySem.F.args_tuple_add_2 _ _)
   (tuple_addW2 t b vs.toArray ws.toArray n n2 dd dd2 sl sl2 (by simpa using hv) (by simpa using hw) (by rw [List.size_toArray,List.size_toArray];exact hsz)) ⟨ho,ho2,?_⟩
  rw [e]
  exact h2 hw
def ig (n d:Nat):Option Int→Nat
 |none=>d
 |some v=>if v < 0 then (v + (n:Int)).toNat else min v.toNat n
theorem OG (n d:Nat):ig n d none=d:=rfl
theorem yZ (n d k:Nat):ig n d (some (k:Int))=min k n:=by
 show (if (k:Int) < 0 then ((k:Int) + (n:Int)).toNat else min (k:Int).toNat n)=min k n
 rw [if_neg (by omega),Int.toNat_natCast]
theorem Wg (n d:Nat)(hd:d≤n)(o:Option Int):ig n d o≤n:=by
 cases o with
 |none=>exact hd
 |some v=>
  show (if v < 0 then (v + (n:Int)).toNat else min v.toNat n)≤n
  by_cases hv:v < 0
  ·rw [if_pos hv];omega
  ·rw [if_neg hv];exact Nat.min_le_right _ _
theorem KS (v:Int)(n d:Nat):(if v < 0 then max (v + (n:Int)) 0 else min v (n:Int))=((ig n d (some v):Nat):Int):=by
 show (if v < 0 then max (v + (n:Int)) 0 else min v (n:Int))=(((if v < 0 then (v + (n:Int)).toNat else min v.toNat n):Nat):Int)
 by_cases hv:v < 0
 ·simp only [if_pos hv];omega
 ·simp only [if_neg hv];omega
theorem Jn (lo hi:Option Int)(n:Nat):Builtin.Slice.sliceAdjust lo hi 1 (n:Int)=(((ig n 0 lo:Nat):Int),((ig n n hi:Nat):Int)):=by
 have h1:¬ ((1:Int) < 0):=by omega
 unfold Builtin.Slice.sliceAdjust
 simp only [h1,if_false]
 refine Prod.ext ?_ ?_
 ·cases lo with
  |none=>rfl
  |some v=>exact KS v n 0
 ·cases hi with
  |none=>rfl
  |some v=>exact KS v n n
theorem Jo (i j:Nat):Builtin.Slice.slicePlaces (i:Int) (j:Int) 1=j - i:=by
 unfold Builtin.Slice.slicePlaces
 have h1:(1:Int) >0:=by omega
 simp only [h1,if_true,Int.ediv_one]
 split <;>omega
theorem zE {v:Value}{o:Option Int}{Q:Option Int→Shared→Prop}(p:IsPart v o)(h:Q o s):wpAny (model prog w) A (Builtin.Slice.slicePartIndex v) Q E s:=by
 cases p with
 |none=>exact slicePart_none h
 |int i t=>exact slicePart_int h
theorem wq {sl:Addr}{vl vu:Value}{lo hi:Option Int}{n:Nat}{Q:Int×Int×Nat→Shared→Prop}(hs:s.heap.IsSliceOf sl vl vu .none)(pl:IsPart vl lo)(pu:IsPart vu hi)
  (h:Q (((ig n 0 lo:Nat):Int),1,ig n n hi - ig n 0 lo) s):wpAny (model prog w) A (Builtin.Slice.sliceApplied (.ref sl) (pure (n:Int))) Q E s:=by
 obtain ⟨os,hos,Ve,Zh⟩:=id hs
 unfold Builtin.Slice.sliceApplied Builtin.Slice.sliceFields
 refine wpAny_bind (wpAny_bind (wpAny_field hos Zh (x:=vl) rfl (wpAny_bind (wpAny_field hos Zh (x:=vu) rfl (wpAny_bind (wpAny_field hos Zh (x:= .none) rfl (wpAny_pure ?_)))))))
 refine wpAny_bind (slicePart_none ?_)
 show wpAny _ _ (if ((1:Int)==0)=true then _ else _) _ _ s
 rw [if_neg (by decide)]
 refine wpAny_bind (zE pl (wpAny_bind (zE pu (wpAny_bind (wpAny_pure ?_)))))
 show wpAny _ _ (match Builtin.Slice.sliceAdjust lo hi 1 (n:Int) with|(lo,hi)=>pure (lo,(1:Int),Builtin.Slice.slicePlaces lo hi 1)) _ _ s
 rw [Jn lo hi n]
 show wpAny _ _ (pure (((ig n 0 lo:Nat):Int),(1:Int),Builtin.Slice.slicePlaces ((ig n 0 lo:Nat):Int) ((ig n n hi:Nat):Int) 1)) _ _ s
 rw [Jo]
 exact wpAny_pure h
theorem OH (xs:Array Value)(i k:Nat):((List.range k).filterMap fun (m:Nat)=>xs[((i:Int) + (m:Int) * 1).toNat]?).toArray=((xs.toList.drop i).take k).toArray:=by
 have e:(fun (m:Nat)=>xs[((i:Int) + (m:Int) * 1).toNat]?)=fun m=>xs[i + m]?:=by
  funext m
  have:((i:Int) + (m:Int) * 1).toNat=i + m:=by omega
  rw [this]
 rw [e]
 have:=pick_run xs i k
 rw [List.filterMap_map] at this
 have e2:((fun x=>xs[x]?) ∘ fun x=>i + x)=fun m=>xs[i + m]?:=rfl
 rw [e2] at this
 rw [this]
theorem tJ {t sl:Addr}{items:Array Value}{vl vu:Value}{lo hi:Option Int}{Q:Value→Shared→Prop}(ht:IsTup s.heap t items)(hs:s.heap.IsSliceOf sl vl vu .none)(pl:IsPart vl lo)(pu:IsPart vu hi)
  (hw:¬ (ig items.size 0 lo=0∧ig items.size items.size hi=items.size))
  (h:Q (.ref s.heap.objs.size) {s with heap:=s.heap.push {cls:= .type "tuple",data:= .seq ((items.toList.drop (ig items.size 0 lo)).take (ig items.size items.size hi - ig items.size 0 lo)).toArray} })
  (hsz:items.size≤sizeLine):wpAny (model prog w) A (getItem (.ref t) (.ref sl)) Q E s:=by
 have KU:sizeOk (.seq ((items.toList.drop (ig items.size 0 lo)).take (ig items.size items.size hi - ig items.size 0 lo)).toArray):=by
  show ((items.toList.drop (ig items.size 0 lo)).take (ig items.size items.size hi - ig items.size 0 lo)).toArray.size≤sizeLine
  rw [List.size_toArray,List.length_take,List.length_drop,Array.length_toList]
  omega
 have hj:ig items.size items.size hi≤items.size:=Wg _ _ (Nat.le_refl _) hi
 obtain ⟨os,hos,Ve,Zh⟩:=id hs
 have hTs:s.TypeIs (.ref sl) "slice":=⟨os,hos,Ve⟩
 unfold getItem
 try with_reducible refine wpAny_holding ?_
 first|refine wpAny_bind (wpAny_pure ?_)|skip
 refine wpAny_bind (wpAny_sequenceKey ht.typeIs (by decide) ?_)
 refine wpAny_bind (wpAny_callSpecial?_slot (name:=Str.ofString "__getitem__") ht.typeIs PyProof.Rows.slot_tuple_getitem
  (wpAny_call_entry PyProof.Rows.slot_tuple_getitem ht.typeIs entry_tuple_getitem ?_ (args_tuple_getitem _ _)))
 show wpAny _ _ (Builtin.Tuple.tupleItemsOf (.ref t) >>=_) _ _ s
 refine wpAny_bind (tupleItemsOf_ ht ?_)
 refine wpAny_bind (wpAny_typeOf hTs ?_)
 rw [if_pos (by decide)]
 refine wpAny_bind (wq hs pl pu ?_)
 have Vf:¬ ((((ig items.size 0 lo:Nat):Int)==0 && (1:Int)==1 && (ig items.size items.size hi - ig items.size 0 lo)==items.size)=true):=by
  intro q
  rw [Bool.and_eq_true,Bool.and_eq_true] at q
  have q1:((ig items.size 0 lo:Nat):Int)=0:=eq_of_beq q.1.1
  have q2:ig items.size items.size hi - ig items.size 0 lo=items.size:=eq_of_beq q.2
  exact hw ⟨by omega,by omega⟩
 show wpAny _ _ (if (((ig items.size 0 lo:Nat):Int)==0 && (1:Int)==1 && (ig items.size items.size hi - ig items.size 0 lo)==items.size)=true then _ else _) _ _ s
 rw [if_neg Vf,OH]
 first
  |exact wpAny_bind (m:=Builtin.Tuple.tupleExact _) (wpAny_newObj_type (wpAny_pure ⟨_,rfl,wpAny_pure h⟩) KU)
  |exact wpAny_bind (m:=Builtin.Tuple.tupleExact _) (wpAny_newObj_type (wpAny_bind (wpAny_pure (wpAny_pure ⟨_,rfl,wpAny_pure h⟩))) KU)
  |exact wpAny_bind (wpAny_bind (m:=Builtin.Tuple.tupleExact _) (wpAny_newObj_type (wpAny_pure (wpAny_pure ⟨_,rfl,wpAny_pure h⟩)) KU))
  |exact wpAny_bind (wpAny_bind (m:=Builtin.Tuple.tupleExact _) (wpAny_newObj_type (wpAny_pure ⟨_,rfl,wpAny_pure h⟩) KU))
end
end HT
namespace L2
open PySem PySem.Spec PyProof.Rows
abbrev TO:=St→Hp→(Option Int→Hp→Prop)→Prop
def PO (X:Cx)(e:Option Expr)(t:TO):Prop:=
 ∀ (pins:List (Addr×Obj))(s:Shared)(σ:St)(H:Hp)(Q:Option Int→Hp→Prop),Inv X pins σ H s→t σ H Q→
  wpAny (model X.prog X.w) X.A (evalPart e X.env) (fun u s'=>∃o H',Inv X pins σ H' s'∧IsPart u o∧Q o H') X.xe s
def SV:TO:=fun _ H Q=>Q none H
def aak (t:TE):TO:=fun σ H Q=>t σ H fun x H1=>∃i,x= .int i∧Q (some i) H1
section
variable {X:Cx}{e:Expr}{te:TE}{lo hi:Option Expr}{tl th:TO}{pos p2:Pos}
theorem El:PO X none SV:=by
 intro pins s σ H Q I h
 rw [evalPart_none]
 exact wpAny_pure ⟨none,H,I,.none,h⟩
theorem tK (h:PE X e te):PO X (some e) (aak te):=by
 intro pins s σ H Q I hw
 rw [evalPart_some]
 refine dz (h pins s σ H _ I hw) fun u s1 ⟨x,H1,I1,r1,q1⟩=> ?_
 obtain ⟨i,rfl,q⟩:=q1
 obtain ⟨t,rfl⟩:=r1
 exact ⟨some i,H1,I1,.int i t,q⟩
def SlR (X:Cx)(r:V→Option Int→Option Int→Hp→VK→Prop):Prop:=
 ∀ (pins:List (Addr×Obj))(s:Shared)(σ:St)(H:Hp)(x:V)(v vl vu:Value)(lo hi:Option Int)(sl:Addr)(Q:VK),Inv X pins σ H s→RelV x v→s.heap.IsSliceOf sl vl vu .none→IsPart vl lo→IsPart vu hi→r x lo hi H Q→
  ∃T id,typeLookup (.type T) "__getitem__"=pure (some (.builtin id))∧s.TypeIs v T∧wpAny (model X.prog X.w) X.A (getItem v (.ref sl)) (EP X pins σ Q) X.xe s
def tSl (r:V→Option Int→Option Int→Hp→VK→Prop)(te:TE)(tl th:TO):TE:=fun σ H Q=>te σ H fun x H1=>tl σ H1 fun l H2=>th σ H2 fun u H3=>r x l u H3 Q
theorem tL {r:V→Option Int→Option Int→Hp→VK→Prop}(hr:SlR X r)(he:PE X e te)(hl:PO X lo tl)(hu:PO X hi th):PE X (.Subscript e (.Slice lo hi none p2) pos) (tSl r te tl th):=by
 intro pins s σ H Q I h
 refine Subscript_ (dz (he pins s σ H _ I h) fun v s1 ⟨x,H1,I1,r1,q1⟩=> ?_)
 refine wpAny_Slice (dz (hl pins s1 σ H1 _ I1 q1) fun vl s2 ⟨l,H2,I2,pl,q2⟩=>dz (hu pins s2 σ H2 _ I2 q2) fun vu s3 ⟨u,H3,I3,pu,q3⟩=> ?_)
 rw [evalPart_none]
 refine wpAny_pure ?_
 have I4:Inv X pins σ H3 {s3 with heap:=s3.heap.push {cls:= .type "slice",data:= .fields #[vl,vu,.none] } }:=I3.kept (t':=s3.toks) fun b ob q=>Heap.get?_push_of_some _ q
 obtain ⟨T,id,hT,ht,hg⟩:=hr pins {s3 with heap:=s3.heap.push {cls:= .type "slice",data:= .fields #[vl,vu,.none] } } σ H3 x v vl vu l u s3.heap.objs.size Q I4 r1 (Heap.IsSliceOf.new ..) pl pu q3
 show wpAny (model X.prog X.w) X.A (subscriptTail e (.Slice lo hi none p2) v (.ref s3.heap.objs.size)) (EP X pins σ Q) X.xe {s3 with heap:=s3.heap.push {cls:= .type "slice",data:= .fields #[vl,vu,.none] } }
 exact tail_any (ops:= [.ref s3.heap.objs.size,v]) ht hT hg (by with_unfolding_all rfl)
def sS (xs:List V)(lo hi:Option Int):List V:=(xs.drop (HT.ig xs.length 0 lo)).take (HT.ig xs.length xs.length hi - HT.ig xs.length 0 lo)
theorem xp (xs:List V)(lo hi:Option Int):(sS xs lo hi).length≤xs.length:=by
 unfold sS
 rw [List.length_take,List.length_drop]
 omega
def ail (K:PySem.W.Frag):V→Option Int→Option Int→Hp→VK→Prop:=fun x lo hi H Q=>∃a xs,x= .ref a∧bJ K H a xs∧
 ¬ (HT.ig xs.length 0 lo=0∧HT.ig xs.length xs.length hi=xs.length)∧∀p,H p=none→Q (.ref p) (upd H p (.tup (sS xs lo hi)))
theorem Wh:SlR X (ail X.K):=by
 intro pins s σ H x v vl vu lo hi sl Q I rx hs pl pu h
 obtain ⟨a,xs,rfl,hx,hw,q⟩:=h
 cases rx
 obtain ⟨a7,r,ht,hz⟩:=I.tuple hx
 have hlen:a7.toArray.size=xs.length:=by rw [List.size_toArray];exact r.length.symm
 refine ⟨"tuple",_,PyProof.Rows.slot_tuple_getitem.lookup,ht.typeIs,?_⟩
 refine HT.tJ ht hs pl pu (by rw [hlen];exact hw) ?_ (by rw [hlen];exact hz)
 rw [hlen]
 refine ⟨.ref s.heap.objs.size,_,I.laid (t':=s.toks) (o:= .tup (sS xs lo hi)) (fun b ob q=>Heap.get?_push_of_some _ q) (Nat.le_refl _) ?_,rfl,q _ (I.cx.fresh (Nat.le_refl _))⟩
 exact ⟨Nat.le_trans (xp xs lo hi) hz,_,(r.drop (HT.ig xs.length 0 lo)).take (HT.ig xs.length xs.length hi - HT.ig xs.length 0 lo),IsTup.new _ _⟩
def aal (K:PySem.W.Frag):R2:=fun x y H Q=>∃a b xs ys,x= .ref a∧y= .ref b∧bJ K H a xs∧bJ K H b ys∧xs≠ [] ∧xs.length + ys.length≤sizeLine∧
 (ys= [] →Q (.ref a) H)∧(ys≠ [] →∀p,H p=none→Q (.ref p) (upd H p (.tup (xs ++ ys))))
theorem Vals.Em {xs:List V}{us:List Value}(r:Vals xs us):us= [] ↔ xs= [] :=by
 cases r with
 |nil=>simp
 |cons _ _=>simp
theorem KW:yM X (binaryOp .Add) (aal X.K):=by
 intro pins s σ H x y v u Q I rx ry h
 obtain ⟨a,b,xs,ys,rfl,rfl,ha,hb,hx,hz,q1,q2⟩:=h
 cases rx
 cases ry
 obtain ⟨a7,r1,p1,_⟩:=I.tuple ha
 obtain ⟨yN,r2,p2,_⟩:=I.tuple hb
 refine HT.SU p1 p2 (fun z=>hx (r1.Em.mp z)) (fun z=>⟨.ref a,H,I,rfl,q1 (r2.Em.mp z)⟩) (fun z=> ?_) (by rw [←r1.length,←r2.length];exact hz)
 refine ⟨.ref s.heap.objs.size,_,I.laid (t':=s.toks) (o:= .tup (xs ++ ys)) (fun b ob q=>Heap.get?_push_of_some _ q) (Nat.le_refl _) ?_,rfl,q2 (fun w=>z (r2.Em.mpr w)) _ (I.cx.fresh (Nat.le_refl _))⟩
 exact ⟨by rw [List.length_append];exact hz,_,r1.append r2,IsTup.new _ _⟩
end
def Od (n:Nat)(i:Int):Option Nat:=if 0≤i then (if i < n then some i.toNat else none) else if -(n:Int)≤i then some (i + n).toNat else none
def GL {α:Type}(xs:List α)(i:Int):Option α:=(Od xs.length i).bind fun j=>xs[j]?
theorem En {n:Nat}{i:Int}{j:Nat}(h:Od n i=some j):seqIndex? i n=some j∧j < n∧ -(n:Int)≤i∧i < n:=by
 unfold Od at h
 by_cases h0:0≤i
 ·rw [if_pos h0] at h
  by_cases h1:i < n
  ·rw [if_pos h1] at h
   have e:i.toNat=j:=Option.some.inj h
   exact ⟨by rw [seqIndex_of h0 h1,e],by omega,by omega,h1⟩
  ·rw [if_neg h1] at h;cases h
 ·rw [if_neg h0] at h
  by_cases h1: -(n:Int)≤i
  ·rw [if_pos h1] at h
   have e:(i + n).toNat=j:=Option.some.inj h
   exact ⟨by rw [seqIndex_neg (by omega) h1,e],by omega,h1,by omega⟩
  ·rw [if_neg h1] at h;cases h
theorem KY {α:Type}{xs:List α}{i:Int}{v:α}(h:GL xs i=some v):∃j,seqIndex? i xs.length=some j∧xs[j]?=some v∧j < xs.length∧ -(xs.length:Int)≤i∧i < xs.length:=by
 unfold GL at h
 cases e:Od xs.length i with
 |none=>rw [e] at h;cases h
 |some j=>
  rw [e] at h
  obtain ⟨h1,h2,h3,h4⟩:=En e
  exact ⟨j,h1,h,h2,h3,h4⟩
theorem iJ {α:Type}{xs:List α}{j:Nat}{v:α}(h:xs[j]?=some v):GL xs (j:Int)=some v:=by
 have hj:j < xs.length:=(List.getElem?_eq_some_iff.mp h).1
 have e:Od xs.length (j:Int)=some j:=by
  unfold Od
  rw [if_pos (by omega),if_pos (by omega)];simp
 unfold GL;rw [e];exact h
def SW (b:Expr):Prop:=∀o i,subscripted b false o i=operate [o,i] (getItem o i)
def IxR (X:Cx)(r:R2):Prop:=
 ∀ (value slice:Expr)(pins:List (Addr×Obj))(s:Shared)(σ:St)(H:Hp)(x y:V)(v u:Value)(Q:VK),Inv X pins σ H s→RelV x v→RelV y u→r x y H Q→
  subscripted slice false v u=operate [v,u] (getItem v u)→wpAny (model X.prog X.w) X.A (subscriptTail value slice v u) (EP X pins σ Q) X.xe s
def MtR (X:Cx)(id:String)(r:V→List V→Hp→VK→Prop):Prop:=
 ∀ (pins:List (Addr×Obj))(s:Shared)(σ:St)(H:Hp)(x:V)(xs:List V)(v:Value)(us:List Value)(Q:VK),Inv X pins σ H s→RelV x v→Vals xs us→r x xs H Q→
  wpAny (model X.prog X.w) X.A (call (.builtin id) (v::us)) (EP X pins σ Q) X.xe s
section
variable {X:Cx}{a b:Expr}{ta tb:TE}{pos:Pos}
theorem aF {r:R2}(hr:IxR X r)(ha:PE X a ta)(hb:PE X b tb)(hs:SW b):PE X (.Subscript a b pos) (tOp r ta tb):=by
 intro pins s σ H Q I h
 exact Subscript_ (V7 ha hb I h fun v u s2 x y H2 I2 rx ry q=>hr a b pins s2 σ H2 x y v u Q I2 rx ry q (hs _ _))
def aan (K:PySem.W.Frag):R2:=fun x y H Q=>∃p xs i v,x= .ref p∧y= .int i∧cK K H p xs∧GL xs i=some v∧Q v H
def aao (K:PySem.W.Frag):R2:=fun x y H Q=>∃p xs i v,x= .ref p∧y= .int i∧bJ K H p xs∧GL xs i=some v∧Q v H
theorem aM:IxR X (aan X.K):=by
 intro value slice pins s σ H x y v u Q I rx ry h hs
 obtain ⟨p,xs,i,z,rfl,rfl,hq,he,q⟩:=h
 cases rx
 obtain ⟨t,rfl⟩:=ry
 obtain ⟨a7,r,pl,hz⟩:=I.list hq
 obtain ⟨j,h1,h2,h3,h4,h5⟩:=KY he
 obtain ⟨w,ew,Eo⟩:=r.get h2
 have hl:=r.length
 have hn:=zA
 have fin:EP X pins σ Q w s:=⟨z,H,I,Eo,q⟩
 by_cases h0:0≤i
 ·have hj:i.toNat=j:=by
   rw [seqIndex_of h0 h5] at h1
   exact Option.some.inj h1
  exact item_listR pl.isList h0 (by omega) (by rw [hj];simpa using ew) fin hs
 ·have hj:(i + (a7.toArray.size:Int)).toNat=j:=by
   rw [seqIndex_neg (by omega) h4] at h1
   rw [List.size_toArray,←hl]
   exact Option.some.inj h1
  exact subscriptTail_builtinR (x:=w) pl.isList.typeIs slot_list_getitem.lookup
   (wpAny_getItem_list_neg (Q:=fun r s'=>r=w∧EP X pins σ Q r s') pl.isList (by omega) (by rw [List.size_toArray] <;>omega) (by omega) (by rw [hj];simpa using ew) ⟨rfl,fin⟩) hs
theorem bc:IxR X (aao X.K):=by
 intro value slice pins s σ H x y v u Q I rx ry h hs
 obtain ⟨p,xs,i,z,rfl,rfl,hq,he,q⟩:=h
 cases rx
 obtain ⟨t,rfl⟩:=ry
 obtain ⟨a7,r,pl,hz⟩:=I.tuple hq
 obtain ⟨j,h1,h2,h3,h4,h5⟩:=KY he
 obtain ⟨w,ew,Eo⟩:=r.get h2
 have hl:=r.length
 have hn:=zA
 have fin:EP X pins σ Q w s:=⟨z,H,I,Eo,q⟩
 exact subscriptTail_builtinR (x:=w) pl.typeIs slot_tuple_getitem.lookup
  (getItem_tuple (j:=j) (Q:=fun r s'=>r=w∧EP X pins σ Q r s') pl (by omega) (by omega) (by rw [List.size_toArray,←hl];exact h1) (by simpa using ew) ⟨rfl,fin⟩) hs
theorem Jp (a7:List Value)(n j:Nat)(u:Value):Obj.mapSeq (·.setIfInBounds j u) {cls:= .type "list",data:= .seq a7.toArray n}={cls:= .type "list",data:= .seq (a7.set j u).toArray n}:=by
 simp [Obj.mapSeq]
theorem Inv.lst {pins:List (Addr×Obj)}{σ:St}{H:Hp}{s:Shared}{p:Addr}{xs:List V}(I:Inv X pins σ H s)(h:H p=some (.lst xs)):
  ∃ (a7:List Value)(n:Nat),Vals xs a7∧s.heap.get? p=some {cls:= .type "list",data:= .seq a7.toArray n}∧xs.length≤sizeLine:=by
 obtain ⟨z,a7,n,r,e⟩:=I.cx p _ h
 exact ⟨a7,n,r,e,z⟩
theorem Inv.Wi {pins:List (Addr×Obj)}{σ:St}{H:Hp}{s:Shared}{p:Addr}{xs ys:List V}{a7 its':List Value}{n n':Nat}{f:Obj→Obj}(I:Inv X pins σ H s)(h:H p=some (.lst xs))
  (ho:s.heap.get? p=some {cls:= .type "list",data:= .seq a7.toArray n})(hf:f {cls:= .type "list",data:= .seq a7.toArray n}={cls:= .type "list",data:= .seq its'.toArray n'})(r:Vals ys its')(hz:ys.length≤sizeLine)(t:Nat):
  Inv X pins σ (upd H p (.lst ys)) {s with heap:=s.heap.update p f,toks:=t}:=by
 have e:(s.heap.update p f).get? p=some {cls:= .type "list",data:= .seq its'.toArray n'}:=by
  rw [Heap.get?_update_self f ho (by rw [hf] <;>rfl),hf]
 refine I.write (x:=p) (e:=p) (by rw [h];trivial) (.inl rfl) (fun b u hb q=>(Heap.get?_update_other _ _ (Ne.symm hb)).trans q) ⟨_,e⟩ ?_
 exact ⟨hz,its',n',r,e⟩
def aap:V→V→V→Hp→(Hp→Prop)→Prop:=fun o i v H Q=>∃p xs k j,o= .ref p∧i= .int k∧H p=some (.lst xs)∧Od xs.length k=some j∧Q (upd H p (.lst (xs.set j v)))
theorem set_list:ZY X aap:=by
 intro pins s σ H o i v ov iv u Q I ro ri rv h
 obtain ⟨p,xs,k,j,rfl,rfl,hp,hj,q⟩:=h
 cases ro
 obtain ⟨t,rfl⟩:=ri
 obtain ⟨a7,n,r,ho,hz⟩:=I.lst hp
 obtain ⟨h1,h2,h3,h4⟩:=En hj
 have hl:=r.length
 have hn:=zA
 have I':Inv X pins σ (upd H p (.lst (xs.set j v))) {s with heap:=s.heap.update p (Obj.mapSeq (·.setIfInBounds j u))}:=
  I.Wi hp ho (Jp a7 n j u) (r.set rv j) (by rw [List.length_set];exact hz) s.toks
 by_cases h0:0≤k
 ·have hk:k.toNat=j:=by
   rw [seqIndex_of h0 h4] at h1
   exact Option.some.inj h1
  exact PySem.W.ki_setAt ho h0 (by omega) (by rw [List.size_toArray,←hl];exact h4) (by rw [hk];exact ⟨_,I',q⟩)
 ·have hk:(k + (a7.toArray.size:Int)).toNat=j:=by
   rw [seqIndex_neg (by omega) h3] at h1
   rw [List.size_toArray,←hl]
   exact Option.some.inj h1
  exact PySem.W.ki_setBack ho (by omega) (by rw [List.size_toArray,←hl];exact h3) (by omega) (by rw [hk];exact ⟨_,I',q⟩)
theorem Ep (lo hi:Option Int)(n:Nat):(sliceBounds lo hi none n).1=((HT.ig n 0 lo:Nat):Int)∧(sliceBounds lo hi none n).2.1=((HT.ig n n hi:Nat):Int)∧(sliceBounds lo hi none n).2.2=1:=by
 refine ⟨?_,?_,rfl⟩
 ·cases lo with
  |none=>simp [sliceBounds,HT.ig]
  |some i=>
   simp only [sliceBounds,HT.ig,Option.getD_none,show (1:Int) >0 by decide,if_true]
   by_cases h:i < 0
   ·simp only [h,if_true] <;>omega
   ·simp only [h,if_false] <;>omega
 ·cases hi with
  |none=>simp [sliceBounds,HT.ig]
  |some i=>
   simp only [sliceBounds,HT.ig,Option.getD_none,show (1:Int) >0 by decide,if_true]
   by_cases h:i < 0
   ·simp only [h,if_true] <;>omega
   ·simp only [h,if_false] <;>omega
theorem BH (a7:List Value)(lo hi:Option Int):slicePick a7.toArray lo hi none=((a7.drop (HT.ig a7.length 0 lo)).take (HT.ig a7.length a7.length hi - HT.ig a7.length 0 lo)).toArray:=by
 obtain ⟨h1,h2,h3⟩:=Ep lo hi a7.toArray.size
 unfold slicePick
 rw [h1,h2,h3]
 simp only [sliceRange_one,pick_run,List.size_toArray] <;>rfl
def aim (K:PySem.W.Frag):V→Option Int→Option Int→Hp→VK→Prop:=fun x lo hi H Q=>∃a xs,x= .ref a∧cK K H a xs∧∀p,H p=none→Q (.ref p) (upd H p (.lst (sS xs lo hi)))
theorem Er:SlR X (aim X.K):=by
 intro pins s σ H x v vl vu lo hi sl Q I rx hs pl pu h
 obtain ⟨a,xs,rfl,hx,q⟩:=h
 cases rx
 obtain ⟨a7,r,ht,hz⟩:=I.list hx
 have hlen:=r.length
 refine ⟨"list",_,slot_list_getitem.lookup,ht.isList.typeIs,?_⟩
 refine wpAny_getItem_list_slice ht.isList hs pl pu .none (by simp) ?_ (by rw [List.size_toArray] <;>omega)
 rw [BH,←hlen]
 refine ⟨.ref s.heap.objs.size,_,I.laid (t':=s.toks) (o:= .lst (sS xs lo hi)) (fun b ob q=>Heap.get?_push_of_some _ q) (Nat.le_refl _) ?_,rfl,q _ (I.cx.fresh (Nat.le_refl _))⟩
 exact ⟨Nat.le_trans (xp xs lo hi) hz,_,0,(r.drop (HT.ig xs.length 0 lo)).take (HT.ig xs.length xs.length hi - HT.ig xs.length 0 lo),Heap.get?_push_size _ rfl⟩
def nW:V→Bool
 | .bX=>true
 | .bl _=>true
 | .int _=>true
 | .str _=>true
 |_=>false
def Sl:V→V→Bool
 | .bX,.bX=>true
 | .bl a,.bl b=>a==b
 | .bl a,.int b=>(if a then 1 else 0)==b
 | .int a,.bl b=>a==(if b then 1 else 0)
 | .int a,.int b=>a==b
 | .str a,.str b=>a==b
 |_,_=>false
theorem Wj {A:Around}{s:Shared}{y x:V}{u v:Value}(ry:RelV y u)(rx:RelV x v)(fy:nW y=true)(fx:nW x=true):SeqAt.EqAt A s u v (Sl y x):=by
 cases y with
 |bX=>
  cases ry
  cases x with
  |bX=>cases rx;exact SeqAt.EqAt.same _
  |bl b=>cases rx;exact SeqAt.EqAt.none_bool b
  |int b=>obtain ⟨t,rfl⟩:=rx;exact SeqAt.EqAt.none_int b t
  |str b=>obtain ⟨t,rfl⟩:=rx;exact SeqAt.EqAt.none_str b t
  |_=>exact absurd (show false=true from fx) Bool.false_ne_true
 |bl a=>
  cases ry
  cases x with
  |bX=>cases rx;exact SeqAt.EqAt.bool_none a
  |bl b=>cases rx;exact SeqAt.EqAt.bool_bool a b
  |int b=>obtain ⟨t,rfl⟩:=rx;exact SeqAt.EqAt.bool_int a b t
  |str b=>obtain ⟨t,rfl⟩:=rx;exact SeqAt.EqAt.bool_str a b t
  |_=>exact absurd (show false=true from fx) Bool.false_ne_true
 |int a=>
  obtain ⟨t',rfl⟩:=ry
  cases x with
  |bX=>cases rx;exact SeqAt.EqAt.int_none a t'
  |bl b=>cases rx;exact SeqAt.EqAt.int_bool a t' b
  |int b=>obtain ⟨t,rfl⟩:=rx;exact SeqAt.EqAt.int_int a t' b t
  |str b=>obtain ⟨t,rfl⟩:=rx;exact SeqAt.EqAt.int_str a t' b t
  |_=>exact absurd (show false=true from fx) Bool.false_ne_true
 |str a=>
  obtain ⟨t',rfl⟩:=ry
  cases x with
  |bX=>cases rx;exact SeqAt.EqAt.str_none a t'
  |bl b=>cases rx;exact SeqAt.EqAt.str_bool a t' b
  |int b=>obtain ⟨t,rfl⟩:=rx;exact SeqAt.EqAt.str_int a t' b t
  |str b=>obtain ⟨t,rfl⟩:=rx;exact SeqAt.EqAt.str_str a t' b t
  |_=>exact absurd (show false=true from fx) Bool.false_ne_true
 |_=>exact absurd (show false=true from fy) Bool.false_ne_true
def Sm (x:V)(u:Value):Bool:=match u with
 | .none=>Sl .bX x
 | .bool b=>Sl (.bl b) x
 | .int i _=>Sl (.int i) x
 | .str z _=>Sl (.str z) x
 |_=>false
theorem Es {x y:V}{u:Value}(r:RelV y u)(f:nW y=true):Sm x u=Sl y x:=by
 cases y with
 |bX=>cases r;rfl
 |bl b=>cases r;rfl
 |int i=>obtain ⟨t,rfl⟩:=r;rfl
 |str z=>obtain ⟨t,rfl⟩:=r;rfl
 |_=>exact absurd (show false=true from f) Bool.false_ne_true
theorem Et {x:V}:∀ {xs:List V}{us:List Value},Vals xs us→xs.all nW=true→us.any (Sm x)=xs.any fun y=>Sl y x
 |_,_,.nil,_=>rfl
 |y::xs,u::us,.cons r t,f=>by
  rw [List.all_cons,Bool.and_eq_true] at f
  rw [List.any_cons,List.any_cons,Es r f.1,Et t f.2]
theorem tM {A:Around}{s:Shared}{x:V}{v:Value}(rx:RelV x v)(fx:nW x=true):∀ {xs:List V}{us:List Value},Vals xs us→xs.all nW=true→∀u∈us,SeqAt.EqAt A s u v (Sm x u)
 |_,_,.nil,_=>fun u hu=>by cases hu
 |y::xs,u::us,.cons r t,f=>fun u' hu=>by
  rw [List.all_cons,Bool.and_eq_true] at f
  rcases List.mem_cons.mp hu with rfl|hu
  ·rw [Es r f.1];exact Wj r rx f.1 fx
  ·exact tM rx fx t f.2 u' hu
def SX (x:V)(xs:List V):Bool:=xs.any fun y=>Sl y x
def rIn (K:PySem.W.Frag)(neg:Bool):R2:=fun x y H Q=>∃p xs,y= .ref p∧(cK K H p xs∨bJ K H p xs)∧nW x=true∧xs.all nW=true∧Q (.bl (if neg then !SX x xs else SX x xs)) H
theorem CP:yM X (compareOp .In) (rIn X.K false):=by
 intro pins s σ H x y v u Q I rx ry h
 obtain ⟨p,xs,rfl,hq,fx,fs,q⟩:=h
 cases ry
 rcases hq with hq|hq
 ·obtain ⟨a7,r,pl,hz⟩:=I.list hq
  refine SeqAt.in_listAt (Sm x) pl.isList (fun w hw=>tM rx fx r fs w (by simpa using hw)) ⟨.bl _,H,I,rfl,?_⟩
  rw [show a7.toArray.any (Sm x)=a7.any (Sm x) by simp,Et r fs]
  exact q
 ·obtain ⟨a7,r,pl,hz⟩:=I.tuple hq
  refine SeqAt.in_tupleAt (Sm x) pl (fun w hw=>tM rx fx r fs w (by simpa using hw)) ⟨.bl _,H,I,rfl,?_⟩
  rw [show a7.toArray.any (Sm x)=a7.any (Sm x) by simp,Et r fs]
  exact q
theorem aT:kO X (.builtin "len") (fun xs H Q=>∃p ys,xs= [.ref p] ∧(cK X.K H p ys∨bJ X.K H p ys)∧Q (.int ys.length) H):=by
 intro pins s σ H xs us Q I r h
 obtain ⟨p,ys,rfl,hq,q⟩:=h
 obtain ⟨u,rfl,rx⟩:=vals1 r
 cases rx
 have hn:=zA
 rcases hq with hq|hq
 ·obtain ⟨a7,r',pl,hz⟩:=I.list hq
  have hlen:=r'.length
  exact Calls.call_len_list pl.isList (by simp only [List.size_toArray] <;>omega) ⟨.int ys.length,H,I.tok _,⟨s.toks + 1,by rw [List.size_toArray,hlen]⟩,q⟩
 ·obtain ⟨a7,r',pl,hz⟩:=I.tuple hq
  have hlen:=r'.length
  exact len_tuple pl (by simp only [List.size_toArray] <;>omega) ⟨.int ys.length,H,I.tok _,⟨s.toks + 1,by rw [List.size_toArray,hlen]⟩,q⟩
theorem Eu:kO X (.type "list") (fun xs H Q=>∃p ys,xs= [.ref p] ∧(cK X.K H p ys∨bJ X.K H p ys)∧∀l,H l=none→Q (.ref l) (upd H l (.lst ys))):=by
 intro pins s σ H xs us Q I r h
 obtain ⟨p,ys,rfl,hq,q⟩:=h
 obtain ⟨u,rfl,rx⟩:=vals1 r
 cases rx
 have fin:∀ (a7:List Value),Vals ys a7→ys.length≤sizeLine→∀ (h':Heap)(c':Nat),(∀b o',s.heap.get? b=some o'→h'.get? b=some o')→
   h'.get? s.heap.objs.size=some {cls:= .type "list",dict:=none,data:= .seq a7.toArray c',slots:= #[] }→EP X pins σ Q (.ref s.heap.objs.size) {s with heap:=h'}:=fun a7 r' hz h' c' kp e=>
  ⟨.ref s.heap.objs.size,_,I.laid (t':=s.toks) kp (Nat.le_refl _) (show d7 X.prog X.w _ h' _ (.lst ys) from ⟨hz,a7,c',r',e⟩),rfl,q _ (I.cx.fresh (Nat.le_refl _))⟩
 rcases hq with hq|hq
 ·obtain ⟨a7,r',pl,hz⟩:=I.list hq
  have hlen:=r'.length
  obtain ⟨o,ho,hc,n,hd⟩:=pl.isList
  exact call_list_seq p (.inl rfl) ho hc hd (fun h' c' kp e=>fin a7 r' hz h' c' kp e) (by simp only [List.size_toArray] <;>omega)
 ·obtain ⟨a7,r',pl,hz⟩:=I.tuple hq
  have hlen:=r'.length
  obtain ⟨o,ho,hc,n,hd⟩:=pl
  exact call_list_seq p (.inr rfl) ho hc hd (fun h' c' kp e=>fin a7 r' hz h' c' kp e) (by simp only [List.size_toArray] <;>omega)
theorem BI:kO X (.type "tuple") (fun xs H Q=>∃p ys,xs= [.ref p] ∧((cK X.K H p ys∧∀l,H l=none→Q (.ref l) (upd H l (.tup ys)))∨(bJ X.K H p ys∧Q (.ref p) H))):=by
 intro pins s σ H xs us Q I r h
 obtain ⟨p,ys,rfl,h⟩:=h
 obtain ⟨u,rfl,rx⟩:=vals1 r
 cases rx
 rcases h with ⟨hq,q⟩|⟨hq,q⟩
 ·obtain ⟨a7,r',pl,hz⟩:=I.list hq
  have hlen:=r'.length
  refine call_tuple_list pl.isList (fun h' kp=> ?_) (by simp only [List.size_toArray] <;>omega)
  have I1:Inv X pins σ H {s with heap:=h'}:=I.kept (t':=s.toks) kp
  have I2:Inv X pins σ (upd H h'.objs.size (.tup ys)) {s with heap:=h'.push {cls:= .type "tuple",data:= .seq a7.toArray} }:=
   I1.laid (t':=s.toks) (fun b o e=>Heap.get?_push_of_some _ e) (Nat.le_refl _) (show d7 X.prog X.w _ _ _ (.tup ys) from ⟨hz,a7,r',IsTup.new _ _⟩)
  exact ⟨.ref h'.objs.size,_,I2,rfl,q _ (I1.cx.fresh (Nat.le_refl _))⟩
 ·obtain ⟨a7,r',pl,hz⟩:=I.tuple hq
  exact call_tuple_same pl ⟨.ref p,H,I,rfl,q⟩
def tyV (K:PySem.W.Frag)(T:String)(x:V)(H:Hp):Prop:=match x with
 | .str _=>T="str"
 | .int _=>T="int"
 | .ref p=>(T="list"∧∃xs,cK K H p xs)∨(T="tuple"∧∃o,K.lookup p=some o∧o.cls= .type "tuple"∧o.dict=none)∨
   (T="dict"∧((∃kvs,H p=some (.dK kvs))∨∃kvs,H p=some (.dT kvs)))∨(T="set"∧∃S n,H p=some (.set S n))
 |_=>False
theorem Wl {pins:List (Addr×Obj)}{σ:St}{H:Hp}{s:Shared}{T:String}{x:V}{v:Value}(I:Inv X pins σ H s)(r:RelV x v)(ty:tyV X.K T x H):
  s.TypeIs v T∧∀a,v= .ref a→∃ob,s.heap.get? a=some ob∧ob.dict=none:=by
 cases x with
 |str z=>
  obtain ⟨t,rfl⟩:=r
  cases (show T="str" from ty)
  exact ⟨typeIs_str s z t,fun _ e=>nomatch e⟩
 |int i=>
  obtain ⟨t,rfl⟩:=r
  cases (show T="int" from ty)
  exact ⟨typeIs_int s i t,fun _ e=>nomatch e⟩
 |ref p=>
  cases r
  rcases ty with ⟨rfl,xs,hq⟩|⟨rfl,o,hk,hc,hd⟩|⟨rfl,hk⟩|⟨rfl,S,n,hk⟩
  ·obtain ⟨a7,_,pl,_⟩:=I.list hq
   refine ⟨pl.isList.typeIs,fun a e=> ?_⟩
   cases e
   obtain ⟨o,n,e,c,hd,_⟩:=pl
   exact ⟨o,e,hd⟩
  ·refine ⟨⟨o,I.KD p o hk,hc⟩,fun a e=> ?_⟩
   cases e
   exact ⟨o,I.KD _ o hk,hd⟩
  ·have z:∃o,s.heap.get? p=some o∧o.ExactDict:=by
    rcases hk with ⟨kvs,hk⟩|⟨kvs,hk⟩
    ·obtain ⟨_,_,_,_,o,_,_,e,ex,_⟩:=I.cx p _ hk
     exact ⟨o,e,ex⟩
    ·obtain ⟨_,_,_,_,o,_,_,e,ex,_⟩:=I.cx p _ hk
     exact ⟨o,e,ex⟩
   obtain ⟨o,e,ex⟩:=z
   refine ⟨⟨o,e,ex.1⟩,fun a e2=> ?_⟩
   cases e2
   exact ⟨o,e,ex.2.1⟩
  ·obtain ⟨o,_,_,_,e,ex,_⟩:=I.cx p _ hk
   refine ⟨⟨o,e,ex.1⟩,fun a e2=> ?_⟩
   cases e2
   exact ⟨o,e,ex.2.1⟩
 |_=>exact False.elim ty
def tBM (K:PySem.W.Frag)(T:String)(r:V→List V→Hp→VK→Prop)(to:TE)(t:TA):TE:=fun σ H Q=>to σ H fun x H1=>tyV K T x H1∧t σ H1 fun xs H2=>r x xs H2 Q
variable {o e:Expr}{es:List Expr}{to:TE}{t:TA}{name:Str}{apos gk:Pos}{T id:String}{r:V→List V→Hp→VK→Prop}
theorem ij (pa:PlainAttrs T)(slot:Slot T name id)(hty:typeOf (.builtin id)=pure (.type "method_descriptor"))(hm:MtR X id r)(ho:PE X o to)(ha:PA X (e::es) t)
  (GN:attributeBase o name X.env (eval o X.env)=eval o X.env:=by rfl)
  (ain:((backTo gk (starEach (e::es) X.env)).all (fun x=> !x.1) && (backToKw gk (keywordEach [] X.env)).all (fun x=>x.1.isSome)
   && decide ((e::es).length + ([] :List Keyword).length + (if ([] :List Keyword).isEmpty then 0 else 1) < 30))=true:=by rfl)
  (GO:(apos.endLine==gk.line)=true:=by rfl)(hs:starEach (e::es) X.env=(false,eval e X.env)::starEach es X.env:=by rfl)(Wm:(backTo gk (starEach es X.env)).any (·.1)=false:=by rfl):
  PE X (.Call (.Attribute o name apos) (e::es) [] gk) (tBM X.K T r to t):=by
 intro pins s σ H Q I h
 refine wpAny_Call_method_late GN ain GO rfl (dz (ho pins s σ H _ I h) fun v s1 ⟨x,H1,I1,r1,ty,q1⟩=> ?_)
 obtain ⟨h1,h2⟩:=Wl I1 r1 ty
 refine ⟨T,id,pa,slot,hty,h1,h2,?_⟩
 have hA:=ha gk pins s1 σ H1 _ I1 q1
 rw [hs] at hA ⊢
 refine Calls.callWith_builtin (by show (false||(backTo gk (starEach es X.env)).any (·.1))=false;rw [Wm] <;>rfl) (Calls.evalArgs_plain ?_)
 exact dz hA fun us s2 ⟨vs,H2,I2,r2,q2⟩=>hm pins s2 σ H2 x vs v us Q I2 r1 r2 q2
end
def MtM (X:Cx)(id:String)(r:V→List V→Hp→VK→Prop):Prop:=
 ∀ (pins:List (Addr×Obj))(s:Shared)(σ:St)(H:Hp)(x:V)(xs:List V)(v:Value)(us:List Value)(Q:VK),Inv X pins σ H s→RelV x v→Vals xs us→r x xs H Q→
  wpAny (model X.prog X.w) X.A (call (.builtin id) (v::us)) (EP X pins σ Q) X.xe s
theorem Vals.one:∀ {x:V}{us:List Value},Vals [x] us→∃u,us= [u] ∧RelV x u
 |_,_,.cons r .nil=>⟨_,rfl,r⟩
theorem Vals.two:∀ {x y:V}{us:List Value},Vals [x,y] us→∃u v,us= [u,v] ∧RelV x u∧RelV y v
 |_,_,_,.cons r (.cons q .nil)=>⟨_,_,rfl,r,q⟩
theorem Vals.eraseIdx:∀ {xs:List V}{us:List Value}(i:Nat),Vals xs us→Vals (xs.eraseIdx i) (us.eraseIdx i)
 |_,_,_,.nil=> .nil
 |_,_,0,.cons _ t=>t
 |_,_,i + 1,.cons r t=> .cons r (Vals.eraseIdx i t)
theorem Vals.rep {xs:List V}{us:List Value}(h:Vals xs us):∀k:Nat,Vals (List.replicate k xs).flatten (List.replicate k us).flatten
 |0=> .nil
 |k + 1=>by
  rw [List.replicate_succ,List.replicate_succ,List.flatten_cons,List.flatten_cons]
  exact Vals.append h (Vals.rep h k)
theorem CQ {α:Type}:∀ (l:List α)(i:Nat),(l.eraseIdx i).length≤l.length
 | [],_=>Nat.le_refl _
 |_::_,0=>Nat.le_succ _
 |_::r,i + 1=>Nat.succ_le_succ (CQ r i)
theorem foldl_rep (a7:List Value):∀ (k:Nat)(acc:List Value),
  List.foldl (fun x1 x2=>x1 ++ x2) acc.toArray (List.replicate k a7.toArray)=(acc ++ (List.replicate k a7).flatten).toArray
 |0,acc=>by simp
 |k + 1,acc=>by
  have e:acc.toArray ++ a7.toArray=(acc ++ a7).toArray:=by simp
  have e2:(acc ++ a7) ++ (List.replicate k a7).flatten=acc ++ (List.replicate (k + 1) a7).flatten:=by
   rw [List.replicate_succ,List.flatten_cons,List.append_assoc]
  rw [←e2,←foldl_rep a7 k (acc ++ a7),←e,List.replicate_succ,List.foldl_cons]
section
variable {X:Cx}{pins:List (Addr×Obj)}{σ:St}{H:Hp}{s:Shared}{l b:Addr}{xs ys zs:List V}
theorem Inv.OI {a7 its':List Value}{n:Nat}{f:Array Value→Array Value}{t':Nat}(I:Inv X pins σ H s)(hH:H l=some (.lst xs))
  (e:s.heap.get? l=some {cls:= .type "list",data:= .seq a7.toArray n})(hf:f a7.toArray=its'.toArray)(hv:Vals ys its')(hz:ys.length≤sizeLine):
  Inv X pins σ (upd H l (.lst ys)) {s with heap:=s.heap.update l (Obj.mapSeq f),toks:=t'}:=by
 have q:=PySem.IsL.update e f
 rw [hf] at q
 refine I.write (x:=l) (e:=l) (by rw [hH];exact trivial) (.inl rfl) (fun b' u hb hu=>(Heap.get?_update_other s.heap (Obj.mapSeq f) (Ne.symm hb)).trans hu) ⟨_,q⟩ ?_
 exact ⟨hz,its',_,hv,q⟩
theorem Inv.aar {a7:List Value}{t':Nat}(I:Inv X pins σ H s)(hv:Vals ys a7)(hz:ys.length≤sizeLine):
  Inv X pins σ (upd H s.heap.objs.size (.lst ys)) {s with heap:=s.heap.push {cls:= .type "list",data:= .seq a7.toArray},toks:=t'}:=
 I.laid (fun _ _ q=>Heap.get?_push_of_some _ q) (Nat.le_refl _) ⟨hz,a7,0,hv,Heap.get?_push_size _ rfl⟩
theorem Inv.fresh (I:Inv X pins σ H s):H s.heap.objs.size=none:=I.cx.fresh (Nat.le_refl _)
theorem Inv.Ew (I:Inv X pins σ H s)(hH:H l=some (.lst xs)):xs.length≤sizeLine∧∃ (a7:List Value)(n:Nat),Vals xs a7∧xs.length=a7.length∧s.heap.get? l=some {cls:= .type "list",data:= .seq a7.toArray n}:=by
 obtain ⟨z,a7,n,r,e⟩:=I.cx l _ hH
 exact ⟨z,a7,n,r,r.length,e⟩
theorem zF {n:Nat}(h:n≤sizeLine):Builtin.List.listTooLong n=false:=by
 unfold Builtin.List.listTooLong
 exact decide_eq_false (by omega)
end
section
variable {X:Cx}
def SY:V→List V→Hp→VK→Prop:=fun x vs H Q=>∃l xs y,x= .ref l∧vs= [y] ∧H l=some (.lst xs)∧xs.length < sizeLine∧Q .bX (upd H l (.lst (xs ++ [y])))
theorem lX:MtM X "list.append" SY:=by
 intro pins s σ H x vs v us Q I rx rv h
 obtain ⟨l,xs,y,rfl,rfl,hH,hz,q⟩:=h
 cases rx
 obtain ⟨u,rfl,ru⟩:=rv.one
 obtain ⟨z,a7,n,r,hl,e⟩:=I.Ew hH
 refine call_meets F.slot_list_append ⟨_,e,rfl⟩ F.entry_list_append (F.args_list_append_2 _ _) (PySem.list_append l a7.toArray n u (by rw [List.size_toArray];omega)) ⟨e,?_⟩
 refine ⟨.bX,_,I.OI (its':=a7 ++ [u]) hH e (by simp) (r.append (.cons ru .nil)) ?_,rfl,q⟩
 rw [List.length_append,List.length_singleton]
 omega
def S8:V→List V→Hp→VK→Prop:=fun x vs H Q=>∃l b xs zs,x= .ref l∧vs= [.ref b] ∧H l=some (.lst xs)∧H b=some (.lst zs)∧xs.length + zs.length≤sizeLine∧Q .bX (upd H l (.lst (xs ++ zs)))
theorem lY:MtM X "list.extend" S8:=by
 intro pins s σ H x vs v us Q I rx rv h
 obtain ⟨l,b,xs,zs,rfl,rfl,hH,hB,hz,q⟩:=h
 cases rx
 obtain ⟨u,rfl,ru⟩:=rv.one
 cases ru
 obtain ⟨z,a7,n,r,hl,e⟩:=I.Ew hH
 obtain ⟨z2,yN,n2,r2,Zi,e2⟩:=I.Ew hB
 have hsz:a7.toArray.size + yN.toArray.size≤sizeLine:=by rw [List.size_toArray,List.size_toArray];omega
 have GP:¬ (!a7.toArray.isEmpty && Builtin.List.listTooLong (a7.toArray.size + yN.toArray.size))=true:=by
  rw [zF hsz,Bool.and_false]
  exact Bool.false_ne_true
 refine call_meets F.slot_list_extend ⟨_,e,rfl⟩ F.entry_list_extend (F.args_list_extend_2 _ _)
  (AutoSeq1.list_extend_list_list_0 l a7.toArray n b yN.toArray n2 GP (by rw [List.size_toArray];omega) (by omega)) ⟨e,e2,?_⟩
 refine ⟨.bX,_,I.OI (its':=a7 ++ yN) hH e (by simp) (r.append r2) ?_,rfl,q⟩
 rw [List.length_append]
 omega
def Wn:V→List V→Hp→VK→Prop:=fun x vs H Q=>∃l xs i k y,x= .ref l∧vs= [.int i] ∧H l=some (.lst xs)∧ -(2 ^ 63)≤i∧i < 2 ^ 63∧seqIndex? i xs.length=some k∧xs[k]?=some y∧Q y (upd H l (.lst (xs.eraseIdx k)))
theorem GQ:MtM X "list.pop" Wn:=by
 intro pins s σ H x vs v us Q I rx rv h
 obtain ⟨l,xs,i,k,y,rfl,rfl,hH,h1,h2,hk,hy,q⟩:=h
 cases rx
 obtain ⟨u,rfl,ru⟩:=rv.one
 obtain ⟨t,rfl⟩:=ru
 obtain ⟨z,a7,n,r,hl,e⟩:=I.Ew hH
 obtain ⟨w,hw,Eo⟩:=r.get hy
 refine call_meets F.slot_list_pop ⟨_,e,rfl⟩ F.entry_list_pop (F.args_list_pop_2 _ _)
  (MeetsSeq.list_pop_at l a7.toArray n i t k w (fitsIndex_both h1 h2) (by rw [List.size_toArray,←hl];exact hk) (by rw [←Array.getElem?_toList];exact hw) (by rw [List.size_toArray];omega)) ⟨e,?_⟩
 refine ⟨y,_,I.OI (its':=a7.eraseIdx k) hH e ?_ (r.eraseIdx k) ?_,Eo,q⟩
 ·show a7.toArray.eraseIdxIfInBounds k=(a7.eraseIdx k).toArray
  rw [List.eraseIdxIfInBounds_toArray]
 ·have:=CQ xs k
  omega
def aio:R2:=fun x y H Q=>∃l b xs zs,x= .ref l∧y= .ref b∧H l=some (.lst xs)∧H b=some (.lst zs)∧xs.length + zs.length≤sizeLine∧∀p,H p=none→Q (.ref p) (upd H p (.lst (xs ++ zs)))
theorem Ex:yM X (binaryOp .Add) aio:=by
 intro pins s σ H x y v u Q I rx ry h
 obtain ⟨l,b,xs,zs,rfl,rfl,hH,hB,hz,q⟩:=h
 cases rx
 cases ry
 obtain ⟨z,a7,n,r,hl,e⟩:=I.Ew hH
 obtain ⟨z2,yN,n2,r2,Zi,e2⟩:=I.Ew hB
 refine PySem.P.add_list e e2 ?_ (by rw [List.size_toArray,List.size_toArray];omega)
 have ea:a7.toArray ++ yN.toArray=(a7 ++ yN).toArray:=by simp
 rw [ea]
 exact ⟨.ref _,_,I.aar (t':=s.toks) (r.append r2) (by rw [List.length_append];omega),rfl,q _ I.fresh⟩
def aip:R2:=fun x y H Q=>∃l k xs,x= .ref l∧y= .int k∧H l=some (.lst xs)∧ -(2 ^ 63)≤k∧k < 2 ^ 63∧xs.length * k.toNat≤sizeLine∧
 ∀p,H p=none→Q (.ref p) (upd H p (.lst (List.replicate k.toNat xs).flatten))
theorem len_rep {α:Type}(xs:List α)(k:Nat):(List.replicate k xs).flatten.length=k * xs.length:=by
 induction k with
 |zero=>simp
 |succ k ih=>rw [List.replicate_succ,List.flatten_cons,List.length_append,ih,Nat.succ_mul,Nat.add_comm]
theorem Wo:yM X (binaryOp .Mult) aip:=by
 intro pins s σ H x y v u Q I rx ry h
 obtain ⟨l,k,xs,rfl,rfl,hH,h1,h2,hz,q⟩:=h
 cases rx
 obtain ⟨t,rfl⟩:=ry
 obtain ⟨z,a7,n,r,hl,e⟩:=I.Ew hH
 have hlen:a7.toArray.size * k.toNat≤sizeLine:=by rw [List.size_toArray,←hl];exact hz
 have S9:¬a7.toArray.size * k.toNat >(2 ^ 63 - 1) / 8:=by
  have:(sizeLine:Nat)≤(2 ^ 63 - 1) / 8:=by decide
  omega
 have aiq:¬ (!Builtin.List.listFitsIndex k)=true:=by
  rw [fitsIndex_both h1 h2]
  exact Bool.false_ne_true
 have GP:¬Builtin.List.listTooLong (a7.toArray.size * k.toNat)=true:=by
  rw [zF hlen]
  exact Bool.false_ne_true
 have air:List.foldl (fun x1 x2=>x1 ++ x2) #[] (List.replicate (if a7.toArray.isEmpty=true then 0 else k.toNat) a7.toArray)=(List.replicate k.toNat a7).flatten.toArray:=by
  have f0:∀m:Nat,List.foldl (fun x1 x2=>x1 ++ x2) #[] (List.replicate m a7.toArray)=(List.replicate m a7).flatten.toArray:=fun m=>by
   have:=foldl_rep a7 m []
   rw [List.nil_append] at this
   exact this
  rw [f0]
  cases a7 with
  |nil=>simp
  |cons a r'=>rw [if_neg (by simp)]
 refine wpAny_binaryOp_repeat_ref (T:="list") (U:="int") (by decide) ⟨_,e,rfl⟩ (fun s'=>typeIs_int s' k t) noFill_list_mul F.fills_int_mul F.slot_int_rmul repeat_list F.slot_int_index.lookup
  (call_meets F.slot_int_rmul (typeIs_int s k t) F.entry_int_rmul (F.args_int_rmul_2 _ _) (int___rmul___int_list k t l a7.toArray n)
   ⟨e,rfl,⟨_,e,rfl⟩,call_meets F.slot_list_mul ⟨_,e,rfl⟩ F.entry_list_mul (F.args_list_mul_2 _ _) (AutoListH.list___mul___list_int_3 l a7.toArray n k t aiq S9 GP) ⟨e,?_⟩⟩)
 rw [air]
 exact ⟨.ref _,_,I.aar (t':=s.toks) (r.rep k.toNat) (by rw [len_rep,Nat.mul_comm];exact hz),rfl,q _ I.fresh⟩
end
section
variable {prog:Program}{w:World}{A:Around}{E:Value→Shared→Prop}{s:Shared}
set_option maxRecDepth 100000 in
end
theorem Vals.ints:∀ {ns:List Int}{us:List Value},Vals (ns.map V.int) us→IntsAre us ns
 | [],us,h=>by
  rw [List.map_nil] at h
  cases h
  exact IntsAre.nil
 |n::ns,us,h=>by
  rw [List.map_cons] at h
  cases h with
  |cons r t=>
   obtain ⟨k,rfl⟩:=r
   exact IntsAre.cons n k (Vals.ints t)
theorem tN:∀ {us:List Value}{ns:List Int},IntsAre us ns→Vals (ns.map V.int) us
 |_,_,.nil=>by rw [List.map_nil];exact Paired.nil
 |_,_,.cons n t h=>by rw [List.map_cons];exact Paired.cons (show RelV (V.int n) (Value.int n t) from ⟨t,rfl⟩) (tN h)
theorem Vals.bls:∀ {bs:List Bool}{us:List Value},Vals (bs.map V.bl) us→us=bs.map Value.bool
 | [],us,h=>by
  rw [List.map_nil] at h
  cases h
  rfl
 |b::bs,us,h=>by
  rw [List.map_cons] at h
  cases h with
  |cons r t=>
   cases r
   rw [Vals.bls t,List.map_cons]
theorem Vals.Jq {a:Addr}{us:List Value}(r:Vals [V.ref a] us):us= [Value.ref a] :=by
 cases r with
 |cons r t=>
  cases t
  cases r
  rfl
section
variable {prog:Program}{w:World}{A:Around}{E:Value→Shared→Prop}{s:Shared}{l:Addr}{a7:List Value}{ns:List Int}{Q:Value→Shared→Prop}
theorem Ta (hh:A.handled=none)(hl:s.heap.IsList l a7.toArray)(hi:IntsAre a7 ns)(qY:0 < ns.length)
  (h:∀h' tk M t',(∀b o,s.heap.get? b=some o→h'.get? b=some o)→M∈ns→(∀a,a∈ns→M≤a)→Q (.int M t') {s with heap:=h',toks:=tk}):wpAny (model prog w) A (call (.builtin "min") [.ref l]) Q E s:=by
 obtain ⟨xs,e⟩:=hi.allInts.items
 have hn:numsOf (intItems xs).toList=ns:=by rw [←e];exact hi.numsOf
 rw [nums_intItems] at hn
 subst hn
 rw [e] at hl
 have hsz:0 < xs.size:=by simpa using qY
 refine PySem.min_intList hh hl hsz fun v h' tk hv hk=> ?_
 obtain ⟨t,rfl⟩:=intItems_at hv
 obtain ⟨h1,h2⟩:=argBest_lt (numAt xs) (xs.size - 1)
 refine h h' tk _ t hk ?_ fun a ha=> ?_
 ·rw [numAt_eq];exact PySem.getD_mem (by rw [List.length_map,Array.length_toList];omega)
 ·obtain ⟨j,hj,rfl⟩:=mem_getD ha
  rw [List.length_map,Array.length_toList] at hj
  rw [←numAt_eq];exact h2 j (by omega)
end
section
variable {X:Cx}
def ait (K:PySem.W.Frag):List V→Hp→VK→Prop:=fun vs H Q=>∃ (a:Addr)(ns:List Int),vs= [V.ref a] ∧cK K H a (ns.map V.int)∧0 < ns.length∧∀m,m∈ns→(∀y,y∈ns→m≤y)→Q (.int m) H
theorem Wq (hc:X.calm=true):kO X (.builtin "min") (ait X.K):=by
 intro pins s σ H vs us Q I r h
 obtain ⟨a,ns,rfl,hs,qY,q⟩:=h
 obtain ⟨a7,rv,hl,_⟩:=I.list hs
 rw [Vals.Jq r]
 exact Ta (I.ok.hd hc) hl.isList rv.ints qY fun h' tk m t' hk h1 h2=>⟨.int _,H,I.kept hk,⟨_,rfl⟩,q m h1 h2⟩
end
section
variable {X:Cx}
def Wr (K:PySem.W.Frag):V→List V→Hp→VK→Prop:=fun x xs H Q=>∃ (a:Addr)(ys:List V)(y:V)(j:Nat)(z:V),x=V.ref a∧xs= [y] ∧cK K H a ys∧nW y=true∧ys.all nW=true∧ys[j]?=some z∧Sl z y=true∧
 (∀ (m:Nat)(z':V),m < j→ys[m]?=some z'→Sl z' y=false)∧Q (.int (j:Nat)) H
theorem KZ {ys:List V}(f:ys.all nW=true){j:Nat}{z:V}(h:ys[j]?=some z):nW z=true:=List.all_eq_true.mp f z (List.mem_of_getElem? h)
theorem OJ:MtR X "list.index" (Wr X.K):=by
 intro pins s σ H x xs v us Q I rx rxs h
 obtain ⟨a,ys,y,j,z,rfl,rfl,hs,fy,fys,hz,hzj,Vf,q⟩:=h
 cases rx
 cases rxs with
 |cons ry rt=>
  rename_i uy ut
  cases rt
  obtain ⟨a7,rv,⟨⟨cls,dd,data,sl⟩,n,ho,hc,hdn,hd⟩,hlen⟩:=I.list hs
  simp only at hc hd
  subst hc hd
  obtain ⟨u,hu,ru⟩:=rv.get hz
  obtain ⟨hjl,hje⟩:=List.getElem?_eq_some_iff.mp hu
  have hvl:=rv.length
  have hj:j < a7.toArray.size:=by simpa using hjl
  have hsl:=sizeLine_eq
  refine call_meets PySem.F.slot_list_index ⟨_,ho,rfl⟩ PySem.F.entry_list_index (PySem.F.args_list_index_2 _ _)
   (SeqAt.list_indexAt a a7.toArray n dd sl uy (Sm y) j hj (by omega) ?_ ?_) ⟨ho,fun u' hu'=>tM ry fy rv fys u' (by simpa using hu'),?_⟩
  ·have e1:a7.toArray[j] =u:=by simpa using hje
   rw [e1,Es ru (KZ fys hz)]
   exact hzj
  ·intro m hm hmj
   have CS:m < a7.length:=by simpa using hm
   have hmy:m < ys.length:=by omega
   have hy':ys[m]?=some ys[m] :=List.getElem?_eq_getElem hmy
   obtain ⟨u2,hu2,ru2⟩:=rv.get hy'
   obtain ⟨_,hme⟩:=List.getElem?_eq_some_iff.mp hu2
   have e1:a7.toArray[m] =u2:=by simpa using hme
   rw [e1,Es ru2 (KZ fys hy')]
   exact Vf m _ hmj hy'
  ·exact ⟨.int (j:Nat),H,I.tok _,⟨_,rfl⟩,q⟩
end
theorem GR {prog:Program}{w:World}{A:Around}{E:Value→Shared→Prop}{s:Shared}{l:Addr}{items:Array Value}{Q:Value→Shared→Prop}(hl:s.heap.IsList l items)
  (h:∀s₂:Shared,s₂={s with heap:=s.heap.push {cls:= .type "list_iterator",data:= .fields #[.ref l,.int 0 0] } }→
   (s₂.heap.IsListIter s.heap.objs.size l 0∧s₂.heap.IsList l items)→l≠s.heap.objs.size→Q (.ref s.heap.objs.size) s₂):wpAny (model prog w) A (pyIter (.ref l)) Q E s:=by
 have eA:l < s.heap.objs.size:=by obtain ⟨_,e,_⟩:=hl;exact Heap.lt_size e
 exact wpAny_pyIter_list hl (h _ rfl ⟨⟨_,Heap.get?_push_size _ rfl,rfl,rfl⟩,hl.push _⟩ (Nat.ne_of_lt eA))
theorem xq {prog:Program}{w:World}{A:Around}{bs:List Bool}{a7:List Value}(e:a7=bs.map Value.bool):
  TruthOf prog w A (fun i v=>a7.toArray[i]?=some v) (fun i=>bs.getD i false):=fun i v s Q E hv hq=>by
 have hv':a7[i]?=some v:=by simpa using hv
 rw [e,List.getElem?_map] at hv'
 obtain ⟨b,hb,rfl⟩:=Option.map_eq_some_iff.mp hv'
 have hg:bs.getD i false=b:=by rw [List.getD_eq_getElem?_getD,hb] <;>rfl
 have Vd:Q (bs.getD i false) s:=hq
 rw [hg] at Vd
 exact wpAny_truthy_bool Vd
theorem any_range:∀bs:List Bool,(List.range bs.length).any (fun i=>bs.getD i false)=bs.any id
 | [] =>rfl
 |b::bs=>by
  rw [List.length_cons,List.range_succ_eq_map,List.any_cons,List.any_map,List.any_cons,←any_range bs]
  all_goals rfl
theorem all_range:∀bs:List Bool,(List.range bs.length).all (fun i=>bs.getD i false)=bs.all id
 | [] =>rfl
 |b::bs=>by
  rw [List.length_cons,List.range_succ_eq_map,List.all_cons,List.all_map,List.all_cons,←all_range bs]
  all_goals rfl
section
variable {X:Cx}
def aiy (K:PySem.W.Frag):List V→Hp→VK→Prop:=fun vs H Q=>∃ (a:Addr)(bs:List Bool),vs= [V.ref a] ∧cK K H a (bs.map V.bl)∧Q (.bl (bs.any id)) H
def aiz (K:PySem.W.Frag):List V→Hp→VK→Prop:=fun vs H Q=>∃ (a:Addr)(bs:List Bool),vs= [V.ref a] ∧cK K H a (bs.map V.bl)∧Q (.bl (bs.all id)) H
theorem Ws (hc:X.calm=true):kO X (.builtin "any") (aiy X.K):=by
 intro pins s σ H vs us Q I r h
 obtain ⟨a,bs,rfl,hs,q⟩:=h
 obtain ⟨a7,rv,hl,_⟩:=I.list hs
 rw [Vals.Jq r]
 have hb:=rv.bls
 refine call_any_walk (GR hl.isList fun s₂ e2 st qY=> ?_)
 subst e2
 refine ⟨_,_,_,_,_,_,_,rfl,Walks.list (A:=X.A.in1) (I.ok.hd hc) _ a qY a7.toArray,st,xq hb,fun h' tk hk=> ?_⟩
 refine ⟨.bl _,H,I.kept fun b o eo=>hk b o (fun Ey=> ?_) (Heap.get?_push_of_some _ eo),?_,q⟩
 ·rcases List.mem_cons.mp Ey with e1|Ey
  ·exact absurd (e1 ▸ Heap.lt_size eo) (Nat.lt_irrefl _)
  ·cases Ey
 ·show Value.bool _=Value.bool _
  rw [←any_range,hb,List.size_toArray,List.length_map]
theorem Wt (hc:X.calm=true):kO X (.builtin "all") (aiz X.K):=by
 intro pins s σ H vs us Q I r h
 obtain ⟨a,bs,rfl,hs,q⟩:=h
 obtain ⟨a7,rv,hl,_⟩:=I.list hs
 rw [Vals.Jq r]
 have hb:=rv.bls
 refine call_all_walk (GR hl.isList fun s₂ e2 st qY=> ?_)
 subst e2
 refine ⟨_,_,_,_,_,_,_,rfl,Walks.list (A:=X.A.in1) (I.ok.hd hc) _ a qY a7.toArray,st,xq hb,fun h' tk hk=> ?_⟩
 refine ⟨.bl _,H,I.kept fun b o eo=>hk b o (fun Ey=> ?_) (Heap.get?_push_of_some _ eo),?_,q⟩
 ·rcases List.mem_cons.mp Ey with e1|Ey
  ·exact absurd (e1 ▸ Heap.lt_size eo) (Nat.lt_irrefl _)
  ·cases Ey
 ·show Value.bool _=Value.bool _
  rw [←all_range,hb,List.size_toArray,List.length_map]
end
mutual
inductive Dp (K:PySem.W.Frag) (H:Hp):V→PyData→Prop
 |bX:Dp K H .bX .none
 |bl (b:Bool):Dp K H (.bl b) (.bool b)
 |int (i:Int):Dp K H (.int i) (.int i)
 |str (x:Str):Dp K H (.str x) (.str x)
 |lst {a:Addr} {xs:List V} {ds:List PyData}:cK K H a xs→CT K H xs ds→Dp K H (.ref a) (.list ds)
 |tup {a:Addr} {xs:List V} {ds:List PyData}:bJ K H a xs→CT K H xs ds→Dp K H (.ref a) (.tuple ds)
inductive CT (K:PySem.W.Frag) (H:Hp):List V→List PyData→Prop
 |nil:CT K H [] []
 |cons {v:V} {vs:List V} {d:PyData} {ds:List PyData}:Dp K H v d→CT K H vs ds→CT K H (v::vs) (d::ds)
end
section
variable {X:Cx}{pins:List (Addr×Obj)}{σ:St}{H:Hp}{s:Shared}
mutual
theorem Dp.reads (I:Inv X pins σ H s):∀ (d:PyData)(v:V)(u:Value),Dp X.K H v d→RelV v u→∃as,Reads s.heap u d as
 | .none,_,_,h,r=>by
  cases h
  cases r
  exact ⟨_,Reads.none⟩
 | .bool b,_,_,h,r=>by
  cases h
  cases r
  exact ⟨_,Reads.bool b⟩
 | .int i,_,_,h,r=>by
  cases h
  obtain ⟨t,rfl⟩:=r
  exact ⟨_,Reads.int i t⟩
 | .str x,_,_,h,r=>by
  cases h
  obtain ⟨t,rfl⟩:=r
  exact ⟨_,Reads.str x t⟩
 | .list ds,_,_,h,r=>by
  cases h with
  |lst hs ha=>
   cases r
   obtain ⟨a7,rv,⟨o,n,ho,hc,_,hd⟩,_⟩:=I.list hs
   obtain ⟨as,hr⟩:=Dp.readsAll I ds _ a7 ha rv
   exact ⟨_,Reads.list ho hc hd hr⟩
 | .tuple ds,_,_,h,r=>by
  cases h with
  |tup hs ha=>
   cases r
   obtain ⟨a7,rv,⟨o,ho,hc,n,hd⟩,_⟩:=I.tuple hs
   obtain ⟨as,hr⟩:=Dp.readsAll I ds _ a7 ha rv
   exact ⟨_,Reads.tuple ho hc hd hr⟩
 | .dict _,_,_,h,_=>by cases h
theorem Dp.readsAll (I:Inv X pins σ H s):∀ (ds:List PyData)(vs:List V)(us:List Value),CT X.K H vs ds→Vals vs us→∃as,ReadsAll s.heap us ds as
 | [],_,_,h,r=>by
  cases h
  cases r
  exact ⟨_,ReadsAll.nil⟩
 |d::ds,_,_,h,r=>by
  cases h with
  |cons h1 h2=>
   cases r with
   |cons r1 r2=>
    obtain ⟨as,q1⟩:=Dp.reads I d _ _ h1 r1
    obtain ⟨bs,q2⟩:=Dp.readsAll I ds _ _ h2 r2
    exact ⟨_,ReadsAll.cons q1 q2⟩
end
end
section
variable {X:Cx}
def aas (K:PySem.W.Frag):R2:=fun x y H Q=>∃d e,Dp K H x d∧Dp K H y e∧SeqAt.shaped d=true∧SeqAt.shaped e=true∧Q (.bl (PyData.eqv d e)) H
theorem OK (hu:X.A.units + 64 < cLine):yM X (compareOp .Eq) (aas X.K):=by
 intro pins s σ H x y v u Q I rx ry h
 obtain ⟨d,e,hd,he,sd,se,q⟩:=h
 obtain ⟨as,r1⟩:=Dp.reads I d x v hd rx
 obtain ⟨bs,r2⟩:=Dp.reads I e y u he ry
 exact SeqAt.compareEq_shaped r1 r2 sd se hu ⟨.bl _,H,I,rfl,q⟩
end
abbrev OL (h:Heap)(c:Addr)(v:Option Value):Prop:=h.IsCell c v
def aiA (scope sc:Scope):Scope:=
 {scope with names:=scope.names.map fun (n,k)=>if (k== .free && sc.kind== .function && sc.names.lookup n==some .cell) then (n,.cell) else (n,k)}
def cX (cells:List (Str×Addr)):List (Str×NameKind)→List (Str×Addr)→List (Str×Addr)
 | [],acc=>acc
 |(n,k)::r,acc=>if k== .free then cX cells r ((n,(cells.lookup n).getD 0)::acc) else cX cells r acc
theorem tO (env:Env)(f:Str×NameKind→List (Str×Addr)→Sem (ForInStep (List (Str×Addr))))
  (hf:∀n k c,f (n,k) c=if k== .free then (do let a←cellOf env n;pure (.yield ((n,a)::c))) else pure (.yield c)):
  ∀ (names:List (Str×NameKind))(acc:List (Str×Addr)),(∀y∈names,y.2= .free→∃c,env.cells.lookup y.1=some c)→forIn names acc f=pure (cX env.cells names acc)
 | [],acc,_=>by rw [List.forIn_nil];rfl
 |(n,k)::r,acc,h=>by
  rw [List.forIn_cons,hf]
  have ih:=fun acc=>tO env f hf r acc fun y hy=>h y (List.mem_cons_of_mem _ hy)
  unfold cX
  by_cases hk:(k==NameKind.free)=true
  ·rw [if_pos hk,if_pos hk]
   obtain ⟨c,hc⟩:=h (n,k) List.mem_cons_self (by simpa using hk)
   have e:cellOf env n=pure c:=by unfold cellOf;rw [hc]
   rw [e]
   have e2:(env.cells.lookup n).getD 0=c:=by rw [hc];rfl
   rw [e2]
   exact ih _
  ·rw [if_neg hk,if_neg hk]
   exact ih _
theorem Jr {scope:Scope}{env:Env}(h:∀y∈scope.names,y.2= .free→∃c,env.cells.lookup y.1=some c):closureFor scope env=pure (cX env.cells scope.names []):=by
 simp only [closureFor]
 rw [tO env _ (fun n k c=>rfl) scope.names [] h]
 rfl
theorem mem_lookup {α:Type}:∀ {l:List (Str×α)}{n:Str}{c:α},(n,c)∈l→∃c',l.lookup n=some c'
 |(k,v)::r,n,c,h=>by
  rw [List.lookup_cons]
  cases hb:n==k with
  |true=>exact ⟨_,rfl⟩
  |false=>
   rcases List.mem_cons.mp h with e|h
   ·cases e;simp at hb
   ·exact mem_lookup h
theorem kQ {cells:List (Str×Addr)}:∀ {names:List (Str×NameKind)}{acc:List (Str×Addr)}{n:Str}{c:Addr},(n,c)∈cX cells names acc→(n,c)∈acc∨((n,.free)∈names∧c=(cells.lookup n).getD 0)
 | [],_,_,_,h=> .inl h
 |(m,k)::r,acc,n,c,h=>by
  unfold cX at h
  split at h
  ·rename_i hk
   have hk:k= .free:=by simpa using hk
   rcases kQ h with h|⟨h1,h2⟩
   ·rcases List.mem_cons.mp h with e|h
    ·cases e;exact .inr ⟨hk ▸ List.mem_cons_self,rfl⟩
    ·exact .inl h
   ·exact .inr ⟨List.mem_cons_of_mem _ h1,h2⟩
  ·rcases kQ h with h|⟨h1,h2⟩
   ·exact .inl h
   ·exact .inr ⟨List.mem_cons_of_mem _ h1,h2⟩
theorem oB {cells:List (Str×Addr)}:∀ {names:List (Str×NameKind)}{acc:List (Str×Addr)}{p:Str×Addr},p∈acc→p∈cX cells names acc
 | [],_,_,h=>h
 |(m,k)::r,acc,p,h=>by
  unfold cX
  split
  ·exact oB (List.mem_cons_of_mem _ h)
  ·exact oB h
theorem oC {cells:List (Str×Addr)}:∀ {names:List (Str×NameKind)}{acc:List (Str×Addr)}{n:Str},(n,.free)∈names→(n,(cells.lookup n).getD 0)∈cX cells names acc
 |(m,k)::r,acc,n,h=>by
  unfold cX
  rcases List.mem_cons.mp h with e|h
  ·cases e
   exact oB List.mem_cons_self
  ·split
   ·exact oC h
   ·exact oC h
theorem lZ:∀ {names:List (Str×NameKind)}{h:Heap}{acc:List (Str×Addr)}{x:Str}{c:Addr},(x,c)∈cellsFrom h.objs.size names acc→
  (x,c)∈acc∨((x,.cell)∈names∧h.objs.size≤c∧OL (pushCells h names) c none)
 | [],_,_,_,_,h=> .inl h
 |(n,k)::r,h,acc,x,c,hm=>by
  unfold cellsFrom at hm
  unfold pushCells
  split at hm
  ·rename_i hk
   rw [if_pos hk]
   have hk:k= .cell:=by simpa using hk
   rw [←Heap.size_push h {cls:= .type "cell",data:= .cell none}] at hm
   rcases lZ hm with hm|⟨h1,h2,h3⟩
   ·rcases List.mem_cons.mp hm with e|hm
    ·cases e
     exact .inr ⟨hk ▸ List.mem_cons_self,Nat.le_refl _,_,pushCells_keeps r _ _ _ (Heap.get?_push_size _ rfl),rfl⟩
    ·exact .inl hm
   ·rw [Heap.size_push] at h2
    exact .inr ⟨List.mem_cons_of_mem _ h1,Nat.le_of_succ_le h2,h3⟩
  ·rename_i hk
   rw [if_neg hk]
   rcases lZ hm with hm|⟨h1,h2,h3⟩
   ·exact .inl hm
   ·exact .inr ⟨List.mem_cons_of_mem _ h1,h2,h3⟩
theorem qi:∀ {names:List (Str×NameKind)}{n:Nat}{acc:List (Str×Addr)}{p:Str×Addr},p∈acc→p∈cellsFrom n names acc
 | [],_,_,_,h=>h
 |(m,k)::r,n,acc,p,h=>by
  unfold cellsFrom
  split
  ·exact qi (List.mem_cons_of_mem _ h)
  ·exact qi h
theorem wt:∀ {names:List (Str×NameKind)}{n:Nat}{acc:List (Str×Addr)}{x:Str},(x,.cell)∈names→∃c,(x,c)∈cellsFrom n names acc
 |(m,k)::r,n,acc,x,h=>by
  unfold cellsFrom
  rcases List.mem_cons.mp h with e|h
  ·cases e
   exact ⟨n,qi List.mem_cons_self⟩
  ·split
   ·exact wt h
   ·exact wt h
theorem wu:∀ {names:List (Str×NameKind)}{h:Heap}{acc:List (Str×Addr)}{x y:Str}{c:Addr},(∀p∈acc,p.2 < h.objs.size)→(∀x y c,(x,c)∈acc→(y,c)∈acc→x=y)→
  (x,c)∈cellsFrom h.objs.size names acc→(y,c)∈cellsFrom h.objs.size names acc→x=y
 | [],_,_,_,_,_,_,hi,h1,h2=>hi _ _ _ h1 h2
 |(n,k)::r,h,acc,x,y,c,hl,hi,h1,h2=>by
  unfold cellsFrom at h1 h2
  split at h1
  ·rename_i hk
   rw [if_pos hk] at h2
   rw [←Heap.size_push h {cls:= .type "cell",data:= .cell none}] at h1 h2
   refine wu (h:=h.push _) (fun p hp=> ?_) (fun x y c a b=> ?_) h1 h2
   ·rw [Heap.size_push]
    rcases List.mem_cons.mp hp with rfl|hp
    ·exact Nat.lt_succ_self _
    ·exact Nat.lt_succ_of_lt (hl p hp)
   ·rcases List.mem_cons.mp a with e|a <;>rcases List.mem_cons.mp b with e'|b
    ·cases e;cases e';rfl
    ·cases e;exact absurd (hl _ b) (Nat.lt_irrefl _)
    ·cases e';exact absurd (hl _ a) (Nat.lt_irrefl _)
    ·exact hi _ _ _ a b
  ·rename_i hk
   rw [if_neg hk] at h2
   exact wu hl hi h1 h2
theorem GS {M:Model}{A:Around}{E:Value→Shared→Prop}{s:Shared}{scope:Scope}{globals:Addr}{closure:List (Str×Addr)}{qual:Str}{func:Option Addr}{code:Value}{around:Env}{builtins:Addr}{Q:Env→Shared→Prop}
  (h:Q (newEnv scope s.heap.objs.size globals (cellsFrom (s.heap.objs.size + 1) scope.names closure) qual func code (some around) builtins)
   {s with heap:=pushCells (s.heap.push {cls:= .type "dict",data:= .dict #[] }) scope.names}):
  wpAny M A (newFunctionEnv scope globals closure [] qual func code (some around) builtins) Q E s:=by
 simp only [newFunctionEnv,Option.isSome_some,if_true]
 refine wpAny_bind (wpAny_alloc ?_)
 refine wpAny_bind (wpAny_layCells _ (fun n k c=>rfl) scope.names closure _ _ ?_)
 rw [show ({s with heap:=s.heap.push {cls:= .type "dict",data:= .dict #[] } }:Shared).heap.objs.size=s.heap.objs.size + 1 from Heap.size_push ..]
 rw [List.forIn_nil]
 exact wpAny_bind (wpAny_pure (wpAny_pure h))
theorem oE {sc:Scope}:∀ {names:List (Str×NameKind)}{x:Str}{k:NameKind},
  (names.map fun (n,k)=>if (k==NameKind.free && sc.kind== .function && sc.names.lookup n==some .cell) then (n,NameKind.cell) else (n,k)).lookup x=some k→
  ∃k',names.lookup x=some k'∧(k=k'∨(k'= .free∧k= .cell))
 | [],_,_,h=>by simp at h
 |(n,k₀)::r,x,k,h=>by
  have ih:= @oE sc r x k
  have h':List.lookup x ((if (k₀==NameKind.free && sc.kind== .function && sc.names.lookup n==some .cell)=true then (n,NameKind.cell) else (n,k₀))::(r.map _))=some k:=h
  cases hx:x==n with
  |true=>
   simp only [List.lookup_cons,hx]
   by_cases hc:(k₀==NameKind.free && sc.kind== .function && sc.names.lookup n==some .cell)=true
   ·rw [if_pos hc] at h'
    simp only [List.lookup_cons,hx] at h'
    cases h'
    simp only [Bool.and_eq_true,beq_iff_eq] at hc
    exact ⟨k₀,rfl,.inr ⟨hc.1.1,rfl⟩⟩
   ·rw [if_neg hc] at h'
    simp only [List.lookup_cons,hx] at h'
    cases h'
    exact ⟨_,rfl,.inl rfl⟩
  |false=>
   simp only [List.lookup_cons,hx]
   by_cases hc:(k₀==NameKind.free && sc.kind== .function && sc.names.lookup n==some .cell)=true
   ·rw [if_pos hc] at h'
    simp only [List.lookup_cons,hx] at h'
    exact ih h'
   ·rw [if_neg hc] at h'
    simp only [List.lookup_cons,hx] at h'
    exact ih h'
structure GU (N:List Str) (sc scope:Scope) (own:List (Str×Nat)):Prop where
 kind:scope.kind= .function
 uniq:∀y∈scope.names,scope.names.lookup y.1=some y.2
 ix:∀p∈own,N[p.2]?=some p.1
 free:∀y∈scope.names,y.2= .free→sc.names.lookup y.1=some .cell∨sc.names.lookup y.1=some .free
 own:∀y∈scope.names,y.2= .local∨y.2= .cell→y.1∈own.map (·.1)∨y.1 ∉ N
def wipe (σ:St):List Nat→St
 | [] =>σ
 |v::vs=>(wipe σ vs).set v none
theorem oF (σ:St):∀vs:List Nat,(wipe σ vs).length=σ.length
 | [] =>rfl
 |v::vs=>by unfold wipe;rw [List.length_set,oF σ vs]
theorem wx {σ:St}{i:Nat}{x:V}:∀ {vs:List Nat},(wipe σ vs)[i]?=some (some x)→σ[i]?=some (some x)∧i ∉ vs
 | [],h=>⟨h,by simp⟩
 |v::vs,h=>by
  unfold wipe at h
  by_cases hi:v=i
  ·subst hi
   by_cases hv:v < (wipe σ vs).length
   ·rw [List.getElem?_set_self hv] at h;cases h
   ·rw [List.getElem?_eq_none (by simpa using hv)] at h;cases h
  ·rw [List.getElem?_set_ne hi] at h
   obtain ⟨h1,h2⟩:=wx h
   exact ⟨h1,by simp only [List.mem_cons,not_or];exact ⟨fun e=>hi e.symm,h2⟩⟩
abbrev Cx.Ez (X:Cx)(s:Shared)(H:Hp)(scope:Scope)(gQ:Env)(fp:List Addr):Cx:={X with CC:=s,VZ:=H,env:=gQ,outer:=X.stack,ex:=fp,fn:=fun x=>scope.names.lookup x==some .cell,pn:= [],xe:=fun _ _=>False}
section
variable {X:Cx}{pins:List (Addr×Obj)}{σ:St}{H:Hp}{s:Shared}
theorem GV {scope:Scope}{own:List (Str×Nat)}{fp:List Addr}(I:Inv X pins σ H s)(ok:GU X.N X.env.scope scope own)(hN:X.N.Nodup)(Vg:∀b∈fp,yL X pins H b∧b < s.heap.objs.size):
  Inv (X.Ez s H scope (compEnvC scope (cellsFrom (s.heap.objs.size + 1) scope.names (cX X.env.cells scope.names [])) s.heap.objs.size X.env) fp) [] (wipe σ (own.map (·.2))) H {s with heap:=pushCells (s.heap.push {cls:= .type "dict",data:= .dict #[] }) scope.names}:=by
 have CF:∀y∈scope.names,y.2= .free→∃c,X.env.cells.lookup y.1=some c:=fun y hy e=>by
  rcases ok.free y hy e with k|k
  ·exact I.ok.has _ (.inl k)
  ·exact I.ok.has _ (.inr k)
 generalize GW:compEnvC scope (cellsFrom (s.heap.objs.size + 1) scope.names (cX X.env.cells scope.names [])) s.heap.objs.size X.env=gQ
 have kp:∀b o,s.heap.get? b=some o→(pushCells (s.heap.push {cls:= .type "dict",data:= .dict #[] }) scope.names).get? b=some o:=fun b o e=>pushCells_keeps _ _ _ _ (Heap.get?_push_of_some _ e)
 have hL:gQ.locals=s.heap.objs.size:=by rw [←GW];rfl
 have K0:gQ.cells=cellsFrom (s.heap.objs.size + 1) scope.names (cX X.env.cells scope.names []):=by rw [←GW];rfl
 have hsc:gQ.scope=aiA scope X.env.scope:=by rw [←GW];rfl
 rw [←Heap.size_push s.heap {cls:= .type "dict",data:= .dict #[] }] at K0
 have cm:∀ {y c},(y,c)∈cX X.env.cells scope.names [] →X.env.cells.lookup y=some c∧c < s.heap.objs.size:=fun {y c} hm=>by
  rcases kQ hm with hm|⟨h1,rfl⟩
  ·cases hm
  ·obtain ⟨c,hc⟩:=CF _ h1 rfl
   rw [hc]
   obtain ⟨w,z⟩:=I.cell _ _ hc
   exact ⟨rfl,z.lt⟩
 have mem:∀ {y c},gQ.cells.lookup y=some c→(X.env.cells.lookup y=some c∧c < s.heap.objs.size)∨(s.heap.objs.size + 1≤c∧OL (pushCells (s.heap.push {cls:= .type "dict",data:= .dict #[] }) scope.names) c none):=fun {y c} e=>by
  rw [K0] at e
  rcases lZ (PySem.mem_of_lookup e) with hm|⟨_,h2,h3⟩
  ·exact .inl (cm hm)
  ·rw [Heap.size_push] at h2;exact .inr ⟨h2,h3⟩
 have look:∀ {y},scope.names.lookup y=some .free→∃c,gQ.cells.lookup y=some c∧X.env.cells.lookup y=some c:=fun {y} hl=>by
  have hy:(y,NameKind.free)∈scope.names:=PySem.mem_of_lookup hl
  obtain ⟨c',e'⟩:=mem_lookup (qi (names:=scope.names) (n:=(s.heap.push {cls:= .type "dict",data:= .dict #[] }).objs.size) (oC (cells:=X.env.cells) (acc:= []) hy))
  rw [←K0] at e'
  refine ⟨c',e',?_⟩
  rw [K0] at e'
  rcases lZ (PySem.mem_of_lookup e') with hm|⟨h1,_,_⟩
  ·exact (cm hm).1
  ·have:=ok.uniq _ h1
   rw [hl] at this;cases this
 have okB:(X.Ez s H scope gQ fp).Ok:=by
  refine ⟨I.ok.mod,by show gQ.scope.kind=_;rw [hsc];exact ok.kind,by show gQ.globals=_;rw [←GW];exact I.ok.glob,by show gQ.builtins=_;rw [←GW];exact I.ok.blt,by show s.heap.objs.size≤gQ.locals;rw [hL];exact Nat.le_refl _,
   fun y z c e1 e2=> ?_,fun y hy=> ?_,fun y c z e=> ?_,I.ok.hd,I.ok.frames,.inl rfl,fun b hb=>⟨?_,fun y c e z=> ?_⟩,I.bs,Nat.le_trans I.ok.SH I.sz,fun b o e hb=> ?_,fun b hb z=> ?_,I.stack,I.KG⟩
  ·have e1:gQ.cells.lookup y=some c:=e1
   have e2:gQ.cells.lookup z=some c:=e2
   rw [K0] at e1 e2
   refine wu (fun p hp=> ?_) (fun y z c a b=>I.ok.inj y z c (cm a).1 (cm b).1) (PySem.mem_of_lookup e1) (PySem.mem_of_lookup e2)
   rw [Heap.size_push]
   exact Nat.lt_succ_of_lt (cm (y:=p.1) (c:=p.2) hp).2
  ·show ∃c,gQ.cells.lookup y=some c
   have key:∀k,gQ.kindOf y=some k→(k= .cell∨k= .free)→∃c,gQ.cells.lookup y=some c:=fun k hk hk'=>by
    unfold Env.kindOf at hk
    rw [hsc] at hk
    obtain ⟨k',e,r⟩:=oE hk
    have:k'= .cell∨k'= .free:=by
     rcases r with rfl|⟨rfl,_⟩
     ·exact hk'
     ·exact .inr rfl
    rcases this with rfl|rfl
    ·obtain ⟨c,hm⟩:=wt (n:=(s.heap.push {cls:= .type "dict",data:= .dict #[] }).objs.size) (acc:=cX X.env.cells scope.names []) (PySem.mem_of_lookup e)
     obtain ⟨c',e'⟩:=mem_lookup hm
     exact ⟨c',by rw [K0];exact e'⟩
    ·obtain ⟨c,h1,_⟩:=look e
     exact ⟨c,h1⟩
   rcases hy with hy|hy
   ·exact key _ hy (.inl rfl)
   ·exact key _ hy (.inr rfl)
  ·have z:(scope.names.lookup y==some NameKind.cell)=true:=z
   have z:scope.names.lookup y=some .cell:=by simpa using z
   have e:gQ.cells.lookup y=some c:=e
   rw [K0] at e
   rcases lZ (PySem.mem_of_lookup e) with hm|⟨_,h2,_⟩
   ·rcases kQ hm with hm|⟨h1,_⟩
    ·cases hm
    ·have q:=ok.uniq _ h1
     rw [z] at q;cases q
   ·rw [Heap.size_push] at h2
    exact Nat.le_of_succ_le h2
  ·show b≠gQ.locals
   rw [hL];exact Nat.ne_of_lt (Vg b hb).2
  ·have e:gQ.cells.lookup y=some c:=e
   rcases mem e with ⟨h1,_⟩|⟨h1,_⟩
   ·exact (Vg b hb).1.2.2.2.2.1 y c h1 z
   ·have h2:s.heap.objs.size + 1≤b:=by rw [←z];exact h1
    exact absurd (Nat.lt_of_lt_of_le (Vg b hb).2 (Nat.le_of_succ_le h2)) (Nat.lt_irrefl _)
  ·rcases (Vg b hb).1.2.2.2.1 with z|z
   ·exact I.ok.Om b o e z
   ·exact absurd (Nat.lt_of_lt_of_le (Heap.lt_size e) (Nat.le_trans I.ok.SH z)) (Nat.lt_irrefl _)
  ·rcases List.mem_cons.mp (I.Jb b z) with z|z
   ·exact (Vg b hb).1.2.1 z
   ·exact (Vg b hb).1.2.2.1 z
 refine ⟨okB,rfl,I.bare,Un.kept kp,⟨fun _=>none,?_,fun i y av e1 e2 e3=> ?_⟩,fun y c e=> ?_,?_,fun y c e=> ?_,fun p hp=> ?_,I.cx.kept kp,by rw [oF];exact I.len⟩
 ·show Heap.Ns _ gQ.locals _
  rw [hL]
  exact Heap.Ns.keeps (Heap.Ns.new ..) fun b o e=>pushCells_keeps _ _ _ _ e
 ·obtain ⟨e2,qY⟩:=wx e2
  have CU:scope.names.lookup y=some .free∧(gQ.kindOf y=some .cell∨gQ.kindOf y=some .free):=by
   have key:∀k,gQ.scope.names.lookup y=some k→k= .local∨k= .cell∨k= .free→scope.names.lookup y=some .free∧(gQ.kindOf y=some .cell∨gQ.kindOf y=some .free):=fun k hk hk'=>by
    have hk0:=hk
    rw [hsc] at hk
    obtain ⟨k',e,r⟩:=oE hk
    have no:¬ (k'= .local∨k'= .cell):=fun hh=>by
     rcases ok.own _ (PySem.mem_of_lookup e) hh with e'|e'
     ·obtain ⟨p,hp,hpy⟩:=List.mem_map.mp e'
      have e3:=ok.ix p hp
      have:p.1=y:=hpy
      rw [this] at e3
      exact qY (List.mem_map.mpr ⟨p,hp,zq hN e3 e1⟩)
     ·exact e' (List.mem_of_getElem? e1)
    rcases r with rfl|⟨rfl,rfl⟩
    ·rcases hk' with rfl|rfl|rfl
     ·exact absurd (.inl rfl) no
     ·exact absurd (.inr rfl) no
     ·exact ⟨e,.inr hk0⟩
    ·exact ⟨e,.inl hk0⟩
   have e3:Zd gQ.scope y:=e3
   rcases e3 with e3|e3|e3
   ·exact key _ e3 (.inl rfl)
   ·exact key _ e3 (.inr (.inl rfl))
   ·exact key _ e3 (.inr (.inr rfl))
  obtain ⟨m,hn,hl⟩:=I.loc
  have aiC:Zd X.env.scope y:=(ok.free _ (PySem.mem_of_lookup CU.1) rfl).elim (fun k=> .inr (.inl k)) (fun k=> .inr (.inr k))
  obtain ⟨w,r,q⟩:=hl i y av e1 e2 aiC
  refine ⟨w,r,.inr ⟨CU.2,?_⟩⟩
  obtain ⟨c,h1,h2⟩:=look CU.1
  rcases q with ⟨k,_⟩|⟨_,c',e',z⟩
  ·have k:X.env.scope.names.lookup y=some .local:=k
   rcases ok.free _ (PySem.mem_of_lookup CU.1) rfl with k'|k' <;>rw [show X.env.scope.names.lookup y=_ from k'] at k <;>cases k
  ·rw [h2] at e';cases e'
   exact ⟨c,h1,z.keeps kp⟩
 ·have e:gQ.cells.lookup y=some c:=e
  rcases mem e with ⟨h1,_⟩|⟨_,z⟩
  ·obtain ⟨w,z⟩:=I.cell y c h1
   exact ⟨w,z.keeps kp⟩
  ·exact ⟨_,z⟩
 ·show H gQ.locals=none
  rw [hL];exact I.cx.fresh (Nat.le_refl _)
 ·have e:gQ.cells.lookup y=some c:=e
  rcases mem e with ⟨h1,_⟩|⟨h1,_⟩
  ·exact I.lU y c h1
  ·exact I.cx.fresh (Nat.le_of_succ_le h1)
 ·exact absurd (show p∈([] :List (Addr×Obj)) ++ [] from hp) (by simp)
theorem Wu {E:Value→Shared→Prop}{D:Addr}{xs:List V}{y:V}{v:Value}{Q:Value→Shared→Prop}(I:Inv X pins σ H s)(hD:H D=some (.lst xs))(hz:xs.length < sizeLine)(r:RelV y v)
  (h:∀s',Inv X pins σ (upd H D (.lst (xs ++ [y]))) s'→Q .none s'):wpAny (model X.prog X.w) X.A (call (.builtin "list.append") [.ref D,v]) Q E s:=by
 obtain ⟨Zj,a7,n,ri,e⟩:=I.cx D _ hD
 have hl:=ri.length
 refine append_at (hsz:=by rw [List.size_toArray];omega) e fun h' sb BD=> ?_
 refine h {s with heap:=h'} (I.write (t':=s.toks) (by rw [hD];trivial) (.inl rfl) (fun b u hb q=>(sb.2 b hb).trans q) ⟨_,BD⟩ ⟨by rw [List.length_append];exact hz,a7 ++ [v],n + 1,ri.append (.cons r .nil),?_⟩)
 rw [BD]
 simp
def PTs (X:Cx)(ifs:List Expr)(t:TT):Prop:=
 ∀ (pins:List (Addr×Obj))(s:Shared)(σ:St)(H:Hp)(Q:Bool→Hp→Prop),Inv X pins σ H s→t σ H Q→
  wpAny (model X.prog X.w) X.A (forIn ifs true fun c r=>if r=true then do let ok←isTrue c X.env (eval c X.env);pure (ForInStep.yield ok) else pure (ForInStep.yield r)) (TP X pins σ Q) X.xe s
def aav:TT:=fun _ H Q=>Q true H
theorem y1:PTs X [] aav:=fun _ _ _ H _ I h=>wpAny_tests_nil ⟨H,I,h⟩
theorem EA {c:Expr}{t:TT}(h:PT X c t):PTs X [c] t:=fun pins s σ H Q I hw=>wpAny_tests_one (h pins s σ H Q I hw)
end
theorem Mp {α:Type}{t:Sem α}{Q Q':α→Shared→Prop}{M:Model}{A:Around}{E:Value→Shared→Prop}{s:Shared}(h:wpAny M A t Q (fun _ _=>False) s)(hQ:∀a s,Q a s→Q' a s):wpAny M A t Q' E s:=wpAny_mono h hQ fun _ _ z=>False.elim z
theorem EB {prog:Program}{w:World}{A:Around}{R:Result→Shared→Prop}{s:Shared}{elt target iter:Expr}{ifs:List Expr}{scope:Scope}{pos:Pos}{it acc:Value}{env:Env}(I:Nat→Shared→Prop)
  (turn:∀n s,I n s→wpAny (model prog w) A (pyNext it) (fun r s₁=>match r with
   |none=>R (.ok .next) s₁
   |some v=>wpAny (model prog w) A (letOwnedTupleGo target it v) (fun _ s₁'=>wpAny (model prog w) A (assign target env v) (fun _ s₂=>
     wpAny (model prog w) A (forIn ifs true fun c r=>if r=true then do let ok←isTrue c env (eval c env);pure (ForInStep.yield ok) else pure (ForInStep.yield r)) (fun ok s₃=>
      if ok=true then wpAny (model prog w) A (eval elt env) (fun x s₄=>
       wpAny (model prog w) A (call (.builtin "list.append") [acc,x]) (fun _ s₅=>∃m,m < n∧I m s₅) (notedBy (model prog w) A env fun e s'=>R (.error e) s') s₄) (notedBy (model prog w) A env fun e s'=>R (.error e) s') s₃
      else ∃m,m < n∧I m s₃) (notedBy (model prog w) A env fun e s'=>R (.error e) s') s₂) (notedBy (model prog w) A env fun e s'=>R (.error e) s') s₁') (notedBy (model prog w) A env fun e s'=>R (.error e) s') s₁) (notedBy (model prog w) A env fun e s'=>R (.error e) s') s)
  (n:Nat)(h:I n s):
  codeAny (model prog w) A (.compLoop (.ListComp elt [⟨target,iter,ifs,0⟩] scope pos) 0 it acc env) R s:=by
 refine codeAny_loop rfl I (fun n s hI=> ?_) n h
 show wpAny _ A ((compTurn (.ListComp elt [⟨target,iter,ifs,0⟩] scope pos) 0 it acc env).onRaise (fun x=>do noteFrame x env;theTreesLotGoes x)) _ _ s
 refine wpAny_noted ?_
 rw [compTurn_list]
 refine wpAny_bind (wpAny_standAt (wpAny_bind (wpAny_mono (turn n s hI) (fun r s₁ h₁=> ?_) fun _ _ h'=>h')))
 cases r with
 |none=>exact wpAny_pure h₁
 |some v=>
  refine wpAny_bind (wpAny_mono h₁ (fun _ s₁' h₁'=> ?_) fun _ _ h'=>h')
  refine wpAny_bind (wpAny_mono h₁' (fun _ s₂ h₂=>wpAny_bind (wpAny_mono h₂ (fun ok s₃ h₃=> ?_) fun _ _ h'=>h')) fun _ _ h'=>h')
  cases ok with
  |false=>exact wpAny_pure ⟨rfl,h₃⟩
  |true=>
   exact wpAny_bind (wpAny_bind (wpAny_mono h₃ (fun x s₄ h₄=>wpAny_bind (wpAny_mono h₄ (fun _ s₅ h₅=>wpAny_pure (wpAny_pure ⟨rfl,h₅⟩)) fun _ _ h'=>h')) fun _ _ h'=>h'))
section
variable {X:Cx}
def tLc (wi:TI)(g:TG)(tt:TT)(te:TE)(vs:List Nat):TE:=fun σ H Q=>wi σ H fun J H1=>∀D,H1 D=none→∃W:Nat→Nat→Hp→Prop,(∃m,W 0 m (upd H1 D (.lst [])))∧∀i m H,W i m H→
 (J.stop i H∧Q (.ref D) H)∨(J.go i H∧∃Nx:Hp→Prop,(∀H',Nx H'→∃m',m' < m∧W (i + 1) m' H')∧∀x H',J.Ob i H x H'→g x (wipe σ vs) H' fun σ2 H2=>wipe σ2 vs=wipe σ vs∧tt σ2 H2 fun b H3=>
  if b=true then te σ2 H3 fun y H4=>∃acc,H4 D=some (.lst acc)∧acc.length < sizeLine∧Nx (upd H4 D (.lst (acc ++ [y]))) else Nx H3)
theorem K1 {pins:List (Addr×Obj)}{s:Shared}{σ:St}{H:Hp}{Q:VK}{elt tg iter:Expr}{ifs:List Expr}{scope:Scope}{own:List (Str×Nat)}{pos pos':Pos}{wi:TI}{g:TG}{tt:TT}{te:TE}{use:Option (Value→Sem Unit)}{Qf:Value→Shared→Prop}
  (hc:X.calm=true)(hN:X.N.Nodup)(I:Inv X pins σ H s)(hi:PI X tg iter wi)(ok:GU X.N X.env.scope scope own)
  (hg:∀ (s:Shared)(H:Hp)(C:Addr)(cl:List (Str×Addr))(fp:List Addr),PG (X.Ez s H scope (compEnvC scope cl C X.env) fp) tg g)(ht:∀ (s:Shared)(H:Hp)(C:Addr)(cl:List (Str×Addr))(fp:List Addr),PTs (X.Ez s H scope (compEnvC scope cl C X.env) fp) ifs tt)
  (he:∀ (s:Shared)(H:Hp)(C:Addr)(cl:List (Str×Addr))(fp:List Addr),PE (X.Ez s H scope (compEnvC scope cl C X.env) fp) elt te)(hs:∀x,foldedSetIterable iter X.env x=pure x)
  (h:tLc wi g tt te (own.map (·.2)) σ H Q)
  (hRR:∀D C s' m H',Inv X pins σ H' s'→Q (.ref D) H'→s'.heap.Ns C m→yL X pins H' C→compPost (model X.prog X.w) X.A X.xe use Qf (.ref D) C (.ok .next) s'):
  wpAny (model X.prog X.w) X.A (comprehension (.ListComp elt [⟨tg,iter,ifs,0⟩] scope pos) scope X.env pos' (newList []) false (eval iter X.env) use) Qf X.xe s:=by
 have CF:∀y∈scope.names,y.2= .free→∃c,X.env.cells.lookup y.1=some c:=fun y hy e=>by
  rcases ok.free y hy e with k|k
  ·exact I.ok.has _ (.inl k)
  ·exact I.ok.has _ (.inr k)
 refine wpAny_comprehension_free (use:=use) rfl hs (Jr CF) ok.kind (fun y hy e=>by rw [ok.uniq y hy,e])
  (dz (hi pins s σ H _ I h) fun xv s1 hx=>dz hx fun itv s2 h2=> ?_)
 obtain ⟨it,fp,tn,J,H2,e,I2,T,st2,f2,q⟩:=h2
 subst e
 refine wpAny_newObj_type (GS ?_) (by show 0≤sizeLine;decide)
 generalize hD:s2.heap.objs.size=D
 have hDn:H2 D=none:=I2.cx.fresh (Nat.le_of_eq hD)
 obtain ⟨W,⟨m0,w0⟩,turn⟩:=q D hDn
 generalize Zk:({s2 with heap:=s2.heap.push {cls:= .type "list",data:= .seq ([] :List Value).toArray} }:Shared)=s3
 have I3:Inv X pins σ (upd H2 D (.lst [])) s3:=by
  rw [←Zk]
  refine I2.laid (t':=s2.toks) (fun b o e=>Heap.get?_push_of_some _ e) (Nat.le_of_eq hD) ⟨Nat.zero_le _,[],0,.nil,?_⟩
  rw [←hD]
  exact Heap.get?_push_size _ rfl
 have h3:s3.heap=s2.heap.push {cls:= .type "list",data:= .seq ([] :List Value).toArray}:=by rw [←Zk]
 have sz:∀b∈fp,b < s2.heap.objs.size:=fun b hb=>by
  obtain ⟨o,e,_⟩:=T.obj _ _ st2 b hb
  exact Heap.lt_size e
 have f3:∀b∈fp,yL X pins (upd H2 D (.lst [])) b∧b < s3.heap.objs.size:=fun b hb=>by
  have eA:=sz b hb
  refine ⟨⟨?_,(f2 b hb).2⟩,by rw [h3,Heap.size_push];exact Nat.lt_succ_of_lt eA⟩
  rw [az (by rw [←hD];exact Nat.ne_of_lt eA)]
  exact (f2 b hb).1
 have st3:tn 0 s3.heap:=T.keep _ _ _ st2 fun b _ o e=>by rw [h3];exact Heap.get?_push_of_some _ e
 have I4:=GV I3 ok hN f3
 have pg:=hg s3 (upd H2 D (.lst [])) s3.heap.objs.size (cellsFrom (s3.heap.objs.size + 1) scope.names (cX X.env.cells scope.names [])) fp
 have pt:=ht s3 (upd H2 D (.lst [])) s3.heap.objs.size (cellsFrom (s3.heap.objs.size + 1) scope.names (cX X.env.cells scope.names [])) fp
 have pe:=he s3 (upd H2 D (.lst [])) s3.heap.objs.size (cellsFrom (s3.heap.objs.size + 1) scope.names (cX X.env.cells scope.names [])) fp
 show codeAny _ _ (.compStart (.ListComp elt [⟨tg,iter,ifs,0⟩] scope pos) 0 (.ref it) (.ref D) (compEnvC scope (cellsFrom (s3.heap.objs.size + 1) scope.names (cX X.env.cells scope.names [])) s3.heap.objs.size X.env)) (compPost (model X.prog X.w) X.A X.xe use Qf (.ref D) s3.heap.objs.size) {s3 with heap:=pushCells (s3.heap.push {cls:= .type "dict",data:= .dict #[] }) scope.names}
 have nfp:∀b∈fp,(upd H2 D (.lst [])) b=none:=fun b hb=>(f3 b hb).1.1
 generalize hce:compEnvC scope (cellsFrom (s3.heap.objs.size + 1) scope.names (cX X.env.cells scope.names [])) s3.heap.objs.size X.env=ce at I4 pg pt pe ⊢
 have cL:ce.locals=s3.heap.objs.size:=by subst hce;rfl
 generalize Mq:upd H2 D (.lst [])=H3 at I3 I4 pg pt pe w0 nfp f3
 generalize hs4:({s3 with heap:=pushCells (s3.heap.push {cls:= .type "dict",data:= .dict #[] }) scope.names}:Shared)=s4 at I4 ⊢
 have st4:tn 0 s4.heap:=T.keep _ _ _ st3 fun b _ o e=>by rw [←hs4];exact pushCells_keeps _ _ _ _ (Heap.get?_push_of_some _ e)
 have stat:∀ {σ':St}{H':Hp}{s':Shared},Inv (X.Ez s3 H3 scope ce fp) [] σ' H' s'→(∀b∈fp,H' b=none)→∀b∈fp,yL (X.Ez s3 H3 scope ce fp) [] H' b:=fun {σ' H' s'} I' hn b hb=>
  ⟨hn b hb,(I'.ok.exf b hb).1,I'.ok.Oo b hb,.inl hb,fun x c e=>(I'.ok.exf b hb).2 x c e,fun p hp=>absurd (show p∈([] :List (Addr×Obj)) ++ [] from hp) (by simp)⟩
 have loop:codeAny (model X.prog X.w) X.A (.compLoop (.ListComp elt [⟨tg,iter,ifs,0⟩] scope pos) 0 (.ref it) (.ref D) ce) (compPost (model X.prog X.w) X.A X.xe use Qf (.ref D) s3.heap.objs.size) s4:=by
  refine EB (fun n s'=>∃i H',Inv (X.Ez s3 H3 scope ce fp) [] (wipe σ (own.map (·.2))) H' s'∧tn i s'.heap∧(∀b∈fp,H' b=none)∧W i n H') ?_ m0 ⟨0,H3,I4,st4,nfp,w0⟩
  rintro n s5 ⟨i,H5,I5,Zf,n5,w5⟩
  rcases turn i n H5 w5 with ⟨stop,qq⟩|⟨go,Nx,hNx,step⟩
  ·have td:=T.done (X.Ez s3 H3 scope ce fp) rfl rfl rfl hc i [] s5 _ H5 (fun _ _=>False) I5 (stat I5 n5) Zf stop
   refine Mp td fun r s6 ⟨hr,I6⟩=> ?_
   subst hr
   have I7:Inv X pins σ H5 s6:=I3.ZQ (ch:=fp) I6.os I6.base I6.cx I6.bare fun b hb=>⟨(f3 b hb).1.2.2.2.1,(f3 b hb).1.2.1,(f3 b hb).1.2.2.2.2.1,(f3 b hb).1.2.2.2.2.2⟩
   have nC:H5 s3.heap.objs.size=none:=by
    have z:H5 ce.locals=none:=I6.free
    rw [cL] at z
    exact z
   obtain ⟨m,hn,_⟩:=I6.loc
   have hn:s6.heap.Ns ce.locals m:=hn
   rw [cL] at hn
   exact hRR D s3.heap.objs.size s6 m H5 I7 qq hn (I3.Me (Nat.le_refl _) nC)
  ·have ti:=T.item (X.Ez s3 H3 scope ce fp) rfl rfl rfl hc i [] s5 _ H5 (fun _ _=>False) I5 (stat I5 n5) Zf go
   refine Mp ti fun r s6 ⟨u,hr,h6⟩=> ?_
   subst hr
   refine Mp h6 fun _ s7 ⟨x,H7,I7,r7,y7,st7,n7⟩=> ?_
   have I7':=I7.pinned (stat I7 n7) (T.obj _ _ st7)
   refine Mp (pg _ s7 _ H7 x u _ I7' r7 (step x H7 y7)) fun _ s8 ⟨σ8,H8,I8,hw8,q8⟩=> ?_
   refine Mp (pt _ s8 σ8 H8 _ I8 q8) fun b s9 ⟨H9,I9,q9⟩=> ?_
   have fin:∀ {s':Shared}{H':Hp},Inv (X.Ez s3 H3 scope ce fp) ([] ++ zu fp s7.heap) σ8 H' s'→Nx H'→∃m,m < n∧∃i H',Inv (X.Ez s3 H3 scope ce fp) [] (wipe σ (own.map (·.2))) H' s'∧tn i s'.heap∧(∀b∈fp,H' b=none)∧W i m H':=fun {s' H'} I' nx=>by
    obtain ⟨m',hm,w'⟩:=hNx H' nx
    have aax:∀b∈fp,∀o,s7.heap.get? b=some o→s'.heap.get? b=some o∧H' b=none:=fun b hb o e=>
     let z:=I'.pin (b,o) (List.mem_append_right _ (List.mem_append_right _ (sQ hb e)))
     ⟨z.1,z.2.1⟩
    have hl:(wipe σ (own.map (·.2))).length=σ8.length:=by rw [←hw8,oF]
    refine ⟨m',hm,i + 1,H',(I'.tH (pins:= [])).weak hl (fun j v e=> ?_),T.keep _ _ _ st7 fun b hb o e=>(aax b hb o e).1,fun b hb=> ?_,w'⟩
    ·rw [←hw8] at e
     exact (wx e).1
    ·obtain ⟨o,e,_⟩:=T.obj _ _ st7 b hb
     exact (aax b hb o e).2
   cases b with
   |false=>
    simp only [Bool.false_eq_true,if_false] at q9 ⊢
    exact fin I9 q9
   |true=>
    simp only [if_true] at q9 ⊢
    refine Mp (pe _ s9 σ8 H9 _ I9 q9) fun z s10 ⟨yv,H10,I10,r10,acc,aiE,OM,nx⟩=> ?_
    exact Wu (X:=X.Ez s3 H3 scope ce fp) I10 aiE OM r10 fun s11 I11=>fin I11 nx
 exact codeAny_compStart_list loop (T.self X.A 0 _ _ _ st4 loop)
theorem K2 {elt tg iter:Expr}{ifs:List Expr}{scope:Scope}{own:List (Str×Nat)}{pos:Pos}{wi:TI}{g:TG}{tt:TT}{te:TE}(hc:X.calm=true)(hN:X.N.Nodup)(hi:PI X tg iter wi)(ok:GU X.N X.env.scope scope own)
  (hg:∀ (s:Shared)(H:Hp)(C:Addr)(cl:List (Str×Addr))(fp:List Addr),PG (X.Ez s H scope (compEnvC scope cl C X.env) fp) tg g)(ht:∀ (s:Shared)(H:Hp)(C:Addr)(cl:List (Str×Addr))(fp:List Addr),PTs (X.Ez s H scope (compEnvC scope cl C X.env) fp) ifs tt)
  (he:∀ (s:Shared)(H:Hp)(C:Addr)(cl:List (Str×Addr))(fp:List Addr),PE (X.Ez s H scope (compEnvC scope cl C X.env) fp) elt te)(hs:∀x,foldedSetIterable iter X.env x=pure x:=by intro _;rfl):
  PE X (.ListComp elt [⟨tg,iter,ifs,0⟩] scope pos) (tLc wi g tt te (own.map (·.2))):=by
 intro pins s σ H Q I h
 rw [eval_ListComp]
 refine K1 hc hN I hi ok hg ht he hs h fun D C s' m H' I' q hn f=>⟨m,hn,fun Vh sb=> ?_⟩
 obtain ⟨f0,f1,f2,f3,f4,f5⟩:=f
 exact ⟨.ref D,H',I'.turned (t':=s'.toks) (fun b o hb e=>(sb.2 b hb).trans e) f0 f1 f3 f4 f5,rfl,q⟩
theorem zG {i:Nat}{y:Str}{py:Pos}{elt tg iter:Expr}{ifs:List Expr}{scope:Scope}{own:List (Str×Nat)}{pos aay:Pos}{wi:TI}{g:TG}{tt:TT}{te:TE}(hc:X.calm=true)(hN:X.N.Nodup)(hy:X.N[i]?=some y)(hyl:X.env.scope.names.lookup y=some .local)
  (hsw:swapsWith (.ListComp elt [⟨tg,iter,ifs,0⟩] scope pos) (some (.Name y py)) aay.line X.env=pure true)(hi:PI X tg iter wi)(ok:GU X.N X.env.scope scope own)
  (hg:∀ (s:Shared)(H:Hp)(C:Addr)(cl:List (Str×Addr))(fp:List Addr),PG (X.Ez s H scope (compEnvC scope cl C X.env) fp) tg g)(ht:∀ (s:Shared)(H:Hp)(C:Addr)(cl:List (Str×Addr))(fp:List Addr),PTs (X.Ez s H scope (compEnvC scope cl C X.env) fp) ifs tt)
  (he:∀ (s:Shared)(H:Hp)(C:Addr)(cl:List (Str×Addr))(fp:List Addr),PE (X.Ez s H scope (compEnvC scope cl C X.env) fp) elt te)(hs:∀x,foldedSetIterable iter X.env x=pure x:=by intro _;rfl):
  PS X (.Assign [.Name y py] (.ListComp elt [⟨tg,iter,ifs,0⟩] scope pos) aay) (V4 (tLc wi g tt te (own.map (·.2))) (KL i)):=by
 intro pins s σ H D I h
 rw [exec_Assign_Name_used _ _ _ _ hsw]
 refine wpAny_bind (wpAny_standAt (wpAny_bind ?_))
 show wpAny _ X.A (do let _←comprehension (.ListComp elt [⟨tg,iter,ifs,0⟩] scope pos) scope X.env (firstIterPos [⟨tg,iter,ifs,0⟩] pos) (newList []) false (eval iter X.env) (some (assign (.Name y py) X.env))) _ _ s
 have h:tLc wi g tt te (own.map (·.2)) σ H (fun x H1=>KL i x σ H1 D.nx):=h
 refine wpAny_bind (dz (K1 (Qf:=fun _ s'=>SP X pins D .next s') hc hN I hi ok hg ht he hs h fun L C s' m H' I' q hn f=> ?_) fun _ s' hq=>wpAny_pure (wpAny_pure hq))
 show wpAny _ _ (assign (.Name y py) X.env (.ref L)) _ _ _
 refine wpAny_assign_Name (CD (v:=V.ref L) I' hN hy (.inl hyl) rfl (fun s2 I2 ⟨a,sb,ha⟩=> ?_) (.inr hyl))
 obtain ⟨f0,f1,f2,f3,f4,f5⟩:=f
 have haC:C≠a:=by
  rcases ha with z|z
  ·rw [z];exact f1
  ·exact fun e=>f4 y a z e.symm
 refine ⟨m,hn.sameBut sb haC,fun h3 sb3=> ?_⟩
 exact ⟨_,H',I2.turned (t':=s2.toks) (fun b o hb e=>(sb3.2 b hb).trans e) f0 f1 f3 f4 f5,q⟩
theorem EC {elt:Expr}{gs:List Comprehension}{scope:Scope}{pos py:Pos}{y:Str}{l:Nat}{env:Env}(hk:env.scope.kind= .function)(hy:env.scope.names.lookup y=some .local)(hl:(py.line==pos.line)=true)
  (ha:(scope.names.any fun (n,k)=>n==y && (k== .local||k== .cell))=false):swapsWith (.ListComp elt gs scope pos) (some (.Name y py)) l env=pure true:=by
 have ky:env.kindOf y=some .local:=hy
 have hb:env.blockKind= .function:=by unfold Env.blockKind;rw [hk];rfl
 unfold swapsWith
 simp only [hb,ky,ha,Expr.pos,hl]
 rfl
end
theorem ED {K:PySem.W.Frag}{a:Addr}{xs:List V}{g:TG}{tt:TT}{te:TE}{vs:List Nat}{σ:St}{H1:Hp}{D:Addr}{Qd:Hp→Prop}(Pv:Nat→Hp→Prop)(h0:Pv 0 (upd H1 D (.lst [])))(hl:∀i H,i≤xs.length→Pv i H→cK K H a xs)
  (hs:∀i x H,xs[i]?=some x→Pv i H→g x (wipe σ vs) H fun σ2 H2=>wipe σ2 vs=wipe σ vs∧tt σ2 H2 fun b H3=>
   if b=true then te σ2 H3 fun y H4=>∃acc,H4 D=some (.lst acc)∧acc.length < sizeLine∧Pv (i + 1) (upd H4 D (.lst (acc ++ [y]))) else Pv (i + 1) H3)(hd:∀H,Pv xs.length H→Qd H):
  ∃W:Nat→Nat→Hp→Prop,(∃m,W 0 m (upd H1 D (.lst [])))∧∀i m H,W i m H→
   ((Va K a).stop i H∧Qd H)∨((Va K a).go i H∧∃Nx:Hp→Prop,(∀H',Nx H'→∃m',m' < m∧W (i + 1) m' H')∧∀x H',(Va K a).Ob i H x H'→g x (wipe σ vs) H' fun σ2 H2=>wipe σ2 vs=wipe σ vs∧tt σ2 H2 fun b H3=>
    if b=true then te σ2 H3 fun y H4=>∃acc,H4 D=some (.lst acc)∧acc.length < sizeLine∧Nx (upd H4 D (.lst (acc ++ [y]))) else Nx H3):=by
 refine ⟨fun i m H=>m=xs.length - i∧i≤xs.length∧Pv i H,⟨xs.length,by simp,Nat.zero_le _,h0⟩,?_⟩
 rintro i m H ⟨rfl,hi,p⟩
 have q:=hl i H hi p
 by_cases eA:i < xs.length
 ·refine .inr ⟨⟨xs,xs[i],q,by simp [eA]⟩,Pv (i + 1),fun H' p'=>⟨xs.length - (i + 1),by omega,rfl,eA,p'⟩,fun x H' y=> ?_⟩
  obtain ⟨e,y⟩:=y
  subst e
  exact hs i x _ (y xs q) p
 ·have e:i=xs.length:=by omega
  subst e
  exact .inl ⟨⟨xs,q,Nat.le_refl _⟩,hd H p⟩
def EE (N:List Str)(sc scope:Scope)(own:List (Str×Nat)):Bool:=
 (match scope.kind with| .function=>true|_=>false) && (scope.names.all fun y=>decide (scope.names.lookup y.1=some y.2)) && (own.all fun p=>decide (N[p.2]?=some p.1)) &&
  (scope.names.all fun y=>match y.2 with
   | .free=>(match sc.names.lookup y.1 with|some .cell=>true|some .free=>true|_=>false)
   | .local=>decide (y.1∈own.map (·.1))||decide (y.1 ∉ N)
   | .cell=>decide (y.1∈own.map (·.1))||decide (y.1 ∉ N)
   |_=>true)
theorem kr {N:List Str}{sc scope:Scope}{own:List (Str×Nat)}(h:EE N sc scope own=true):GU N sc scope own:=by
 unfold EE at h
 simp only [Bool.and_eq_true,List.all_eq_true,decide_eq_true_eq] at h
 obtain ⟨⟨⟨h1,h2⟩,h3⟩,h4⟩:=h
 refine ⟨?_,h2,h3,fun y hy e=> ?_,fun y hy e=> ?_⟩
 ·split at h1
  ·assumption
  ·cases h1
 ·have q:=h4 y hy
  simp only [e] at q
  split at q <;>first|exact .inl (by assumption)|exact .inr (by assumption)|cases q
 ·have q:=h4 y hy
  rcases e with e|e <;>(simp only [e,Bool.or_eq_true,decide_eq_true_eq] at q;exact q)
section
variable {κ:Type} [DecidableEq κ]
def dD (kvs:List (κ×V))(k:κ):Option V:=(kvs.find? fun kv=>decide (kv.1=k)).map (·.2)
def putK (kvs:List (κ×V))(k:κ)(v:V):List (κ×V):=
 if (kvs.any fun kv=>decide (kv.1=k))=true then kvs.map (fun kv=>if kv.1=k then (kv.1,v) else kv) else kvs ++ [(k,v)]
def zH (kvs:List (κ×V))(k:κ):List (κ×V):=kvs.filter fun kv=>decide (kv.1≠k)
theorem di {p:κ×V}{r:List (κ×V)}{k:κ}(e:p.1=k):dD (p::r) k=some p.2:=by simp [dD,List.find?_cons,e]
theorem dj {p:κ×V}{r:List (κ×V)}{k:κ}(e:¬p.1=k):dD (p::r) k=dD r k:=by simp [dD,List.find?_cons,e]
theorem ku (k:κ):∀kvs:List (κ×V),(kvs.any fun kv=>decide (kv.1=k))=(dD kvs k).isSome
 | [] =>rfl
 |p::r=>by
  rw [List.any_cons]
  by_cases e:p.1=k
  ·simp only [di e,decide_eq_true e,Bool.true_or,Option.isSome_some]
  ·rw [dj e,decide_eq_false e,Bool.false_or];exact ku k r
theorem GX (k j:κ)(y:V):∀kvs:List (κ×V),dD (kvs.map fun kv=>if kv.1=k then (kv.1,y) else kv) j=(dD kvs j).map fun x=>if j=k then y else x
 | [] =>rfl
 |p::r=>by
  have ih:=GX k j y r
  rw [List.map_cons]
  by_cases h:p.1=k
  ·rw [if_pos h]
   by_cases e:p.1=j
   ·rw [di (p:=(p.1,y)) e,di e,Option.map_some,if_pos (e.symm.trans h)]
   ·rw [dj (p:=(p.1,y)) e,dj e,ih]
  ·rw [if_neg h]
   by_cases e:p.1=j
   ·rw [di (p:=p) e,di e,Option.map_some,if_neg (fun z=>h (e.trans z))]
   ·rw [dj (p:=p) e,dj e,ih]
theorem CV (k j:κ)(y:V):∀kvs:List (κ×V),dD kvs k=none→dD (kvs ++ [(k,y)]) j=if j=k then some y else dD kvs j
 | [],_=>by
  by_cases e:k=j
  ·rw [if_pos e.symm];exact di (p:=(k,y)) e
  ·rw [if_neg (fun z=>e z.symm)];exact dj (p:=(k,y)) e
 |p::r,hn=>by
  rw [List.cons_append]
  have hk:¬p.1=k:=fun z=>by rw [di z] at hn;cases hn
  rw [dj hk] at hn
  have ih:=CV k j y r hn
  by_cases e:p.1=j
  ·rw [di e,di e,if_neg (fun z=>hk (e.trans z))]
  ·rw [dj e,dj e,ih]
theorem ON (kvs:List (κ×V))(k j:κ)(y:V):dD (putK kvs k y) j=if j=k then some y else dD kvs j:=by
 unfold putK
 by_cases a:(kvs.any fun kv=>decide (kv.1=k))=true
 ·rw [if_pos a,GX]
  rw [ku] at a
  by_cases e:j=k
  ·obtain ⟨x,hx⟩:=Option.isSome_iff_exists.mp a
   rw [if_pos e,e,hx,Option.map_some,if_pos rfl]
  ·rw [if_neg e]
   cases dD kvs j with
   |none=>rfl
   |some x=>rw [Option.map_some,if_neg e]
 ·rw [if_neg a]
  refine CV k j y kvs ?_
  rw [ku] at a
  cases q:dD kvs k with
  |none=>rfl
  |some x=>rw [q] at a;exact (a rfl).elim
theorem oG (kvs:List (κ×V))(k:κ)(v:V):(putK kvs k v).length≤kvs.length + 1:=by
 unfold putK
 split
 ·rw [List.length_map];omega
 ·rw [List.length_append,List.length_cons,List.length_nil];omega
theorem OO {kvs:List (κ×V)}{k:κ}(v:V)(h:dD kvs k=none):putK kvs k v=kvs ++ [(k,v)] :=by
 unfold putK
 rw [ku,h]
 exact if_neg (by decide)
theorem qV.l7 {o:Option V}{u:Option Value}(r:qV o u):o.isSome=u.isSome:=by
 cases o with
 |none=>cases u with
  |none=>rfl
  |some _=>exact (show False from r).elim
 |some _=>cases u with
  |none=>exact (show False from r).elim
  |some _=>rfl
theorem qV.getD {o:Option V}{u:Option Value}{d:V}{d':Value}(r:qV o u)(rd:RelV d d'):RelV (o.getD d) (u.getD d'):=by
 cases o with
 |none=>cases u with
  |none=>exact rd
  |some _=>exact (show False from r).elim
 |some _=>cases u with
  |none=>exact (show False from r).elim
  |some _=>exact r
theorem KV.val {kvs:List (κ×V)}{vs:List (κ×Value)}(r:KV kvs vs)(k:κ):qV (dD kvs k) (valueAt vs k):=by
 unfold KV at r
 induction r with
 |nil=>exact True.intro
 | @cons p q ps qs h t ih=>
  obtain ⟨h1,h2⟩:=h
  by_cases e:p.1=k
  ·have e':q.1=k:=h1.symm.trans e
   have b:valueAt (q::qs) k=some q.2:=by simp [valueAt,List.find?_cons,e']
   rw [di e,b];exact h2
  ·have e':¬q.1=k:=fun z=>e (h1.trans z)
   have b:valueAt (q::qs) k=valueAt qs k:=by simp [valueAt,List.find?_cons,e']
   rw [dj e,b];exact ih
theorem KV.any {kvs:List (κ×V)}{vs:List (κ×Value)}(r:KV kvs vs)(k:κ):(kvs.any fun kv=>decide (kv.1=k))=vs.any fun kv=>decide (kv.1=k):=by
 unfold KV at r
 induction r with
 |nil=>rfl
 |cons h t ih=>rw [List.any_cons,List.any_cons,ih,h.1]
theorem KV.Wv {kvs:List (κ×V)}{vs:List (κ×Value)}(r:KV kvs vs)(k:κ){y:V}{u:Value}(ry:RelV y u):
  KV (kvs.map fun kv=>if kv.1=k then (kv.1,y) else kv) (vs.map fun kv=>if kv.1=k then (kv.1,u) else kv):=by
 unfold KV at r ⊢
 induction r with
 |nil=>exact .nil
 | @cons p q ps qs h t ih=>
  rw [List.map_cons,List.map_cons]
  refine .cons ?_ ih
  obtain ⟨h1,h2⟩:=h
  by_cases e:p.1=k
  ·rw [if_pos e,if_pos (h1.symm.trans e)];exact ⟨h1,ry⟩
  ·rw [if_neg e,if_neg (fun z=>e (h1.trans z))];exact ⟨h1,h2⟩
theorem KV.put {kvs:List (κ×V)}{vs:List (κ×Value)}(r:KV kvs vs)(k:κ){y:V}{u:Value}(ry:RelV y u):KV (putK kvs k y) (stored vs k u):=by
 unfold putK stored
 rw [r.any k]
 by_cases e:(vs.any fun kv=>decide (kv.1=k))=true
 ·rw [if_pos e,if_pos e];exact r.Wv k ry
 ·rw [if_neg e,if_neg e];exact Paired.snoc r ⟨rfl,ry⟩
theorem KV.keys {kvs:List (κ×V)}{vs:List (κ×Value)}(r:KV kvs vs):kvs.map (·.1)=vs.map (·.1):=by
 unfold KV at r
 induction r with
 |nil=>rfl
 |cons h t ih=>rw [List.map_cons,List.map_cons,ih,h.1]
theorem KV.length {kvs:List (κ×V)}{vs:List (κ×Value)}(r:KV kvs vs):kvs.length=vs.length:=Paired.length r
theorem OP (kvs:List (κ×V))(k:κ):(zH kvs k).length≤kvs.length:=List.length_filter_le _ _
end
theorem xr {P:Program}{w:World}{k:Key}{u:Value}(r:RelV (kV k) u):(bY P w).is k u=true:=by
 cases k with
 |inl i=>obtain ⟨t,e⟩:=(show ∃t,u=Value.int i t from r);subst e;exact xm P w i t
 |inr x=>obtain ⟨t,e⟩:=(show ∃t,u=Value.str x t from r);subst e;exact GD P w x t
theorem CW {P:Program}{w:World}:∀ {ks:List Key}{us:List Value},Vals (ks.map kV) us→ItemsAre (bY P w) ks us
 | [],_,r=>by rw [List.map_nil] at r;cases r;exact .nil
 |k::ks,_,r=>by
  rw [List.map_cons] at r
  cases r with
  |cons h t=>exact .cons (xr h) (CW t)
abbrev KT (H:Hp):List (List Key×V)→List (List Key×Addr×Value)→Prop:=Paired fun p q=>p.1=q.1∧H q.2.1=some (.tup (p.1.map kV))∧RelV p.2 q.2.2
theorem KT.val {H:Hp}{kvs:List (List Key×V)}{xs:List (List Key×Addr×Value)}(r:KT H kvs xs)(k:List Key):qV (dD kvs k) ((atKey xs k).map (·.2)):=by
 induction r with
 |nil=>exact True.intro
 | @cons p q ps qs h t ih=>
  obtain ⟨h1,_,h2⟩:=h
  by_cases e:p.1=k
  ·have e':q.1=k:=h1.symm.trans e
   have b:atKey (q::qs) k=some q.2:=by simp [atKey,List.find?_cons,e']
   rw [di e,b];exact h2
  ·have e':¬q.1=k:=fun z=>e (h1.trans z)
   have b:atKey (q::qs) k=atKey qs k:=by simp [atKey,List.find?_cons,e']
   rw [dj e,b];exact ih
theorem KT.Wv {H:Hp}{kvs:List (List Key×V)}{xs:List (List Key×Addr×Value)}(r:KT H kvs xs)(k:List Key){y:V}{u:Value}(ry:RelV y u):
  KT H (kvs.map fun kv=>if kv.1=k then (kv.1,y) else kv) (xs.map (putAt k u)):=by
 induction r with
 |nil=>exact .nil
 | @cons p q ps qs h t ih=>
  rw [List.map_cons,List.map_cons]
  refine .cons ?_ ih
  obtain ⟨h1,h2,h3⟩:=h
  unfold putAt
  by_cases e:p.1=k
  ·rw [if_pos e,if_pos (h1.symm.trans e)];exact ⟨h1,h2,ry⟩
  ·rw [if_neg e,if_neg (fun z=>e (h1.trans z))];exact ⟨h1,h2,h3⟩
theorem KT.put {H:Hp}{kvs:List (List Key×V)}{xs:List (List Key×Addr×Value)}(r:KT H kvs xs)(k:List Key){b:Addr}{y:V}{u:Value}(hb:H b=some (.tup (k.map kV)))(ry:RelV y u):
  KT H (putK kvs k y) (storedH xs k b u):=by
 have e:(kvs.any fun kv=>decide (kv.1=k))=(atKey xs k).isSome:=by
  rw [ku,(r.val k).l7,Option.isSome_map]
 unfold putK storedH
 rw [e]
 by_cases q:(atKey xs k).isSome=true
 ·rw [if_pos q,if_pos q];exact r.Wv k ry
 ·rw [if_neg q,if_neg q];exact Paired.snoc r ⟨rfl,hb,ry⟩
theorem KT.keeps {H H':Hp}{kvs:List (List Key×V)}{xs:List (List Key×Addr×Value)}(r:KT H kvs xs)(ht:∀b ys,H b=some (.tup ys)→H' b=some (.tup ys)):KT H' kvs xs:=
 Paired.cN r fun _ _ z=>⟨z.1,ht _ _ z.2.1,z.2.2⟩
section
variable {P:Program}{w:World}{H:Hp}{h:Heap}{a:Addr}
theorem Vi {u:HO}(ok:ox P w H h)(e:Rd H a u):d7 P w H h a u:=e.ok ok
theorem tP {kvs:List (Key×V)}(ok:ox P w H h)(e:Rd H a (.dK kvs)):kvs.length≤sizeLine∧(a==sysModules)=false∧∃vs,KV kvs vs∧h.DictOf (bY P w) a vs:=
 show d7 P w H h a (.dK kvs) from Vi ok e
theorem Vj {kvs:List (Key×V)}(ok:ox P w H h)(e:H a=some (.dK kvs)):kvs.length≤sizeLine∧(a==sysModules)=false∧∃vs,KV kvs vs∧h.DictOf (bY P w) a vs:=tP ok (.inl e)
theorem oH {ks:List Key}(ok:ox P w H h)(e:H a=some (.tup (ks.map kV))):(tupleKind (bY P w)).is h ks a:=by
 obtain ⟨_,a7,r,o,h1,h2,n,h3⟩:=(show d7 P w H h a (.tup (ks.map kV)) from ok a _ e)
 exact ⟨o,a7.toArray,n,h1,h2,h3,by simpa using CW r⟩
theorem xt {kvs:List (List Key×V)}(ok:ox P w H h)(e:Rd H a (.dT kvs)):kvs.length≤sizeLine∧(a==sysModules)=false∧
  ∃xs,KT H kvs xs∧h.DictOfH (tupleKind (bY P w)) a xs:=by
 obtain ⟨z,y,xs,r,o,es,ep,h1,h2,h3,h4,h5⟩:=(show d7 P w H h a (.dT kvs) from Vi ok e)
 refine ⟨z,y,xs,r,o,es,ep,h1,h2,h3,h4,fun x hx=> ?_,h5⟩
 have all:∀ {l:List (List Key×V)}{m:List (List Key×Addr×Value)},KT H l m→∀x∈m,(tupleKind (bY P w)).is h x.1 x.2.1:=by
  intro l m q
  induction q with
  |nil=>intro x hx;exact nomatch hx
  | @cons p q ps qs hq t ih=>
   intro x hx
   rcases List.mem_cons.mp hx with e|hx
   ·subst e
    exact oH ok (by rw [←hq.1];exact hq.2.1)
   ·exact ih x hx
 exact all r x hx
theorem Vk {kvs:List (List Key×V)}(ok:ox P w H h)(e:H a=some (.dT kvs)):kvs.length≤sizeLine∧(a==sysModules)=false∧
  ∃xs,KT H kvs xs∧h.DictOfH (tupleKind (bY P w)) a xs:=xt ok (.inl e)
end
def gC (H:Hp)(a:Addr)(y:V)(r:Option V):Prop:=
 (∃kvs k,Rd H a (.dK kvs)∧y=kV k∧r=dD kvs k)∨∃kvs k b,Rd H a (.dT kvs)∧y= .ref b∧H b=some (.tup (k.map kV))∧r=dD kvs k
def zI (H:Hp)(a:Addr)(y v:V)(H':Hp):Prop:=
 (∃kvs k,H a=some (.dK kvs)∧y=kV k∧kvs.length < sizeLine∧H'=upd H a (.dK (putK kvs k v)))∨
 ∃kvs k b,H a=some (.dT kvs)∧y= .ref b∧H b=some (.tup (k.map kV))∧kvs.length < sizeLine∧H'=upd H a (.dT (putK kvs k v))
theorem gC.k {H:Hp}{a:Addr}{kvs:List (Key×V)}{k:Key}(e:H a=some (.dK kvs)):gC H a (kV k) (dD kvs k):= .inl ⟨kvs,k,.inl e,rfl,rfl⟩
theorem gC.t {H:Hp}{a b:Addr}{kvs:List (List Key×V)}{k:List Key}(e:H a=some (.dT kvs))(eb:H b=some (.tup (k.map kV))):gC H a (.ref b) (dD kvs k):= .inr ⟨kvs,k,b,.inl e,rfl,eb,rfl⟩
theorem zI.k {H:Hp}{a:Addr}{kvs:List (Key×V)}{k:Key}{v:V}(e:H a=some (.dK kvs))(hl:kvs.length < sizeLine):zI H a (kV k) v (upd H a (.dK (putK kvs k v))):= .inl ⟨kvs,k,e,rfl,hl,rfl⟩
theorem zI.t {H:Hp}{a b:Addr}{kvs:List (List Key×V)}{k:List Key}{v:V}(e:H a=some (.dT kvs))(eb:H b=some (.tup (k.map kV)))(hl:kvs.length < sizeLine):
  zI H a (.ref b) v (upd H a (.dT (putK kvs k v))):= .inr ⟨kvs,k,b,e,rfl,eb,hl,rfl⟩
section
variable {X:Cx}{pins:List (Addr×Obj)}{σ:St}{H:Hp}{s:Shared}{a:Addr}{y v:V}{u r:Value}{o:Option V}{A:Around}{E:Value→Shared→Prop}
theorem Inv.big (I:Inv X pins σ H s):sysModules < s.heap.objs.size:=by
 have h:mainGlobals < s.heap.objs.size:=(I.mod.glob.keeps I.bk).lt
 exact Nat.lt_trans (by decide) h
theorem Mr {Q:Value→Shared→Prop}(hu:A.units + 1 < cLine)(I:Inv X pins σ H s)(g:gC H a y (some v))(ry:RelV y u)(h:∀w' s',Inv X pins σ H s'→RelV v w'→Q w' s'):
  wpAny (model X.prog X.w) A (getItem (.ref a) u) Q E s:=by
 rcases g with ⟨kvs,k,e,ey,l⟩|⟨kvs,k,b,e,ey,eb,l⟩
 ·subst ey
  obtain ⟨z,hd,vs,rel,dd⟩:=tP I.cx e
  obtain ⟨w',hw,Eo⟩:=qV.some_of (v:=v) (o:=valueAt vs k) (by rw [l];exact rel.val k)
  exact wpAny_getItem_of (xr ry) dd.mapOf hw (h w' _ (I.tok _) Eo)
 ·subst ey
  cases (show u=Value.ref b from ry)
  obtain ⟨z,hd,xs,rel,dd⟩:=xt I.cx e
  obtain ⟨w',hw,Eo⟩:=qV.some_of (v:=v) (o:=(atKey xs k).map (·.2)) (by rw [l];exact rel.val k)
  obtain ⟨p,hp,hp2⟩:=Option.map_eq_some_iff.mp hw
  refine wpAny_getItem_heap (tupleKind_room_in1 hu) (oH I.cx eb) dd hp ?_
  rw [hp2]
  exact h w' _ (I.tok _) Eo
theorem aiF {Q:Value→Shared→Prop}(hu:A.units + 1 < cLine)(I:Inv X pins σ H s)(g:gC H a y o)(ry:RelV y u)(h:∀s',Inv X pins σ H s'→Q (.bool o.isSome) s'):
  wpAny (model X.prog X.w) A (compareOp .In u (.ref a)) Q E s:=by
 rcases g with ⟨kvs,k,e,ey,l⟩|⟨kvs,k,b,e,ey,eb,l⟩
 ·subst ey
  obtain ⟨z,hd,vs,rel,dd⟩:=tP I.cx e
  refine wpAny_in_of (xr ry) hd dd.mapOf ?_
  rw [←(rel.val k).l7,←l]
  exact h _ (I.tok _)
 ·subst ey
  cases (show u=Value.ref b from ry)
  obtain ⟨z,hd,xs,rel,dd⟩:=xt I.cx e
  refine wpAny_in_heap (tupleKind_room_in1 hu) (oH I.cx eb) hd dd ?_
  have q:=(rel.val k).l7
  rw [Option.isSome_map] at q
  rw [←q,←l]
  exact h _ (I.tok _)
theorem Tb {Q:Value→Shared→Prop}(hu:A.units + 1 < cLine)(I:Inv X pins σ H s)(g:gC H a y o)(ry:RelV y u)(h:∀s',Inv X pins σ H s'→Q (.bool (!o.isSome)) s'):
  wpAny (model X.prog X.w) A (compareOp .NotIn u (.ref a)) Q E s:=by
 rcases g with ⟨kvs,k,e,ey,l⟩|⟨kvs,k,b,e,ey,eb,l⟩
 ·subst ey
  obtain ⟨z,hd,vs,rel,dd⟩:=tP I.cx e
  refine wpAny_notIn_of (xr ry) hd dd.mapOf ?_
  rw [←(rel.val k).l7,←l]
  exact h _ (I.tok _)
 ·subst ey
  cases (show u=Value.ref b from ry)
  obtain ⟨z,hd,xs,rel,dd⟩:=xt I.cx e
  refine wpAny_notIn_heap (tupleKind_room_in1 hu) (oH I.cx eb) hd dd ?_
  have q:=(rel.val k).l7
  rw [Option.isSome_map] at q
  rw [←q,←l]
  exact h _ (I.tok _)
theorem EF {h':Heap}{t':Nat}{ob:HO}(I:Inv X pins σ H s)(mu:UW (H a))(hs:Heap.SameBut a s.heap h')(he:∃q,h'.get? a=some q)(new:d7 X.prog X.w (upd H a ob) h' a ob):
  Inv X pins σ (upd H a ob) {s with heap:=h',toks:=t'}:=
 I.write (x:=a) (e:=a) mu (.inl rfl) (fun b q hb z=>(hs.2 b hb).trans z) he new
theorem Ww {P:Program}{w:World}{H':Hp}{h':Heap}{kvs:List (Key×V)}{vs:List (Key×Value)}(z:kvs.length≤sizeLine)(hd:(a==sysModules)=false)(rel:KV kvs vs)(dd:h'.DictOf (bY P w) a vs):
  d7 P w H' h' a (.dK kvs):=⟨z,hd,vs,rel,dd⟩
theorem Ms {H':Hp}{Q:Unit→Shared→Prop}(hu:A.units + 1 < cLine)(I:Inv X pins σ H s)(g:zI H a y v H')(ry:RelV y u)(rv:RelV v r)(h:∀s',Inv X pins σ H' s'→Q () s'):
  wpAny (model X.prog X.w) A (setItem (.ref a) u r) Q E s:=by
 rcases g with ⟨kvs,k,e,ey,l,eH⟩|⟨kvs,k,b,e,ey,eb,l,eH⟩
 ·subst ey eH
  obtain ⟨z,hd,vs,rel,dd⟩:=Vj I.cx e
  have hz:vs.length≤sizeLine:=by rw [←rel.length];exact z
  have hl:(putK kvs k v).length≤sizeLine:=by have:=oG kvs k v;omega
  refine wpAny_setItem_pairs (hsz:=hz) (xr ry) dd fun h' Zl hs=>h _ ?_
  have he:∃q,h'.get? a=some q:=let ⟨q,_,_,hq,_⟩:=Zl;⟨q,hq⟩
  exact EF I (by rw [e];exact True.intro) hs he (Ww hl hd (rel.put k rv) Zl)
 ·subst ey eH
  cases (show u=Value.ref b from ry)
  obtain ⟨z,hd,xs,rel,dd⟩:=Vk I.cx e
  have hz:xs.length≤sizeLine:=by rw [←Paired.length rel];exact z
  have hl:(putK kvs k v).length≤sizeLine:=by have:=oG kvs k v;omega
  refine wpAny_setItem_heap (hsz:=hz) (tupleKind_room_in1 hu) (oH I.cx eb) dd fun h' Zl hs=>h _ ?_
  obtain ⟨q,es,ep,hq,h2,h3,h4,_,h5⟩:=Zl
  refine EF I (by rw [e];exact True.intro) hs ⟨q,hq⟩ ⟨hl,hd,_,(rel.put k eb rv).keeps fun c ys ec=> ?_,q,es,ep,hq,h2,h3,h4,h5⟩
  rw [az (a8 ec e (fun z=>nomatch z))]
  exact ec
end
section
variable {X:Cx}{pins:List (Addr×Obj)}{σ:St}{H:Hp}{s:Shared}{a:Addr}{kvs:List (Key×V)}{k:Key}{u:Value}{A:Around}{E:Value→Shared→Prop}
theorem aaz {Q:Value→Shared→Prop}(I:Inv X pins σ H s)(e:Rd H a (.dK kvs))(h:∀t s',Inv X pins σ H s'→Q (.int kvs.length t) s'):wpAny (model X.prog X.w) A (call (.builtin "len") [.ref a]) Q E s:=by
 obtain ⟨z,hd,vs,rel,dd⟩:=tP I.cx e
 refine call_len_dict hd dd (by rw [←rel.length];rw [sizeLine_eq] at z;omega) ?_
 rw [←rel.length]
 exact h _ _ (I.tok _)
end
def Tc (i:Expr):Prop:=∀ov iv,subscripted i false ov iv=operate [ov,iv] (getItem ov iv)
theorem EG {prog:Program}{w:World}{A:Around}{E:Value→Shared→Prop}{s:Shared}{env:Env}{value slice:Expr}{pos:Pos}{T id:String}{Q:Value→Shared→Prop}
  (hl:typeLookup (.type T) "__getitem__"=pure (some (.builtin id)))(hs:Tc slice)
  (h:wpAny (model prog w) A (eval value env) (fun o s₁=>wpAny (model prog w) A (eval slice env) (fun i s₂=>s₂.TypeIs o T∧wpAny (model prog w) A (getItem o i) Q E s₂) E s₁) E s):
  wpAny (model prog w) A (eval (.Subscript value slice pos) env) Q E s:=by
 refine Subscript_ (wpAny_mono h (fun o s₁ h₁=>wpAny_mono h₁ (fun i s₂ h₂=> ?_) fun _ _ x=>x) fun _ _ x=>x)
 obtain ⟨hT,h₂⟩:=h₂
 unfold subscriptTail
 refine wpAny_bind ?_
 rw [getitemInPython_of_ne hT.not_modules]
 refine wpAny_bind (wpAny_specialOf hT hl ?_)
 have fin:wpAny (model prog w) A (subscripted slice false o i) (fun r s₃=>wpAny (model prog w) A (letTemporaryGo value o r >>=fun _=>pure r) Q E s₃) E s₂:=by
  rw [hs o i]
  exact wpAny_operating (wpAny_mono h₂ (fun r s₃ h₃=>wpAny_bind (wpAny_letTemporaryGo (wpAny_pure h₃))) fun _ _ x=>x)
 first
  |exact wpAny_pure (wpAny_bind fin)
  |exact wpAny_bind (wpAny_pure (wpAny_bind fin))
  |exact wpAny_bind fin
theorem GY {X:Cx}{pins:List (Addr×Obj)}{σ:St}{H:Hp}{s:Shared}{a:Addr}{y:V}{o:Option V}(I:Inv X pins σ H s)(g:gC H a y o):s.TypeIs (.ref a) "dict":=by
 rcases g with ⟨kvs,k,e,_,_⟩|⟨kvs,k,b,e,_,_,_⟩
 ·obtain ⟨_,_,vs,_,dd⟩:=tP I.cx e
  exact dd.typeIs
 ·obtain ⟨_,_,xs,_,dd⟩:=xt I.cx e
  exact dd.typeIs
def aaA (td ty:TE):TE:=fun σ H Q=>td σ H fun x H1=>ty σ H1 fun y H2=>∃a v,x= .ref a∧gC H2 a y (some v)∧Q v H2
def aiG (ty td:TE):TE:=fun σ H Q=>ty σ H fun y H1=>td σ H1 fun x H2=>∃a o,x= .ref a∧gC H2 a y o∧Q (.bl o.isSome) H2
def Td (ty td:TE):TE:=fun σ H Q=>ty σ H fun y H1=>td σ H1 fun x H2=>∃a o,x= .ref a∧gC H2 a y o∧Q (.bl (!o.isSome)) H2
def aaB (td ty tv:TE):TS:=fun D σ H=>tv σ H fun v H1=>td σ H1 fun x H2=>ty σ H2 fun y H3=>∃a H4,x= .ref a∧zI H3 a y v H4∧D.nx σ H4
section
variable {X:Cx}{o i e value:Expr}{pos pos' zD:Pos}{td ty tv:TE}
theorem EH (hu:X.A.units + 1 < cLine)(ho:PE X o td)(hi:PE X i ty)(hs:Tc i):PE X (.Subscript o i pos) (aaA td ty):=by
 intro pins s σ H Q I h
 refine EG PySem.F.slot_dict_getitem.lookup hs (dz (ho pins s σ H _ I h) fun u s1 ⟨x,H1,I1,rx,q1⟩=>dz (hi pins s1 σ H1 _ I1 q1) fun iv s2 ⟨y,H2,I2,ry,a,v,ex,g,q2⟩=> ?_)
 subst ex
 obtain rfl:u=Value.ref a:=rx
 exact ⟨GY I2 g,Mr hu I2 g ry fun w' s3 I3 Eo=>⟨v,H2,I3,Eo,q2⟩⟩
theorem EI (hu:X.A.units + 1 < cLine)(hi:PE X i ty)(ho:PE X o td):PC X .In i o (aiG ty td):=by
 intro pins s σ H Q I h
 refine dz (hi pins s σ H _ I h) fun iv s1 ⟨y,H1,I1,ry,q1⟩=>dz (ho pins s1 σ H1 _ I1 q1) fun u s2 ⟨x,H2,I2,rx,a,ov,ex,g,q2⟩=> ?_
 subst ex
 obtain rfl:u=Value.ref a:=rx
 exact aiF hu I2 g ry fun s3 I3=>⟨.bl ov.isSome,H2,I3,rfl,q2⟩
theorem wy (hu:X.A.units + 1 < cLine)(hi:PE X i ty)(ho:PE X o td):PC X .NotIn i o (Td ty td):=by
 intro pins s σ H Q I h
 refine dz (hi pins s σ H _ I h) fun iv s1 ⟨y,H1,I1,ry,q1⟩=>dz (ho pins s1 σ H1 _ I1 q1) fun u s2 ⟨x,H2,I2,rx,a,ov,ex,g,q2⟩=> ?_
 subst ex
 obtain rfl:u=Value.ref a:=rx
 exact Tb hu I2 g ry fun s3 I3=>⟨.bl (!ov.isSome),H2,I3,rfl,q2⟩
theorem y2 (hu:X.A.units + 1 < cLine)(ho:PE X o td)(hi:PE X i ty)(hv:PE X value tv)(hs:swapsWith value (some (.Subscript o i pos')) pos.line X.env=pure false):
  PS X (.Assign [.Subscript o i pos'] value pos) (aaB td ty tv):=by
 intro pins s σ H D I h
 refine wpAny_Assign_Subscript (dz (hv pins s σ H _ I h) fun r s1 ⟨v,H1,I1,rv,q1⟩=>dz (ho pins s1 σ H1 _ I1 q1) fun u s2 ⟨x,H2,I2,rx,q2⟩=>dz (hi pins s2 σ H2 _ I2 q2) fun iv s3 ⟨y,H3,I3,ry,a,H4,ex,g,q3⟩=> ?_) hs
 subst ex
 obtain rfl:u=Value.ref a:=rx
 exact Ms hu I3 g ry rv fun s4 I4=>⟨σ,H4,I4,q3⟩
end
theorem OQ {P:Program}{w:World}{H:Hp}(h:Heap)(hb:sysModules < h.objs.size):d7 P w H (h.push {cls:= .type "dict",data:= .dict #[] }) h.objs.size (.dK []):=
 ⟨Nat.zero_le _,beq_eq_false_iff_ne.mpr (Ne.symm (Nat.ne_of_lt hb)),[],.nil,Heap.DictOf.new h⟩
theorem OR {P:Program}{w:World}{H:Hp}(h:Heap)(hb:sysModules < h.objs.size):d7 P w H (h.push {cls:= .type "dict",data:= .dict #[] }) h.objs.size (.dT []):=
 ⟨Nat.zero_le _,beq_eq_false_iff_ne.mpr (Ne.symm (Nat.ne_of_lt hb)),[],.nil,_,#[],0,Heap.get?_push_size _ rfl,⟨rfl,rfl,rfl⟩,rfl,rfl,List.nodup_nil⟩
def Wx:TE:=fun _ H Q=>∀p,H p=none→Q (.ref p) (upd H p (.dK []))
def Wy:TE:=fun _ H Q=>∀p,H p=none→Q (.ref p) (upd H p (.dT []))
section
variable {X:Cx}{pos:Pos}
theorem OS:PE X (.Dict [] [] pos) Wx:=fun pins s σ H Q I h=>
 wpAny_Dict_empty ⟨.ref s.heap.objs.size,_,I.laid (a:=s.heap.objs.size) (o:= .dK []) (t':=s.toks) (fun _ _ q=>Heap.get?_push_of_some _ q) (Nat.le_refl _) (OQ s.heap I.big),rfl,h _ (I.cx.fresh (Nat.le_refl _))⟩
theorem zJ:PE X (.Dict [] [] pos) Wy:=fun pins s σ H Q I h=>
 wpAny_Dict_empty ⟨.ref s.heap.objs.size,_,I.laid (a:=s.heap.objs.size) (o:= .dT []) (t':=s.toks) (fun _ _ q=>Heap.get?_push_of_some _ q) (Nat.le_refl _) (OR s.heap I.big),rfl,h _ (I.cx.fresh (Nat.le_refl _))⟩
end
structure M1 (X:Cx) (o:Expr) (m:Str) (apos:Pos) (e:Expr) (gk:Pos):Prop where
 base:attributeBase o m X.env (eval o X.env)=eval o X.env
 few:((backTo gk (starEach [e] X.env)).all (fun x=> !x.1) && (backToKw gk (keywordEach [] X.env)).all (fun x=>x.1.isSome)
  && decide (([e] :List Expr).length + ([] :List Keyword).length + (if ([] :List Keyword).isEmpty then 0 else 1) < 30))=true
 line:(apos.endLine==gk.line)=true
 trees:backTo gk (starEach [e] X.env)= [(false,eval e X.env)]
structure M2 (X:Cx) (o:Expr) (m:Str) (apos:Pos) (e f:Expr) (gk:Pos):Prop where
 base:attributeBase o m X.env (eval o X.env)=eval o X.env
 few:((backTo gk (starEach [e,f] X.env)).all (fun x=> !x.1) && (backToKw gk (keywordEach [] X.env)).all (fun x=>x.1.isSome)
  && decide (([e,f] :List Expr).length + ([] :List Keyword).length + (if ([] :List Keyword).isEmpty then 0 else 1) < 30))=true
 line:(apos.endLine==gk.line)=true
 trees:backTo gk (starEach [e,f] X.env)= [(false,eval e X.env),(false,eval f X.env)]
def IsD (H:Hp)(a:Addr):Prop:=(∃kvs,Rd H a (.dK kvs))∨∃kvs,Rd H a (.dT kvs)
theorem Js {X:Cx}{pins:List (Addr×Obj)}{σ:St}{H:Hp}{s:Shared}{a:Addr}(I:Inv X pins σ H s)(d:IsD H a):
  s.TypeIs (.ref a) "dict"∧(∀b,Value.ref a= .ref b→∃ob,s.heap.get? b=some ob∧ob.dict=none)∧(a==sysModules)=false:=by
 rcases d with ⟨kvs,e⟩|⟨kvs,e⟩
 ·obtain ⟨_,hd,vs,_,dd⟩:=tP I.cx e
  refine ⟨dd.typeIs,fun b q=> ?_,hd⟩
  cases q
  obtain ⟨ob,_,_,h1,h2,_⟩:=dd
  exact ⟨ob,h1,h2.2.1⟩
 ·obtain ⟨_,hd,xs,_,dd⟩:=xt I.cx e
  refine ⟨dd.typeIs,fun b q=> ?_,hd⟩
  cases q
  obtain ⟨ob,_,_,h1,h2,_⟩:=dd
  exact ⟨ob,h1,h2.2.1⟩
section
variable {X:Cx}{pins:List (Addr×Obj)}{σ:St}{H:Hp}{s:Shared}{a:Addr}{y d:V}{u r:Value}{o:Option V}{A:Around}{E:Value→Shared→Prop}
theorem Wz {Q:Value→Shared→Prop}(hu:A.units + 1 < cLine)(I:Inv X pins σ H s)(g:gC H a y o)(ry:RelV y u)(h:∀w' s',Inv X pins σ H s'→RelV (o.getD .bX) w'→Q w' s'):
  wpAny (model X.prog X.w) A (call (.builtin "dict.get") [.ref a,u]) Q E s:=by
 rcases g with ⟨kvs,k,e,ey,l⟩|⟨kvs,k,b,e,ey,eb,l⟩
 ·subst ey
  obtain ⟨z,hd,vs,rel,dd⟩:=tP I.cx e
  refine call_meetsIn PySem.F.slot_dict_get dd.typeIs PySem.F.entry_dict_get (PySem.F.args_dict_get_2 _ _) (meets_dict_get (bY X.prog X.w) a (xr ry) hd) ⟨_,dd.mapOf,h _ _ (I.tok _) ?_⟩
  rw [l]
  exact (rel.val k).getD rfl
 ·subst ey
  cases (show u=Value.ref b from ry)
  obtain ⟨z,hd,xs,rel,dd⟩:=xt I.cx e
  refine call_meetsIn PySem.F.slot_dict_get dd.typeIs PySem.F.entry_dict_get (PySem.F.args_dict_get_2 _ _) (meetsH_dict_get (tupleKind (bY X.prog X.w)) a b hd) ⟨tupleKind_room_in1 hu,k,xs,oH I.cx eb,dd,h _ _ (I.tok _) ?_⟩
  rw [l]
  exact (rel.val k).getD rfl
theorem WA {Q:Value→Shared→Prop}(hu:A.units + 1 < cLine)(I:Inv X pins σ H s)(g:gC H a y o)(ry:RelV y u)(rd:RelV d r)(h:∀w' s',Inv X pins σ H s'→RelV (o.getD d) w'→Q w' s'):
  wpAny (model X.prog X.w) A (call (.builtin "dict.get") [.ref a,u,r]) Q E s:=by
 rcases g with ⟨kvs,k,e,ey,l⟩|⟨kvs,k,b,e,ey,eb,l⟩
 ·subst ey
  obtain ⟨z,hd,vs,rel,dd⟩:=tP I.cx e
  refine call_meetsIn PySem.F.slot_dict_get dd.typeIs PySem.F.entry_dict_get (PySem.F.args_dict_get_3 _ _ _) (meets_dict_get_default (bY X.prog X.w) a (xr ry) hd r) ⟨_,dd.mapOf,h _ _ (I.tok _) ?_⟩
  rw [l]
  exact (rel.val k).getD rd
 ·subst ey
  cases (show u=Value.ref b from ry)
  obtain ⟨z,hd,xs,rel,dd⟩:=xt I.cx e
  refine call_meetsIn PySem.F.slot_dict_get dd.typeIs PySem.F.entry_dict_get (PySem.F.args_dict_get_3 _ _ _) (meetsH_dict_get_default (tupleKind (bY X.prog X.w)) a b hd r) ⟨tupleKind_room_in1 hu,k,xs,oH I.cx eb,dd,h _ _ (I.tok _) ?_⟩
  rw [l]
  exact (rel.val k).getD rd
end
def WB (td ty:TE):TE:=fun σ H Q=>td σ H fun x H1=>∃a,x= .ref a∧IsD H1 a∧ty σ H1 fun y H2=>∃o,gC H2 a y o∧Q (o.getD .bX) H2
def WC (td ty tx:TE):TE:=fun σ H Q=>td σ H fun x H1=>∃a,x= .ref a∧IsD H1 a∧ty σ H1 fun y H2=>tx σ H2 fun z H3=>∃o,gC H3 a y o∧Q (o.getD z) H3
section
variable {X:Cx}{o e f:Expr}{apos gk:Pos}{td ty tx:TE}
theorem gT (hu:X.A.units + 1 < cLine)(ho:PE X o td)(he:PE X e ty)(m:M1 X o "get" apos e gk):PE X (.Call (.Attribute o "get" apos) [e] [] gk) (WB td ty):=by
 intro pins s σ H Q I h
 refine wpAny_Call_method m.base m.few m.line PySem.F.plainAttrs_dict PySem.F.slot_dict_get PySem.F.type_dict_get (dz (ho pins s σ H _ I h) fun u s1 ⟨x,H1,I1,rx,a,ex,d,q1⟩=> ?_)
 subst ex
 obtain rfl:u=Value.ref a:=rx
 obtain ⟨t1,t2,_⟩:=Js I1 d
 refine ⟨t1,t2,?_⟩
 rw [m.trees]
 refine Calls.callWith_builtin rfl (Calls.evalArgs_plain (Calls.spliced_cons (dz (he pins s1 σ H1 _ I1 q1) fun iv s2 ⟨y,H2,I2,ry,ov,g,q2⟩=>Calls.spliced_nil ?_)))
 exact Wz hu I2 g ry fun w' s3 I3 Eo=>⟨_,H2,I3,Eo,q2⟩
theorem OT (hu:X.A.units + 1 < cLine)(ho:PE X o td)(he:PE X e ty)(hf:PE X f tx)(m:M2 X o "get" apos e f gk):PE X (.Call (.Attribute o "get" apos) [e,f] [] gk) (WC td ty tx):=by
 intro pins s σ H Q I h
 refine wpAny_Call_method m.base m.few m.line PySem.F.plainAttrs_dict PySem.F.slot_dict_get PySem.F.type_dict_get (dz (ho pins s σ H _ I h) fun u s1 ⟨x,H1,I1,rx,a,ex,d,q1⟩=> ?_)
 subst ex
 obtain rfl:u=Value.ref a:=rx
 obtain ⟨t1,t2,_⟩:=Js I1 d
 refine ⟨t1,t2,?_⟩
 rw [m.trees]
 refine Calls.callWith_builtin rfl (Calls.evalArgs_plain (Calls.spliced_cons (dz (he pins s1 σ H1 _ I1 q1) fun iv s2 ⟨y,H2,I2,ry,q2⟩=>
  Calls.spliced_cons (dz (hf pins s2 σ H2 _ I2 q2) fun fv s3 ⟨z,H3,I3,rz,ov,g,q3⟩=>Calls.spliced_nil ?_))))
 exact WA hu I3 g ry rz fun w' s4 I4 Eo=>⟨_,H3,I4,Eo,q3⟩
end
section
variable {X:Cx}{pins:List (Addr×Obj)}{σ:St}{H:Hp}{s:Shared}{h':Heap}
theorem Inv.Te {t':Nat}{ch:List Addr}(I:Inv X pins σ H s)(k:∀b o,b ∉ ch→s.heap.get? b=some o→h'.get? b=some o)(hf:∀b∈ch,yL X pins H b):Inv X pins σ H {s with heap:=h',toks:=t'}:=by
 have UX:∀b u,H b=some u→b ∉ ch:=fun b u e z=>by
  have q:=(hf b z).1
  rw [q] at e;cases e
 refine I.step (g':=s.gens) (d':=s.drawn) (ch:=ch) (fun b hb=>⟨(hf b hb).2.2.2.1,(hf b hb).2.1,(hf b hb).2.2.2.2.1,(hf b hb).2.2.2.2.2⟩) (fun b o _ _ hc e _=>k b o hc e) (fun b o _ _ hc e _=>⟨o.slots,k b o hc e⟩)
  (fun _ _ _ _ n=>n) (fun b o hc e=>⟨o,k b o hc e⟩) (fun _ _ e=>e) (fun _ _ _ e=>e) (fun b ps e=>⟨#[],by rw [e];simp⟩) (fun m hm=> ?_) (fun b u e=> ?_) I.bare
 ·obtain ⟨o,es,ep,ho,r⟩:=hm
  exact ⟨o,es,ep,k _ o (fun z=>(hf _ z).2.1 rfl) ho,r⟩
 ·refine (I.cx b u e).BC (fun c v hc q=>k c v ?_ q) (fun _ q=>q) fun _ _ q=>q
  rcases hc with z|z
  ·rw [z];exact UX b u e
  ·exact UX c _ z
theorem Inv.CY {t':Nat}{ch:List Addr}{T:Addr}{ob:HO}(I:Inv X pins σ H s)(k:∀b o,b ∉ ch→s.heap.get? b=some o→h'.get? b=some o)(hf:∀b∈ch,yL X pins H b)(hT:s.heap.objs.size≤T)
  (new:d7 X.prog X.w (upd H T ob) h' T ob):Inv X pins σ (upd H T ob) {s with heap:=h',toks:=t'}:=by
 have hn:H T=none:=I.cx.fresh hT
 have UX:∀b u,H b=some u→b ∉ ch:=fun b u e z=>by
  have q:=(hf b z).1
  rw [q] at e;cases e
 refine I.step (g':=s.gens) (d':=s.drawn) (ch:=ch) (fun b hb=>⟨(hf b hb).2.2.2.1,(hf b hb).2.1,(hf b hb).2.2.2.2.1,(hf b hb).2.2.2.2.2⟩) (fun b o _ _ hc e _=>k b o hc e) (fun b o _ _ hc e _=>⟨o.slots,k b o hc e⟩)
  (fun b o _ e n=> ?_) (fun b o hc e=>⟨o,k b o hc e⟩) (fun b xs e=> ?_) (fun b o u e=> ?_) (fun b ps e=>⟨#[],?_⟩) (fun m hm=> ?_) (fun b u e=> ?_) I.bare
 ·rw [az (Nat.ne_of_lt (Nat.lt_of_lt_of_le (Heap.lt_size e) hT))];exact n
 ·rw [az (aH e hn)];exact e
 ·rw [az (aH e hn)];exact e
 ·rw [az (aH e hn),e];simp
 ·obtain ⟨o,es,ep,ho,r⟩:=hm
  exact ⟨o,es,ep,k _ o (fun z=>(hf _ z).2.1 rfl) ho,r⟩
 ·by_cases hb:b=T
  ·subst hb
   rw [ab] at e
   cases e
   exact new
  ·rw [az hb] at e
   refine (I.cx b u e).BC (fun c v hc q=>k c v ?_ q) (fun c q=>by rw [az (aH q hn)];exact q) fun c xs q=>by rw [az (aH q hn)];exact q
   rcases hc with z|z
   ·rw [z];exact UX b u e
   ·exact UX c _ z
theorem Inv.lock {d:Addr}{u:HO}(I:Inv X pins σ H s)(h:H d=some u)(mu:UW (some u)):∃od,Inv X pins σ (upd H d (.jn od u)) s:=by
 have x:=I.cx d u h
 have ex:∃od,s.heap.get? d=some od:=by
  cases u with
  |lst xs=>obtain ⟨_,_,_,_,e⟩:=x;exact ⟨_,e⟩
  |dK kvs=>obtain ⟨_,_,_,_,o,_,_,e,_⟩:=x;exact ⟨o,e⟩
  |dT kvs=>obtain ⟨_,_,_,_,o,_,_,e,_⟩:=x;exact ⟨o,e⟩
  |set S n=>obtain ⟨o,_,_,_,e,_⟩:=x;exact ⟨o,e⟩
  |ins C dx fs=>obtain ⟨_,_,_,e,_⟩:=x;exact ⟨_,e⟩
  |ext φ=>obtain ⟨_,⟨_,e⟩,_⟩:=x;exact ⟨_,e⟩
  |_=>exact False.elim mu
 obtain ⟨od,e⟩:=ex
 have new:d7 X.prog X.w (upd H d (.jn od u)) s.heap d (.jn od u):=by
  refine ⟨e,x.BC (fun b v _ q=>q) (fun b q=> ?_) fun b xs q=> ?_⟩
  ·rw [az (fun z=>by rw [z,h] at q;cases q;exact mu)];exact q
  ·rw [az (fun z=>by rw [z,h] at q;cases q;exact mu)];exact q
 exact ⟨od,I.write (x:=d) (e:=d) (t':=s.toks) (h':=s.heap) (by rw [h];exact mu) (.inl rfl) (fun b v _ q=>q) ⟨od,e⟩ new⟩
theorem Inv.aaC {d:Addr}{u:HO}(I:Inv X pins σ H s)(h:H d=some u)(mu:UW (some u)):∀o' u',X.VZ d≠some (.jn o' u'):=fun o' u' e=>by
 have q:=I.base.zp d o' u' e
 rw [h] at q
 cases q
 exact mu
theorem Inv.unlock {d:Addr}{od:Obj}{u:HO}(I:Inv X pins σ H s)(h:H d=some (.jn od u))(hn:∀o' u',X.VZ d≠some (.jn o' u')):Inv X pins σ (upd H d u) s:=by
 have Zm:∀b o,H b=some o→(∀o' u',o≠ .jn o' u')→b≠d:=fun b o e qY z=>by
  rw [z,h] at e
  cases e
  exact qY _ _ rfl
 have neN:∀b,H b=none→b≠d:=fun b e z=>by rw [z,h] at e;cases e
 refine ⟨I.ok,I.os,I.bare,⟨I.base.keep,I.base.slot,fun b o e n hx=> ?_,I.base.there,fun b xs e=> ?_,fun b o x e=> ?_,fun b ps e=> ?_⟩,I.loc,I.cell,?_,fun x c e=> ?_,fun p hp=> ?_,fun b o e=> ?_,I.len⟩
 ·rw [az (neN b (I.base.free b o e n hx))];exact I.base.free b o e n hx
 ·have q:=I.base.zo b xs e
  rw [az (Zm b _ q (fun _ _ z=>nomatch z))];exact q
 ·have q:=I.base.zp b o x e
  rw [az (fun z=>by rw [z] at e;exact hn _ _ e)];exact q
 ·obtain ⟨m,q⟩:=I.base.Eg b ps e
  exact ⟨m,by rw [az (Zm b _ q (fun _ _ z=>nomatch z))];exact q⟩
 ·rw [az (neN _ I.free)];exact I.free
 ·rw [az (neN c (I.lU x c e))];exact I.lU x c e
 ·obtain ⟨e,n,r⟩:=I.pin p hp
  exact ⟨e,by rw [az (neN _ n)];exact n,r⟩
 ·by_cases hb:b=d
  ·rw [hb,ab] at e
   cases e
   rw [hb]
   obtain ⟨_,x⟩:=I.cx d _ h
   exact x.BC (fun c v _ q=>q) (fun c q=>by rw [az (Zm c _ q (fun _ _ z=>nomatch z))];exact q) fun c xs q=>by rw [az (Zm c _ q (fun _ _ z=>nomatch z))];exact q
  ·rw [az hb] at e
   exact (I.cx b o e).BC (fun c v _ q=>q) (fun c q=>by rw [az (Zm c _ q (fun _ _ z=>nomatch z))];exact q) fun c xs q=>by rw [az (Zm c _ q (fun _ _ z=>nomatch z))];exact q
end
def WD (t:TE):TE:=fun σ H Q=>∃d u,H d=some u∧UW (some u)∧∀od,t σ (upd H d (.jn od u)) fun v H'=>H' d=some (.jn od u)∧Q v (upd H' d u)
section
variable {X:Cx}
theorem EJ {e:Expr}{t:TE}(h:PE X e t):PE X e (WD t):=by
 intro pins s σ H Q I hw
 obtain ⟨d,u,hd,mu,hw⟩:=hw
 obtain ⟨od,I1⟩:=I.lock hd mu
 refine dz (h pins s σ _ _ I1 (hw od)) fun v s1 ⟨x,H1,I2,r,e2,q⟩=> ?_
 exact ⟨x,_,I2.unlock e2 (I.aaC hd mu),r,q⟩
theorem Jt {tg:Expr}{pins:List (Addr×Obj)}{σ:St}{H:Hp}{s:Shared}{R:It→Hp→Prop}{J:It}{tn:Nat→Heap→Prop}{tk:Nat}(I:Inv X pins σ H s)(o:Obj)
  (T:Turn X.prog X.w X.K tg J [s.heap.objs.size] s.heap.objs.size tn)(st:tn 0 (s.heap.push o))(q:R J H):Z1 X pins σ tg R (.ref s.heap.objs.size) {s with heap:=s.heap.push o,toks:=tk}:=by
 refine ⟨s.heap.objs.size,[s.heap.objs.size],tn,J,H,rfl,I.kept fun b ob e=>Heap.get?_push_of_some _ e,T,st,fun b hb=> ?_,q⟩
 have e:b=s.heap.objs.size:=by simpa using hb
 subst e
 exact I.Me (Nat.le_refl _) (I.cx.fresh (Nat.le_refl _))
end
def Itc (lo c:Int)(n:Nat):It:=⟨fun i _=>i < n,fun i H x H'=>H'=H∧x= .int (lo + (i:Nat) * c),fun i _=>n≤i⟩
theorem GZ {P:Program}{w:World}{K:PySem.W.Frag}{tg:Expr}(it:Addr)(lo c:Int)(n:Nat):Turn P w K tg (Itc lo c n) [it] it (fun i h=>IsRangeIter h it (lo + (i:Nat) * c) ((n:Int) - (i:Nat)) c) where
 mem:=by simp
 obj:=fun i h st b hb=>by
  have e:b=it:=by simpa using hb
  subst e
  exact ⟨_,st,fun v z=>nomatch z⟩
 keep:=fun i h h' st k=>k it (by simp) _ st
 item:=by
  intro X hP hw hK hc i pins s σ H E I hf st hg
  subst hP hw hK
  obtain ⟨f0,f1,f2,f3,f4,f5⟩:=hf it (by simp)
  have W:=Walks.range (prog:=X.prog) (w:=X.w) (I.ok.hd hc) it lo c n
  refine W.item i s _ _ hg st fun v h' tk hv BG kk=> ?_
  obtain ⟨t,rfl⟩:=hv
  have I1:Inv X pins σ H {s with heap:=h',toks:=tk}:=I.turned (fun b o hb e=>kk b o (by simpa using hb) e) f0 f1 f3 f4 f5
  exact ⟨_,rfl,GJ (s:={s with heap:=h',toks:=tk}) (n:="range_iterator") BG rfl rfl (by decide) ⟨.int (lo + (i:Nat) * c),H,I1,⟨t,rfl⟩,⟨rfl,rfl⟩,BG,fun b hb=>(hf b hb).1⟩⟩
 done:=by
  intro X hP hw hK hc i pins s σ H E I hf st hg
  subst hP hw hK
  obtain ⟨f0,f1,f2,f3,f4,f5⟩:=hf it (by simp)
  exact wpAny_pyNext_range_end (I.ok.hd hc) st (by have:n≤i:=hg;omega) fun h' eb=>⟨rfl,I.turned (t':=s.toks) (fun b o hb e=>eb b o hb e) f0 f1 f3 f4 f5⟩
 self:=fun A i s Q E st h=>wpAny_pyIter_rangeiter st h
def RgC (i j c:Int)(n:Nat):Prop:=c≠0∧c.natAbs < 1073741824∧Builtin.Range.small i j c=true∧Builtin.Range.rangeSize i j c=n
def aaD (ta:TA):TI:=fun σ H R=>ta σ H fun vs H1=>∃ (i j c:Int)(n:Nat),vs= [.int i,.int j,.int c] ∧RgC i j c n∧R (Itc i c n) H1
section
variable {X:Cx}{tg:Expr}
theorem Mt {a b c:Expr}{ta:TA}{p pos:Pos}(hg:Gl X "range")(hm:X.mg "range"=none)(ha:PA X [a,b,c] ta)
  (hs:starEach [a,b,c] X.env=(false,eval a X.env)::starEach [b,c] X.env:=by rfl)(eD:(backTo pos (starEach [b,c] X.env)).any (·.1)=false:=by rfl):
  PI X tg (.Call (.Name "range" p) [a,b,c] [] pos) (aaD ta):=by
 intro pins s σ H R I h
 refine Call_ (wk I hg hm boot_range (PyProof.Rows.callWith_type1 (dz (ha pos pins s σ H _ I h) fun us s1 ⟨vs,H1,I1,r1,q1⟩=> ?_) hs eD))
 obtain ⟨i,j,k,n,e,⟨c0,c1,c2,c3⟩,q⟩:=q1
 subst e
 cases r1 with
 |cons r rr=>
  cases rr with
  |cons r' rr=>
   cases rr with
   |cons r'' rr=>
    cases rr
    obtain ⟨t,rfl⟩:=r
    obtain ⟨t',rfl⟩:=r'
    obtain ⟨t'',rfl⟩:=r''
    refine call_range_3 c0 ?_ (.inl (PyProof.noPylong_small c1))
    refine wpAny_pyIter_range (IsRange.new ..) c2 ?_
    have I2:Inv X pins σ H1 {s1 with heap:=s1.heap.push {cls:= .type "range",data:= .fields #[.int i t,.int j t',.int k t''] } }:=I1.kept (t':=s1.toks) fun b o e=>Heap.get?_push_of_some _ e
    refine Jt (tk:=s1.toks) I2 _ (GZ _ i k n) ?_ q
    have e1:i + ((0:Nat):Int) * k=i:=by simp
    have e2:(n:Int) - ((0:Nat):Int)=Builtin.Range.rangeSize i j k:=by rw [c3];simp
    show IsRangeIter _ _ (i + ((0:Nat):Int) * k) ((n:Int) - ((0:Nat):Int)) k
    rw [e1,e2]
    exact Heap.get?_push_size _ rfl
end
theorem WE {κ:Type}{kvs:List (κ×V)}{vs:List (κ×Value)}(h:KV kvs vs):∀ {i:Nat}{k:κ}{v:V},kvs[i]?=some (k,v)→∃u,vs[i]?=some (k,u)∧RelV v u:=by
 unfold KV at h
 induction h with
 |nil=>intro i k v e;simp at e
 | @cons a b l₁ l₂ r t ih=>
  intro i k v e
  cases i with
  |zero=>
   simp only [List.getElem?_cons_zero,Option.some.injEq] at e
   subst e
   refine ⟨b.2,?_,r.2⟩
   simp only [List.getElem?_cons_zero]
   exact congrArg some (Prod.ext r.1.symm rfl)
  |succ j=>
   simp only [List.getElem?_cons_succ] at e ⊢
   exact ih e
theorem Ju {α β:Type}{G:α→β→Prop}{l₁:List α}{l₂:List β}(h:Paired G l₁ l₂):∀ {i:Nat}{a:α},l₁[i]?=some a→∃b,l₂[i]?=some b∧G a b:=by
 induction h with
 |nil=>intro i a e;simp at e
 | @cons a b l₁ l₂ r t ih=>
  intro i a' e
  cases i with
  |zero=>
   simp only [List.getElem?_cons_zero,Option.some.injEq] at e
   subst e
   exact ⟨b,rfl,r⟩
  |succ j=>
   simp only [List.getElem?_cons_succ] at e ⊢
   exact ih e
section
variable {X:Cx}{pins:List (Addr×Obj)}{σ:St}{H:Hp}{s:Shared}{d:Addr}{o:Obj}
theorem Inv.WG {kvs:List (Key×V)}(I:Inv X pins σ H s)(h:H d=some (.jn o (.dK kvs))):
  (d==sysModules)=false∧s.heap.get? d=some o∧o.ExactDict∧∃ (es:Array DictEntry)(ep:Nat)(vs:List (Key×Value)),o.data= .dict es ep∧es.size=kvs.length∧KV kvs vs∧s.heap.DictAt (bY X.prog X.w) d vs ep:=by
 obtain ⟨hd,z,hs,vs,kv,o',es,ep,ho,hx,EK,r⟩:=I.cx d _ h
 rw [hd] at ho
 cases ho
 refine ⟨hs,hd,hx,es,ep,vs,EK,?_,kv,o,es,hd,hx,EK,r⟩
 have l1:=r.2.1.length
 have l2:kvs.length=vs.length:=Paired.length kv
 rw [Array.length_toList] at l1
 omega
end
def Itd (d:Addr)(o:Obj)(kvs:List (Key×V)):It:=
 ⟨fun i H=>H d=some (.jn o (.dK kvs))∧i < kvs.length,fun i H x H'=>H'=H∧∃k,kvs[i]?=some (k,x),fun i H=>H d=some (.jn o (.dK kvs))∧kvs.length≤i⟩
theorem y3 {o:Obj}{es Sj:Array DictEntry}{ep Oa:Nat}(h:o.data= .dict es ep)(h':o.data= .dict Sj Oa):Sj=es∧Oa=ep:=by
 rw [h] at h'
 cases h'
 exact ⟨rfl,rfl⟩
section
variable {P:Program}{w:World}{K:PySem.W.Frag}{tg:Expr}{d:Addr}{o:Obj}{es:Array DictEntry}{ep:Nat}
theorem Mu {kvs:List (Key×V)}(it:Addr)(hod:o.data= .dict es ep):Turn P w K tg (Itd d o kvs) [it] it (fun i h=>h.IsValIter it d i kvs.length ep) where
 mem:=by simp
 obj:=fun i h st b hb=>by
  have e:b=it:=by simpa using hb
  subst e
  obtain ⟨oi,e,c,dd⟩:=st
  exact ⟨oi,e,fun v z=>by rw [dd] at z;cases z⟩
 keep:=fun i h h' st k=>st.at fun oi e=>k it (by simp) oi e
 item:=by
  intro X hP hw hK hc i pins s σ H E I hf st hg
  subst hP hw hK
  obtain ⟨hd,hi⟩:=hg
  obtain ⟨f0,f1,f2,f3,f4,f5⟩:=hf it (by simp)
  obtain ⟨hs,OU,hx,Sj,Oa,vs,EK,hsz,kv,hm⟩:=I.WG hd
  obtain ⟨rfl,rfl⟩:=y3 hod EK
  obtain ⟨⟨k,v⟩,GA⟩:∃p,kvs[i]?=some p:=⟨kvs[i],List.getElem?_eq_getElem hi⟩
  obtain ⟨u,hu,ru⟩:=WE kv GA
  have hl:kvs.length=vs.length:=Paired.length kv
  rw [hl] at st
  refine wpAny_pyNext_values_item st hm hu fun h' BG sb=> ?_
  have I1:Inv X pins σ H {s with heap:=h'}:=I.turned (t':=s.toks) (fun b ob hb e=>(sb.2 b hb).trans e) f0 f1 f3 f4 f5
  obtain ⟨oi,e,c,dd⟩:=id BG
  refine ⟨u,rfl,GJ (s:={s with heap:=h'}) e c dd (by decide) ⟨v,H,I1,ru,⟨rfl,k,GA⟩,?_,fun b hb=>(hf b hb).1⟩⟩
  show h'.IsValIter it d (i + 1) kvs.length _
  rw [hl]
  exact BG
 done:=by
  intro X hP hw hK hc i pins s σ H E I hf st hg
  subst hP hw hK
  obtain ⟨hd,hi⟩:=hg
  obtain ⟨f0,f1,f2,f3,f4,f5⟩:=hf it (by simp)
  obtain ⟨hs,OU,hx,Sj,Oa,vs,EK,hsz,kv,hm⟩:=I.WG hd
  obtain ⟨rfl,rfl⟩:=y3 hod EK
  have hl:kvs.length=vs.length:=Paired.length kv
  rw [hl] at st
  exact wpAny_pyNext_values_end (I.ok.hd hc) st hm (List.getElem?_eq_none (by omega)) fun h' eb=>⟨rfl,I.turned (t':=s.toks) (fun b ob hb e=>eb b ob hb e) f0 f1 f3 f4 f5⟩
 self:=fun A i s Q E st h=>wpAny_pyIter_valiter st h
end
def aaG (td:TE):TI:=fun σ H R=>td σ H fun x H1=>∃d o kvs,x= .ref d∧H1 d=some (.jn o (.dK kvs))∧R (Itd d o kvs) H1
section
variable {X:Cx}{tg e:Expr}{td:TE}{apos gk:Pos}
theorem CZ (he:PE X e td)(GN:attributeBase e "values" X.env (eval e X.env)=eval e X.env:=by rfl)(GO:(apos.endLine==gk.line)=true:=by rfl):PI X tg (.Call (.Attribute e "values" apos) [] [] gk) (aaG td):=by
 intro pins s σ H R I h
 refine wpAny_Call_method (T:="dict") (id:="dict.values") GN rfl GO F.plainAttrs_dict F.slot_dict_values F.type_dict_values (dz (he pins s σ H _ I h) fun u s1 ⟨x,H1,I1,rx,d,o,kvs,ex,hd,q⟩=> ?_)
 subst ex
 obtain rfl:u=Value.ref d:=rx
 obtain ⟨hs,OU,hx,es,ep,vs,EK,hsz,kv,hm⟩:=I1.WG hd
 have hl:kvs.length=vs.length:=Paired.length kv
 refine ⟨hm.dictOf.typeIs,hm.dictOf.mapOf.noDict,?_⟩
 have I2:Inv X pins σ H1 {s1 with heap:=s1.heap.push {cls:= .type "dict_values",data:= .fields #[.ref d] } }:=I1.kept (t':=s1.toks) fun b ob q=>Heap.get?_push_of_some _ q
 have fin:wpAny (model X.prog X.w) X.A (pyIter (.ref s1.heap.objs.size)) (Z1 X pins σ tg R) X.xe {s1 with heap:=s1.heap.push {cls:= .type "dict_values",data:= .fields #[.ref d] } }:=by
  refine wpAny_pyIter_values (d:=d) (knd:=bY X.prog X.w) ⟨_,Heap.get?_push_size _ rfl,rfl,rfl⟩ (hm.push _) (Jt (tk:=s1.toks) I2 _ (Mu _ EK) ⟨_,Heap.get?_push_size _ rfl,rfl,?_⟩ q)
  rw [hl] <;>rfl
 show wpAny _ _ (callWith gk (.builtin "dict.values") [.ref d] [] []) _ X.xe s1
 exact method_meetsIn F.slot_dict_values F.entry_dict_values rfl (PySem.evalArgs_none ⟨rfl,hm.dictOf.typeIs,F.args_dict_values_1 _,_,meets_dict_values (bY X.prog X.w) d hs,⟨vs,hm.dictOf⟩,fin⟩)
end
theorem Mv:bootBuiltins "zip"=some (.type "zip"):=by decide +kernel
abbrev KOf {K:PySem.W.Frag}{h:Heap}(_:K.In h):PySem.W.Frag:=K
def inClass (s:Stmt)(j:Nat):Stmt:=match s with
 | .ClassDef _ _ _ body _ _ _ _ _ _ _=>body.getD j (.Pass ⟨0,0,0,0⟩)
 |_=> .Pass ⟨0,0,0,0⟩
def tQ (s:Stmt):Arguments:=match s with
 | .FunctionDef _ a _ _ _ _ _ _ _ _=>a
 |_=>{posonlyargs:= [],args:= [],vararg:=none,kwonlyargs:= [],kw_defaults:= [],kwarg:=none,defaults:= [] }
def qj (s:Stmt):List Stmt:=match s with
 | .FunctionDef _ _ b _ _ _ _ _ _ _=>b
 |_=> []
def ay (s:Stmt):Scope:=match s with
 | .FunctionDef _ _ _ _ _ _ sc _ _ _=>sc
 |_=>{kind:= .function,names:= [],isGenerator:=false,isCoroutine:=false}
abbrev fe:Jk:=fun _ _ _ _ _ _=>False
abbrev E0:XK:=fun _ _ _=>False
theorem aU {X:Cx}:Passes fe X E0:=fun _ _ _ _ _ _ _ h=>h.elim
structure fz (K:PySem.W.Frag) (x qual:Str) (st:Stmt) (f:Addr) (fd:FuncData):Prop where
 ex:∃ (oc:Value)(od:Option Addr)(kV doc pm:Value)(an:Option Addr)(d4 ct:Value)(SR:Array (Option Value)),
  fd=PySem.W.fnOf x qual (tQ st) (qj st) (ay st) .none kV doc pm an d4 ct∧K.lookup f=some ⟨oc,od,.func fd,SR⟩∧PySem.W.codeIn K d4 qual=true
 kp:PySem.W.keepIn K (.ref f)=true
section
variable {P:Program}{w:World}{K:PySem.W.Frag}{mg:Str→Option Value}{base:Heap}
theorem fz.ok {x qual:Str}{st:Stmt}{f:Addr}{fd:FuncData}{N ps:List Str}{k:Nat}{sp:Sp}(F:fz K x qual st f fd)(S:aC N ps (ay st))(len:∀vs H Q E,sp vs H Q E→vs.length=ps.length)
  (OF:∀ (d4:Value)(A:Around)(outer:List Env)(s:Shared)(H:Hp)(vs:List V)(Q:VK)(E:XK),gP k (A.deeper (envOfC qual (ay st) s.heap.objs.size f d4))→sp vs H Q E→
   ∃t,Md (Mn fe P w K mg base N qual (ay st) f d4 A outer s H E).nox (qj st) t∧t {nx:=fun _ H'=>Q .bX H',rt:=Q} (start N vs) H):bB P w K mg base fe (k + 1) f fd ps sp:=by
 obtain ⟨oc,od,kV,doc,pm,an,d4,ct,SR,rfl,lk,tD⟩:=F.ex
 refine aag lk tD S len fun A outer s H vs Q E hr Oc=> ?_
 obtain ⟨t,h,q⟩:=OF d4 A outer s H vs Q E hr Oc
 exact ⟨t,h.nox,q⟩
theorem fz.binds {x qual:Str}{st:Stmt}{f:Addr}{fd:FuncData}{ps:List Str}(F:fz K x qual st f fd)
  (h:∀ (kV doc pm:Value)(an:Option Addr)(d4 ct:Value)(us:List Value),us.length=ps.length→bindArgs (PySem.W.fnOf x qual (tQ st) (qj st) (ay st) .none kV doc pm an d4 ct) ⟨us,[]⟩=pure (ps.zip us)):Binds K fd ps [] :=by
 obtain ⟨oc,od,kV,doc,pm,an,d4,ct,SR,rfl,lk,tD⟩:=F.ex
 exact .all (h kV doc pm an d4 ct)
theorem ax {x qual:Str}{st:Stmt}{f:Addr}{oc:Value}{od an:Option Addr}{SR:Array (Option Value)}{kV doc pm d4 ct:Value}(l:K.lookup f=some ⟨oc,od,.func (PySem.W.fnOf x qual (tQ st) (qj st) (ay st) .none kV doc pm an d4 ct),SR⟩)
  (c:PySem.W.codeIn K d4 qual=true)(k:PySem.W.keepIn K (.ref f)=true):fz K x qual st f (PySem.W.fnOf x qual (tQ st) (qj st) (ay st) .none kV doc pm an d4 ct):=⟨⟨oc,od,kV,doc,pm,an,d4,ct,SR,rfl,l,c⟩,k⟩
end
theorem gF {A:Around}{k:Nat}(hr:gP k A):A.units + 1 < cLine:=Nat.lt_of_le_of_lt (Nat.add_le_add_left (by decide:1≤64) _) hr.units
section
variable {X:Cx}
theorem pv (i:Nat){x:Str}{pos:Pos}(hN:X.N[i]?=some x:=by rfl)(hv:Zd X.env.scope x:=by first|exact Or.inl rfl|exact Or.inr (Or.inl rfl)|exact Or.inr (Or.inr rfl))(hd:(x==("__debug__":Str))=false:=by decide)
  (tD:(x==("__classdict__":Str))=false:=by decide):PE X (.Name x pos) (ZR i):=V2 hN hv hd tD
theorem C0:kO X (.builtin "len") (fun xs H Q=>∃a kvs,xs= [V.ref a] ∧H a=some (.dK kvs)∧Q (.int kvs.length) H):=by
 intro pins s σ H xs us Q I r h
 obtain ⟨a,kvs,rfl,ha,q⟩:=h
 obtain ⟨u,rfl,ru⟩:=vals1 r
 cases ru
 exact aaz I (.inl ha) fun t s' I'=>⟨.int kvs.length,H,I',⟨t,rfl⟩,q⟩
end
theorem bL {A B:Prop}(h:B):if false=true then A else B:=by
 rw [if_neg Bool.false_ne_true]
 exact h
theorem bC {A B:Prop}(h:A):if true=true then A else B:=by
 rw [if_pos rfl]
 exact h
theorem eQ {c A B:Prop} [Decidable c] (h1:c→A)(h2:¬c→B):if c then A else B:=by
 by_cases h:c
 ·rw [if_pos h]
  exact h1 h
 ·rw [if_neg h]
  exact h2 h
theorem OV {c A B:Prop} [Decidable c] (hc:c)(h:B):if (!decide c)=true then A else B:=by
 rw [decide_eq_true hc]
 exact bL h
def aj (H H':Hp):Prop:=∀b o,H b=some o→H' b=some o
theorem aj.refl (H:Hp):aj H H:=fun _ _ h=>h
theorem aj.trans {H H1 H2:Hp}(a:aj H H1)(b:aj H1 H2):aj H H2:=fun c o h=>b c o (a c o h)
theorem aj.free {H H':Hp}(e:aj H H'){l:Addr}(h:H' l=Option.none):H l=Option.none:=by
 cases q:H l with
 |none=>rfl
 |some o=>
  rw [e l o q] at h
  cases h
theorem aj.seq {K:PySem.W.Frag}{H H':Hp}{a:Addr}{xs:List V}(e:aj H H')(h:cK K H a xs):cK K H' a xs:=by
 rcases h with (h|⟨o,h⟩)|h
 ·exact .inl (.inl (e _ _ h))
 ·exact .inl (.inr ⟨o,e _ _ h⟩)
 ·exact .inr h
section
variable {κ:Type} [DecidableEq κ]
theorem Tf {kvs:List (κ×V)}{k:κ}{v:V}(h:dD kvs k=some v):k∈kvs.map (·.1):=by
 have q:(kvs.any fun kv=>decide (kv.1=k))=true:=by
  rw [ku,h]
  all_goals rfl
 obtain ⟨p,hp,e⟩:=List.any_eq_true.mp q
 exact List.mem_map.mpr ⟨p,hp,of_decide_eq_true e⟩
end
theorem Vl {α:Type}{l:List α}(hN:l.Nodup){i j:Nat}{x:α}(a:l[i]?=some x)(b:l[j]?=some x):i=j:=by
 obtain ⟨h1,e1⟩:=List.getElem?_eq_some_iff.mp a
 obtain ⟨h2,e2⟩:=List.getElem?_eq_some_iff.mp b
 exact (List.getElem_inj hN).mp (e1.trans e2.symm)
theorem aj.made {H H1:Hp}{x dx C:Addr}(nx:H x=Option.none)(nd:H dx=Option.none)(k:∀b o,(upd (upd H dx (.own x)) x (.ins C dx [])) b=some o→b≠x→H1 b=some o):aj H H1:=fun b o e=>
 k b o (by rw [az (aH e nx),az (aH e nd)];exact e) (aH e nx)
end L2
section
set_option Elab.async false
set_option maxRecDepth 100000
namespace L2
open PySem PySem.Spec PyProof.Rows
open PySem.W (WData Codec OpenSpec Well WellAll ReadsW ReadsAllW)
mutual
inductive Dw (K:PySem.W.Frag) (H:Hp):V→WData→Prop
 |bX:Dw K H .bX .none
 |bl (b:Bool):Dw K H (.bl b) (.bool b)
 |int (i:Int):Dw K H (.int i) (.int i)
 |str (x:Str):Dw K H (.str x) (.str x)
 |GF (b:Array UInt8):Dw K H (.GF b) (.bytes b.toList)
 |lst {a:Addr} {xs:List V} {ds:List WData}:cK K H a xs→nX K H xs ds→Dw K H (.ref a) (.list ds)
 |tup {a:Addr} {xs:List V} {ds:List WData}:bJ K H a xs→nX K H xs ds→Dw K H (.ref a) (.tuple ds)
inductive nX (K:PySem.W.Frag) (H:Hp):List V→List WData→Prop
 |nil:nX K H [] []
 |cons {v:V} {vs:List V} {d:WData} {ds:List WData}:Dw K H v d→nX K H vs ds→nX K H (v::vs) (d::ds)
end
theorem K3 {K:PySem.W.Frag}{H:Hp}:∀ns:List Int,nX K H (ns.map V.int) (ns.map WData.int)
 | [] => .nil
 |n::r=> .cons (.int n) (K3 r)
theorem K4 {K:PySem.W.Frag}{H:Hp}:∀ (ns:List Int)(xs:List V),nX K H xs (ns.map WData.int)→xs=ns.map V.int
 | [],xs,h=>by
  cases h
  rfl
 |n::r,xs,h=>by
  cases h with
  |cons h1 h2=>
   cases h1
   rw [K4 r _ h2] <;>rfl
section
variable {P:Program}{w:World}{K:PySem.W.Frag}{H:Hp}{h:Heap}{R:PySem.W.WRecords}{cl:Str→Option Addr}
theorem WH {a:Addr}{xs:List V}(cx:ox P w H h)(KX:K.In h)(q:cK K H a xs):∃ (a7:List Value)(o:Obj)(n:Nat),Vals xs a7∧h.get? a=some o∧o.cls= .type "list"∧o.data= .seq a7.toArray n:=by
 rcases q with q|⟨o,a7,n,e,hc,_,hd,_,hv⟩
 ·obtain ⟨_,a7,n,hv,e⟩:=(show d7 P w H h a (.lst xs) from q.ok cx)
  exact ⟨a7,_,n,hv,e,rfl,rfl⟩
 ·exact ⟨a7.toList,o,n,hv,KX _ _ e,hc,by simp [hd]⟩
theorem WI {a:Addr}{xs:List V}(cx:ox P w H h)(KX:K.In h)(q:bJ K H a xs):∃ (a7:List Value)(o:Obj)(n:Nat),Vals xs a7∧h.get? a=some o∧o.cls= .type "tuple"∧o.data= .seq a7.toArray n:=by
 rcases q with q|⟨o,a7,n,e,hc,hd,_,hv⟩
 ·obtain ⟨_,a7,hv,o,e,hc,n,hd⟩:=(show d7 P w H h a (.tup xs) from q.ok cx)
  exact ⟨a7,o,n,hv,e,hc,hd⟩
 ·exact ⟨a7.toList,o,n,hv,KX _ _ e,hc,by simp [hd]⟩
mutual
theorem Dw.reads (cx:ox P w H h)(KX:K.In h):∀ (d:WData)(v:V)(u:Value),Dw K H v d→RelV v u→∃as,ReadsW R cl h u d as
 | .none,_,_,x,r=>by
  cases x
  cases r
  exact ⟨_,ReadsW.none⟩
 | .bool b,_,_,x,r=>by
  cases x
  cases r
  exact ⟨_,ReadsW.bool b⟩
 | .int i,_,_,x,r=>by
  cases x
  obtain ⟨t,rfl⟩:=r
  exact ⟨_,ReadsW.int i t⟩
 | .str s,_,_,x,r=>by
  cases x
  obtain ⟨t,rfl⟩:=r
  exact ⟨_,ReadsW.str s t⟩
 | .bytes b,_,_,x,r=>by
  cases x
  obtain ⟨t,rfl⟩:=r
  exact ⟨_,ReadsW.bytes _ t⟩
 | .list ds,_,_,x,r=>by
  cases x with
  |lst hs ha=>
   cases r
   obtain ⟨a7,o,n,rv,ho,hc,hd⟩:=WH cx KX hs
   obtain ⟨as,hr⟩:=Dw.readsAll cx KX ds _ a7 ha rv
   exact ⟨_,ReadsW.list ho hc hd hr⟩
 | .tuple ds,_,_,x,r=>by
  cases x with
  |tup hs ha=>
   cases r
   obtain ⟨a7,o,n,rv,ho,hc,hd⟩:=WI cx KX hs
   obtain ⟨as,hr⟩:=Dw.readsAll cx KX ds _ a7 ha rv
   exact ⟨_,ReadsW.tuple ho hc hd hr⟩
 | .float _,_,_,x,_=>by cases x
 | .dict _,_,_,x,_=>by cases x
 | .bytearray _,_,_,x,_=>by cases x
 | .set _,_,_,x,_=>by cases x
 | .frozenset _,_,_,x,_=>by cases x
 | .obj _ _,_,_,x,_=>by cases x
theorem Dw.readsAll (cx:ox P w H h)(KX:K.In h):∀ (ds:List WData)(vs:List V)(us:List Value),nX K H vs ds→Vals vs us→∃as,ReadsAllW R cl h us ds as
 | [],_,_,x,r=>by
  cases x
  cases r
  exact ⟨_,ReadsAllW.nil⟩
 |d::ds,_,_,x,r=>by
  cases x with
  |cons h1 h2=>
   cases r with
   |cons r1 r2=>
    obtain ⟨as,q1⟩:=Dw.reads cx KX d _ _ h1 r1
    obtain ⟨bs,q2⟩:=Dw.readsAll cx KX ds _ _ h2 r2
    exact ⟨_,ReadsAllW.cons q1 q2⟩
end
end
mutual
def K5:WData→Bool
 | .none=>true
 | .bool _=>true
 | .int _=>true
 | .str _=>true
 | .bytes _=>true
 | .list xs=>yO xs
 | .tuple xs=>yO xs
 |_=>false
def yO:List WData→Bool
 | [] =>true
 |x::r=>K5 x && yO r
end
theorem G0 {α:Type}{f:α→WData}(h:∀a,K5 (f a)=true):∀l:List α,yO (l.map f)=true
 | [] =>rfl
 |x::r=>by
  show (K5 (f x) && yO (r.map f))=true
  rw [h x,G0 h r] <;>rfl
theorem oI:∀ (c:Codec)(a:c.denote),K5 (c.enc a)=true
 | .unit,_=>rfl
 | .bool,_=>rfl
 | .int _ _,_=>rfl
 | .nat _ _,_=>rfl
 | .u8,_=>rfl
 | .bytes _ _,_=>rfl
 | .text _ _ _ _,_=>rfl
 | .list _ _ c,a=>G0 (fun x=>oI c x) a
 | .pair c d,a=>by
  show (K5 (c.enc a.1) && (K5 (d.enc a.2) && true))=true
  rw [oI c a.1,oI d a.2] <;>rfl
 | .triple c d e,a=>by
  show (K5 (c.enc a.1) && (K5 (d.enc a.2.1) && (K5 (e.enc a.2.2) && true)))=true
  rw [oI c a.1,oI d a.2.1,oI e a.2.2] <;>rfl
 | .option c,none=>rfl
 | .option c,some x=>oI c x
theorem C1:∀ (cs:List Codec)(a:Codec.denoteAll cs),yO (Codec.encAll cs a)=true
 | [],_=>rfl
 |c::cs,a=>by
  show (K5 (c.enc a.1) && yO (Codec.encAll cs a.2))=true
  rw [oI c a.1,C1 cs a.2] <;>rfl
theorem sT:∀ {xs:List WData}{d:WData},d∈xs→d.weight≤WData.weightAll xs
 | [],d,h=>absurd h (by simp)
 |x::r,d,h=>by
  show d.weight≤x.weight + 1 + WData.weightAll r
  rcases List.mem_cons.mp h with e|m
  ·rw [e]
   omega
  ·have z:=sT m
   omega
def toV:Value→V
 | .none=> .bX
 | .bool b=> .bl b
 | .int i _=> .int i
 | .str x _=> .str x
 | .bytes b _=> .GF b
 | .ref a=> .ref a
 |_=> .bX
def Mw (A:List Addr):Value→Prop
 | .none=>True
 | .bool _=>True
 | .int _ _=>True
 | .str _ _=>True
 | .bytes _ _=>True
 | .ref a=>a∈A
 |_=>False
theorem Mw.mono {A B:List Addr}(h:∀a∈A,a∈B):∀ {u:Value},Mw A u→Mw B u:=fun {u} x=>by
 cases u with
 |ref a=>exact h a x
 |none=>trivial
 |bool b=>trivial
 |int i t=>trivial
 |str s t=>trivial
 |bytes b t=>trivial
 |_=>exact False.elim x
theorem OW {A:List Addr}{u:Value}(x:Mw A u):RelV (toV u) u:=by
 cases u with
 |ref a=>rfl
 |none=>rfl
 |bool b=>rfl
 |int i t=>exact ⟨t,rfl⟩
 |str s t=>exact ⟨t,rfl⟩
 |bytes b t=>exact ⟨t,rfl⟩
 |_=>exact False.elim x
theorem l8 {A:List Addr}:∀ {vs:List Value},(∀u∈vs,Mw A u)→Vals (vs.map toV) vs
 | [],_=> .nil
 |u::r,h=> .cons (OW (h u (List.mem_cons_self ..))) (l8 fun x hx=>h x (List.mem_cons_of_mem _ hx))
def nY (h:Heap)(A:List Addr)(a:Addr):Prop:=∃vs:List Value,vs.length≤sizeLine∧(∀u∈vs,Mw A u)∧
 (h.get? a=some {cls:= .type "list",data:= .seq vs.toArray}∨h.get? a=some {cls:= .type "tuple",data:= .seq vs.toArray})
theorem nY.mono {h:Heap}{A B:List Addr}{a:Addr}(k:∀a∈A,a∈B)(x:nY h A a):nY h B a:=by
 obtain ⟨vs,h1,h2,h3⟩:=x
 exact ⟨vs,h1,fun u hu=>(h2 u hu).mono k,h3⟩
theorem kR {P:Params}{h:Heap}:∀ {vs:List Value}{ds:List WData},WellAll P h vs ds→vs.length=ds.length
 |_,_,.nil=>rfl
 |_,_,.cons _ b=>by
  show _ + 1=_ + 1
  rw [kR b]
theorem C2 {P:Params}{h:Heap}{v:Value}{ds:List WData}(x:Well P h v (.list ds)):∃ (a:Addr)(vs:List Value),v= .ref a∧h.get? a=some {cls:= .type "list",data:= .seq vs.toArray}∧WellAll P h vs ds:=by
 cases x with
 |list ho gm=>exact ⟨_,_,rfl,ho,gm⟩
theorem zK {P:Params}{h:Heap}{v:Value}{ds:List WData}(x:Well P h v (.tuple ds)):∃ (a:Addr)(vs:List Value),v= .ref a∧h.get? a=some {cls:= .type "tuple",data:= .seq vs.toArray}∧WellAll P h vs ds:=by
 cases x with
 |tuple ho gm=>exact ⟨_,_,rfl,ho,gm⟩
theorem C3 {P:Params}{h:Heap}{us:List Value}{d:WData}{ds:List WData}(x:WellAll P h us (d::ds)):∃ (v:Value)(vs:List Value),us=v::vs∧Well P h v d∧WellAll P h vs ds:=by
 cases x with
 |cons a b=>exact ⟨_,_,rfl,a,b⟩
theorem K6 {n:Nat}(h:n≤1048576):n≤sizeLine:=Nat.le_trans h (by decide)
section
variable {P:Params}{h:Heap}
mutual
theorem OX:∀ (d:WData)(v:Value),Well P h v d→K5 d=true→d.weight≤1048576→∃A:List Addr,Mw A v∧∀a∈A,nY h A a
 | .none,_,x,_,_=>by
  cases x
  exact ⟨[],trivial,fun a m=>absurd m (by simp)⟩
 | .bool b,_,x,_,_=>by
  cases x
  exact ⟨[],trivial,fun a m=>absurd m (by simp)⟩
 | .int i,_,x,_,_=>by
  cases x
  exact ⟨[],trivial,fun a m=>absurd m (by simp)⟩
 | .str s,_,x,_,_=>by
  cases x
  exact ⟨[],trivial,fun a m=>absurd m (by simp)⟩
 | .bytes b,_,x,_,_=>by
  cases x
  exact ⟨[],trivial,fun a m=>absurd m (by simp)⟩
 | .list ds,_,x,p,z=>by
  obtain ⟨a,vs,rfl,ho,gm⟩:=C2 x
  have z2:WData.weightAll ds≤1048576:=z
  obtain ⟨A,h1,h2⟩:=tR ds _ gm p fun d hd=>Nat.le_trans (sT hd) z2
  have k:∀b∈A,b∈a::A:=fun b hb=>List.mem_cons_of_mem _ hb
  refine ⟨a::A,List.mem_cons_self ..,fun b hb=> ?_⟩
  rcases List.mem_cons.mp hb with e|m
  ·rw [e]
   exact ⟨vs,K6 (by rw [kR gm];exact Nat.le_trans (PySem.W.length_le_weightAllW ds) z2),fun u hu=>(h1 u hu).mono k,.inl ho⟩
  ·exact (h2 b m).mono k
 | .tuple ds,_,x,p,z=>by
  obtain ⟨a,vs,rfl,ho,gm⟩:=zK x
  have z2:WData.weightAll ds≤1048576:=z
  obtain ⟨A,h1,h2⟩:=tR ds _ gm p fun d hd=>Nat.le_trans (sT hd) z2
  have k:∀b∈A,b∈a::A:=fun b hb=>List.mem_cons_of_mem _ hb
  refine ⟨a::A,List.mem_cons_self ..,fun b hb=> ?_⟩
  rcases List.mem_cons.mp hb with e|m
  ·rw [e]
   exact ⟨vs,K6 (by rw [kR gm];exact Nat.le_trans (PySem.W.length_le_weightAllW ds) z2),fun u hu=>(h1 u hu).mono k,.inr ho⟩
  ·exact (h2 b m).mono k
 | .float _,_,_,p,_=>Bool.noConfusion (show false=true from p)
 | .dict _,_,_,p,_=>Bool.noConfusion (show false=true from p)
 | .bytearray _,_,_,p,_=>Bool.noConfusion (show false=true from p)
 | .set _,_,_,p,_=>Bool.noConfusion (show false=true from p)
 | .frozenset _,_,_,p,_=>Bool.noConfusion (show false=true from p)
 | .obj _ _,_,_,p,_=>Bool.noConfusion (show false=true from p)
theorem tR:∀ (ds:List WData)(vs:List Value),WellAll P h vs ds→yO ds=true→(∀d∈ds,d.weight≤1048576)→∃A:List Addr,(∀u∈vs,Mw A u)∧∀a∈A,nY h A a
 | [],_,x,_,_=>by
  cases x
  exact ⟨[],fun u m=>absurd m (by simp),fun a m=>absurd m (by simp)⟩
 |d::ds,_,x,p,z=>by
  obtain ⟨v,vs,rfl,x1,x2⟩:=C3 x
  have q:K5 d=true∧yO ds=true:=Bool.and_eq_true_iff.mp p
  obtain ⟨A,a1,a2⟩:=OX d v x1 q.1 (z d (List.mem_cons_self ..))
  obtain ⟨B,b1,b2⟩:=tR ds vs x2 q.2 fun e he=>z e (List.mem_cons_of_mem _ he)
  have kA:∀b∈A,b∈A ++ B:=fun b hb=>List.mem_append.mpr (.inl hb)
  have kB:∀b∈B,b∈A ++ B:=fun b hb=>List.mem_append.mpr (.inr hb)
  refine ⟨A ++ B,fun u hu=> ?_,fun b hb=> ?_⟩
  ·rcases List.mem_cons.mp hu with e|m
   ·rw [e]
    exact a1.mono kA
   ·exact (b1 u m).mono kB
  ·rcases List.mem_append.mp hb with m|m
   ·exact (a2 b m).mono kA
   ·exact (b2 b m).mono kB
end
end
def Tg (o:Obj):Option HO:=match o.data with
 | .seq vs _=>if (o.cls==Value.type "list")=true then some (.jn o (.lst (vs.toList.map toV))) else some (.jn o (.tup (vs.toList.map toV)))
 |_=>none
def mH (K:PySem.W.Frag)(h:Heap)(A:List Addr):Hp:=fun b=>if b∈A then (if (K.lookup b).isNone=true then (h.get? b).bind Tg else none) else none
def G2 (H:Hp):Prop:=∀b,H b=none∨∃o u,H b=some (.jn o u)
theorem G3 (vs:List Value):Tg {cls:= .type "list",data:= .seq vs.toArray}=some (.jn {cls:= .type "list",data:= .seq vs.toArray} (.lst (vs.map toV))):=by
 show (if (Value.type "list"==Value.type "list")=true then some (HO.jn {cls:= .type "list",data:= .seq vs.toArray} (.lst (vs.toArray.toList.map toV))) else some (HO.jn {cls:= .type "list",data:= .seq vs.toArray} (.tup (vs.toArray.toList.map toV))))=_
 rw [if_pos (beq_self_eq_true _)]
theorem G4 (vs:List Value):Tg {cls:= .type "tuple",data:= .seq vs.toArray}=some (.jn {cls:= .type "tuple",data:= .seq vs.toArray} (.tup (vs.map toV))):=by
 show (if (Value.type "tuple"==Value.type "list")=true then some (HO.jn {cls:= .type "tuple",data:= .seq vs.toArray} (.lst (vs.toArray.toList.map toV))) else some (HO.jn {cls:= .type "tuple",data:= .seq vs.toArray} (.tup (vs.toArray.toList.map toV))))=_
 rw [if_neg (by decide)]
section
variable {P:Program}{w:World}{K:PySem.W.Frag}{h:Heap}{A:List Addr}
theorem y4 {b:Addr}{o:Obj}(hb:b∈A)(hk:K.lookup b=none)(e:h.get? b=some o):mH K h A b=Tg o:=by
 unfold mH
 rw [if_pos hb,hk,if_pos (show (none:Option Obj).isNone=true from rfl),e] <;>rfl
theorem Th {b:Addr}{u:HO}(q:mH K h A b=some u):b∈A∧K.lookup b=none:=by
 unfold mH at q
 by_cases hb:b∈A
 ·rw [if_pos hb] at q
  cases hk:K.lookup b with
  |none=>exact ⟨hb,rfl⟩
  |some o=>
   rw [hk,if_neg (by simp)] at q
   cases q
 ·rw [if_neg hb] at q
  cases q
theorem y6 (ar:∀a∈A,nY h A a){b:Addr}{u:HO}(q:mH K h A b=some u):K.lookup b=none∧∃vs:List Value,vs.length≤sizeLine∧(∀u∈vs,Mw A u)∧
  ((h.get? b=some {cls:= .type "list",data:= .seq vs.toArray}∧u= .jn {cls:= .type "list",data:= .seq vs.toArray} (.lst (vs.map toV)))∨
   (h.get? b=some {cls:= .type "tuple",data:= .seq vs.toArray}∧u= .jn {cls:= .type "tuple",data:= .seq vs.toArray} (.tup (vs.map toV)))):=by
 obtain ⟨hb,hk⟩:=Th q
 obtain ⟨vs,h1,h2,h3⟩:=ar b hb
 refine ⟨hk,vs,h1,h2,?_⟩
 rcases h3 with e|e
 ·rw [y4 hb hk e,G3] at q
  exact .inl ⟨e,(Option.some.inj q).symm⟩
 ·rw [y4 hb hk e,G4] at q
  exact .inr ⟨e,(Option.some.inj q).symm⟩
theorem Mx (ar:∀a∈A,nY h A a):G2 (mH K h A):=fun b=>by
 cases q:mH K h A b with
 |none=>exact .inl rfl
 |some u=>
  obtain ⟨_,vs,_,_,⟨_,e⟩|⟨_,e⟩⟩:=y6 ar q
  ·exact .inr ⟨_,_,by rw [e]⟩
  ·exact .inr ⟨_,_,by rw [e]⟩
theorem Ti (ar:∀a∈A,nY h A a):ox P w (mH K h A) h:=fun b u q=>by
 obtain ⟨_,vs,h1,h2,⟨e,rfl⟩|⟨e,rfl⟩⟩:=y6 ar q
 ·exact ⟨e,by rw [List.length_map];exact h1,vs,_,l8 h2,e⟩
 ·exact ⟨e,by rw [List.length_map];exact h1,vs,l8 h2,_,e,rfl,_,rfl⟩
theorem y8 {c c':Value}{vs us:List Value}(e:(some {cls:=c,data:= .seq vs.toArray}:Option Obj)=some {cls:=c',data:= .seq us.toArray}):c=c'∧vs=us:=by
 have e1:=Option.some.inj e
 have e2:c=c':=congrArg Obj.cls e1
 have e3:Data.seq vs.toArray=Data.seq us.toArray:=congrArg Obj.data e1
 injection e3 with e4
 refine ⟨e2,?_⟩
 have e5:=congrArg Array.toList e4
 simpa using e5
theorem aiI (KX:K.In h)(ar:∀a∈A,nY h A a){a:Addr}{vs:List Value}(ha:a∈A)(e:h.get? a=some {cls:= .type "list",data:= .seq vs.toArray}):(∀u∈vs,Mw A u)∧cK K (mH K h A) a (vs.map toV):=by
 obtain ⟨us,h1,h2,h3⟩:=ar a ha
 have hu:us=vs:=by
  rcases h3 with q|q
  ·rw [e] at q
   exact (y8 q).2.symm
  ·rw [e] at q
   exact absurd (Value.type.inj (y8 q).1) (by decide)
 subst hu
 refine ⟨h2,?_⟩
 cases hk:K.lookup a with
 |none=>exact .inl (.inr ⟨_,by rw [y4 ha hk e,G3]⟩)
 |some o=>
  have e2:=KX a o hk
  rw [e] at e2
  obtain rfl:=Option.some.inj e2
  exact .inr ⟨_,us.toArray,_,hk,rfl,rfl,rfl,by rw [List.size_toArray];exact h1,by simpa using l8 h2⟩
theorem aiJ (KX:K.In h)(ar:∀a∈A,nY h A a){a:Addr}{vs:List Value}(ha:a∈A)(e:h.get? a=some {cls:= .type "tuple",data:= .seq vs.toArray}):(∀u∈vs,Mw A u)∧bJ K (mH K h A) a (vs.map toV):=by
 obtain ⟨us,h1,h2,h3⟩:=ar a ha
 have hu:us=vs:=by
  rcases h3 with q|q
  ·rw [e] at q
   exact absurd (Value.type.inj (y8 q).1) (by decide)
  ·rw [e] at q
   exact (y8 q).2.symm
 subst hu
 refine ⟨h2,?_⟩
 cases hk:K.lookup a with
 |none=>exact .inl (.inr ⟨_,by rw [y4 ha hk e,G4]⟩)
 |some o=>
  have e2:=KX a o hk
  rw [e] at e2
  obtain rfl:=Option.some.inj e2
  exact .inr ⟨_,us.toArray,_,hk,rfl,rfl,by rw [List.size_toArray];exact h1,by simpa using l8 h2⟩
mutual
theorem WJ {Pm:Params}(KX:K.In h)(ar:∀a∈A,nY h A a):∀ (d:WData)(v:Value),Well Pm h v d→K5 d=true→Mw A v→Dw K (mH K h A) (toV v) d
 | .none,_,x,_,_=>by
  cases x
  exact .bX
 | .bool b,_,x,_,_=>by
  cases x
  exact .bl b
 | .int i,_,x,_,_=>by
  cases x
  exact .int i
 | .str s,_,x,_,_=>by
  cases x
  exact .str s
 | .bytes b,_,x,_,_=>by
  cases x
  have z:=Dw.GF (K:=K) (H:=mH K h A) b.toArray
  exact z
 | .list ds,_,x,p,hu=>by
  obtain ⟨a,vs,rfl,ho,gm⟩:=C2 x
  obtain ⟨h2,hs⟩:=aiI KX ar hu ho
  exact .lst hs (EL KX ar ds _ gm p h2)
 | .tuple ds,_,x,p,hu=>by
  obtain ⟨a,vs,rfl,ho,gm⟩:=zK x
  obtain ⟨h2,hs⟩:=aiJ KX ar hu ho
  exact .tup hs (EL KX ar ds _ gm p h2)
 | .float _,_,_,p,_=>Bool.noConfusion (show false=true from p)
 | .dict _,_,_,p,_=>Bool.noConfusion (show false=true from p)
 | .bytearray _,_,_,p,_=>Bool.noConfusion (show false=true from p)
 | .set _,_,_,p,_=>Bool.noConfusion (show false=true from p)
 | .frozenset _,_,_,p,_=>Bool.noConfusion (show false=true from p)
 | .obj _ _,_,_,p,_=>Bool.noConfusion (show false=true from p)
theorem EL {Pm:Params}(KX:K.In h)(ar:∀a∈A,nY h A a):∀ (ds:List WData)(vs:List Value),WellAll Pm h vs ds→yO ds=true→(∀u∈vs,Mw A u)→nX K (mH K h A) (vs.map toV) ds
 | [],_,x,_,_=>by
  cases x
  exact .nil
 |d::ds,_,x,p,hu=>by
  obtain ⟨v,vs,rfl,x1,x2⟩:=C3 x
  have q:K5 d=true∧yO ds=true:=Bool.and_eq_true_iff.mp p
  exact .cons (WJ KX ar d v x1 q.1 (hu _ (List.mem_cons_self ..))) (EL KX ar ds vs x2 q.2 fun u m=>hu u (List.mem_cons_of_mem _ m))
end
end
theorem My {P:Program}{w:World}{K:PySem.W.Frag}{mg mb:Str→Option Value}{CX:Jk}{k:Nat}{fa:Addr}{fd:FuncData}{ps:List Str}{sp:Sp}{s₁:Shared}{vals:List Value}{ds:List WData}{R:PySem.W.WRecords}{cl:Str→Option Addr}{d0:WData}
  (KX:K.In s₁.heap)(hns:s₁.heap.Ns mainGlobals mg)(hb:s₁.heap.Ns builtinsNs mb)(hbb:∀x:Str,x≠"__name__"→mb x=bootBuiltins x)(aaH:s₁.heap.NoLimit)(hg:s₁.gens= #[])
  (C4:WellAll w.params s₁.heap vals ds)(eD:yO ds=true)(hwt:∀d∈ds,d.weight≤1048576)(hr:gP k callerA)
  (F:∀base:Heap,K.In base→base.Ns mainGlobals mg→bB P w K mg base CX k fa fd ps sp)(aaI:∀ (s:Shared)(us:List Value),us.length=ps.length→BindsTo s fd ⟨us,[]⟩ (ps.zip us))(hlen:ds.length=ps.length)
  (Oc:∀ (H:Hp)(xs:List V),G2 H→nX K H xs ds→sp xs H (fun v H'=>Dw K H' v d0) fun _ _ _=>False)
  (hCX:∀H e s',CX [] H s₁ (fun _ _ _=>False) e s'→False):
  codeAny (model P w) callerA (.call (.ref fa) ⟨vals,[]⟩) (fun r s'=>∃u as,r= .ok (.ret u)∧ReadsW R cl s'.heap u d0 as∧OldK s₁.heap s'.heap∧s'.os=s₁.os∧AllBare s'.gens) s₁:=by
 obtain ⟨A,ho,ar⟩:=tR ds vals C4 eD hwt
 have hO:G2 (mH K s₁.heap A):=Mx ar
 have cx:ox P w (mH K s₁.heap A) s₁.heap:=Ti ar
 have hS:=EL KX ar ds vals C4 eD ho
 have hV:=l8 ho
 have hK:∀b u,mH K s₁.heap A b=some u→K.lookup b=none:=fun b u q=>(y6 ar q).1
 have Zg:∀ {b:Addr}{o:Obj}{es:Array DictEntry}{ep:Nat},s₁.heap.get? b=some o→o.data= .dict es ep→mH K s₁.heap A b=none:=fun {b o es ep} e d=>by
  cases q:mH K s₁.heap A b with
  |none=>rfl
  |some u=>
   obtain ⟨_,vs,_,_,⟨e2,_⟩|⟨e2,_⟩⟩:=y6 ar q
   ·rw [e2] at e
    cases e
    have d':Data.seq vs.toArray _=Data.dict es ep:=d
    cases d'
   ·rw [e2] at e
    cases e
    have d':Data.seq vs.toArray _=Data.dict es ep:=d
    cases d'
 generalize mH K s₁.heap A=H at hO cx hS hK Zg
 have K7:∀ {b:Addr}{o:Obj},s₁.heap.get? b=some o→H b=none→(Eh s₁.heap H).get? b=some o:=fun e n=>Oj e n
 have nsK:∀ {b:Addr}{m:Str→Option Value},s₁.heap.Ns b m→(Eh s₁.heap H).Ns b m:=fun {b m} ⟨o,es,ep,e,d,r⟩=>⟨o,es,ep,K7 e (Zg e d),d,r⟩
 have nK:∀b o,K.lookup b=some o→H b=none:=fun b o e=>by
  cases q:H b with
  |none=>rfl
  |some u=>
   rw [hK b u q] at e
   cases e
 have hKb:K.In (Eh s₁.heap H):=fun b o e=>K7 (KX b o e) (nK b o e)
 have hM:Mod K mg (Eh s₁.heap H):=⟨hKb,nsK hns,⟨mb,nsK hb,hbb⟩,let ⟨mc,h1,h2⟩:=aaH;⟨mc,nsK h1,h2⟩⟩
 have e0:Jl P w K mg (Eh s₁.heap H) callerA [] s₁ H:=⟨rfl,hM,fun b o e=>SG e,Nat.le_of_eq (Mc _ _),trivial,fun b hb=>absurd (show b∈([] :List Addr) from hb) (by simp),cx,.of_eq hg⟩
 have hl:vals.length=ps.length:=by rw [kR C4];exact hlen
 refine codeAny_mono ((F _ hKb (nsK hns)).run callerA [] s₁ H ⟨vals,[]⟩ vals (vals.map toV) _ _ hr e0 (aaI s₁ vals hl) hV (Oc H _ hO hS)) fun r s' x=> ?_
 cases r with
 |error e=>exact (hCX H e s' x).elim
 |ok fl=>
  cases fl with
  |next=>exact False.elim x
  |brk=>exact False.elim x
  |cont=>exact False.elim x
  |ret u=>
   obtain ⟨v,H',os,bare,un,aaK,r',q⟩:=x
   have kept:∀b o,s₁.heap.get? b=some o→s'.heap.get? b=some o:=fun b o e=>by
    cases q2:H b with
    |none=>exact un.keep b o e q2 (by intro z;exact absurd (show b∈([] :List Addr) from z) (by simp)) (by simp)
    |some u2=>
     rcases hO b with z|⟨ob,u3,z⟩
     ·rw [q2] at z
      cases z
     ·have z2:=un.zp b ob _ z
      obtain ⟨e1,_⟩:=cx b _ z
      obtain ⟨e2,_⟩:=aaK b _ z2
      rw [e] at e1
      cases e1
      exact e2
   have KX':K.In s'.heap:=fun b o e=>kept b o (KX b o e)
   obtain ⟨as,hrd⟩:=Dw.reads (R:=R) (cl:=cl) aaK KX' d0 v u q r'
   exact ⟨u,as,rfl,hrd,OldK.of_keep kept,os,bare⟩
theorem zL {ds:List WData}(h:WData.layableAll ds=true):∀d∈ds,d.weight≤1048576:=fun d hd=>
 (PySem.W.layableW_iff.mp (List.all_eq_true.mp h d hd)).2.2
theorem zM:∀ (cs:List Codec)(a:Codec.denoteAll cs),(Codec.encAll cs a).length=cs.length
 | [],_=>rfl
 |c::cs,a=>by
  show (Codec.encAll cs a.2).length + 1=cs.length + 1
  rw [zM cs a.2]
theorem Mz {r:OpenSpec}{k:Nat}{q:Program}{loose:List Str}{XP:(Str→Option Value)→Heap→Prop}{YP:World→Heap→Prop}{d:DefRec}{K:Params→PySem.W.Frag}{CX:World→Jk}{ps:List Str}{sp:World→Sp}
  (OY:r.wellSaid=true)(hdf:d.params.defaults= [])(hlen:r.args.length=ps.length)(hr:gP k callerA)
  (hY:∀ (w:World)(h:Heap),YP w h→(K w.params).In h)
  (F:∀ (w:World)(mg:Str→Option Value)(fa:Addr)(h:Heap),YP w h→(K w.params).In h→h.Ns mainGlobals mg→mg d.name=some (.ref fa)→
   ∃fd:FuncData,(∀ (s:Shared)(us:List Value),us.length=ps.length→BindsTo s fd ⟨us,[]⟩ (ps.zip us))∧
    ∀base:Heap,(K w.params).In base→base.Ns mainGlobals mg→bB r.prog w (K w.params) mg base (CX w) k fa fd ps (sp w))
  (Oc:∀ (w:World)(H:Hp)(xs:List V)(a:Codec.denoteAll r.args),G2 H→Codec.withinAll r.args a=true→Codec.app r.args r.asked a=true→nX (K w.params) H xs (Codec.encAll r.args a)→
   sp w xs H (fun v H'=>Dw (K w.params) H' v (r.ret.enc (Codec.app r.args r.f a))) fun _ _ _=>False)
  (hCX:∀ (w:World)(H:Hp)(s:Shared)(e:Value)(s':Shared),CX w [] H s (fun _ _ _=>False) e s'→False):
  PySem.W.WalkOS q loose XP YP r d [] (fun f vs=>PySem.call f vs):=by
 intro w CC s₁ mg mb G Y fa o pm cd doc dV kV ho hd tD hD hmg hg args vals as aiM aiN hrd C4 hlo
 obtain ⟨a,e1,e2⟩:=PySem.W.os_pre_some aiM
 obtain ⟨e3,Zn⟩:=Codec.encAll_of_decAll r.args args a e1
 subst e3
 have KX:=hY w _ Y
 obtain ⟨fd,hb,hF⟩:=F w mg fa _ Y KX G.T.g hmg
 refine PySem.W.enter_call (codeAny_mono (My (R:= []) (cl:=classAt CC.heap) (d0:=r.ret.enc (Codec.app r.args r.f a)) KX G.T.g G.T.b G.T.builtins G.T.nolimit hg C4 (C1 _ _) (zL aiN) hr hF hb (by rw [zM];exact hlen)
  (fun H xs hO hS=>Oc w H xs a hO Zn e2 hS) fun H e s'=>hCX w H s₁ e s') fun r' s' hq=> ?_)
 obtain ⟨u,oJ,rfl,h1,h2,h3,h4⟩:=hq
 exact ⟨.inl ⟨u,_,oJ,rfl,fun _=>rfl,h1,(OpenSpec.post_iff OY Zn _ _).mpr rfl,fun z=>Bool.noConfusion (show false=true from z)⟩,h2,h3,h4⟩
theorem Jv {r:OpenSpec}{k:Nat}{q:Program}{loose:List Str}{XP:(Str→Option Value)→Heap→Prop}{YP:World→Heap→Prop}{d:DefRec}{K:Params→PySem.W.Frag}{CX:Jk}{ps:List Str}{sp:PySem.W.Frag→Sp}
  (OY:r.wellSaid=true)(hdf:d.params.defaults= [])(hlen:r.args.length=ps.length)(hr:gP k callerA)
  (hY:∀ (w:World)(h:Heap),YP w h→(K w.params).In h)
  (F:∀ (w:World)(mg:Str→Option Value)(fa:Addr)(h:Heap),YP w h→(K w.params).In h→h.Ns mainGlobals mg→mg d.name=some (.ref fa)→
   ∃fd:FuncData,(∀ (s:Shared)(us:List Value),us.length=ps.length→BindsTo s fd ⟨us,[]⟩ (ps.zip us))∧
    ∀base:Heap,(K w.params).In base→base.Ns mainGlobals mg→bB r.prog w (K w.params) mg base CX k fa fd ps (sp (K w.params)))
  (Oc:∀ (K:PySem.W.Frag)(H:Hp)(xs:List V)(a:Codec.denoteAll r.args),G2 H→Codec.withinAll r.args a=true→Codec.app r.args r.asked a=true→nX K H xs (Codec.encAll r.args a)→
   sp K xs H (fun v H'=>Dw K H' v (r.ret.enc (Codec.app r.args r.f a))) fun _ _ _=>False)
  (hCX:∀ (H:Hp)(s:Shared)(e:Value)(s':Shared),CX [] H s (fun _ _ _=>False) e s'→False):
  PySem.W.WalkOS q loose XP YP r d [] (fun f vs=>PySem.call f vs):=
 Mz (K:=K) (CX:=fun _=>CX) (sp:=fun w=>sp (K w.params)) OY hdf hlen hr hY F (fun w H xs a h1 h2 h3 h4=>Oc (K w.params) H xs a h1 h2 h3 h4) fun _ H s e s'=>hCX H s e s'
end L2
end
set_option genInjectivity false
set_option Elab.async false
set_option linter.all false
set_option maxRecDepth 100000
set_option maxHeartbeats 2000000
namespace L2
open PySem PySem.Spec PyProof.Rows PyProof.Rows.KTD
inductive G5:List DictEntry→List (Int×V)→Prop
 |nil:G5 [] []
 |cons {e:DictEntry} {i:Int} {t:Tok} {v:V} {es:List DictEntry} {kvs:List (Int×V)}:e.key= .int i t→e.hash=hashInt i→RelV v e.val→G5 es kvs→G5 (e::es) ((i,v)::kvs)
def DM (K:PySem.W.Frag)(a:Addr)(kvs:List (Int×V)):Prop:=
 (kvs.map (·.1)).Nodup∧∃ (o:Obj)(es:Array DictEntry)(ep:Nat),K.lookup a=some o∧o.ExactDict∧o.data= .dict es ep∧G5 es.toList kvs
theorem xu {P:Program}{w:World}:∀ {es:List DictEntry}{kvs:List (Int×V)},G5 es kvs→
  (∀e∈es,∃k,(bY P w).is k e.key=true∧e.hash=(bY P w).hash k)∧∃vs:List (Key×Value),Pairs (bY P w) es vs∧KV (kvs.map fun p=>((Sum.inl p.1:Key),p.2)) vs
 |_,_,.nil=>⟨fun _ h=>(nomatch h),[],.nil,.nil⟩
 |_,_,.cons (e:=e) (i:=i) (t:=t) hk hh hv r=>by
  obtain ⟨h1,vs,h2,h3⟩:=xu (P:=P) (w:=w) r
  have hi:(bY P w).is (Sum.inl i) e.key=true:=by rw [hk];exact xm P w i t
  refine ⟨fun x hx=> ?_,(Sum.inl i,e.val)::vs,.cons hi rfl h2,.cons ⟨rfl,hv⟩ h3⟩
  rcases List.mem_cons.mp hx with q|q
  ·rw [q];exact ⟨Sum.inl i,hi,hh⟩
  ·exact h1 x q
theorem C5:∀ {kvs:List (Int×V)},(kvs.map (·.1)).Nodup→((kvs.map fun p=>((Sum.inl p.1:Key),p.2)).map (·.1)).Nodup
 | [],_=>List.nodup_nil
 |p::r,h=>by
  rw [List.map_cons,List.nodup_cons] at h
  rw [List.map_cons,List.map_cons,List.nodup_cons]
  refine ⟨fun q=>h.1 ?_,C5 h.2⟩
  obtain ⟨x,hx,e⟩:=List.mem_map.mp q
  obtain ⟨y,hy,rfl⟩:=List.mem_map.mp hx
  have e':y.1=p.1:=Sum.inl.inj e
  rw [←e']
  exact List.mem_map_of_mem hy
theorem G6 (i:Int):∀kvs:List (Int×V),dD (kvs.map fun p=>((Sum.inl p.1:Key),p.2)) (Sum.inl i)=dD kvs i
 | [] =>rfl
 |p::r=>by
  by_cases e:p.1=i
  ·rw [List.map_cons,di (show (Sum.inl p.1:Key)=Sum.inl i by rw [e]),di e]
  ·rw [List.map_cons,dj (fun q=>e (Sum.inl.inj q)),dj e,G6 i r]
section
variable {X:Cx}{pins:List (Addr×Obj)}{σ:St}{H:Hp}{s:Shared}{a:Addr}
theorem DM.at {kvs:List (Int×V)}(I:Inv X pins σ H s)(d:DM X.K a kvs):∃vs,KV (kvs.map fun p=>((Sum.inl p.1:Key),p.2)) vs∧s.heap.DictOf (bY X.prog X.w) a vs:=by
 obtain ⟨nd,o,es,ep,hk,hx,hd,he⟩:=d
 obtain ⟨h1,vs,h2,h3⟩:=xu (P:=X.prog) (w:=X.w) he
 refine ⟨vs,h3,o,es,ep,I.KD a o hk,hx,hd,fun e m=>h1 e (Array.mem_toList_iff.mpr m),h2,?_⟩
 rw [←h3.keys]
 exact C5 nd
def aaL (K:PySem.W.Frag)(td ty:TE):TE:=fun σ H Q=>td σ H fun x H1=>ty σ H1 fun y H2=>∃a kvs i v,x= .ref a∧y= .int i∧DM K a kvs∧dD kvs i=some v∧Q v H2
theorem EM {o i:Expr}{pos:Pos}{td ty:TE}(ho:PE X o td)(hi:PE X i ty)(hs:Tc i):PE X (.Subscript o i pos) (aaL X.K td ty):=by
 intro pins s σ H Q I h
 refine EG PySem.F.slot_dict_getitem.lookup hs (dz (ho pins s σ H _ I h) fun u s1 ⟨x,H1,I1,rx,q1⟩=>dz (hi pins s1 σ H1 _ I1 q1) fun iv s2 ⟨y,H2,I2,ry,a,kvs,i,v,ex,ey,d,l,q2⟩=> ?_)
 subst ex ey
 obtain rfl:u=Value.ref a:=rx
 obtain ⟨vs,rel,dd⟩:=d.at I2
 refine ⟨dd.typeIs,?_⟩
 obtain ⟨w',hw,Eo⟩:=qV.some_of (v:=v) (o:=valueAt vs (Sum.inl i)) (by rw [←l,←G6];exact rel.val (Sum.inl i))
 exact wpAny_getItem_of (xr (k:=Sum.inl i) ry) dd.mapOf hw ⟨v,H2,I2.tok _,Eo,q2⟩
end
def DMS (K:PySem.W.Frag)(a:Addr)(kvs:List (Str×V)):Prop:=
 ∃ (o:Obj)(es:Array DictEntry)(ep:Nat),K.lookup a=some o∧o.ExactDict∧o.data= .dict es ep∧Rows RelV es.toList kvs
section
variable {X:Cx}
def WK (K:PySem.W.Frag)(td ty:TE):TE:=fun σ H Q=>td σ H fun x H1=>ty σ H1 fun y H2=>∃a kvs k v,x= .ref a∧y= .str k∧DMS K a kvs∧datumAt k kvs=some v∧Q v H2
theorem G7 {o i:Expr}{pos:Pos}{td ty:TE}(ho:PE X o td)(hi:PE X i ty)(hs:Tc i):PE X (.Subscript o i pos) (WK X.K td ty):=by
 intro pins s σ H Q I h
 refine EG PySem.F.slot_dict_getitem.lookup hs (dz (ho pins s σ H _ I h) fun u s1 ⟨x,H1,I1,rx,q1⟩=>dz (hi pins s1 σ H1 _ I1 q1) fun iv s2 ⟨y,H2,I2,ry,a,kvs,k,v,ex,ey,d,l,q2⟩=> ?_)
 subst ex ey
 obtain rfl:u=Value.ref a:=rx
 obtain ⟨tk,rfl⟩:=ry
 obtain ⟨o,es,ep,hk,hc,hd,hr⟩:=d
 have ho:=I2.KD a o hk
 have hT:s2.TypeIs (.ref a) "dict":=⟨o,ho,hc.1⟩
 refine ⟨hT,?_⟩
 unfold getItem
 try with_reducible refine wpAny_holding ?_
 refine wpAny_bind (wpAny_sequenceKey hT (by decide) ?_)
 refine wpAny_bind (wpAny_callSpecial?_slot (name:=Str.ofString "__getitem__") hT slot_dict_getitem
  (wpAny_call_entry slot_dict_getitem hT entry_dict_getitem ?_ (args_dict_getitem _ _)))
 show wpAny _ _ (dictGet a (.str k tk) >>=_) _ _ s2
 obtain ⟨u,hu,ru⟩:=hr.find_some l
 refine wpAny_bind ?_
 unfold dictGet
 try with_reducible refine wpAny_holding ?_
 refine wpAny_bind (wpAny_pyHash_str (wpAny_bind (kt_dictFind_strs (s:={s2 with toks:=s2.toks + 1}) ho hd (by obtain ⟨l⟩:=es;simpa using hr.exact) ?_)))
 have hf:findBy (fun k v=>v.isStr k) es k=some u:=by
  rw [←hu]
  obtain ⟨l⟩:=es
  simp [findBy]
 rw [findBy_of_findIdx?] at hf
 cases Zo:es.findIdx? fun e=>e.key.isStr k with
 |none=>rw [Zo] at hf;cases hf
 |some j=>
  rw [Zo] at hf
  refine wpAny_bind (wpAny_dictEntries (s:={s2 with toks:=s2.toks + 1}) ho hd (wpAny_pure ?_))
  have hf':(es[j]?).map (·.val)=some u:=hf
  rw [hf']
  exact wpAny_pure ⟨u,rfl,wpAny_pure ⟨v,H2,I2.tok _,ru,q2⟩⟩
end
section
variable {X:Cx}
theorem EN {prog:Program}{w:World}{d:Addr}(hd:(d==sysModules)=false):
  MeetsIn prog w (Builtin.«dict.__len__» ⟨[.ref d],[]⟩) (fun _ R s=>∃o es ep,s.heap.get? d=some o∧o.data= .dict es ep∧R (.ok (.ret (.int es.size s.toks))) {s with toks:=s.toks + 1}):=
 .of_wp fun A R s ⟨o,es,ep,ho,aiP,h⟩=>by
  show wpAny _ _ (dictSize d >>=_) _ _ s
  unfold dictSize
  refine wpAny_bind (wpAny_bind (wpAny_dictEntries ho aiP (wpAny_pure ?_)))
  show wpAny _ _ (Builtin.Dict.pendingCount d >>=_) _ _ s
  refine wpAny_bind (wpAny_pendingCount_other hd (wpAny_ret_mkInt ?_))
  rw [Nat.add_zero]
  exact h
theorem MB:kO X (.builtin "len") (fun xs H Q=>∃a kvs,xs= [V.ref a] ∧H a=some (.dT kvs)∧Q (.int kvs.length) H):=by
 intro pins s σ H vs us Q I r h
 obtain ⟨a,kvs,rfl,e,q⟩:=h
 rw [Vals.Jq r]
 obtain ⟨z,hd,xs,rel,o,es,ep,h1,h2,h3,h4,h5⟩:=I.cx a _ e
 have hT:s.TypeIs (.ref a) "dict":=⟨o,h1,h2.1⟩
 have hz:es.size=kvs.length:=by
  rw [size_of_entries h4]
  exact (Paired.length rel).symm
 have hl:=zA
 refine Calls.call_function_entry kind_len plain_len entry_len (args_len1 _) ?_
 unfold Builtin.«len»
 refine wpAny_bind (m:=oneArg "len" _) (wpAny_pure ?_)
 refine wpAny_bind (m:=callSpecial? (.ref a) (Str.ofString "__len__")) (wpAny_callSpecial?_slot (name:=Str.ofString "__len__") hT PySem.F.slot_dict_len
  (call_meetsIn PySem.F.slot_dict_len hT PySem.F.entry_dict_len (PySem.F.args_dict_len_1 _) (EN hd) ⟨o,es,ep,h1,h3,?_⟩))
 rw [hz]
 show wpAny _ _ _ _ _ {s with toks:=s.toks + 1}
 refine wpAny_bind (wpAny_holding (wpAny_pure ?_))
 refine wpAny_bind (wpAny_letGo ?_)
 show wpAny _ _ (if ((kvs.length:Nat):Int) < 0 then _ else _) _ _ _
 rw [if_neg (by omega)]
 show wpAny _ _ (if ((kvs.length:Nat):Int) ≥ 2 ^ 63 then _ else _) _ _ _
 rw [if_neg (by omega)]
 exact wpAny_bind (wpAny_mkInt (wpAny_pure ⟨_,rfl,⟨.int _,H,I.tok _,⟨_,rfl⟩,q⟩⟩))
end
section
variable {X:Cx}{CX:Jk}{k:Nat}{E:XK}{pos:Pos}{g e:Expr}{es:List Expr}{te:TE}{t:TA}
def WL (G:Addr→Sp→Prop)(E:XK)(te:TE)(t:TA):TE:=fun σ H Q=>te σ H fun x H1=>∃f sp,x= .ref f∧G f sp∧t σ H1 fun vs H2=>sp vs H2 Q E
structure GOk (X:Cx) (CX:Jk) (k:Nat) (G:Addr→Sp→Prop):Prop where
 ok:∀f sp,G f sp→∃fd ps,bB X.prog X.w X.K X.mg X.base CX k f fd ps sp∧Binds X.K fd ps [] ∧PySem.W.keepIn X.K (.ref f)=true
theorem OZ {G:Addr→Sp→Prop}(hG:GOk X CX k G)(hr:gP k X.A)(hx:Passes CX X E)(hg:PE X g te)(ha:PA X (e::es) t)
  (hc:eval (.Call g (e::es) [] pos) X.env=(do callWith pos (←eval g X.env) [] (backTo pos (starEach (e::es) X.env)) (backToKw pos (keywordEach [] X.env))):=by rfl)
  (he:starEach (e::es) X.env=(false,eval e X.env)::starEach es X.env:=by rfl)(eD:(backTo pos (starEach es X.env)).any (·.1)=false:=by rfl):
  PE X (.Call g (e::es) [] pos) (WL G E te t):=by
 intro pins s σ H Q I h
 refine Call_ (dz (hg pins s σ H _ I h) fun u s1 ⟨x,H1,I1,rx,f,sp,ex,hgf,q1⟩=> ?_) hc
 subst ex
 obtain rfl:u=Value.ref f:=rx
 obtain ⟨fd,ps,F,hb,hk⟩:=hG.ok f sp hgf
 refine PySem.W.callWith_K (h₀:=X.base) I.ok.mod.ZL hk (dz (ha pos pins s1 σ H1 _ I1 q1) fun us s2 ⟨vs,H2,I2,r,q2⟩=>⟨I2.KD,?_⟩) he eD
 exact OD F hr hb .nil hx I2 r (by rw [List.append_nil];exact q2)
end
end L2
namespace L2
open PySem PySem.Spec PyProof.Rows
theorem tS {κ α:Type} [DecidableEq κ] {k:κ}:∀ {xs:List (κ×α)}{j:Nat}{p:α},(xs.map (·.1)).Nodup→xs[j]?=some (k,p)→(xs.filter fun x=>decide (x.1≠k))=xs.eraseIdx j
 | [],j,p,_,h=>by simp at h
 |x::xs,0,p,nd,h=>by
  rw [List.map_cons,List.nodup_cons] at nd
  have e:x=(k,p):=Option.some.inj h
  subst e
  have all:∀y∈xs,decide (y.1≠k)=true:=fun y hy=>decide_eq_true fun q=>nd.1 (by show k∈_;rw [←q];exact List.mem_map_of_mem hy)
  rw [List.filter_cons,if_neg (by simp),List.filter_eq_self.mpr all]
  rfl
 |x::xs,j + 1,p,nd,h=>by
  rw [List.map_cons,List.nodup_cons] at nd
  have hj:xs[j]?=some (k,p):=h
  have ne:x.1≠k:=fun q=>nd.1 (by rw [q];exact List.mem_map.mpr ⟨(k,p),List.mem_of_getElem? hj,rfl⟩)
  rw [List.filter_cons,if_pos (decide_eq_true ne),tS nd.2 hj]
  rfl
theorem qk {α β:Type}(f:α→β):∀ (l:List α)(i:Nat),(l.map f).eraseIdx i=(l.eraseIdx i).map f
 | [],_=>rfl
 |_::_,0=>rfl
 |x::l,i + 1=>by
  show f x::(l.map f).eraseIdx i=f x::(l.eraseIdx i).map f
  rw [qk f l i]
section
variable {prog:Program}{w:World}{A:Around}{E:Value→Shared→Prop}{s:Shared}{κ:Type} [DecidableEq κ] {knd:HeapKind prog w κ}{d a:Addr}{k:κ}{xs:List (κ×Addr×Value)}{p:Addr×Value}{j:Nat}
theorem O0 {Q:Option DictEntry→Shared→Prop}(hu:knd.room A)(sR:knd.is s.heap k a)(hm:s.heap.DictOfH knd d xs)(hz:xs.length≤sizeLine)(hj:xs[j]?=some (k,p))
  (h:∀h',h'.DictOfH knd d (xs.filter fun x=>decide (x.1≠k))→Heap.SameBut d s.heap h'→Q (some (entryOfKey knd (k,p))) {s with heap:=h',toks:=s.toks + knd.draws k}):
  wpAny (model prog w) A (Builtin.Dict.takeOut d (.ref a)) Q E s:=by
 obtain ⟨o,es,ep,ho,hc,hd,he,his,hn⟩:=hm
 unfold Builtin.Dict.takeOut
 try with_reducible refine wpAny_holding ?_
 refine wpAny_bind (knd.pyHash hu sR (wpAny_bind (wpAny_dictFind_heap (s:={s with toks:=s.toks + knd.draws k}) hu sR ho hd he his hn (fun no=>absurd hj (no j p)) fun i q hi=> ?_)))
 have hij:i=j:=by
  have e1:(xs.map (·.1))[i]?=some k:=by rw [List.getElem?_map,hi] <;>rfl
  have e2:(xs.map (·.1))[j]?=some k:=by rw [List.getElem?_map,hj] <;>rfl
  exact Vl hn e1 e2
 subst hij
 refine wpAny_bind (wpAny_dictEntries (s:={s with toks:=s.toks + knd.draws k}) ho hd ?_)
 rw [entry_at he i,hj]
 refine wpAny_bind (wpAny_updateDictKeys (hz:=by have e:=size_of_entries he;omega) (s:={s with toks:=s.toks + knd.draws k}) ho hd (wpAny_pure (h _ ⟨_,_,ep + 1,Heap.get?_update_self _ ho (Obj.isFreed_of_dict (Obj.data_mapDictKeys hd _)),
  hc.mapDictKeys _,Obj.data_mapDictKeys hd _,?_,?_,?_⟩ (Heap.SameBut.update ..))))
 ·rw [tS hn hj]
  obtain ⟨l⟩:=es
  have hel:l=xs.map (entryOfKey knd):=he
  subst hel
  have Vm:i < (xs.map (entryOfKey knd)).length:=by rw [List.length_map];exact (List.getElem?_eq_some_iff.mp hj).1
  have eA:i < xs.length:=(List.getElem?_eq_some_iff.mp hj).1
  simp only [Array.eraseIdxIfInBounds]
  rw [dif_pos (by simpa using eA),←qk]
  simp
 ·intro x hx
  exact knd.keeps (his x (List.mem_filter.mp hx).1) ho hd (Heap.SameBut.update ..)
 ·exact (List.filter_sublist.map _).nodup hn
theorem Jw {v:Value}:
  MeetsIn prog w (Builtin.«dict.pop» ⟨[.ref d,.ref a],[]⟩) (fun A R s=>knd.room A.in1∧∃ (k:κ)(xs:List (κ×Addr×Value))(j:Nat)(b:Addr),knd.is s.heap k a∧s.heap.DictOfH knd d xs∧xs.length≤sizeLine∧xs[j]?=some (k,(b,v))∧
   ∀h',h'.DictOfH knd d (xs.filter fun x=>decide (x.1≠k))→Heap.SameBut d s.heap h'→R (.ok (.ret v)) {s with heap:=h',toks:=s.toks + knd.draws k}):=
 .of_wp fun A R s ⟨hu,k,xs,j,b,sR,hm,hz,hj,h⟩=>by
  obtain ⟨o,es,ep,ho,hc,hd,he,his,hn⟩:=id hm
  unfold Builtin.«dict.pop»
  refine wpAny_bind ?_
  unfold Builtin.Dict.keyAndDefault
  refine wpAny_bind (wpAny_notOrdered_dict hm.typeIs ?_)
  show wpAny _ _ (pure (d,Value.ref a,none)) _ _ s
  refine wpAny_pure ?_
  have qY:es.isEmpty=false:=by
   have h0:j < xs.length:=(List.getElem?_eq_some_iff.mp hj).1
   have h1:=size_of_entries he
   rw [Array.isEmpty_eq_false_iff]
   intro q
   rw [q] at h1
   simp at h1
   omega
  simp only [show (keyPart (Value.ref a)).isSome=false from rfl,Bool.false_eq_true,if_false]
  refine wpAny_bind (wpAny_dictEntries ho hd (wpAny_bind (wpAny_pure ?_)))
  rw [qY]
  simp only [Bool.false_eq_true,if_false]
  refine wpAny_bind (O0 hu sR hm hz hj fun h' WM hs'=> ?_)
  simp only [Option.isNone_some,Bool.false_eq_true,if_false]
  exact wpAny_bind (wpAny_letGo (wpAny_pure ⟨v,rfl,h h' WM hs'⟩))
end
section
variable {X:Cx}{o e:Expr}{apos gk:Pos}{td ty:TE}
theorem KT.drop {H:Hp}{kvs:List (List Key×V)}{xs:List (List Key×Addr×Value)}(r:KT H kvs xs)(k:List Key):KT H (zH kvs k) (xs.filter fun x=>decide (x.1≠k)):=by
 induction r with
 |nil=>exact .nil
 | @cons p q ps qs h t ih=>
  unfold zH
  by_cases z:p.1=k
  ·rw [List.filter_cons,List.filter_cons,if_neg (by simp [z]),if_neg (by simp [←h.1,z])]
   exact ih
  ·rw [List.filter_cons,List.filter_cons,if_pos (by simp [z]),if_pos (by simp [←h.1,z])]
   exact .cons h ih
theorem KT.has {H:Hp}{kvs:List (List Key×V)}{xs:List (List Key×Addr×Value)}(r:KT H kvs xs){k:List Key}{v:V}(l:dD kvs k=some v):∃ (j:Nat)(b:Addr)(u:Value),xs[j]?=some (k,(b,u))∧RelV v u:=by
 induction r with
 |nil=>cases l
 | @cons p q ps qs h t ih=>
  by_cases z:p.1=k
  ·rw [di z] at l
   cases l
   exact ⟨0,q.2.1,q.2.2,by rw [←z,h.1];rfl,h.2.2⟩
  ·rw [dj z] at l
   obtain ⟨j,b,u,e1,e2⟩:=ih l
   exact ⟨j + 1,b,u,e1,e2⟩
def WN (td ty:TE):TE:=fun σ H Q=>td σ H fun x H1=>∃a,x= .ref a∧IsD H1 a∧ty σ H1 fun y H2=>∃kvs k b v,H2 a=some (.dT kvs)∧y= .ref b∧H2 b=some (.tup (k.map kV))∧dD kvs k=some v∧Q v (upd H2 a (.dT (zH kvs k)))
theorem O1 (hu:X.A.units + 1 < cLine)(ho:PE X o td)(he:PE X e ty)(m:M1 X o "pop" apos e gk):PE X (.Call (.Attribute o "pop" apos) [e] [] gk) (WN td ty):=by
 intro pins s σ H Q I h
 refine wpAny_Call_method m.base m.few m.line PySem.F.plainAttrs_dict PySem.F.slot_dict_pop PySem.F.type_dict_pop (dz (ho pins s σ H _ I h) fun u s1 ⟨x,H1,I1,rx,a,ex,d,q1⟩=> ?_)
 subst ex
 obtain rfl:u=Value.ref a:=rx
 obtain ⟨t1,t2,_⟩:=Js I1 d
 refine ⟨t1,t2,?_⟩
 rw [m.trees]
 refine Calls.callWith_builtin rfl (Calls.evalArgs_plain (Calls.spliced_cons (dz (he pins s1 σ H1 _ I1 q1) fun iv s2 ⟨y,H2,I2,ry,kvs,k,b,v,ea,ey,eb,l,q2⟩=>Calls.spliced_nil ?_)))
 subst ey
 obtain rfl:iv=Value.ref b:=ry
 obtain ⟨z,hd,xs,rel,dd⟩:=Vk I2.cx ea
 obtain ⟨j,c,w',hj,Eo⟩:=KT.has rel l
 refine call_meetsIn PySem.F.slot_dict_pop dd.typeIs PySem.F.entry_dict_pop (PySem.F.args_dict_pop_2 _ _) (Jw (knd:=tupleKind (bY X.prog X.w)) (v:=w'))
  ⟨tupleKind_room_in1 hu,k,xs,j,c,oH I2.cx eb,dd,by rw [←Paired.length rel];exact z,hj,fun h' Zl hs=> ?_⟩
 obtain ⟨q,es,ep,hq,h2,h3,h4,_,h5⟩:=Zl
 refine ⟨v,_,EF (ob:= .dT (zH kvs k)) I2 (by rw [ea];exact True.intro) hs ⟨q,hq⟩ ⟨Nat.le_trans (OP kvs k) z,hd,_,(KT.drop rel k).keeps fun c ys ec=> ?_,q,es,ep,hq,h2,h3,h4,h5⟩,Eo,q2⟩
 rw [az (a8 ec ea (fun z=>nomatch z))]
 exact ec
end
section
variable {X:Cx}
def O2:List V→Hp→VK→Prop:=fun vs H Q=>∃ (a:Addr)(kvs:List (Key×V))(ns:List Int),vs= [V.ref a] ∧H a=some (.dK kvs)∧kvs.map (·.1)=ns.map Sum.inl∧
 ∀ (WO:List Int)(p:Addr),WO.Perm ns→WO.Pairwise (· ≤ ·)→H p=none→Q (.ref p) (upd H p (.lst (WO.map V.int)))
theorem Jx (hc:X.calm=true):kO X (.builtin "sorted") O2:=by
 intro pins s σ H vs us Q I r h
 obtain ⟨a,kvs,ns,rfl,e,hk,q⟩:=h
 rw [Vals.Jq r]
 obtain ⟨z,hd,ws,rel,dd⟩:=Vj I.cx e
 obtain ⟨ep,Sn⟩:=dd.dictAt
 have Vn:ws.map (·.1)=ns.map Sum.inl:=by rw [←rel.keys];exact hk
 have hlw:ws.length=ns.length:=by
  have:=congrArg List.length Vn
  simpa using this
 have hzw:ws.length≤sizeLine:=by rw [←rel.length];exact z
 refine Calls.call_function_entry kind_sorted plain_sorted entry_sorted (args_sorted1 _) ?_
 unfold Builtin.«sorted»
 refine wpAny_bind (m:=checkCount "sorted" 1 1 _) (wpAny_pure ?_)
 refine wpAny_bind (PySem.W.kdu_collect (A:=X.A.in1) (PySem.W.kdl_dict (knd:=bY X.prog X.w) (kvs:=ws) (ep:=ep) hd) (I.ok.hd hc) Sn hzw fun h' tk acc hk' aaN=> ?_)
 have Tj:acc.toList.length=ns.length:=by rw [Array.length_toList,aaN.1,hlw]
 have hI:IntsAre acc.toList ns:=by
  have all:∀ (j:Nat)(v:Value),acc.toList[j]?=some v→∃i t,ns[j]?=some i∧v= .int i t:=fun j v hv=>by
   obtain ⟨k,x,hx,hkx⟩:=aaN.2 j v (by rw [←Array.getElem?_toList];exact hv)
   have h1:(ws.map (·.1))[j]?=some k:=by rw [List.getElem?_map,hx] <;>rfl
   rw [Vn,List.getElem?_map] at h1
   cases hn:ns[j]? with
   |none=>rw [hn] at h1;cases h1
   |some i=>
    rw [hn] at h1
    have hki:k=Sum.inl i:=(Option.some.inj h1).symm
    subst hki
    rcases dQ (k:=Sum.inl i) (v:=v) hkx with ⟨i',t,e1,e2⟩|⟨x',t,e1,e2⟩
    ·exact ⟨i,t,rfl,by rw [e2,←Sum.inl.inj e1]⟩
    ·cases e1
  have gen:∀ (l:List Value)(m:List Int),l.length=m.length→(∀ (j:Nat)(v:Value),l[j]?=some v→∃i t,m[j]?=some i∧v= .int i t)→IntsAre l m:=by
   intro l
   induction l with
   |nil=>
    intro m hm _
    cases m with
    |nil=>exact .nil
    |cons _ _=>simp at hm
   |cons v l ih=>
    intro m hm gm
    cases m with
    |nil=>simp at hm
    |cons i m=>
     obtain ⟨i',t,e1,e2⟩:=gm 0 v rfl
     have e1':i=i':=Option.some.inj e1
     subst e1' e2
     exact .cons _ _ (ih m (by simpa using hm) fun j v hv=>gm (j + 1) v hv)
  exact gen _ _ Tj all
 have hlz:acc.toList.length≤sizeLine:=by rw [Tj,←hlw];exact hzw
 refine wpAny_bind (wpAny_newList ?_ hlz)
 have hob:(h'.push {cls:= .type "list",data:= .seq acc.toList.toArray}).get? h'.objs.size=some (seqObj "list" acc.toList.toArray 0):=Heap.get?_push_size _ rfl
 have I2:Inv X pins σ H {s with heap:=h',toks:=tk}:=I.kept (t':=tk) hk'
 refine wpAny_bind (wpAny_holding (wpAny_call_entry (s:={s with heap:=h'.push {cls:= .type "list",data:= .seq acc.toList.toArray},toks:=tk}) PyProof.Rows.slot_list_sort ⟨_,hob,rfl⟩ PyProof.Rows.entry_list_sort
  (PyProof.Rows.list_sort_treeAny hob hI hlz fun out WO h1 h2 h3=>⟨.none,rfl,?_⟩) (PyProof.Rows.args_list_sort _)))
 obtain ⟨Oa,Vo⟩:=PyProof.Rows.sortedHeap_at (vs:=acc.toList) (out:=out) hob
 have Zj:(WO.map V.int).length≤sizeLine:=by rw [List.length_map,h2.length_eq,←hlw];exact hzw
 refine wpAny_pure ⟨_,rfl,?_⟩
 have kept:∀b u,h'.get? b=some u→(PyProof.Rows.sortedHeap (h'.push {cls:= .type "list",data:= .seq acc.toList.toArray}) h'.objs.size acc.toList out).get? b=some u:=fun b u h1=>by
  have eA:=Heap.lt_size h1
  rw [PyProof.Rows.sortedHeap_old (Nat.ne_of_lt eA) (by rw [size_push'];exact Nat.lt_succ_of_lt eA)]
  exact Heap.get?_push_of_some _ h1
 exact ⟨.ref _,upd H h'.objs.size (.lst (WO.map V.int)),I2.laid (t':=tk) kept (Nat.le_refl _) ⟨Zj,out.toList,Oa,tN h1,Vo⟩,rfl,q WO _ h2 h3 (I2.cx.fresh (Nat.le_refl _))⟩
end
section
variable {prog:Program}{w:World}{A:Around}{R:Result→Shared→Prop}{I:Addr}{fp wr:List Addr}{n:Nat}{P:Nat→Value→Prop}{St:Nat→Heap→Prop}{kw:List (Str×Value)}
theorem ql:(toString "min" ++ toString ".loop":String)="min.loop":=by decide
theorem MC (W:Walks prog w A.in1 I fp wr n P St)(bt:Nat→Nat→Bool)(WQ:CmpOf prog w A.in1 .Lt P bt)(S:Addr)(O3:S ∉ fp):
  ∀ (k j:Nat)(s:Shared)(vb:Value)(c:Nat),n - (j + 1)=k→j + 1≤n→St (j + 1) s.heap→P (argBest bt j) vb→
  s.heap.get? S=some {cls:= .type "list",dict:=none,data:= .seq #[vb,vb] c,slots:= #[] }→
  (∀v h' tk,P (argBest bt (n - 1)) v→(∀b o,b ∉ wr→b≠S→s.heap.get? b=some o→h'.get? b=some o)→R (.ok (.ret v)) {s with heap:=h',toks:=tk})→
  codeAny (model prog w) A (.builtin "min.loop" ⟨[.ref I,.none,.ref S],kw⟩) R s:=by
 have C6:S ∉ wr:=fun h=>O3 (W.sub _ h)
 intro k
 induction k with
 |zero=>
  intro j s vb c hk hj nU hb hS goal
  have Zp:j + 1=n:=by omega
  refine codeAny_builtin PySem.F.entry_min_loop ?_
  rw [Around.under_plainId PySem.F.plain_min_loop _]
  show wpAny _ A.in1 (seqItems? (.ref S) >>=_) _ _ s
  refine wpAny_bind (wpAny_seqItems hS rfl ?_)
  show wpAny _ A.in1 (tryCatch (pyNext (.ref I)) _ >>=_) _ _ s
  refine wpAny_bind (wpAny_tryCatch (W.done s _ _ (by rw [←Zp];exact nU) fun h1 t1 keep=> ?_))
  show wpAny _ A.in1 (updateSeq S (fun _=> #[]) >>=_) _ _ _
  refine wpAny_bind (wpAny_updateSeq (keep S _ C6 hS) rfl (wpAny_bind (wpAny_letGo (wpAny_pure ?_))))
  exact goal vb _ t1 (by rw [←Zp];exact hb) fun b o hw Tn e=>(Heap.get?_update_other _ _ (Ne.symm Tn)).trans (keep b o hw e)
 |succ k ih=>
  intro j s vb c hk hj nU hb hS goal
  have eA:j + 1 < n:=by omega
  refine codeAny_builtin PySem.F.entry_min_loop ?_
  rw [Around.under_plainId PySem.F.plain_min_loop _]
  show wpAny _ A.in1 (seqItems? (.ref S) >>=_) _ _ s
  refine wpAny_bind (wpAny_seqItems hS rfl ?_)
  show wpAny _ A.in1 (tryCatch (pyNext (.ref I)) _ >>=_) _ _ s
  refine wpAny_bind (wpAny_tryCatch (W.item (j + 1) s _ _ eA nU fun v h1 t1 hP st1 keep=> ?_))
  have Oe:=keep S _ C6 hS
  show wpAny _ A.in1 (tryCatch (holding [v,v] (richCompare .Lt v vb >>=_)) _ >>=_) _ _ _
  refine wpAny_bind (wpAny_tryCatch (wpAny_holding (wpAny_bind (WQ (j + 1) (argBest bt j) v vb _ _ _ hP hb ?_))))
  refine wpAny_bind (wpAny_holding (wpAny_truthy_bool (wpAny_bind (wpAny_letGo (wpAny_pure ?_)))))
  cases EO:bt (j + 1) (argBest bt j) with
  |true=>
   simp only [if_true]
   refine wpAny_bind (wpAny_updateSeq Oe rfl (wpAny_bind (wpAny_letGo ?_)))
   rw [ql]
   refine wpAny_pure ⟨plainId_quiet PySem.F.plain_min_loop _,ih (j + 1) _ v _ (by omega) eA (W.frame _ _ _ st1 fun b hf o e=> ?_) (by simp only [argBest,EO,if_true];exact hP) (Heap.get?_update_self _ Oe rfl) fun v2 h2 t2 Jy G8=> ?_⟩
   ·exact (Heap.get?_update_other _ _ (fun q:S=b=>O3 (by rw [q];exact hf))).trans e
   ·exact goal v2 h2 t2 Jy fun b o hw Tn e=>G8 b o hw Tn ((Heap.get?_update_other _ _ (Ne.symm Tn)).trans (keep b o hw e))
  |false=>
   simp only [Bool.false_eq_true,if_false]
   refine wpAny_bind (wpAny_letGo ?_)
   rw [ql]
   refine wpAny_pure ⟨plainId_quiet PySem.F.plain_min_loop _,ih (j + 1) _ vb c (by omega) eA st1 (by simp only [argBest,EO,Bool.false_eq_true,if_false];exact hb) Oe fun v2 h2 t2 Jy G8=> ?_⟩
   exact goal v2 h2 t2 Jy fun b o hw Tn e=>G8 b o hw Tn (keep b o hw e)
theorem Jz (W:Walks prog w A.in1 I fp wr n P St)(bt:Nat→Nat→Bool)(WQ:CmpOf prog w A.in1 .Lt P bt)(S:Addr)(O3:S ∉ fp)(hn:0 < n){s:Shared}{c:Nat}(nU:St 0 s.heap)
  (hS:s.heap.get? S=some {cls:= .type "list",dict:=none,data:= .seq #[] c,slots:= #[] })
  (goal:∀v h' tk,P (argBest bt (n - 1)) v→(∀b o,b ∉ wr→b≠S→s.heap.get? b=some o→h'.get? b=some o)→R (.ok (.ret v)) {s with heap:=h',toks:=tk}):
  codeAny (model prog w) A (.builtin "min.loop" ⟨[.ref I,.none,.ref S],kw⟩) R s:=by
 have C6:S ∉ wr:=fun h=>O3 (W.sub _ h)
 refine codeAny_builtin PySem.F.entry_min_loop ?_
 rw [Around.under_plainId PySem.F.plain_min_loop _]
 show wpAny _ A.in1 (seqItems? (.ref S) >>=_) _ _ s
 refine wpAny_bind (wpAny_seqItems hS rfl ?_)
 show wpAny _ A.in1 (tryCatch (pyNext (.ref I)) _ >>=_) _ _ s
 refine wpAny_bind (wpAny_tryCatch (W.item 0 s _ _ hn nU fun v h1 t1 hP st1 keep=> ?_))
 have Oe:=keep S _ C6 hS
 show wpAny _ A.in1 (updateSeq S (fun _=> #[v,v]) >>=_) _ _ _
 refine wpAny_bind (wpAny_updateSeq Oe rfl ?_)
 rw [ql]
 refine wpAny_pure ⟨plainId_quiet PySem.F.plain_min_loop _,MC W bt WQ S O3 _ 0 _ v _ rfl hn (W.frame _ _ _ st1 fun b hf o e=> ?_) hP (Heap.get?_update_self _ Oe rfl) fun v2 h2 t2 Jy G8=> ?_⟩
 ·exact (Heap.get?_update_other _ _ (fun q:S=b=>O3 (by rw [q];exact hf))).trans e
 ·exact goal v2 h2 t2 Jy fun b o hw Tn e=>G8 b o hw Tn ((Heap.get?_update_other _ _ (Ne.symm Tn)).trans (keep b o hw e))
theorem MD (W:Walks prog w A.in1 I fp wr 0 P St)(S:Addr)(O3:S ∉ fp){d:Value}{x:Str}{s:Shared}{c:Nat}(nU:St 0 s.heap)
  (hS:s.heap.get? S=some {cls:= .type "list",dict:=none,data:= .seq #[] c,slots:= #[] })
  (goal:∀h' tk,(∀b o,b ∉ wr→s.heap.get? b=some o→h'.get? b=some o)→R (.ok (.ret d)) {s with heap:=h',toks:=tk}):
  codeAny (model prog w) A (.builtin "min.loop" ⟨[.ref I,.none,.ref S],[(x,d)]⟩) R s:=by
 refine codeAny_builtin PySem.F.entry_min_loop ?_
 rw [Around.under_plainId PySem.F.plain_min_loop _]
 show wpAny _ A.in1 (seqItems? (.ref S) >>=_) _ _ s
 refine wpAny_bind (wpAny_seqItems hS rfl ?_)
 show wpAny _ A.in1 (tryCatch (pyNext (.ref I)) _ >>=_) _ _ s
 refine wpAny_bind (wpAny_tryCatch (W.done s _ _ nU fun h1 t1 keep=> ?_))
 refine wpAny_bind (wpAny_rule (wpAny_pure ?_))
 exact goal h1 t1 keep
end
section
variable {prog:Program}{w:World}{A:Around}{E:Value→Shared→Prop}{s:Shared}{l:Addr}{a7:List Value}{ns:List Int}{Q:Value→Shared→Prop}
theorem ME (a v:Value):argsOk "min" ⟨[a],[(Str.ofString "default",v)]⟩:=by unfold argsOk;kernel_rfl
theorem O4 {d:Value}(hh:A.handled=none)(hl:s.heap.IsList l a7.toArray)(hi:IntsAre a7 ns)
  (h0:ns= [] →∀h' tk,(∀b o,s.heap.get? b=some o→h'.get? b=some o)→Q d {s with heap:=h',toks:=tk})
  (h:∀h' tk M t',(∀b o,s.heap.get? b=some o→h'.get? b=some o)→M∈ns→(∀a,a∈ns→M≤a)→Q (.int M t') {s with heap:=h',toks:=tk}):
  wpAny (model prog w) A (call (.builtin "min") [.ref l] [(Str.ofString "default",d)]) Q E s:=by
 obtain ⟨xs,e⟩:=hi.allInts.items
 have hn:numsOf (intItems xs).toList=ns:=by rw [←e];exact hi.numsOf
 rw [nums_intItems] at hn
 subst hn
 rw [e] at hl
 refine wpAny_call (codeAny_call_builtin PySem.F.plain_min PySem.F.entry_min ?_)
 simp only [checkBuiltinCall,PySem.F.kind_min]
 have body:wpAny (model prog w) A.in1 (Builtin.«min» ⟨[.ref l],[(Str.ofString "default",d)]⟩) (fun fin s'=>match fin with
   | .done f=>(match (Except.ok f:Result) with| .ok (.ret v)=>Q v s'| .ok _=>False| .error e=>E e s')
   | .again c'=>c'.quiet=true∧codeAny (model prog w) A c' (fun r s'=>match r with| .ok (.ret v)=>Q v s'| .ok _=>False| .error e=>E e s') s') E s:=by
  show wpAny _ A.in1 (Builtin.Builtins.bindParams "min" ["key","default"] 0 ⟨[],[(Str.ofString "default",d)]⟩ >>=_) _ _ s
  refine wpAny_bind (wpAny_of_eq (show Builtin.Builtins.bindParams "min" ["key","default"] 0 ⟨[],[(Str.ofString "default",d)]⟩=pure [none,some d] from rfl) ?_)
  refine wpAny_bind (wpAny_pure ?_)
  refine wpAny_bind (iter_intList hl fun s₂ e2 st Vg hlI=> ?_)
  subst e2
  refine wpAny_bind (wpAny_newObj_type ?_)
  have hSf:(s.heap.push {cls:= .type "list_iterator",data:= .fields #[.ref l,.int 0 0] }).objs.size ∉ [s.heap.objs.size,l] :=fun hm=>Nat.lt_irrefl _ (Vg _ hm)
  rw [ql]
  have W:=Walks.list (prog:=prog) (w:=w) (A:=A.in1) hh s.heap.objs.size l hlI (intItems xs)
  by_cases hz:xs.size=0
  ·have Zj:(intItems xs).size=0:=by simpa [intItems] using hz
   rw [Zj] at W
   refine wpAny_pure ⟨plainId_quiet PySem.F.plain_min_loop _,MD W _ hSf (W.frame _ _ _ st fun b _ o e=>Heap.get?_push_of_some _ e) (Heap.get?_push_size _ rfl) fun h' tk keep=> ?_⟩
   refine h0 ?_ h' tk (old_kept fun b o hb e=>keep b o hb (Heap.get?_push_of_some _ e))
   have:xs= #[] :=Array.eq_empty_of_size_eq_zero hz
   rw [this]
   rfl
  ·have WR:0 < (intItems xs).size:=by
    have:(intItems xs).size=xs.size:=by simp [intItems]
    omega
   refine wpAny_pure ⟨plainId_quiet PySem.F.plain_min_loop _,Jz W _ (CmpOf.ints_lt (numAt xs) (fun _ _=>intItems_at)) _ hSf WR (W.frame _ _ _ st fun b _ o e=>Heap.get?_push_of_some _ e) (Heap.get?_push_size _ rfl) fun v h' tk hP keep=> ?_⟩
   have hv:(intItems xs)[argBest (fun i j=>decide (numAt xs i < numAt xs j)) (xs.size - 1)]?=some v:=by simpa [intItems] using hP
   obtain ⟨t,rfl⟩:=intItems_at hv
   obtain ⟨h1,h2⟩:=argBest_lt (numAt xs) (xs.size - 1)
   refine h h' tk _ t (old_kept fun b o hb e=>keep b o hb (fun q=> ?_) (Heap.get?_push_of_some _ e)) ?_ fun a ha=> ?_
   ·exact absurd (Heap.lt_size e) (by rw [q];exact Nat.lt_irrefl _)
   ·rw [numAt_eq];exact PySem.getD_mem (by rw [List.length_map,Array.length_toList];omega)
   ·obtain ⟨j,hj,rfl⟩:=mem_getD ha
    rw [List.length_map,Array.length_toList] at hj
    rw [←numAt_eq];exact h2 j (by omega)
 cases aiV:Manifest.signature? "min" with
 |none=>exact wpAny_pure body
 |some sig=>
  have ha:=ME (.ref l) d
  simp only [argsOk,aiV] at ha
  have h2:Bind.checkArgs "min" sig ⟨[.ref l],[(Str.ofString "default",d)]⟩=pure ():=ha
  simp only [h2]
  exact wpAny_pure body
end
section
variable {X:Cx}{p pos kpos:Pos}{e d:Expr}{te td:TE}
def aaO (K:PySem.W.Frag)(te td:TE):TE:=fun σ H Q=>te σ H fun x H1=>td σ H1 fun y H2=>∃ (a:Addr)(ns:List Int),x= .ref a∧cK K H2 a (ns.map V.int)∧(ns= [] →Q y H2)∧∀m,m∈ns→(∀z,z∈ns→m≤z)→Q (.int m) H2
theorem K8 (hc:X.calm=true)(hg:Gl X "min")(hm:X.mg "min"=none)(he:PE X e te)(hd:PE X d td)(hs:starEach [e] X.env=(false,eval e X.env)::starEach [] X.env:=by rfl)
  (hb:backTo pos (starEach [e] X.env)=(false,eval e X.env)::backTo pos (starEach [] X.env):=by rfl)(eD:(backTo pos (starEach [e] X.env)).any (·.1)=false:=by rfl):
  PE X (.Call (.Name "min" p) [e] [⟨some "default",d,kpos⟩] pos) (aaO X.K te td):=by
 intro pins s σ H Q I h
 refine wpAny_Call_Name_kw (wk I hg hm PyProof.Rows.boot_min ?_)
 refine callWith_kw ?_ hb eD
 have h1:KR te SO σ H (fun vs H1=>match vs with
   | [x] =>td σ H1 fun y H2=>∃ (a:Addr)(ns:List Int),x= .ref a∧cK X.K H2 a (ns.map V.int)∧(ns= [] →Q y H2)∧∀m,m∈ns→(∀z,z∈ns→m≤z)→Q (.int m) H2
   |_=>False):=h
 refine dz ((aa he af hs) pos pins s σ H _ I h1) fun us s1 ⟨vs,H1,I1,r1,q1⟩=> ?_
 match vs,r1,q1 with
 | [x],r1,q1=>
  have h2:KR td SO σ H1 (fun ws H2=>match ws with
    | [y] =>∃ (a:Addr)(ns:List Int),x= .ref a∧cK X.K H2 a (ns.map V.int)∧(ns= [] →Q y H2)∧∀m,m∈ns→(∀z,z∈ns→m≤z)→Q (.int m) H2
    |_=>False):=q1
  refine dz ((SQ (nm:=some "default") (kpos:=kpos) hd We) pos pins s1 σ H1 _ I1 h2) fun ws s2 ⟨zs,H2,I2,r2,q2⟩=> ?_
  match zs,r2,q2 with
  | [y],r2,q2=>
   obtain ⟨a,ns,rfl,hq,q3,q4⟩:=q2
   obtain ⟨u,rfl,ru⟩:=vals1 r2
   rw [Vals.Jq r1]
   obtain ⟨a7,rv,hl,_⟩:=I2.list hq
   exact O4 (I2.ok.hd hc) hl.isList rv.ints (fun z h' tk hk=>⟨y,H2,I2.kept hk,ru,q3 z⟩) fun h' tk m t' hk h1 h2=>⟨.int m,H2,I2.kept hk,⟨_,rfl⟩,q4 m h1 h2⟩
end
section
variable {X:Cx}{K:PySem.W.Frag}{e:Expr}{f:Str}{pos:Pos}{ta:TE}
theorem mI (K:PySem.W.Frag)(hK:X.K=K)(he:PE X e ta)(hb:attributeBase e f X.env (eval e X.env)=eval e X.env):PE X (.Attribute e f pos) (aaa K ta f):=by
 subst hK
 exact ai he hb
theorem To (K:PySem.W.Frag)(hK:X.K=K)(hu:X.A.units + 64 < cLine):yM X (compareOp .Eq) (aas K):=by
 subst hK
 exact OK hu
theorem ER (K:PySem.W.Frag)(hK:X.K=K):IxR X (aao K):=by
 subst hK
 exact bc
theorem G9 (K:PySem.W.Frag)(hK:X.K=K):IxR X (aan K):=by
 subst hK
 exact aM
theorem Tp {es:List Expr}{k n:Nat}{t:U0}(K:PySem.W.Frag)(hK:X.K=K)(hc:X.calm=true)(h:ZX X es t)
  (hn:(assignEach es X.env).length=n:=by rfl)(nU:(assignEach es X.env).findIdx? (·.1)=none:=by rfl):PG X (.Tuple es k pos) (Z0 K n t):=by
 subst hK
 exact Jc hc h hn nU
end
theorem BJ (l:Addr)(us:Array Value)(n:Nat)(b:Addr)(ws:Array Value)(n2:Nat)(dd:Option Addr)(sl:Array (Option Value))(hs0:¬(!us.isEmpty && Builtin.List.listTooLong (us.size + ws.size))=true)(hs1:us.size≤sizeLine)(Wb:us.size + ws.size≤sizeLine + 1):
  Meets (Builtin.«list.extend» ⟨[.ref l,.ref b],[]⟩) (fun _ R s=>s.heap.get? l=some {cls:= .type "list",data:= .seq us n}∧s.heap.get? b=some ⟨.type "tuple",dd,.seq ws n2,sl⟩∧
   R (.ok (.ret Value.none)) {s with heap:=s.heap.update l (Obj.mapSeq fun x=>x ++ ws),toks:=s.toks}):=
 .of_wp fun prog w A R s h=>by
  obtain ⟨hp,g,d,tk,os⟩:=s
  obtain ⟨hl,hb,h⟩:=h
  have f1:=AutoSeq1.idx_int
  have f2:=AutoSeq1.sub_tuple_tuple
  have f3:=AutoSeq1.sub_list_list
  have f4:=AutoSeq1.sub_tuple_list
  have f5:=AutoSeq1.sub_list_tuple
  have hz:(us ++ ws).size≤sizeLine + 1:=by rw [Array.size_append];exact Wb
  wp_walk using (wpAny_updateSeq hl rfl (hz:=hs1) (_hz':=hz)),wpAny_loadPart' hl,wpAny_loadPart' hb
  exact ⟨_,rfl,h⟩
section
variable {X:Cx}
def O5 (K:PySem.W.Frag):V→List V→Hp→VK→Prop:=fun x vs H Q=>∃l b xs zs,x= .ref l∧vs= [.ref b] ∧H l=some (.lst xs)∧bJ K H b zs∧xs.length + zs.length≤sizeLine∧Q .bX (upd H l (.lst (xs ++ zs)))
theorem mJ:MtM X "list.extend" (O5 X.K):=by
 intro pins s σ H x vs v us Q I rx rv h
 obtain ⟨l,b,xs,zs,rfl,rfl,hH,hB,hz,q⟩:=h
 cases rx
 obtain ⟨u,rfl,ru⟩:=rv.one
 cases ru
 obtain ⟨z,a7,n,r,hl,e⟩:=I.Ew hH
 obtain ⟨ws,r2,⟨⟨oc,dd,od,sl⟩,ho,hc,n2,hd⟩,_⟩:=I.tuple hB
 have UZ:oc= .type "tuple":=hc
 have ZN:od= .seq ws.toArray n2:=hd
 subst UZ ZN
 have Zi:=r2.length
 have hsz:a7.toArray.size + ws.toArray.size≤sizeLine:=by rw [List.size_toArray,List.size_toArray];omega
 have GP:¬ (!a7.toArray.isEmpty && Builtin.List.listTooLong (a7.toArray.size + ws.toArray.size))=true:=by
  rw [zF hsz,Bool.and_false]
  exact Bool.false_ne_true
 refine call_meets F.slot_list_extend ⟨_,e,rfl⟩ F.entry_list_extend (F.args_list_extend_2 _ _) (BJ l a7.toArray n b ws.toArray n2 dd sl GP (by rw [List.size_toArray];omega) (by omega)) ⟨e,ho,?_⟩
 refine ⟨.bX,_,I.OI (its':=a7 ++ ws) hH e (by simp) (r.append r2) ?_,rfl,q⟩
 rw [List.length_append]
 omega
def aaQ:V→List V→Hp→VK→Prop:=fun x vs H Q=>∃l xs y,x= .ref l∧vs= [.int 0,y] ∧H l=some (.lst xs)∧xs.length < sizeLine∧Q .bX (upd H l (.lst (y::xs)))
theorem Tq:MtM X "list.insert" aaQ:=by
 intro pins s σ H x vs v us Q I rx rv h
 obtain ⟨l,xs,y,rfl,rfl,hH,hz,q⟩:=h
 cases rx
 obtain ⟨u0,u,rfl,r0,ru⟩:=rv.two
 obtain ⟨t,rfl⟩:=r0
 obtain ⟨z,a7,n,r,hl,e⟩:=I.Ew hH
 refine call_meets F.slot_list_insert ⟨_,e,rfl⟩ F.entry_list_insert (F.args_list_insert_3 _ _ _) (AutoSeq1.list_insert_list_int_val_1 l a7.toArray n 0 t u (by decide) (by rw [List.size_toArray];omega)) ⟨e,?_⟩
 refine ⟨.bX,_,I.OI (its':=u::a7) hH e ?_ (.cons ru r) ?_,rfl,q⟩
 ·simp
 ·rw [List.length_cons]
  omega
end
theorem Ha {α β:Type}(g:α→β)(u:β→α)(hu:∀a,u (g a)=a){l:List β}{as:List α}(h:l.Perm (as.map g)):∃oJ:List α,oJ.Perm as∧l=oJ.map g:=by
 refine ⟨l.map u,?_,?_⟩
 ·have:=h.map u
  rw [List.map_map] at this
  have e:as.map (u ∘ g)=as:=by
   conv=>rhs;rw [←List.map_id as]
   exact List.map_congr_left fun a _=>hu a
  rw [e] at this
  exact this
 ·rw [List.map_map]
  conv=>lhs;rw [←List.map_id l]
  refine List.map_congr_left fun b hb=> ?_
  obtain ⟨a,_,rfl⟩:=List.mem_map.mp (h.mem_iff.mp hb)
  show g a=g (u (g a))
  rw [hu]
theorem C7:∀ {as:List Addr}{vs:List Value},Vals (as.map V.ref) vs→vs=as.map Value.ref
 | [],_,.nil=>rfl
 |a::as,_,.cons r t=>by
  cases r
  rw [C7 t]
  rfl
section
variable {X:Cx}
def O6 (K:PySem.W.Frag):List V→Hp→VK→Prop:=fun vs H Q=>∃ (a:Addr)(as:List Addr)(f:Addr→Int×Int),vs= [V.ref a] ∧cK K H a (as.map V.ref)∧(∀b∈as,bJ K H b [V.int (f b).1,V.int (f b).2])∧
 ∀ (oJ:List Addr)(p:Addr),oJ.Perm as→oJ.Pairwise (fun x y=>(f x).1≤(f y).1)→H p=none→Q (.ref p) (upd H p (.lst (oJ.map V.ref)))
def shI:Nat→Bool:=fun _=>false
theorem JA:kO X (.builtin "sorted") (O6 X.K):=by
 intro pins s σ H vs us Q I r h
 obtain ⟨a,as,f,rfl,hs,gm,q⟩:=h
 obtain ⟨a7,rv,hl,hz⟩:=I.list hs
 rw [Vals.Jq r]
 have ei:=C7 rv
 subst ei
 have one:∀b∈as,∃ (o:Obj)(n:Nat)(t t':Tok),s.heap.get? b=some o∧o.cls= .type "tuple"∧o.data= .seq #[.int (f b).1 t,.int (f b).2 t'] n:=fun b hb=>by
  obtain ⟨a7,rv,⟨o,ho,hc,n,hd⟩,_⟩:=I.tuple (gm b hb)
  match a7,rv with
  | [u,v],.cons r1 (.cons r2 .nil)=>
   obtain ⟨t,rfl⟩:=r1
   obtain ⟨t',rfl⟩:=r2
   exact ⟨o,n,t,t',ho,hc,hd⟩
 have key:∀b∈as,G.tupKeyC s.heap shI (.ref b)=some [Sum.inl (f b).1,Sum.inl (f b).2] :=fun b hb=>by
  obtain ⟨o,n,t,t',ho,hc,hd⟩:=one b hb
  unfold G.tupKeyC
  have e1:G.isTupObj s.heap (.ref b)=true:=by simp [G.isTupObj,ho,hc]
  rw [if_pos e1]
  simp only [tupKey,ho,hd]
  rfl
 have zo:∀ (l:List Addr),(∀b∈l,b∈as)→∃fs,TupsOf s.heap shI (l.map Value.ref) fs:=by
  intro l
  induction l with
  |nil=>exact fun _=>⟨[],.nil⟩
  |cons b l ih=>
   intro hm
   obtain ⟨fs,hf⟩:=ih fun c hc=>hm c (List.mem_cons_of_mem _ hc)
   obtain ⟨o,n,t,t',ho,hc,hd⟩:=one b (hm b (List.mem_cons_self ..))
   exact ⟨_::fs,.cons ⟨b,o,_,n,rfl,ho,hc,hd,rfl,fun _=>⟨_,_,rfl⟩,fun e=>absurd e (by decide)⟩ hf⟩
 obtain ⟨fs,hfs⟩:=zo as fun b hb=>hb
 refine G.sorted_tups (vs:=as.map Value.ref) (shape:=shI) hl.isList hfs (fun v hv=> ?_) (by rw [List.length_map];rw [List.length_map] at hz;exact hz) fun BG hp MF _=> ?_
 ·obtain ⟨b,hb,rfl⟩:=List.mem_map.mp hv
  exact ⟨_,key b hb⟩
 have eD:(arrOf BG).toList.Perm (as.map fun b=>((Value.ref b,Value.ref b):Keyed)):=by
  have e:=Array.perm_iff_toList_perm.mp hp
  rw [pairsOf_toList] at e
  have z:∀l:List Addr,(l.map Value.ref).zip (l.map Value.ref)=l.map fun b=>((Value.ref b,Value.ref b):Keyed):=by
   intro l
   induction l with
   |nil=>rfl
   |cons b l ih=>
    show (Value.ref b,Value.ref b)::(l.map Value.ref).zip (l.map Value.ref)=_
    rw [ih]
    rfl
  rw [z] at e
  exact e
 obtain ⟨oJ,Zq,Vo⟩:=Ha (fun b=>((Value.ref b,Value.ref b):Keyed)) (fun p=>match p.1 with| .ref b=>b|_=>0) (fun _=>rfl) eD
 obtain ⟨ep,Sn⟩:=PyProof.Rows.sortedAll_at s.heap (as.map Value.ref) ((arrOf BG).map (·.2))
 have e2:((arrOf BG).map (·.2)).toList=oJ.map Value.ref:=by
  rw [Array.toList_map,Vo,List.map_map]
  rfl
 have hV:Vals (oJ.map V.ref) ((arrOf BG).map (·.2)).toList:=by
  rw [e2]
  clear Zq Vo e2
  induction oJ with
  |nil=>exact .nil
  |cons b l ih=>exact .cons rfl ih
 have Zj:(oJ.map V.ref).length≤sizeLine:=by
  rw [List.length_map,Zq.length_eq]
  rw [List.length_map] at hz
  exact hz
 refine ⟨.ref _,upd H (s.heap.objs.size + 1) (.lst (oJ.map V.ref)),I.laid (t':=s.toks) (fun _ _=>PyProof.Rows.sortedAll_old) (Nat.le_succ _) ⟨Zj,_,ep,hV,Sn⟩,rfl,q oJ _ Zq ?_ (I.cx.fresh (Nat.le_succ _))⟩
 rw [List.pairwise_iff_getElem]
 intro i j hi hj hij
 have hlen:(pairsOf (as.map Value.ref)).size=oJ.length:=by
  rw [←Array.length_toList,←(Array.perm_iff_toList_perm.mp hp).length_eq,Vo,List.length_map]
 have hle:=MF i j (Nat.le_of_lt hij) (by rw [hlen];exact hj)
 have kk:∀ (k:Nat)(hk:k < oJ.length),KK (G.tupKindC s.heap shI) (arrOf BG) k= [Sum.inl (f oJ[k]).1,Sum.inl (f oJ[k]).2] :=fun k hk=>by
  unfold KK
  have:(arrOf BG)[k]?=some (Value.ref oJ[k],Value.ref oJ[k]):=by
   rw [←Array.getElem?_toList,Vo,List.getElem?_map,List.getElem?_eq_getElem hk]
   rfl
  rw [this]
  show (G.tupKeyC s.heap shI (Value.ref oJ[k])).getD [] =_
  rw [key _ (Zq.mem_iff.mp (List.getElem_mem hk))]
  rfl
 rw [kk i hi,kk j hj] at hle
 have WT:lexLt itemOrd [Sum.inl (f oJ[j]).1,Sum.inl (f oJ[j]).2] [Sum.inl (f oJ[i]).1,Sum.inl (f oJ[i]).2] =false:=hle
 obtain ⟨h1,_⟩:=lex_false.mp WT
 have h2:decide ((f oJ[j]).1 < (f oJ[i]).1)=false:=h1
 have:=of_decide_eq_false h2
 omega
end
theorem JB {J:It}{n:Nat}{g:TG}{tt:TT}{te:TE}{vs:List Nat}{σ:St}{H1:Hp}{D:Addr}{Qd:Hp→Prop}(Pv:Nat→Hp→Prop)(h0:Pv 0 (upd H1 D (.lst [])))(Tr:∀i H,i < n→Pv i H→J.go i H)(nU:∀H,Pv n H→J.stop n H)
  (hs:∀i x H H',i < n→Pv i H→J.Ob i H x H'→g x (wipe σ vs) H' fun σ2 H2=>wipe σ2 vs=wipe σ vs∧tt σ2 H2 fun b H3=>
   if b=true then te σ2 H3 fun y H4=>∃acc,H4 D=some (.lst acc)∧acc.length < sizeLine∧Pv (i + 1) (upd H4 D (.lst (acc ++ [y]))) else Pv (i + 1) H3)(hd:∀H,Pv n H→Qd H):
  ∃W:Nat→Nat→Hp→Prop,(∃m,W 0 m (upd H1 D (.lst [])))∧∀i m H,W i m H→
   (J.stop i H∧Qd H)∨(J.go i H∧∃Nx:Hp→Prop,(∀H',Nx H'→∃m',m' < m∧W (i + 1) m' H')∧∀x H',J.Ob i H x H'→g x (wipe σ vs) H' fun σ2 H2=>wipe σ2 vs=wipe σ vs∧tt σ2 H2 fun b H3=>
    if b=true then te σ2 H3 fun y H4=>∃acc,H4 D=some (.lst acc)∧acc.length < sizeLine∧Nx (upd H4 D (.lst (acc ++ [y]))) else Nx H3):=by
 refine ⟨fun i m H=>m=n - i∧i≤n∧Pv i H,⟨n,by simp,Nat.zero_le _,h0⟩,?_⟩
 rintro i m H ⟨rfl,hi,p⟩
 by_cases eA:i < n
 ·exact .inr ⟨Tr i H eA p,Pv (i + 1),fun H' p'=>⟨n - (i + 1),by omega,rfl,eA,p'⟩,fun x H' y=>hs i x H H' eA p y⟩
 ·have e:i=n:=by omega
  subst e
  exact .inl ⟨nU H p,hd H p⟩
theorem Ts {J:It}{n:Nat}{g:TG}{tb:TS}{D:Ends}{σ:St}{H:Hp}(Pv:Nat→St→Hp→Prop)(h0:Pv 0 σ H)(Tr:∀i σ H,i < n→Pv i σ H→J.go i H)(nU:∀σ H,Pv n σ H→J.stop n H)
  (hs:∀i x σ H H',i < n→Pv i σ H→J.Ob i H x H'→g x σ H' fun σ2 H2=>tb {D with nx:=Pv (i + 1),ct:=Pv (i + 1),bk:=D.nx} σ2 H2)(hd:∀σ H,Pv n σ H→D.nx σ H):
  ∃W:Nat→Nat→St→Hp→Prop,(∃m,W 0 m σ H)∧∀i m σ H,W i m σ H→
   (J.stop i H∧D.nx σ H)∨(J.go i H∧∃N:St→Hp→Prop,(∀σ' H',N σ' H'→∃m',m' < m∧W (i + 1) m' σ' H')∧∀x H',J.Ob i H x H'→g x σ H' fun σ2 H2=>tb {D with nx:=N,ct:=N,bk:=D.nx} σ2 H2):=by
 refine ⟨fun i m σ H=>m=n - i∧i≤n∧Pv i σ H,⟨n,by simp,Nat.zero_le _,h0⟩,?_⟩
 rintro i m σ H ⟨rfl,hi,p⟩
 by_cases eA:i < n
 ·exact .inr ⟨Tr i σ H eA p,Pv (i + 1),fun σ' H' p'=>⟨n - (i + 1),by omega,rfl,eA,p'⟩,fun x H' y=>hs i x σ H H' eA p y⟩
 ·have e:i=n:=by omega
  subst e
  exact .inl ⟨nU σ H p,hd σ H p⟩
section
variable {prog:Program}{w:World}{A:Around}{E:Value→Shared→Prop}{s:Shared}
theorem JC {d:Addr}{o:Obj}(nd:(d==sysModules)=false):MeetsIn prog w (Builtin.«dict.items» ⟨[.ref d],[]⟩) (fun _ R s=>(s.heap.get? d=some o∧o.ExactDict)∧
   R (.ok (.ret (.ref s.heap.objs.size))) {s with heap:=s.heap.push {cls:= .type "dict_items",data:= .fields #[.ref d] } }):=
 .of_wp fun A R s ⟨⟨h0,hx⟩,k⟩=>by
  have ty:s.TypeIs (.ref d) "dict":=⟨o,h0,hx.1⟩
  unfold Builtin.«dict.items»;refine wpAny_bind ?_
  unfold Builtin.Dict.noArgs;refine wpAny_bind (wpAny_notOrdered_dict ty ?_)
  show wpAny _ _ (pure d) _ _ s;refine wpAny_pure ?_
  show wpAny _ _ (Builtin.Dict.showsAll d >>=_) _ _ s;unfold Builtin.Dict.showsAll
  rw [if_neg (show ¬ (d==sysModules)=true by rw [nd];exact Bool.false_ne_true)];refine wpAny_bind (wpAny_pure ?_)
  exact wpAny_bind (wpAny_newObj_type (wpAny_pure ⟨_,rfl,k⟩))
theorem JD {v d:Addr}{o:Obj}{es:Array DictEntry}{ep:Nat}{Q:Value→Shared→Prop}(hv:s.heap.IsItemsView v d)(g0:s.heap.get? d=some o)(g1:o.data= .dict es ep)
  (hQ:Q (.ref s.heap.objs.size) {s with heap:=s.heap.push {cls:= .type "dict_itemiterator",data:= .fields #[.none,.bool false,.ref d,.int 0 0,.int es.size 0,.int ep 0,.none,.none] } }):
  wpAny (model prog w) A (pyIter (.ref v)) Q E s:=by
 obtain ⟨ov,v0,v1,v2⟩:=id hv
 refine wpAny_pyIter_slot hv.typeIs F.slot_dict_items_iter (wpAny_call_entry F.slot_dict_items_iter hv.typeIs F.entry_dict_items_iter ?_ (F.args_dict_items_iter_1 _))
 unfold Builtin.«dict_items.__iter__»;refine wpAny_bind (wpAny_pure (wpAny_bind ?_))
 unfold Builtin.Dict_items.dictOf;refine wpAny_bind (wpAny_field v0 v2 (x:= .ref d) rfl (wpAny_pure (wpAny_bind ?_)))
 unfold Builtin.Dict_items.newIterator;refine wpAny_bind (wpAny_dictEntries g0 g1 (wpAny_bind (wpAny_dictEpoch g0 g1 ?_)))
 simp only [show Builtin.Dict_items.ownsTuple "dict_itemiterator"=true by decide,if_true]
 refine wpAny_newObj_type (wpAny_pure ⟨_,rfl,"dict_itemiterator",_,⟨_,Heap.get?_push_size _ rfl,rfl⟩,F.slot_dict_itemiterator_next.lookup,?_⟩)
  (by simp only [sizeOk,Builtin.Dict_items.ownedTupleFields,List.size_toArray,List.length_append,List.length_cons,List.length_nil,sizeLine_eq];omega)
 simpa [rawInt,Builtin.Dict_items.ownedTupleFields] using hQ
theorem JE {it d:Addr}{i ep:Nat}{o:Obj}{es:Array DictEntry}{en:DictEntry}{ok ov:Value}{Q:Option Value→Shared→Prop}(hit:IsItemIter s.heap it d i es.size ep ok ov)(g0:s.heap.get? d=some o)(g1:o.data= .dict es ep)(gx:es[i]?=some en)
  (hQ:∀h',IsItemIterOut h' it d (i + 1) es.size ep en.key en.val s.heap.objs.size→h'.get? s.heap.objs.size=some {cls:= .type "tuple",data:= .seq #[en.key,en.val] }→h'.objs.size=s.heap.objs.size + 1→
   (∀b o,b≠it→s.heap.get? b=some o→h'.get? b=some o)→Q (some (.ref s.heap.objs.size)) {s with heap:=h'}):
  wpAny (model prog w) A (pyNext (.ref it)) Q E s:=by
 obtain ⟨hp,g,dr,tk,os⟩:=s
 have ty:Shared.TypeIs ⟨hp,g,dr,tk,os⟩ (.ref it) "dict_itemiterator":=⟨_,hit,rfl⟩
 unfold pyNext
 refine wpAny_bind (wpAny_attempt (wpAny_callSpecial?_slot (name:=Str.ofString "__next__") ty F.slot_dict_itemiterator_next (wpAny_call_entry F.slot_dict_itemiterator_next ty F.entry_dict_itemiterator_next ?_ (F.args_dict_itemiterator_next_1 _))))
 refine wpAny_bind (wpAny_pure (wpAny_bind (wpAny_bind ?_)))
 first|refine wpAny_bind (wpAny_typeNameOfWhole_itemiter ty (wpAny_pure ?_))|refine wpAny_bind (wpAny_typeNameOf_itemiter ty (wpAny_pure ?_))
 refine wpAny_bind (wpAny_fieldsOf hit rfl ?_)
 simp only [show Builtin.Dict_items.ownsTuple "dict_itemiterator"=true by decide,if_true]
 show wpAny _ _ (if (Value.ref d==Value.none)=true then _ else _) _ _ _;rw [if_neg (show ¬ ((Value.ref d==Value.none)=true) by exact Bool.false_ne_true)]
 refine wpAny_bind (wpAny_pure (wpAny_bind (wpAny_dictEntries g0 g1 ?_)))
 rw [if_neg (show ¬_ by simp)]
 refine wpAny_bind (wpAny_pure (wpAny_bind (wpAny_dictEpoch g0 g1 ?_)))
 rw [if_neg (show ¬_ by simp)];refine wpAny_pure ?_
 simp only [show ¬ ((i:Int) < 0) by omega,if_false,Int.toNat_natCast,gx];refine wpAny_bind ?_
 first|refine wpAny_bind (wpAny_typeNameOfWhole_itemiter ty (wpAny_pure ?_))|refine wpAny_bind (wpAny_typeNameOf_itemiter ty (wpAny_pure ?_))
 refine wpAny_bind (wpAny_isOneOf_itemiter ty ?_);show wpAny _ _ (setField (.ref it) 3 (rawInt ((i:Int) + 1)) >>=_) _ _ ⟨hp,g,dr,tk,os⟩
 refine wpAny_bind (wpAny_setField_rec hit (by simp) fun h1 e1 s1=> ?_)
 replace s1:Heap.SameBut it hp h1:=s1
 replace e1:IsItemIter h1 it d (i + 1) es.size ep ok ov:=by
  have e:((i + 1:Nat):Int)=(i:Int) + 1:=by omega
  unfold IsItemIter;rw [e];simpa [rawInt] using e1
 have ty1:Shared.TypeIs ⟨h1,g,dr,tk,os⟩ (.ref it) "dict_itemiterator":=⟨_,e1,rfl⟩
 refine wpAny_bind (wpAny_holding (wpAny_bind (wpAny_isOneOf_itemiter ty1 (wpAny_bind (wpAny_isOneOf_itemiter ty1 ?_)))))
 show wpAny _ _ (Builtin.Dict_items.pairFromOwner (.ref it) 6 en.key en.val) _ _ ⟨h1,g,dr,tk,os⟩
 unfold Builtin.Dict_items.pairFromOwner;refine wpAny_bind (wpAny_newTuple ?_)
 have e2:IsItemIter (h1.push {cls:= .type "tuple",data:= .seq #[en.key,en.val] }) it d (i + 1) es.size ep ok ov:=Heap.get?_push_of_some _ e1
 generalize q2:h1.push {cls:= .type "tuple",data:= .seq #[en.key,en.val] }=h2 at e2
 have z1:h1.objs.size=hp.objs.size:=s1.1
 have lt1:it < hp.objs.size:=Heap.lt_size hit
 have t2:h2.get? hp.objs.size=some {cls:= .type "tuple",data:= .seq #[en.key,en.val] }:=by rw [←q2,←z1];exact Heap.get?_push_size _ rfl
 have z2:h2.objs.size=hp.objs.size + 1:=by rw [←q2,Heap.size_push,z1]
 have k2:∀b o,b≠it→hp.get? b=some o→h2.get? b=some o:=fun b o hb e=>by rw [←q2];exact Heap.get?_push_of_some _ (s1.extBut b o hb e)
 show wpAny _ _ (Builtin.Dict_items.ownedTupleIsFree (.ref it) >>=_) _ _ ⟨h2,g,dr,tk,os⟩
 rw [z1]
 clear q2 e1 s1 ty1 z1 h1
 refine wpAny_bind ?_;unfold Builtin.Dict_items.ownedTupleIsFree
 refine wpAny_bind (wpAny_field e2 rfl (x:= .none) rfl (wpAny_pure ?_));simp only [if_true]
 refine wpAny_bind (wpAny_field e2 rfl (x:=ok) rfl (wpAny_bind (wpAny_field e2 rfl (x:=ov) rfl ?_)))
 refine wpAny_bind (wpAny_setField_rec e2 (by simp) fun h3 e3 s3=> ?_)
 replace s3:Heap.SameBut it h2 h3:=s3
 replace e3:IsItemIter h3 it d (i + 1) es.size ep en.key ov:=e3
 refine wpAny_bind (wpAny_setField_rec e3 (by simp) fun h4 e4 s4=> ?_)
 replace s4:Heap.SameBut it h3 h4:=s4
 replace e4:IsItemIter h4 it d (i + 1) es.size ep en.key en.val:=e4
 refine wpAny_bind (wpAny_setField_rec e4 (by simp) fun h5 e5 s5=> ?_)
 replace s5:Heap.SameBut it h4 h5:=s5
 replace e5:IsItemIterOut h5 it d (i + 1) es.size ep en.key en.val hp.objs.size:=e5
 refine wpAny_bind (wpAny_setField_rec e5 (by simp) fun h6 e6 s6=> ?_)
 replace s6:Heap.SameBut it h5 h6:=s6
 replace e6:IsItemIterOut h6 it d (i + 1) es.size ep en.key en.val hp.objs.size:=e6
 have up:∀b o,b≠it→h2.get? b=some o→h6.get? b=some o:=fun b o hb e=>s6.extBut b o hb (s5.extBut b o hb (s4.extBut b o hb (s3.extBut b o hb e)))
 refine wpAny_bind (wpAny_letGo (wpAny_pure (wpAny_pure ⟨_,rfl,wpAny_pure (hQ h6 e6 (up _ _ (Nat.ne_of_gt lt1) t2) ?_ fun b o hb e=>up b o hb (k2 b o hb e))⟩)))
 show h6.objs.size=hp.objs.size + 1
 rw [s6.1,s5.1,s4.1,s3.1,z2]
theorem JF {it d:Addr}{i ep:Nat}{o:Obj}{es:Array DictEntry}{ok ov:Value}{Q:Option Value→Shared→Prop}(hh:A.handled=none)(hit:IsItemIter s.heap it d i es.size ep ok ov)(g0:s.heap.get? d=some o)(g1:o.data= .dict es ep)(ge:es.size≤i)
  (hQ:∀h',Heap.ExtBut it s.heap h'→Q none {s with heap:=h'}):wpAny (model prog w) A (pyNext (.ref it)) Q E s:=by
 have ty:s.TypeIs (.ref it) "dict_itemiterator":=⟨_,hit,rfl⟩
 unfold pyNext
 refine wpAny_bind (wpAny_attempt (wpAny_callSpecial?_slot (name:=Str.ofString "__next__") ty F.slot_dict_itemiterator_next (wpAny_call_entry F.slot_dict_itemiterator_next ty F.entry_dict_itemiterator_next ?_ (F.args_dict_itemiterator_next_1 _))))
 refine wpAny_bind (wpAny_pure (wpAny_bind (wpAny_bind ?_)))
 first|refine wpAny_bind (wpAny_typeNameOfWhole_itemiter ty (wpAny_pure ?_))|refine wpAny_bind (wpAny_typeNameOf_itemiter ty (wpAny_pure ?_))
 refine wpAny_bind (wpAny_fieldsOf hit rfl ?_)
 simp only [show Builtin.Dict_items.ownsTuple "dict_itemiterator"=true by decide,if_true]
 show wpAny _ _ (if (Value.ref d==Value.none)=true then _ else _) _ _ _;rw [if_neg (show ¬ ((Value.ref d==Value.none)=true) by exact Bool.false_ne_true)]
 refine wpAny_bind (wpAny_pure (wpAny_bind (wpAny_dictEntries g0 g1 ?_)))
 rw [if_neg (show ¬_ by simp)]
 refine wpAny_bind (wpAny_pure (wpAny_bind (wpAny_dictEpoch g0 g1 ?_)))
 rw [if_neg (show ¬_ by simp)];refine wpAny_pure ?_
 simp only [show ¬ ((i:Int) < 0) by omega,if_false,Int.toNat_natCast,Array.getElem?_eq_none ge];refine wpAny_bind ?_
 first|refine wpAny_bind (wpAny_typeNameOfWhole_itemiter ty (wpAny_pure ?_))|refine wpAny_bind (wpAny_typeNameOf_itemiter ty (wpAny_pure ?_))
 show wpAny _ _ (setField (.ref it) 2 .none >>=_) _ _ s;refine wpAny_bind (wpAny_setField hit rfl (by simp) ?_)
 show wpAny _ _ (newExc (.type "StopIteration") [] >>=_) _ _ _;refine wpAny_bind ?_;simp only [newExc,newTuple]
 refine wpAny_bind (wpAny_newObj_type ?_ (by size_fits));refine wpAny_bind (m:=firstArgMember _ _) (wpAny_of_eq (a:=Value.none) (by first|rfl|(simp only [firstArgMember];rfl)) ?_)
 refine wpAny_newObj_type ?_ (by size_fits);simp only [raiseNew];refine wpAny_bind (wpAny_handled ?_)
 first|rw [show A.in1.handled=none by exact hh] |rw [hh]
 refine wpAny_bind (wpAny_pure (wpAny_throw ?_));refine wpAny_bind (wpAny_isInstance (T:="StopIteration") (b:=true) ⟨_,Heap.get?_push_size _ rfl,rfl⟩ isSubtype_stop ?_)
 exact wpAny_pure (hQ _ (((Heap.SameBut.update ..).extBut.push _).push _))
end
section
variable {X:Cx}{pins:List (Addr×Obj)}{σ:St}{H:Hp}{s:Shared}{d:Addr}{o:Obj}
theorem Inv.O7 {kvs:List (List Key×V)}(I:Inv X pins σ H s)(h:H d=some (.jn o (.dT kvs))):
  (d==sysModules)=false∧s.heap.get? d=some o∧o.ExactDict∧∃ (es:Array DictEntry)(ep:Nat),o.data= .dict es ep∧es.size=kvs.length∧
   ∀ (i:Nat)(k:List Key)(v:V),kvs[i]?=some (k,v)→∃ (en:DictEntry)(q:Addr),es[i]?=some en∧en.key= .ref q∧H q=some (.tup (k.map kV))∧RelV v en.val:=by
 obtain ⟨hd,z,hs,xs,pr,o',es,ep,ho,hx,EK,he,_⟩:=I.cx d _ h
 rw [hd] at ho
 cases ho
 refine ⟨hs,hd,hx,es,ep,EK,?_,fun i k v e=> ?_⟩
 ·have l1:es.size=xs.length:=size_of_entries he
  have l2:kvs.length=xs.length:=Paired.length pr
  omega
 ·obtain ⟨b,hb,e1,e2,e3⟩:=Ju pr e
  have q:=entry_at he i
  rw [hb] at q
  exact ⟨_,b.2.1,q,rfl,e2,e3⟩
def aaS (d:Addr)(o:Obj)(kvs:List (List Key×V)):It:=
 ⟨fun i H=>H d=some (.jn o (.dT kvs))∧i < kvs.length,fun i H x H'=>∃T k v q,kvs[i]?=some (k,v)∧x= .ref T∧H T=none∧H'=upd H T (.tup [.ref q,v])∧H q=some (.tup (k.map kV)),fun i H=>H d=some (.jn o (.dT kvs))∧kvs.length≤i⟩
theorem Hb {P:Program}{w:World}{K:PySem.W.Frag}{es:Array DictEntry}{ep:Nat}{kvs:List (List Key×V)}{elts:List Expr}{kk:Nat}{zD:Pos}(it:Addr)(hod:o.data= .dict es ep):
  Turn P w K (.Tuple elts kk zD) (aaS d o kvs) [it] it (fun i h=>∃ok ov,IsItemIter h it d i kvs.length ep ok ov) where
 mem:=by simp
 obj:=fun i h st b hb=>by
  have e:b=it:=by simpa using hb
  subst e
  obtain ⟨ok,ov,e⟩:=st
  exact ⟨_,e,fun v z=>nomatch z⟩
 keep:=fun i h h' st k=>let ⟨ok,ov,e⟩:=st;⟨ok,ov,k it (by simp) _ e⟩
 item:=by
  intro X hP hw hK hc i pins s σ H E I hf st hg
  subst hP hw hK
  obtain ⟨hd,hi⟩:=hg
  obtain ⟨hs,OU,hx,Sj,Oa,EK,hsz,ent⟩:=I.O7 hd
  obtain ⟨rfl,rfl⟩:=y3 hod EK
  obtain ⟨⟨k,v⟩,GA⟩:∃p,kvs[i]?=some p:=⟨kvs[i],List.getElem?_eq_getElem hi⟩
  obtain ⟨en,q,hen,sR,hq,hv⟩:=ent i k v GA
  obtain ⟨ok,ov,he⟩:=st
  rw [←hsz] at he
  have eA:it < s.heap.objs.size:=Heap.lt_size he
  refine JE he OU EK hen fun h' ho hT hz hk=> ?_
  refine ⟨_,rfl,wpAny_letOwnedTupleGo_items (s:={s with heap:=h'}) ho fun Vh Vo sb=> ?_⟩
  have hT2:Vh.get? s.heap.objs.size=some {cls:= .type "tuple",data:= .seq #[en.key,en.val] }:=(sb.2 _ (Nat.ne_of_gt eA)).trans hT
  have new:d7 X.prog X.w (upd H s.heap.objs.size (.tup [.ref q,v])) Vh s.heap.objs.size (.tup [.ref q,v]):=
   ⟨by show 2≤sizeLine;decide,[en.key,en.val],.cons sR (.cons hv .nil),⟨_,hT2,rfl,_,rfl⟩⟩
  have I1:Inv X pins σ (upd H s.heap.objs.size (.tup [.ref q,v])) {s with heap:=Vh}:=
   I.CY (t':=s.toks) (ch:= [it]) (fun b ob hb e=>(sb.2 b (by simpa using hb)).trans (hk b ob (by simpa using hb) e)) hf (Nat.le_refl _) new
  refine ⟨.ref s.heap.objs.size,_,I1,rfl,⟨_,k,v,q,GA,rfl,I.cx.fresh (Nat.le_refl _),rfl,hq⟩,⟨en.key,en.val,?_⟩,fun b hb=> ?_⟩
  ·rw [←hsz];exact Vo
  ·have e:b=it:=by simpa using hb
   rw [e,az (Nat.ne_of_lt eA)]
   exact (hf it (by simp)).1
 done:=by
  intro X hP hw hK hc i pins s σ H E I hf st hg
  subst hP hw hK
  obtain ⟨hd,hi⟩:=hg
  obtain ⟨f0,f1,f2,f3,f4,f5⟩:=hf it (by simp)
  obtain ⟨hs,OU,hx,Sj,Oa,EK,hsz,ent⟩:=I.O7 hd
  obtain ⟨rfl,rfl⟩:=y3 hod EK
  obtain ⟨ok,ov,he⟩:=st
  rw [←hsz] at he hi
  exact JF (I.ok.hd hc) he OU EK hi fun h' eb=>⟨rfl,I.turned (t':=s.toks) (fun b ob hb e=>eb b ob hb e) f0 f1 f3 f4 f5⟩
 self:=fun A i s Q E st h=>let ⟨_,_,e⟩:=st;PySem.W.kcp_self e h
end
def Tt (td:TE):TI:=fun σ H R=>td σ H fun x H1=>∃d o kvs,x= .ref d∧H1 d=some (.jn o (.dT kvs))∧R (aaS d o kvs) H1
section
variable {X:Cx}{e:Expr}{td:TE}{apos gk:Pos}
theorem MH {elts:List Expr}{kk:Nat}{zD:Pos}(he:PE X e td)(GN:attributeBase e "items" X.env (eval e X.env)=eval e X.env:=by rfl)(GO:(apos.endLine==gk.line)=true:=by rfl):
  PI X (.Tuple elts kk zD) (.Call (.Attribute e "items" apos) [] [] gk) (Tt td):=by
 intro pins s σ H R I h
 refine wpAny_Call_method (T:="dict") (id:="dict.items") GN rfl GO F.plainAttrs_dict F.slot_dict_items F.type_dict_items (dz (he pins s σ H _ I h) fun u s1 ⟨x,H1,I1,rx,d,o,kvs,ex,hd,q⟩=> ?_)
 subst ex
 obtain rfl:u=Value.ref d:=rx
 obtain ⟨hs,OU,hx,es,ep,EK,hsz,ent⟩:=I1.O7 hd
 have ty:s1.TypeIs (.ref d) "dict":=⟨o,OU,hx.1⟩
 refine ⟨ty,fun a z=> ?_,?_⟩
 ·cases z
  exact ⟨o,OU,hx.2.1⟩
 have I2:Inv X pins σ H1 {s1 with heap:=s1.heap.push {cls:= .type "dict_items",data:= .fields #[.ref d] } }:=I1.kept (t':=s1.toks) fun b ob q=>Heap.get?_push_of_some _ q
 have fin:wpAny (model X.prog X.w) X.A (pyIter (.ref s1.heap.objs.size)) (Z1 X pins σ (.Tuple elts kk zD) R) X.xe {s1 with heap:=s1.heap.push {cls:= .type "dict_items",data:= .fields #[.ref d] } }:=by
  refine JD (d:=d) (o:=o) (es:=es) (ep:=ep) ⟨_,Heap.get?_push_size _ rfl,rfl,rfl⟩ (Heap.get?_push_of_some _ OU) EK (Jt (tk:=s1.toks) I2 _ (Hb _ EK) ⟨.none,.none,?_⟩ q)
  rw [←hsz]
  exact Heap.get?_push_size _ rfl
 show wpAny _ _ (callWith gk (.builtin "dict.items") [.ref d] [] []) _ X.xe s1
 exact method_meetsIn F.slot_dict_items F.entry_dict_items rfl (PySem.evalArgs_none ⟨rfl,ty,F.args_dict_items_1 _,_,JC (o:=o) hs,⟨OU,hx⟩,fin⟩)
end
section
variable {prog:Program}{w:World}{A:Around}{E:Value→Shared→Prop}{s:Shared}
theorem zN {it a:Addr}{i:Nat}{us:Array Value}{x:Value}{Q:Value→Shared→Prop}(hit:s.heap.IsTupleIter it a i)(ha:s.heap.IsTuple a us)(hx:us[i]?=some x)
  (hQ:∀h',h'.IsTupleIter it a (i + 1)→Heap.SameBut it s.heap h'→Q x {s with heap:=h'}):wpAny (model prog w) A (Builtin.SmallTypes.nextOf (.ref it)) Q E s:=by
 obtain ⟨o,g0,gc,g1⟩:=id hit
 obtain ⟨oa,a0,_,na,a1⟩:=ha
 unfold Builtin.SmallTypes.nextOf
 refine wpAny_bind (wpAny_callSpecial?_slot (name:=Str.ofString "__next__") hit.typeIs F.slot_tuple_iterator_next (wpAny_call_entry F.slot_tuple_iterator_next hit.typeIs F.entry_tuple_iterator_next ?_ (F.args_tuple_iterator_next_1 _)))
 show wpAny _ _ (field (.ref it) 0 >>=_) _ _ s;refine wpAny_bind (wpAny_field g0 g1 (x:= .ref a) rfl ?_)
 show wpAny _ _ (if (Value.ref a==Value.none)=true then _ else _) _ _ s;rw [if_neg (show ¬ ((Value.ref a==Value.none)=true) by exact Bool.false_ne_true)]
 show wpAny _ _ (field (.ref it) 1 >>=_) _ _ s;refine wpAny_bind (wpAny_field g0 g1 (x:= .int i 0) rfl ?_)
 show wpAny _ _ (seqItems? (.ref a) >>=_) _ _ s;refine wpAny_bind (wpAny_seqItems a0 a1 ?_)
 simp only [Int.toNat_natCast,hx]
 refine wpAny_bind (wpAny_setField g0 g1 (by simp) (wpAny_pure ⟨x,rfl,wpAny_pure (hQ _ ?_ (Heap.SameBut.update ..))⟩))
 exact ⟨_,Heap.get?_update_self _ g0 (Obj.isFreed_of_fields (Obj.data_mapFields g1 _)),(Obj.cls_mapFields ..).trans gc,by rw [Obj.data_mapFields g1];simp [rawInt]⟩
theorem MI {it a:Addr}{i:Nat}{us:Array Value}{Q:Value→Shared→Prop}(hh:A.handled=none)(hit:s.heap.IsTupleIter it a i)(ha:s.heap.IsTuple a us)(hx:us[i]?=none)
  (hE:∀h' e,Heap.ExtBut it s.heap h'→(∃o,h'.get? e=some o∧o.cls= .type "StopIteration")→E (.ref e) {s with heap:=h'}):wpAny (model prog w) A (Builtin.SmallTypes.nextOf (.ref it)) Q E s:=by
 obtain ⟨o,g0,gc,g1⟩:=id hit
 obtain ⟨oa,a0,_,na,a1⟩:=ha
 unfold Builtin.SmallTypes.nextOf
 refine wpAny_bind (wpAny_callSpecial?_slot (name:=Str.ofString "__next__") hit.typeIs F.slot_tuple_iterator_next (wpAny_call_entry F.slot_tuple_iterator_next hit.typeIs F.entry_tuple_iterator_next ?_ (F.args_tuple_iterator_next_1 _)))
 show wpAny _ _ (field (.ref it) 0 >>=_) _ _ s;refine wpAny_bind (wpAny_field g0 g1 (x:= .ref a) rfl ?_)
 show wpAny _ _ (if (Value.ref a==Value.none)=true then _ else _) _ _ s;rw [if_neg (show ¬ ((Value.ref a==Value.none)=true) by exact Bool.false_ne_true)]
 show wpAny _ _ (field (.ref it) 1 >>=_) _ _ s;refine wpAny_bind (wpAny_field g0 g1 (x:= .int i 0) rfl ?_)
 show wpAny _ _ (seqItems? (.ref a) >>=_) _ _ s;refine wpAny_bind (wpAny_seqItems a0 a1 ?_)
 simp only [Int.toNat_natCast,hx]
 refine wpAny_bind (wpAny_rule (wpAny_bind (wpAny_setField g0 g1 (by simp) ?_)))
 show wpAny _ _ (newExc (.type "StopIteration") [] >>=_) _ _ _;refine wpAny_bind ?_;simp only [newExc,newTuple]
 refine wpAny_bind (wpAny_newObj_type ?_ (by size_fits));refine wpAny_bind (m:=firstArgMember _ _) (wpAny_of_eq (a:=Value.none) (by first|rfl|(simp only [firstArgMember];rfl)) ?_)
 refine wpAny_newObj_type ?_ (by size_fits);simp only [raiseNew];refine wpAny_bind (wpAny_handled ?_)
 first|rw [show A.in1.handled=none by exact hh] |rw [hh]
 refine wpAny_bind (wpAny_pure (wpAny_throw ?_));exact hE _ _ (((Heap.SameBut.update ..).extBut.push _).push _) ⟨_,Heap.get?_push_size _ rfl,rfl⟩
theorem MJ {z TI TO i1 i2 l1 l2:Addr}{k1 k2:Nat}{xs ys:Array Value}{x y a b:Value}{Q:Value→Shared→Prop}(D:ZipApart z TI TO i1 i2 l1 l2)(g0:IsZip s.heap z TI TO .none)(g1:IsPair s.heap TI (.ref i1) (.ref i2))(g2:IsPair s.heap TO a b)
  (h1:s.heap.IsTupleIter i1 l1 k1)(h2:s.heap.IsListIter i2 l2 k2)(Zr:s.heap.IsTuple l1 xs)(Zi:s.heap.IsList l2 ys)(hx:xs[k1]?=some x)(hy:ys[k2]?=some y)
  (hQ:∀h',IsZip h' z TI TO (rawInt s.heap.objs.size)→IsPair h' TO x y→h'.IsTupleIter i1 l1 (k1 + 1)→h'.IsListIter i2 l2 (k2 + 1)→IsPair h' s.heap.objs.size x y→h'.objs.size=s.heap.objs.size + 1→
   (∀c o,c≠z→c≠TO→c≠i1→c≠i2→s.heap.get? c=some o→h'.get? c=some o)→Q (.ref s.heap.objs.size) {s with heap:=h'}):
  wpAny (model prog w) A (Builtin.«zip.__next__» ⟨[.ref z],[]⟩) (fun fin s'=>∃v,fin= .done (.ret v)∧Q v s') E s:=by
 show wpAny _ _ (field (.ref z) 2 >>=_) _ _ _;refine wpAny_bind (wpAny_field g0 rfl (x:= .bool false) rfl ?_)
 show wpAny _ _ (field (.ref z) 3 >>=_) _ _ _;refine wpAny_bind (wpAny_field g0 rfl (x:= .ref TI) rfl (wpAny_bind (wpAny_seqItems g1 rfl ?_)))
 show wpAny _ _ (Builtin.SmallTypes.ownedTupleIsFree (.ref z) >>=_) _ _ _;refine wpAny_bind ?_;unfold Builtin.SmallTypes.ownedTupleIsFree
 refine wpAny_bind (wpAny_field g0 rfl (x:= .none) rfl (wpAny_pure ?_));simp only [if_true]
 refine wpAny_bind (wpAny_rule (wpAny_bind (wpAny_field g0 rfl (x:= .ref TO) rfl (wpAny_bind (wpAny_setField_rec g0 (by simp) fun e1 z1 s1=> ?_)))))
 replace z1:IsZip e1 z TI TO .ellipsis:=z1
 refine wpAny_bind ?_;simp only [List.zipIdx_cons,List.zipIdx_nil,List.forIn_cons,List.forIn_nil]
 refine wpAny_bind (wpAny_bind (wpAny_onRaise ?_));show wpAny _ _ (Builtin.SmallTypes.nextOf (.ref i1) >>=_) _ _ _
 refine wpAny_bind (zN (h1.extBut s1.extBut D.i1z) (Zr.extBut s1.extBut D.l1z) hx fun e2 t2 s2=>wpAny_pure ?_)
 have p2:IsPair e2 TO a b:=s2.extBut _ _ D.TOi1 (s1.extBut _ _ D.TOz g2)
 refine wpAny_bind (wpAny_seqItems p2 rfl (wpAny_bind (wpAny_updateSeq_pair p2 fun e3 p3 s3=> ?_)))
 replace p3:IsPair e3 TO x b:=p3
 refine wpAny_bind (wpAny_letGo (wpAny_pure (wpAny_bind (wpAny_bind (wpAny_onRaise ?_)))));show wpAny _ _ (Builtin.SmallTypes.nextOf (.ref i2) >>=_) _ _ _
 refine wpAny_bind (wpAny_nextOf_list_item (((h2.extBut s1.extBut D.i2z).extBut s2.extBut D.i12.symm).extBut s3.extBut D.TOi2.symm) (((Zi.extBut s1.extBut D.l2z).extBut s2.extBut D.l2i1).extBut s3.extBut D.l2TO) hy fun e4 t4 s4=>wpAny_pure ?_)
 have p4:IsPair e4 TO x b:=s4.extBut _ _ D.TOi2 p3
 refine wpAny_bind (wpAny_seqItems p4 rfl (wpAny_bind (wpAny_updateSeq_pair p4 fun e5 p5 s5=> ?_)))
 replace p5:IsPair e5 TO x y:=p5
 refine wpAny_bind (wpAny_letGo (wpAny_pure (wpAny_pure (wpAny_bind (wpAny_seqItems p5 rfl (wpAny_bind (wpAny_newTuple ?_)))))))
 have z5:e5.objs.size=s.heap.objs.size:=by rw [s5.1,s4.1,s3.1,s2.1,s1.1]
 have g5:IsZip e5 z TI TO .ellipsis:=s5.extBut _ _ D.TOz.symm (s4.extBut _ _ D.i2z.symm (s3.extBut _ _ D.TOz.symm (s2.extBut _ _ D.i1z.symm z1)))
 have k5:∀c o,c≠z→c≠TO→c≠i1→c≠i2→s.heap.get? c=some o→e5.get? c=some o:=fun c o c1 c2 c3 c4 e=>s5.extBut _ _ c2 (s4.extBut _ _ c4 (s3.extBut _ _ c2 (s2.extBut _ _ c3 (s1.extBut _ _ c1 e))))
 have a5:e5.IsTupleIter i1 l1 (k1 + 1):=((t2.extBut s3.extBut D.TOi1.symm).extBut s4.extBut D.i12).extBut s5.extBut D.TOi1.symm
 have b5:e5.IsListIter i2 l2 (k2 + 1):=t4.extBut s5.extBut D.TOi2.symm
 have lz:z < e5.objs.size:=Heap.lt_size g5
 show wpAny _ _ (Builtin.SmallTypes.ownedTupleHandOut (.ref z) (.ref e5.objs.size) >>=_) _ _ _;refine wpAny_bind ?_;unfold Builtin.SmallTypes.ownedTupleHandOut
 have g6:IsZip (e5.push {cls:= .type "tuple",data:= .seq #[x,y] }) z TI TO .ellipsis:=Heap.get?_push_of_some _ g5
 refine wpAny_bind (wpAny_setField_rec g6 (by simp) fun e7 g7 s7=> ?_)
 replace g7:IsZip e7 z TI TO (rawInt e5.objs.size):=g7
 refine wpAny_setField_rec g7 (by simp) fun e8 g8 s8=> ?_
 replace g8:IsZip e8 z TI TO (rawInt e5.objs.size):=g8
 have up:∀c o,c≠z→e5.get? c=some o→e8.get? c=some o:=fun c o c1 e=>s8.extBut _ _ c1 (s7.extBut _ _ c1 (Heap.get?_push_of_some _ e))
 have p8:IsPair e8 e5.objs.size x y:=s8.extBut _ _ (Nat.ne_of_gt lz) (s7.extBut _ _ (Nat.ne_of_gt lz) (Heap.get?_push_size _ rfl))
 have z8:e8.objs.size=e5.objs.size + 1:=by rw [s8.1,s7.1,Heap.size_push]
 rw [z5] at g8 p8 z8
 refine wpAny_pure ⟨_,rfl,?_⟩
 show Q (.ref e5.objs.size) _
 rw [z5]
 exact hQ e8 g8 (up _ _ D.TOz p5) (a5.at fun o e=>up _ o D.i1z e) (b5.at fun o e=>up _ o D.i2z e) p8 z8 fun c o c1 c2 c3 c4 e=>up c o c1 (k5 c o c1 c2 c3 c4 e)
theorem MK {z TI TO i1 i2 l1 l2:Addr}{k1 k2:Nat}{xs ys:Array Value}{a b:Value}{Q:PySem.Fin→Shared→Prop}(hh:A.handled=none)(D:ZipApart z TI TO i1 i2 l1 l2)(g0:IsZip s.heap z TI TO .none)(g1:IsPair s.heap TI (.ref i1) (.ref i2))(g2:IsPair s.heap TO a b)
  (h1:s.heap.IsTupleIter i1 l1 k1)(h2:s.heap.IsListIter i2 l2 k2)(Zr:s.heap.IsTuple l1 xs)(Zi:s.heap.IsList l2 ys)(O8:xs[k1]?=none∨ys[k2]?=none)
  (hE:∀h' e,(∀c o,c≠z→c≠TO→c≠i1→c≠i2→s.heap.get? c=some o→h'.get? c=some o)→(∃o,h'.get? e=some o∧o.cls= .type "StopIteration")→E (.ref e) {s with heap:=h'}):
  wpAny (model prog w) A (Builtin.«zip.__next__» ⟨[.ref z],[]⟩) Q E s:=by
 show wpAny _ _ (field (.ref z) 2 >>=_) _ _ _;refine wpAny_bind (wpAny_field g0 rfl (x:= .bool false) rfl ?_)
 show wpAny _ _ (field (.ref z) 3 >>=_) _ _ _;refine wpAny_bind (wpAny_field g0 rfl (x:= .ref TI) rfl (wpAny_bind (wpAny_seqItems g1 rfl ?_)))
 show wpAny _ _ (Builtin.SmallTypes.ownedTupleIsFree (.ref z) >>=_) _ _ _;refine wpAny_bind ?_;unfold Builtin.SmallTypes.ownedTupleIsFree
 refine wpAny_bind (wpAny_field g0 rfl (x:= .none) rfl (wpAny_pure ?_));simp only [if_true]
 refine wpAny_bind (wpAny_rule (wpAny_bind (wpAny_field g0 rfl (x:= .ref TO) rfl (wpAny_bind (wpAny_setField_rec g0 (by simp) fun e1 z1 s1=> ?_)))))
 replace z1:IsZip e1 z TI TO .ellipsis:=z1
 refine wpAny_bind ?_;simp only [List.zipIdx_cons,List.zipIdx_nil,List.forIn_cons,List.forIn_nil]
 refine wpAny_bind (wpAny_bind (wpAny_onRaise ?_));show wpAny _ _ (Builtin.SmallTypes.nextOf (.ref i1) >>=_) _ _ _
 cases hx:xs[k1]? with
 |none=>
  refine wpAny_bind (MI hh (h1.extBut s1.extBut D.i1z) (Zr.extBut s1.extBut D.l1z) hx fun e2 e s2 he=> ?_)
  obtain ⟨oe,x0,xc⟩:=he
  have z2:IsZip e2 z TI TO .ellipsis:=s2 _ _ D.i1z.symm z1
  have ne:e≠z:=fun q=>by subst q;rw [z2] at x0;cases x0;simp at xc
  refine wpAny_setField_rec z2 (by simp) fun e3 _ s3=>hE e3 e (fun c o c1 _ c3 _ q=>s3.extBut _ _ c1 (s2 _ _ c3 (s1.extBut _ _ c1 q))) ⟨oe,s3.extBut _ _ ne x0,xc⟩
 |some x=>
  have hy:ys[k2]?=none:=by
   rcases O8 with h|h
   ·rw [hx] at h;cases h
   ·exact h
  refine wpAny_bind (zN (h1.extBut s1.extBut D.i1z) (Zr.extBut s1.extBut D.l1z) hx fun e2 t2 s2=>wpAny_pure ?_)
  have p2:IsPair e2 TO a b:=s2.extBut _ _ D.TOi1 (s1.extBut _ _ D.TOz g2)
  refine wpAny_bind (wpAny_seqItems p2 rfl (wpAny_bind (wpAny_updateSeq_pair p2 fun e3 p3 s3=> ?_)))
  refine wpAny_bind (wpAny_letGo (wpAny_pure (wpAny_bind (wpAny_bind (wpAny_onRaise ?_)))));show wpAny _ _ (Builtin.SmallTypes.nextOf (.ref i2) >>=_) _ _ _
  refine wpAny_bind (wpAny_nextOf_list_end hh (((h2.extBut s1.extBut D.i2z).extBut s2.extBut D.i12.symm).extBut s3.extBut D.TOi2.symm) (((Zi.extBut s1.extBut D.l2z).extBut s2.extBut D.l2i1).extBut s3.extBut D.l2TO) hy fun e4 e s4 he=> ?_)
  obtain ⟨oe,x0,xc⟩:=he
  have z4:IsZip e4 z TI TO .ellipsis:=s4 _ _ D.i2z.symm (s3.extBut _ _ D.TOz.symm (s2.extBut _ _ D.i1z.symm z1))
  have ne:e≠z:=fun q=>by subst q;rw [z4] at x0;cases x0;simp at xc
  refine wpAny_setField_rec z4 (by simp) fun e5 _ s5=>hE e5 e (fun c o c1 c2 c3 c4 q=>s5.extBut _ _ c1 (s4 _ _ c4 (s3.extBut _ _ c2 (s2.extBut _ _ c3 (s1.extBut _ _ c1 q))))) ⟨oe,s5.extBut _ _ ne x0,xc⟩
end
abbrev zt1 (h:Heap)(a:Addr):Heap:=h.push {cls:= .type "tuple_iterator",data:= .fields #[.ref a,.int 0 0] }
abbrev zt2 (h:Heap)(a b:Addr):Heap:=(zt1 h a).push {cls:= .type "list_iterator",data:= .fields #[.ref b,.int 0 0] }
abbrev zt3 (h:Heap)(a b:Addr):Heap:=(zt2 h a b).push {cls:= .type "tuple",data:= .seq #[.ref h.objs.size,.ref (zt1 h a).objs.size] }
abbrev zt4 (h:Heap)(a b:Addr):Heap:=(zt3 h a b).push {cls:= .type "tuple",data:= .seq #[.none,.none] }
abbrev Zs (h:Heap)(a b:Addr):Heap:=(zt4 h a b).push {cls:= .type "zip",data:= .fields #[.none,.bool false,.bool false,.ref (zt2 h a b).objs.size,.ref (zt3 h a b).objs.size] }
theorem JG (a b:Addr)(xs ys:Array Value):Meets (Builtin.«zip.__new__» ⟨[.type "zip",.ref a,.ref b],[]⟩) (fun _ R s=>s.heap.IsTuple a xs∧s.heap.IsList b ys∧R (.ok (.ret (.ref (zt4 s.heap a b).objs.size))) {s with heap:=Zs s.heap a b}):=
 .of_wp fun prog w A R s h=>by
  obtain ⟨hp,g,d,tk,os⟩:=s
  obtain ⟨q1,q2,h⟩:=h
  have sub:=sub_zip
  have p1:Heap.IsTuple (Shared.heap ⟨hp,g,d,tk,os⟩) a xs:=q1
  have p2:Heap.IsList (Shared.heap ⟨hp.push {cls:= .type "tuple_iterator",data:= .fields #[.ref a,.int 0 0] },g,d,tk,os⟩) b ys:=Heap.IsList.push q2 _
  wp_walk using wpAny_pyIter_tuple p1,wpAny_pyIter_list p2
  exact ⟨_,rfl,h⟩
section
variable {prog:Program}{w:World}{A:Around}{E:Value→Shared→Prop}{s:Shared}
theorem ML {a b:Addr}{xs ys:Array Value}{Q:Value→Shared→Prop}(q1:s.heap.IsTuple a xs)(q2:s.heap.IsList b ys)
  (h:∀h',IsZip h' (s.heap.objs.size + 4) (s.heap.objs.size + 2) (s.heap.objs.size + 3) .none→IsPair h' (s.heap.objs.size + 2) (.ref s.heap.objs.size) (.ref (s.heap.objs.size + 1))→IsPair h' (s.heap.objs.size + 3) .none .none→
   h'.IsTupleIter s.heap.objs.size a 0→h'.IsListIter (s.heap.objs.size + 1) b 0→(∀c o,s.heap.get? c=some o→h'.get? c=some o)→Q (.ref (s.heap.objs.size + 4)) {s with heap:=h'}):
  wpAny (model prog w) A (call (.type "zip") [.ref a,.ref b]) Q E s:=by
 refine callType_new F.called_zip (by decide) (F.typeCall_zip_2 _ _) (F.newCall_zip_2 _ _) (fun obj=>F.args_object_init_3 obj _ _) F.entry_zip_new (JG a b xs ys) ⟨q1,q2,?_⟩
 have z1:(zt1 s.heap a).objs.size=s.heap.objs.size + 1:=Heap.size_push ..
 have z2:(zt2 s.heap a b).objs.size=s.heap.objs.size + 2:=by rw [Heap.size_push,z1]
 have z3:(zt3 s.heap a b).objs.size=s.heap.objs.size + 3:=by rw [Heap.size_push,z2]
 have z4:(zt4 s.heap a b).objs.size=s.heap.objs.size + 4:=by rw [Heap.size_push,z3]
 have g5:(Zs s.heap a b).get? (zt4 s.heap a b).objs.size=some _:=Heap.get?_push_size _ rfl
 have g4:(Zs s.heap a b).get? (zt3 s.heap a b).objs.size=some _:=Heap.get?_push_of_some _ (Heap.get?_push_size _ rfl)
 have g3:(Zs s.heap a b).get? (zt2 s.heap a b).objs.size=some _:=Heap.get?_push_of_some _ (Heap.get?_push_of_some _ (Heap.get?_push_size _ rfl))
 have g2:(Zs s.heap a b).get? (zt1 s.heap a).objs.size=some _:=Heap.get?_push_of_some _ (Heap.get?_push_of_some _ (Heap.get?_push_of_some _ (Heap.get?_push_size _ rfl)))
 have g1:(Zs s.heap a b).get? s.heap.objs.size=some _:=Heap.get?_push_of_some _ (Heap.get?_push_of_some _ (Heap.get?_push_of_some _ (Heap.get?_push_of_some _ (Heap.get?_push_size _ rfl))))
 show _∧_
 rw [z2,z3,z4] at g5
 rw [z1,z2] at g3
 rw [z3] at g4
 rw [z1] at g2
 rw [z4]
 exact ⟨⟨_,g5,rfl⟩,h _ g5 g3 g4 ⟨_,g1,rfl,rfl⟩ ⟨_,g2,rfl,rfl⟩ fun c o x=>Heap.get?_push_of_some _ (Heap.get?_push_of_some _ (Heap.get?_push_of_some _ (Heap.get?_push_of_some _ (Heap.get?_push_of_some _ x))))⟩
end
def aaT (K:PySem.W.Frag)(a b:Addr):It:=
 ⟨fun i H=>∃ (xs ys:List V)(x y:V),bJ K H a xs∧cK K H b ys∧xs[i]?=some x∧ys[i]?=some y,
  fun i H v H'=>∃T x y,v= .ref T∧H T=none∧H'=upd H T (.tup [x,y])∧(∀xs,bJ K H a xs→xs[i]?=some x)∧∀ys,cK K H b ys→ys[i]?=some y,
  fun i H=>∃xs ys:List V,bJ K H a xs∧cK K H b ys∧(xs.length≤i∨ys.length≤i)⟩
theorem MM {P:Program}{w:World}{K:PySem.W.Frag}{elts:List Expr}{kk:Nat}{zD:Pos}{a b z TI TO i1 i2:Addr}(D:ZipApart z TI TO i1 i2 a b):
  Turn P w K (.Tuple elts kk zD) (aaT K a b) [z,TI,TO,i1,i2] z (fun i h=>IsZip h z TI TO .none∧IsPair h TI (.ref i1) (.ref i2)∧(∃x y,IsPair h TO x y)∧h.IsTupleIter i1 a i∧h.IsListIter i2 b i) where
 mem:=by simp
 obj:=fun i h st c hc=>by
  obtain ⟨hz,O9,⟨x,y,So⟩,⟨o1,e1,_,d1⟩,⟨o2,e2,_,d2⟩⟩:=st
  have e':c=z∨c=TI∨c=TO∨c=i1∨c=i2:=by simpa using hc
  rcases e' with q|q|q|q|q
  ·rw [q];exact ⟨_,hz,fun v q=>nomatch q⟩
  ·rw [q];exact ⟨_,O9,fun v q=>nomatch q⟩
  ·rw [q];exact ⟨_,So,fun v q=>nomatch q⟩
  ·rw [q];exact ⟨o1,e1,fun v q=>by rw [d1] at q;cases q⟩
  ·rw [q];exact ⟨o2,e2,fun v q=>by rw [d2] at q;cases q⟩
 keep:=fun i h h' st k=>by
  obtain ⟨hz,O9,⟨x,y,So⟩,h1,h2⟩:=st
  exact ⟨k z (by simp) _ hz,k TI (by simp) _ O9,⟨x,y,k TO (by simp) _ So⟩,h1.at fun o q=>k i1 (by simp) o q,h2.at fun o q=>k i2 (by simp) o q⟩
 item:=by
  intro X hP hw hK hc i pins s σ H E I hf st hg
  subst hP hw hK
  obtain ⟨hz,O9,⟨x0,y0,So⟩,h1,h2⟩:=st
  obtain ⟨xs,ys,x,y,Zt,Zu,hx,hy⟩:=hg
  obtain ⟨a7,rv,p,_⟩:=I.tuple Zt
  obtain ⟨yN,rv2,p2,_⟩:=I.list Zu
  obtain ⟨u,hu,ru⟩:=rv.get hx
  obtain ⟨u2,hu2,ru2⟩:=rv2.get hy
  have hzl:z < s.heap.objs.size:=Heap.lt_size hz
  have ty:s.TypeIs (.ref z) "zip":=⟨_,hz,rfl⟩
  unfold pyNext
  refine wpAny_bind (wpAny_attempt (wpAny_callSpecial?_slot (name:=Str.ofString "__next__") ty F.slot_zip_next (wpAny_call_entry F.slot_zip_next ty F.entry_zip_next
   (MJ D hz O9 So h1 h2 (show s.heap.IsTuple a a7.toArray from p) p2.isList (x:=u) (y:=u2) (by simpa using hu) (by simpa using hu2) fun h' z' TO' Vp h2' hT hsz hk=>wpAny_pure ?_) (F.args_zip_next_1 _))))
  refine ⟨_,rfl,wpAny_letOwnedTupleGo_zip (s:={s with heap:=h'}) z' fun Vh z'' sb=> ?_⟩
  have hT2:Vh.get? s.heap.objs.size=some {cls:= .type "tuple",data:= .seq #[u,u2] }:=(sb.2 _ (Nat.ne_of_gt hzl)).trans hT
  have new:d7 X.prog X.w (upd H s.heap.objs.size (.tup [x,y])) Vh s.heap.objs.size (.tup [x,y]):=
   ⟨by show 2≤sizeLine;decide,[u,u2],.cons ru (.cons ru2 .nil),⟨_,hT2,rfl,_,rfl⟩⟩
  have I1:Inv X pins σ (upd H s.heap.objs.size (.tup [x,y])) {s with heap:=Vh}:=
   I.CY (t':=s.toks) (ch:= [z,TI,TO,i1,i2]) (fun c o hb q=>(sb.2 c (fun q'=>hb (by simp [q']))).trans (hk c o (fun q'=>hb (by simp [q'])) (fun q'=>hb (by simp [q'])) (fun q'=>hb (by simp [q'])) (fun q'=>hb (by simp [q'])) q)) hf (Nat.le_refl _) new
  refine ⟨.ref s.heap.objs.size,_,I1,rfl,⟨_,x,y,rfl,I.cx.fresh (Nat.le_refl _),rfl,fun l hl=>by rw [I.CG hl Zt];exact hx,fun l hl=>by rw [I.GI hl Zu];exact hy⟩,⟨z'',?_,⟨u,u2,?_⟩,?_,?_⟩,fun c Zv=> ?_⟩
  ·exact (sb.2 _ D.TIz).trans (hk _ _ D.TIz D.TITO D.TIi1 D.TIi2 O9)
  ·exact (sb.2 _ D.TOz).trans TO'
  ·exact Vp.at fun o q=>(sb.2 _ D.i1z).trans q
  ·exact h2'.at fun o q=>(sb.2 _ D.i2z).trans q
  ·have eA:c < s.heap.objs.size:=by
    have e':c=z∨c=TI∨c=TO∨c=i1∨c=i2:=by simpa using Zv
    rcases e' with q|q|q|q|q
    ·rw [q];exact hzl
    ·rw [q];exact Heap.lt_size O9
    ·rw [q];exact Heap.lt_size So
    ·rw [q];obtain ⟨_,e1,_⟩:=h1;exact Heap.lt_size e1
    ·rw [q];obtain ⟨_,e2,_⟩:=h2;exact Heap.lt_size e2
   rw [az (Nat.ne_of_lt eA)]
   exact (hf c Zv).1
 done:=by
  intro X hP hw hK hc i pins s σ H E I hf st hg
  subst hP hw hK
  obtain ⟨hz,O9,⟨x0,y0,So⟩,h1,h2⟩:=st
  obtain ⟨xs,ys,Zt,Zu,O8⟩:=hg
  obtain ⟨a7,rv,p,_⟩:=I.tuple Zt
  obtain ⟨yN,rv2,p2,_⟩:=I.list Zu
  have l1:=rv.length
  have l2:=rv2.length
  have he:a7.toArray[i]?=none∨yN.toArray[i]?=none:=by
   rcases O8 with q|q
   ·exact .inl (by simp;omega)
   ·exact .inr (by simp;omega)
  have ty:s.TypeIs (.ref z) "zip":=⟨_,hz,rfl⟩
  unfold pyNext
  refine wpAny_bind (wpAny_attempt (wpAny_callSpecial?_slot (name:=Str.ofString "__next__") ty F.slot_zip_next (wpAny_call_entry F.slot_zip_next ty F.entry_zip_next
   (MK (I.ok.hd hc) D hz O9 So h1 h2 (show s.heap.IsTuple a a7.toArray from p) p2.isList he fun h' e hk hx=> ?_) (F.args_zip_next_1 _))))
  obtain ⟨oe,x0,xc⟩:=hx
  refine wpAny_bind (wpAny_isInstance (T:="StopIteration") (b:=true) ⟨oe,x0,xc⟩ isSubtype_stop (wpAny_pure ?_))
  exact ⟨rfl,I.Te (t':=s.toks) (ch:= [z,TI,TO,i1,i2]) (fun c o hb q=>hk c o (fun q'=>hb (by simp [q'])) (fun q'=>hb (by simp [q'])) (fun q'=>hb (by simp [q'])) (fun q'=>hb (by simp [q'])) q) hf⟩
 self:=fun A i s Q E st h=>wpAny_pyIter_zip st.1 h
def aaU (K:PySem.W.Frag)(ta:TA):TI:=fun σ H R=>ta σ H fun vs H1=>∃a b xs ys,vs= [.ref a,.ref b] ∧bJ K H1 a xs∧cK K H1 b ys∧R (aaT K a b) H1
theorem Tu {X:Cx}{e e2:Expr}{ta:TA}{p pos zD:Pos}{elts:List Expr}{kk:Nat}(hg:Gl X "zip")(hm:X.mg "zip"=none)(ha:PA X [e,e2] ta)
  (hs:starEach [e,e2] X.env=(false,eval e X.env)::starEach [e2] X.env:=by rfl)(eD:(backTo pos (starEach [e2] X.env)).any (·.1)=false:=by rfl):
  PI X (.Tuple elts kk zD) (.Call (.Name "zip" p) [e,e2] [] pos) (aaU X.K ta):=by
 intro pins s σ H R I h
 refine Call_ (wk I hg hm Mv (PyProof.Rows.callWith_type1 (dz (ha pos pins s σ H _ I h) fun us s1 ⟨vs,H1,I1,r1,q1⟩=> ?_) hs eD))
 obtain ⟨a,b,xs,ys,ex,Zt,Zu,q⟩:=q1
 subst ex
 cases r1 with
 |cons r rr=>
  cases rr with
  |cons r' rr=>
   cases rr
   cases r
   cases r'
   obtain ⟨a7,rv,p1,_⟩:=I1.tuple Zt
   obtain ⟨yN,rv2,p2,_⟩:=I1.list Zu
   have la:a < s1.heap.objs.size:=by obtain ⟨_,e,_⟩:=p1;exact Heap.lt_size e
   have lb:b < s1.heap.objs.size:=p2.lt
   refine ML (show s1.heap.IsTuple a a7.toArray from p1) p2.isList fun h' hz O9 So h1 h2 hk=>wpAny_pyIter_zip hz ?_
   have I2:Inv X pins σ H1 {s1 with heap:=h'}:=I1.kept (t':=s1.toks) hk
   refine ⟨s1.heap.objs.size + 4,[s1.heap.objs.size + 4,s1.heap.objs.size + 2,s1.heap.objs.size + 3,s1.heap.objs.size,s1.heap.objs.size + 1],_,_,H1,rfl,I2,MM (PySem.W.ktu_apart s1.heap.objs.size a b la lb),⟨hz,O9,⟨_,_,So⟩,h1,h2⟩,fun c Zv=> ?_,q⟩
   have e':c=s1.heap.objs.size + 4∨c=s1.heap.objs.size + 2∨c=s1.heap.objs.size + 3∨c=s1.heap.objs.size∨c=s1.heap.objs.size + 1:=by simpa using Zv
   have hle:s1.heap.objs.size≤c:=by rcases e' with z|z|z|z|z <;>rw [z] <;>first|exact Nat.le_add_right _ _|exact Nat.le_refl _
   exact I1.Me hle (I1.cx.fresh hle)
end L2
namespace Rl
open PySem PySem.Spec PyProof.Rows L2 PySem.W
abbrev fO (n q:Str)(s:Stmt)(kV dc pm:Value)(an:Option Addr)(cd ct:Value):=fnOf n q (tQ s) (qj s) (ay s) .none kV dc pm an cd ct
def top (i:Nat):Stmt:=PySem.Challenge.pw_relayleases_s01_answers.main.body.getD i (.Pass ⟨0,0,0,0⟩)
theorem Hc {P:List Value→Prop}(h:∀x0,P [x0]):∀us,us.length=1→P us
 | [_],_=>h _
theorem ff {P:List Value→Prop}(h:∀x0 x1,P [x0,x1]):∀us,us.length=2→P us
 | [_,_],_=>h _ _
theorem tT {P:List Value→Prop}(h:∀x0 x1 x2,P [x0,x1,x2]):∀us,us.length=3→P us
 | [_,_,_],_=>h _ _ _
theorem aaV {P:List Value→Prop}(h:∀x0 x1 x2 x3,P [x0,x1,x2,x3]):∀us,us.length=4→P us
 | [_,_,_,_],_=>h _ _ _ _
theorem Tv {P:List Value→Prop}(h:∀x0 x1 x2 x3 x4,P [x0,x1,x2,x3,x4]):∀us,us.length=5→P us
 | [_,_,_,_,_],_=>h _ _ _ _ _
theorem aaW {P:List Value→Prop}(h:∀x0 x1 x2 x3 x4 x5 x6 x7 x8 x9,P [x0,x1,x2,x3,x4,x5,x6,x7,x8,x9]):∀us,us.length=10→P us
 | [_,_,_,_,_,_,_,_,_,_],_=>h _ _ _ _ _ _ _ _ _ _
abbrev fK:Stmt:=inClass (top 18) 0
abbrev ES:List Str:= ["self","parent","circuit","limit"]
abbrev jz:List Str:= ["self","parent","circuit","limit"]
theorem BK:aC ES jz (ay fK):=⟨rfl,rfl,rfl,by decide +kernel,rfl,by decide +kernel,by decide +kernel⟩
abbrev eF:Stmt:=inClass (top 19) 0
abbrev zO:List Str:= ["self","place","host","number","kind","server","address","length","hops","marks"]
abbrev gU:List Str:= ["self","place","host","number","kind","server","address","length","hops","marks"]
theorem yP:aC zO gU (ay eF):=⟨rfl,rfl,rfl,by decide +kernel,rfl,by decide +kernel,by decide +kernel⟩
abbrev fj:Stmt:=inClass (top 20) 0
abbrev BL:List Str:= ["self","host"]
abbrev iK:List Str:= ["self","host"]
theorem zP:aC BL iK (ay fj):=⟨rfl,rfl,rfl,by decide +kernel,rfl,by decide +kernel,by decide +kernel⟩
abbrev fL:Stmt:=inClass (top 21) 0
abbrev ET:List Str:= ["self","servers","cap","now"]
abbrev jA:List Str:= ["self","servers","cap","now"]
theorem BM:aC ET jA (ay fL):=⟨rfl,rfl,rfl,by decide +kernel,rfl,by decide +kernel,by decide +kernel⟩
abbrev C8:Stmt:=top 22
abbrev aaX:List Str:= ["world","message"]
abbrev K9:List Str:= ["world","message"]
theorem WU:aC aaX K9 (ay C8):=⟨rfl,rfl,rfl,by decide +kernel,rfl,by decide +kernel,by decide +kernel⟩
abbrev wz:Stmt:=top 29
abbrev WV:List Str:= ["world","client","kind","server","address","place"]
abbrev EU:List Str:= ["world","client","kind","server","address"]
theorem La:aC WV EU (ay wz):=⟨rfl,rfl,rfl,by decide +kernel,rfl,by decide +kernel,by decide +kernel⟩
abbrev j5:Stmt:=top 30
abbrev MN:List Str:= ["client"]
abbrev qm:List Str:= ["client"]
theorem JH:aC MN qm (ay j5):=⟨rfl,rfl,rfl,by decide +kernel,rfl,by decide +kernel,by decide +kernel⟩
abbrev wA:Stmt:=top 31
abbrev WW:List Str:= ["world","client","tries"]
abbrev EV:List Str:= ["world","client","tries"]
theorem Tw:aC WW EV (ay wA):=⟨rfl,rfl,rfl,by decide +kernel,rfl,by decide +kernel,by decide +kernel⟩
abbrev C9:Stmt:=top 32
abbrev aaY:List Str:= ["world","client","tries"]
abbrev Lb:List Str:= ["world","client","tries"]
theorem WX:aC aaY Lb (ay C9):=⟨rfl,rfl,rfl,by decide +kernel,rfl,by decide +kernel,by decide +kernel⟩
abbrev gG:Stmt:=top 33
abbrev Hd:List Str:= ["world","client","tries"]
abbrev kS:List Str:= ["world","client","tries"]
theorem EW:aC Hd kS (ay gG):=⟨rfl,rfl,rfl,by decide +kernel,rfl,by decide +kernel,by decide +kernel⟩
abbrev l9:Stmt:=top 34
abbrev Pa:List Str:= ["world","client"]
abbrev tU:List Str:= ["world","client"]
theorem MO:aC Pa tU (ay l9):=⟨rfl,rfl,rfl,by decide +kernel,rfl,by decide +kernel,by decide +kernel⟩
abbrev wB:Stmt:=top 35
abbrev WY:List Str:= ["client"]
abbrev EX:List Str:= ["client"]
theorem Tx:aC WY EX (ay wB):=⟨rfl,rfl,rfl,by decide +kernel,rfl,by decide +kernel,by decide +kernel⟩
abbrev qo:Stmt:=top 36
abbrev Tz:List Str:= ["world","client","phase","server","limit","pause"]
abbrev y9:List Str:= ["world","client","phase","server","limit"]
theorem He:aC Tz y9 (ay qo):=⟨rfl,rfl,rfl,by decide +kernel,rfl,by decide +kernel,by decide +kernel⟩
abbrev Dc:Stmt:=top 37
abbrev aaZ:List Str:= ["world","client"]
abbrev Lc:List Str:= ["world","client"]
theorem WZ:aC aaZ Lc (ay Dc):=⟨rfl,rfl,rfl,by decide +kernel,rfl,by decide +kernel,by decide +kernel⟩
abbrev fk:Stmt:=top 38
abbrev BN:List Str:= ["world","client"]
abbrev iL:List Str:= ["world","client"]
theorem zQ:aC BN iL (ay fk):=⟨rfl,rfl,rfl,by decide +kernel,rfl,by decide +kernel,by decide +kernel⟩
abbrev fM:Stmt:=top 39
abbrev EY:List Str:= ["world","client"]
abbrev jB:List Str:= ["world","client"]
theorem BO:aC EY jB (ay fM):=⟨rfl,rfl,rfl,by decide +kernel,rfl,by decide +kernel,by decide +kernel⟩
abbrev eR:Stmt:=top 40
abbrev oK:List Str:= ["world","until","waiting","dues","acts","earliest","first","host","client"]
abbrev kT:List Str:= ["world","until"]
theorem cY:aC oK kT (ay eR):=⟨rfl,rfl,rfl,by decide +kernel,rfl,by decide +kernel,by decide +kernel⟩
abbrev wC:Stmt:=top 41
abbrev W0:List Str:= ["world","client","message"]
abbrev EZ:List Str:= ["world","client","message"]
theorem TB:aC W0 EZ (ay wC):=⟨rfl,rfl,rfl,by decide +kernel,rfl,by decide +kernel,by decide +kernel⟩
abbrev fN:Stmt:=top 42
abbrev E1:List Str:= ["client","message"]
abbrev jC:List Str:= ["client","message"]
theorem BP:aC E1 jC (ay fN):=⟨rfl,rfl,rfl,by decide +kernel,rfl,by decide +kernel,by decide +kernel⟩
abbrev gH:Stmt:=top 43
abbrev Hf:List Str:= ["message","best"]
abbrev kU:List Str:= ["message","best"]
theorem E2:aC Hf kU (ay gH):=⟨rfl,rfl,rfl,by decide +kernel,rfl,by decide +kernel,by decide +kernel⟩
abbrev iq:Stmt:=top 44
abbrev JI:List Str:= ["world","client","message","end","half","late"]
abbrev kx:List Str:= ["world","client","message"]
theorem kX:aC JI kx (ay iq):=⟨rfl,rfl,rfl,by decide +kernel,rfl,by decide +kernel,by decide +kernel⟩
abbrev fP:Stmt:=top 45
abbrev E3:List Str:= ["client","message"]
abbrev jD:List Str:= ["client","message"]
theorem BQ:aC E3 jD (ay fP):=⟨rfl,rfl,rfl,by decide +kernel,rfl,by decide +kernel,by decide +kernel⟩
abbrev fQ:Stmt:=top 47
abbrev E4:List Str:= ["world","k","message"]
abbrev jE:List Str:= ["world","k"]
theorem qZ:aC E4 jE (ay fQ):=⟨rfl,rfl,rfl,by decide +kernel,rfl,by decide +kernel,by decide +kernel⟩
abbrev md:Stmt:=top 48
abbrev Pb:List Str:= ["world","message","place","hops","marks"]
abbrev tV:List Str:= ["world","message","place","hops","marks"]
theorem MP:aC Pb tV (ay md):=⟨rfl,rfl,rfl,by decide +kernel,rfl,by decide +kernel,by decide +kernel⟩
abbrev j6:Stmt:=top 49
abbrev MQ:List Str:= ["world","message","here","relay","hops","marks","server"]
abbrev qp:List Str:= ["world","message"]
theorem ir:aC MQ qp (ay j6):=⟨rfl,rfl,rfl,by decide +kernel,rfl,by decide +kernel,by decide +kernel⟩
abbrev qr:Stmt:=top 50
abbrev TC:List Str:= ["world","message","server","oldest","assigned"]
abbrev za:List Str:= ["world","message"]
theorem tW:aC TC za (ay qr):=⟨rfl,rfl,rfl,by decide +kernel,rfl,by decide +kernel,by decide +kernel⟩
abbrev eG:Stmt:=top 51
abbrev zR:List Str:= ["world","message","assigned"]
abbrev gW:List Str:= ["world","message","assigned"]
theorem yQ:aC zR gW (ay eG):=⟨rfl,rfl,rfl,by decide +kernel,rfl,by decide +kernel,by decide +kernel⟩
abbrev fR:Stmt:=top 52
abbrev E5:List Str:= ["world","message","length","key","end"]
abbrev jF:List Str:= ["world","message","length"]
theorem lG:aC E5 jF (ay fR):=⟨rfl,rfl,rfl,by decide +kernel,rfl,by decide +kernel,by decide +kernel⟩
abbrev me:Stmt:=top 53
abbrev Pc:List Str:= ["world","message","kind","address","length"]
abbrev tX:List Str:= ["world","message","kind","address","length"]
theorem MR:aC Pc tX (ay me):=⟨rfl,rfl,rfl,by decide +kernel,rfl,by decide +kernel,by decide +kernel⟩
abbrev gI:Stmt:=top 54
abbrev Hg:List Str:= ["world","message","relay","mark","place"]
abbrev kY:List Str:= ["world","message"]
theorem gX:aC Hg kY (ay gI):=⟨rfl,rfl,rfl,by decide +kernel,rfl,by decide +kernel,by decide +kernel⟩
abbrev iu:Stmt:=top 55
abbrev JJ:List Str:= ["world","message","client"]
abbrev mK:List Str:= ["world","message"]
theorem xw:aC JJ mK (ay iu):=⟨rfl,rfl,rfl,by decide +kernel,rfl,by decide +kernel,by decide +kernel⟩
abbrev j7:Stmt:=top 60
abbrev MS:List Str:= ["value","instead"]
abbrev qt:List Str:= ["value","instead"]
theorem JK:aC MS qt (ay j7):=⟨rfl,rfl,rfl,by decide +kernel,rfl,by decide +kernel,by decide +kernel⟩
abbrev gJ:Stmt:=top 61
abbrev Hh:List Str:= ["pairs","row","pair"]
abbrev fA:List Str:= ["pairs"]
theorem mL:aC Hh fA (ay gJ):=⟨rfl,rfl,rfl,by decide +kernel,rfl,by decide +kernel,by decide +kernel⟩
abbrev fm:Stmt:=top 62
abbrev BR:List Str:= ["message","row"]
abbrev iM:List Str:= ["message"]
theorem oM:aC BR iM (ay fm):=⟨rfl,rfl,rfl,by decide +kernel,rfl,by decide +kernel,by decide +kernel⟩
abbrev fS:Stmt:=top 63
abbrev E6:List Str:= ["client","row"]
abbrev jG:List Str:= ["client"]
theorem rf:aC E6 jG (ay fS):=⟨rfl,rfl,rfl,by decide +kernel,rfl,by decide +kernel,by decide +kernel⟩
abbrev eV:Stmt:=top 64
abbrev tY:List Str:= ["world","server","host","key","end"]
abbrev jH:List Str:= ["world","server","host"]
theorem iN:aC tY jH (ay eV):=⟨rfl,rfl,rfl,by decide +kernel,rfl,by decide +kernel,by decide +kernel⟩
abbrev j8:Stmt:=top 65
abbrev MT:List Str:= ["world","relay","circuit","marks","at"]
abbrev qu:List Str:= ["world","relay","circuit"]
theorem mM:aC MT qu (ay j8):=⟨rfl,rfl,rfl,by decide +kernel,rfl,by decide +kernel,by decide +kernel⟩
abbrev dv:Stmt:=top 71
abbrev nZ:List Str:= ["world","relay","circuit","client"]
abbrev gw:List Str:= ["world","relay","circuit"]
theorem iw:aC nZ gw (ay dv):=⟨rfl,rfl,rfl,by decide +kernel,rfl,by decide +kernel,by decide +kernel⟩
abbrev gL:Stmt:=top 72
abbrev Hi:List Str:= ["world","numbers","parent","circuit","new"]
abbrev kZ:List Str:= ["world","numbers"]
theorem jI:aC Hi kZ (ay gL):=⟨rfl,rfl,rfl,by decide +kernel,rfl,by decide +kernel,by decide +kernel⟩
abbrev wD:Stmt:=top 73
abbrev W2:List Str:= ["world","numbers","host","where","client"]
abbrev E7:List Str:= ["world","numbers"]
theorem tZ:aC W2 E7 (ay wD):=⟨rfl,rfl,rfl,by decide +kernel,rfl,by decide +kernel,by decide +kernel⟩
abbrev mf:Stmt:=top 74
abbrev Pd:List Str:= ["world","numbers","client"]
abbrev ua:List Str:= ["world","numbers"]
theorem Dd:aC Pd ua (ay mf):=⟨rfl,rfl,rfl,by decide +kernel,rfl,by decide +kernel,by decide +kernel⟩
abbrev j9:Stmt:=top 75
abbrev MU:List Str:= ["world","numbers","client"]
abbrev qv:List Str:= ["world","numbers"]
theorem zT:aC MU qv (ay j9):=⟨rfl,rfl,rfl,by decide +kernel,rfl,by decide +kernel,by decide +kernel⟩
abbrev iy:Stmt:=top 76
abbrev JL:List Str:= ["world","numbers","client"]
abbrev mN:List Str:= ["world","numbers"]
theorem xx:aC JL mN (ay iy):=⟨rfl,rfl,rfl,by decide +kernel,rfl,by decide +kernel,by decide +kernel⟩
abbrev mh:Stmt:=top 77
abbrev Pe:List Str:= ["world","numbers","client"]
abbrev ub:List Str:= ["world","numbers"]
theorem De:aC Pe ub (ay mh):=⟨rfl,rfl,rfl,by decide +kernel,rfl,by decide +kernel,by decide +kernel⟩
abbrev mj:Stmt:=top 78
abbrev Pf:List Str:= ["world","numbers","key"]
abbrev uc:List Str:= ["world","numbers"]
theorem Df:aC Pf uc (ay mj):=⟨rfl,rfl,rfl,by decide +kernel,rfl,by decide +kernel,by decide +kernel⟩
abbrev iz:Stmt:=top 79
abbrev JM:List Str:= ["world","numbers","key"]
abbrev mP:List Str:= ["world","numbers"]
theorem xy:aC JM mP (ay iz):=⟨rfl,rfl,rfl,by decide +kernel,rfl,by decide +kernel,by decide +kernel⟩
abbrev wF:Stmt:=top 80
abbrev W3:List Str:= ["world","numbers"]
abbrev E8:List Str:= ["world","numbers"]
theorem TF:aC W3 E8 (ay wF):=⟨rfl,rfl,rfl,by decide +kernel,rfl,by decide +kernel,by decide +kernel⟩
abbrev wG:Stmt:=top 81
abbrev W4:List Str:= ["world","numbers","until","acts"]
abbrev E9:List Str:= ["world","numbers"]
theorem Fb:aC W4 E9 (ay wG):=⟨rfl,rfl,rfl,by decide +kernel,rfl,by decide +kernel,by decide +kernel⟩
abbrev ka:Stmt:=top 82
abbrev MV:List Str:= ["world"]
abbrev qw:List Str:= ["world"]
theorem JN:aC MV qw (ay ka):=⟨rfl,rfl,rfl,by decide +kernel,rfl,by decide +kernel,by decide +kernel⟩
abbrev ke:Stmt:=top 83
abbrev MW:List Str:= ["world","numbers","left","row","message","told"]
abbrev qx:List Str:= ["world","numbers"]
theorem kz:aC MW qx (ay ke):=⟨rfl,rfl,rfl,by decide +kernel,rfl,by decide +kernel,by decide +kernel⟩
abbrev wH:Stmt:=top 84
abbrev W5:List Str:= ["world","numbers"]
abbrev Fc:List Str:= ["world","numbers"]
theorem TH:aC W5 Fc (ay wH):=⟨rfl,rfl,rfl,by decide +kernel,rfl,by decide +kernel,by decide +kernel⟩
abbrev ml:Stmt:=top 85
abbrev Pg:List Str:= ["world","numbers"]
abbrev ud:List Str:= ["world","numbers"]
theorem MX:aC Pg ud (ay ml):=⟨rfl,rfl,rfl,by decide +kernel,rfl,by decide +kernel,by decide +kernel⟩
abbrev wI:Stmt:=top 86
abbrev W6:List Str:= ["world","numbers","delivered"]
abbrev Fd:List Str:= ["world","numbers"]
theorem Fe:aC W6 Fd (ay wI):=⟨rfl,rfl,rfl,by decide +kernel,rfl,by decide +kernel,by decide +kernel⟩
abbrev mQ:Stmt:=top 87
abbrev Ld:List Str:= ["world","numbers","where","client","server","marks","at"]
abbrev zb:List Str:= ["world","numbers"]
theorem mn:aC Ld zb (ay mQ):=⟨rfl,rfl,rfl,by decide +kernel,rfl,by decide +kernel,by decide +kernel⟩
abbrev fo:Stmt:=top 88
abbrev BS:List Str:= ["world","numbers","client"]
abbrev iO:List Str:= ["world","numbers"]
theorem oN:aC BS iO (ay fo):=⟨rfl,rfl,rfl,by decide +kernel,rfl,by decide +kernel,by decide +kernel⟩
abbrev eI:Stmt:=top 89
abbrev zU:List Str:= ["world","numbers"]
abbrev gY:List Str:= ["world","numbers"]
theorem yR:aC zU gY (ay eI):=⟨rfl,rfl,rfl,by decide +kernel,rfl,by decide +kernel,by decide +kernel⟩
abbrev wJ:Stmt:=top 90
abbrev W7:List Str:= ["world","numbers"]
abbrev Ff:List Str:= ["world","numbers"]
theorem TJ:aC W7 Ff (ay wJ):=⟨rfl,rfl,rfl,by decide +kernel,rfl,by decide +kernel,by decide +kernel⟩
abbrev gM:Stmt:=top 91
abbrev Hj:List Str:= ["world","numbers"]
abbrev k0:List Str:= ["world","numbers"]
theorem Fg:aC Hj k0 (ay gM):=⟨rfl,rfl,rfl,by decide +kernel,rfl,by decide +kernel,by decide +kernel⟩
abbrev fB:Stmt:=top 92
abbrev xB:List Str:= ["world","numbers","client"]
abbrev k7:List Str:= ["world","numbers"]
theorem mR:aC xB k7 (ay fB):=⟨rfl,rfl,rfl,by decide +kernel,rfl,by decide +kernel,by decide +kernel⟩
abbrev fT:Stmt:=top 93
abbrev Fh:List Str:= ["world","numbers"]
abbrev jJ:List Str:= ["world","numbers"]
theorem BU:aC Fh jJ (ay fT):=⟨rfl,rfl,rfl,by decide +kernel,rfl,by decide +kernel,by decide +kernel⟩
abbrev mq:Stmt:=top 95
abbrev Ph:List Str:= ["world","place","numbers"]
abbrev ue:List Str:= ["world","place","numbers"]
theorem MY:aC Ph ue (ay mq):=⟨rfl,rfl,rfl,by decide +kernel,rfl,by decide +kernel,by decide +kernel⟩
abbrev fU:Stmt:=top 100
abbrev Fi:List Str:= ["world","name","number"]
abbrev jK:List Str:= ["world","name","number"]
theorem BV:aC Fi jK (ay fU):=⟨rfl,rfl,rfl,by decide +kernel,rfl,by decide +kernel,by decide +kernel⟩
abbrev fC:Stmt:=top 101
abbrev xC:List Str:= ["world","further","number"]
abbrev k8:List Str:= ["world","further"]
theorem mS:aC xC k8 (ay fC):=⟨rfl,rfl,rfl,by decide +kernel,rfl,by decide +kernel,by decide +kernel⟩
abbrev fq:Stmt:=top 102
abbrev BW:List Str:= ["world","place","numbers","name","number"]
abbrev iP:List Str:= ["world","place","numbers"]
theorem kC:aC BW iP (ay fq):=⟨rfl,rfl,rfl,by decide +kernel,rfl,by decide +kernel,by decide +kernel⟩
abbrev fu:Stmt:=top 105
abbrev BX:List Str:= ["calls","split","at","numbers"]
abbrev iQ:List Str:= ["calls"]
theorem fD:aC BX iQ (ay fu):=⟨rfl,rfl,rfl,by decide +kernel,rfl,by decide +kernel,by decide +kernel⟩
abbrev wK:Stmt:=top 106
abbrev W8:List Str:= ["world","place","numbers"]
abbrev zV:List Str:= ["world","place","numbers"]
theorem TK:aC W8 zV (ay wK):=⟨rfl,rfl,rfl,by decide +kernel,rfl,by decide +kernel,by decide +kernel⟩
abbrev kf:Stmt:=top 107
abbrev MZ:List Str:= ["calls","world","given","place","numbers","played"]
abbrev qy:List Str:= ["calls"]
theorem gD:aC MZ qy (ay kf):=⟨rfl,rfl,rfl,by decide +kernel,rfl,by decide +kernel,by decide +kernel⟩
structure jL where
 b0:Addr
 aN:Addr
 aR:Addr
 a9:Addr
 cZ:Addr
 jM:FuncData
 cu:Addr
 gZ:FuncData
 cF:Addr
 iR:FuncData
 da:Addr
 jN:FuncData
 uf:Addr
 Le:FuncData
 mT:Addr
 Fj:FuncData
 fV:Addr
 qz:FuncData
 mV:Addr
 Fl:FuncData
 ug:Addr
 Lf:FuncData
 d9:Addr
 k9:FuncData
 g9:Addr
 uh:FuncData
 mW:Addr
 Fm:FuncData
 jO:Addr
 zc:FuncData
 ui:Addr
 Lg:FuncData
 de:Addr
 iS:FuncData
 dE:Addr
 jP:FuncData
 ee:Addr
 lg:FuncData
 mX:Addr
 Fn:FuncData
 dF:Addr
 jQ:FuncData
 ef:Addr
 lh:FuncData
 eC:Addr
 kE:FuncData
 dG:Addr
 jR:FuncData
 dH:Addr
 jS:FuncData
 hC:Addr
 uj:FuncData
 fW:Addr
 qA:FuncData
 jT:Addr
 zd:FuncData
 cH:Addr
 hJ:FuncData
 dI:Addr
 jU:FuncData
 hR:Addr
 uk:FuncData
 eh:Addr
 lj:FuncData
 eX:Addr
 mY:FuncData
 fX:Addr
 qB:FuncData
 cI:Addr
 fE:FuncData
 df:Addr
 iT:FuncData
 dJ:Addr
 jV:FuncData
 dM:Addr
 jW:FuncData
 fY:Addr
 qC:FuncData
 cy:Addr
 gy:FuncData
 cz:Addr
 ll:FuncData
 iA:Addr
 Fo:FuncData
 eJ:Addr
 um:FuncData
 dS:Addr
 qD:FuncData
 cR:Addr
 mZ:FuncData
 eK:Addr
 uo:FuncData
 f_assign:Addr
 uq:FuncData
 cS:Addr
 m3:FuncData
 iB:Addr
 Fp:FuncData
 iC:Addr
 Fq:FuncData
 fZ:Addr
 qE:FuncData
 dU:Addr
 qF:FuncData
 iD:Addr
 Fs:FuncData
 eM:Addr
 ur:FuncData
 iE:Addr
 Ft:FuncData
 f6:Addr
 ze:FuncData
 bQ:Addr
 iU:FuncData
 bF:Addr
 hU:FuncData
 iF:Addr
 Fu:FuncData
 cA:Addr
 lp:FuncData
 cB:Addr
 lq:FuncData
 cb:Addr
 jX:FuncData
 hW:Addr
 uu:FuncData
 dN:Addr
 jY:FuncData
 ej:Addr
 lr:FuncData
 dg:Addr
 iV:FuncData
 dh:Addr
 iW:FuncData
 lH:Addr
 zW:FuncData
 f7:Addr
 kg:FuncData
 jZ:Addr
 f9:Addr
 eY:Addr
 eZ:Addr
 gz:Addr
 fg:Addr
 oO:Addr
 oP:Addr
 oQ:Addr
 oR:Addr
 oS:Addr
 oT:Addr
 oU:Addr
 oW:Addr
 oX:Addr
 m4:Addr
 m6:Addr
 m7:Addr
 m8:Addr
 m9:Addr
 ng:Addr
 dq:Addr
 gn:Addr
 iX:Addr
 iY:Addr
 iZ:Addr
 i4:Addr
 i5:Addr
 i6:Addr
 i7:Addr
 i8:Addr
 i9:Addr
 ja:Addr
 jb:Addr
 jc:Addr
 jd:Addr
 je:Addr
 jf:Addr
 jg:Addr
 jh:Addr
 ji:Addr
 jj:Addr
 jk:Addr
 jl:Addr
structure Txt (K:Frag) (mg:Str→Option Value) (t:jL):Prop where
 Fv:mg "Relay"=some (.ref t.b0)
 cj:OC K t.b0
 bf:bK K t.b0 "parent"
 cf:bK K t.b0 "circuit"
 eN:bK K t.b0 "limit"
 mr:mg "Message"=some (.ref t.aN)
 au:OC K t.aN
 aG:bK K t.aN "place"
 bO:bK K t.aN "host"
 cn:bK K t.aN "number"
 bP:bK K t.aN "kind"
 ba:bK K t.aN "server"
 bh:bK K t.aN "address"
 bq:bK K t.aN "length"
 bD:bK K t.aN "hops"
 aY:bK K t.aN "marks"
 Hl:mg "Client"=some (.ref t.aR)
 aq:OC K t.aR
 fF:bK K t.aR "host"
 aX:bK K t.aR "plugged"
 aJ:bK K t.aR "phase"
 bI:bK K t.aR "counter"
 bS:bK K t.aR "awaited"
 cw:bK K t.aR "sent"
 aZ:bK K t.aR "tries"
 bx:bK K t.aR "due"
 bj:bK K t.aR "offer"
 aO:bK K t.aR "lease"
 Lh:mg "World"=some (.ref t.a9)
 aw:OC K t.a9
 bb:bK K t.a9 "now"
 bR:bK K t.a9 "servers"
 gb:bK K t.a9 "cap"
 bE:bK K t.a9 "relays"
 bV:bK K t.a9 "hung"
 aA:bK K t.a9 "clients"
 dW:bK K t.a9 "resting"
 br:bK K t.a9 "assigned"
 cT:bK K t.a9 "written"
 bu:bK K t.a9 "bag"
 iG:t.b0≠t.aN
 gA:t.b0≠t.aR
 hX:t.b0≠t.a9
 fw:t.aN≠t.aR
 gf:t.aN≠t.a9
 gB:t.aR≠t.a9
 oY:Mk K t.b0 t.cZ
 uv:fz K "__init__" "Relay.__init__" fK t.cZ t.jM
 nh:Binds K t.jM jz []
 gE:Mk K t.aN t.cu
 oZ:fz K "__init__" "Message.__init__" eF t.cu t.gZ
 fG:Binds K t.gZ gU []
 qG:Mk K t.aR t.cF
 rg:fz K "__init__" "Client.__init__" fj t.cF t.iR
 rh:Binds K t.iR iK []
 uw:Mk K t.a9 t.da
 ux:fz K "__init__" "World.__init__" fL t.da t.jN
 uz:Binds K t.jN jA []
 zX:fz K "put" "put" C8 t.uf t.Le
 Dg:mg "put"=some (.ref t.uf)
 Dh:Binds K t.Le K9 []
 wL:fz K "send" "send" wz t.mT t.Fj
 zY:mg "send"=some (.ref t.mT)
 zZ:Binds K t.Fj EU []
 mv:fz K "wait_of" "wait_of" j5 t.fV t.qz
 qH:mg "wait_of"=some (.ref t.fV)
 qI:Binds K t.qz qm []
 sU:fz K "seek" "seek" wA t.mV t.Fl
 wM:mg "seek"=some (.ref t.mV)
 wN:Binds K t.Fl EV []
 Li:fz K "ask" "ask" C9 t.ug t.Lf
 Pj:mg "ask"=some (.ref t.ug)
 Pk:Binds K t.Lf Lb []
 lu:fz K "come_back" "come_back" gG t.d9 t.k9
 o3:mg "come_back"=some (.ref t.d9)
 o4:Binds K t.k9 kS []
 uA:fz K "settle" "settle" l9 t.g9 t.uh
 z0:mg "settle"=some (.ref t.g9)
 z6:Binds K t.uh tU []
 JO:fz K "bind" "bind" wB t.mW t.Fm
 Pl:mg "bind"=some (.ref t.mW)
 Pn:Binds K t.Fm EX []
 zf:fz K "renew" "renew" qo t.jO t.zc
 Fw:mg "renew"=some (.ref t.jO)
 Fx:Binds K t.zc y9 []
 Po:fz K "act" "act" Dc t.ui t.Lg
 Vq:mg "act"=some (.ref t.ui)
 Vr:Binds K t.Lg Lc []
 lI:fz K "act_seeking" "act_seeking" fk t.de t.iS
 rj:mg "act_seeking"=some (.ref t.de)
 rk:Binds K t.iS iL []
 ni:fz K "act_asking" "act_asking" fM t.dE t.jP
 uB:mg "act_asking"=some (.ref t.dE)
 uC:Binds K t.jP jB []
 o5:fz K "act_until" "act_until" eR t.ee t.lg
 xD:mg "act_until"=some (.ref t.ee)
 xE:Binds K t.lg kT []
 JP:fz K "hear" "hear" wC t.mX t.Fn
 Pp:mg "hear"=some (.ref t.mX)
 Pq:Binds K t.Fn EZ []
 nj:fz K "hear_offer" "hear_offer" fN t.dF t.jQ
 uD:mg "hear_offer"=some (.ref t.dF)
 uE:Binds K t.jQ jC []
 o6:fz K "is_better" "is_better" gH t.ef t.lh
 xF:mg "is_better"=some (.ref t.ef)
 xG:Binds K t.lh kU []
 sV:fz K "hear_yes" "hear_yes" iq t.eC t.kE
 z7:mg "hear_yes"=some (.ref t.eC)
 z9:Binds K t.kE kx []
 nk:fz K "is_fitting" "is_fitting" fP t.dG t.jR
 uF:mg "is_fitting"=some (.ref t.dG)
 uG:Binds K t.jR jD []
 j0:fz K "deliver_at" "deliver_at" fQ t.dH t.jS
 nq:mg "deliver_at"=some (.ref t.dH)
 nt:Binds K t.jS jE []
 o7:fz K "put_on" "put_on" md t.hC t.uj
 uH:mg "put_on"=some (.ref t.hC)
 uI:Binds K t.uj tV []
 wO:fz K "hand_up" "hand_up" j6 t.fW t.qA
 Di:mg "hand_up"=some (.ref t.fW)
 Dj:Binds K t.qA qp []
 Fy:fz K "serve" "serve" qr t.jT t.zd
 Lj:mg "serve"=some (.ref t.jT)
 Lk:Binds K t.zd za []
 kF:fz K "serve_asking" "serve_asking" eG t.cH t.hJ
 o8:mg "serve_asking"=some (.ref t.cH)
 o9:Binds K t.hJ gW []
 nv:fz K "write_down" "write_down" fR t.dI t.jU
 uJ:mg "write_down"=some (.ref t.dI)
 uK:Binds K t.jU jF []
 mw:fz K "answer" "answer" me t.hR t.uk
 pb:mg "answer"=some (.ref t.hR)
 pd:Binds K t.uk tX []
 pf:fz K "hand_down" "hand_down" gI t.eh t.lj
 xH:mg "hand_down"=some (.ref t.eh)
 xI:Binds K t.lj kY []
 sW:fz K "come_out" "come_out" iu t.eX t.mY
 Aa:mg "come_out"=some (.ref t.eX)
 Ab:Binds K t.mY mK []
 iH:fz K "or_else" "or_else" j7 t.fX t.qB
 kh:mg "or_else"=some (.ref t.fX)
 kj:Binds K t.qB qt []
 jo:fz K "pairs_row" "pairs_row" gJ t.cI t.fE
 lx:mg "pairs_row"=some (.ref t.cI)
 ly:Binds K t.fE fA []
 jm:fz K "message_row" "message_row" fm t.df t.iT
 lJ:mg "message_row"=some (.ref t.df)
 lK:Binds K t.iT iM []
 ny:fz K "client_row" "client_row" fS t.dJ t.jV
 uL:mg "client_row"=some (.ref t.dJ)
 uM:Binds K t.jV jG []
 nB:fz K "written_of" "written_of" eV t.dM t.jW
 uN:mg "written_of"=some (.ref t.dM)
 uP:Binds K t.jW jH []
 wQ:fz K "path_of" "path_of" j8 t.fY t.qC
 Dk:mg "path_of"=some (.ref t.fY)
 Dl:Binds K t.qC qu []
 jt:fz K "is_plugged_at" "is_plugged_at" dv t.cy t.gy
 n6:mg "is_plugged_at"=some (.ref t.cy)
 og:Binds K t.gy gw []
 pj:fz K "add_relay" "add_relay" gL t.cz t.ll
 Hm:mg "add_relay"=some (.ref t.cz)
 xJ:Binds K t.ll kZ []
 JQ:fz K "plug" "plug" wD t.iA t.Fo
 W9:mg "plug"=some (.ref t.iA)
 Pr:Binds K t.Fo E7 []
 Ac:fz K "unplug" "unplug" mf t.eJ t.um
 Pt:mg "unplug"=some (.ref t.eJ)
 Hn:Binds K t.um ua []
 wR:fz K "turn_on" "turn_on" j9 t.dS t.qD
 M0:mg "turn_on"=some (.ref t.dS)
 Dm:Binds K t.qD qv []
 sX:fz K "turn_off" "turn_off" iy t.cR t.mZ
 JR:mg "turn_off"=some (.ref t.cR)
 Ae:Binds K t.mZ mN []
 Af:fz K "forget" "forget" mh t.eK t.uo
 Pu:mg "forget"=some (.ref t.eK)
 Ho:Binds K t.uo ub []
 Ag:fz K "assign" "assign" mj t.f_assign t.uq
 Pw:mg "assign"=some (.ref t.f_assign)
 Hq:Binds K t.uq uc []
 sY:fz K "withdraw" "withdraw" iz t.cS t.m3
 JS:mg "withdraw"=some (.ref t.cS)
 Ah:Binds K t.m3 mP []
 JT:fz K "rest" "rest" wF t.iB t.Fp
 Xa:mg "rest"=some (.ref t.iB)
 Px:Binds K t.Fp E8 []
 JU:fz K "tick" "tick" wG t.iC t.Fq
 Xb:mg "tick"=some (.ref t.iC)
 Py:Binds K t.Fq E9 []
 qJ:fz K "is_full" "is_full" ka t.fZ t.qE
 wU:mg "is_full"=some (.ref t.fZ)
 wV:Binds K t.qE qw []
 wW:fz K "deliver" "deliver" ke t.dU t.qF
 M3:mg "deliver"=some (.ref t.dU)
 Dn:Binds K t.qF qx []
 JV:fz K "lose" "lose" wH t.iD t.Fs
 Xc:mg "lose"=some (.ref t.iD)
 Pz:Binds K t.Fs Fc []
 Ai:fz K "double" "double" ml t.eM t.ur
 PB:mg "double"=some (.ref t.eM)
 Hr:Binds K t.ur ud []
 JW:fz K "flow" "flow" wI t.iE t.Ft
 Xd:mg "flow"=some (.ref t.iE)
 PD:Binds K t.Ft Fd []
 Fz:fz K "forge" "forge" mQ t.f6 t.ze
 TM:mg "forge"=some (.ref t.f6)
 Ll:Binds K t.ze zb []
 lL:fz K "tell_client" "tell_client" fo t.bQ t.iU
 BY:mg "tell_client"=some (.ref t.bQ)
 rm:Binds K t.iU iO []
 kG:fz K "tell_written" "tell_written" eI t.bF t.hU
 Aj:mg "tell_written"=some (.ref t.bF)
 pk:Binds K t.hU gY []
 JX:fz K "peek" "peek" wJ t.iF t.Fu
 Xe:mg "peek"=some (.ref t.iF)
 PF:Binds K t.Fu Ff []
 pq:fz K "tell_path" "tell_path" gM t.cA t.lp
 Hs:mg "tell_path"=some (.ref t.cA)
 xK:Binds K t.lp k0 []
 px:fz K "tell_next" "tell_next" fB t.cB t.lq
 Ht:mg "tell_next"=some (.ref t.cB)
 xM:Binds K t.lq k7 []
 nE:fz K "tell_state" "tell_state" fT t.cb t.jX
 FA:mg "tell_state"=some (.ref t.cb)
 uQ:Binds K t.jX jJ []
 Ak:fz K "row_of" "row_of" mq t.hW t.uu
 Hu:mg "row_of"=some (.ref t.hW)
 Hv:Binds K t.uu ue []
 j1:fz K "is_granted" "is_granted" fU t.dN t.jY
 nF:mg "is_granted"=some (.ref t.dN)
 nG:Binds K t.jY jK []
 pz:fz K "are_pairs" "are_pairs" fC t.ej t.lr
 xN:mg "are_pairs"=some (.ref t.ej)
 xO:Binds K t.lr k8 []
 lM:fz K "are_granted" "are_granted" fq t.dg t.iV
 rn:mg "are_granted"=some (.ref t.dg)
 rp:Binds K t.iV iP []
 lN:fz K "split_calls" "split_calls" fu t.dh t.iW
 rq:mg "split_calls"=some (.ref t.dh)
 rB:Binds K t.iW iQ []
 JY:fz K "play" "play" wK t.lH t.zW
 PH:mg "play"=some (.ref t.lH)
 PJ:Binds K t.zW zV []
 wX:fz K "answers" "answers" kf t.f7 t.kg
 Dq:mg "answers"=some (.ref t.f7)
 M4:Binds K t.kg qy []
 rC:∃u,mg "FIRST_LIMIT"=some u∧RelV (V.int 16) u
 PM:∃u,mg "UP"=some u∧RelV (V.int 0) u
 pB:∃u,mg "AT_SERVER"=some u∧RelV (V.int 1) u
 FC:∃u,mg "DOWN"=some u∧RelV (V.int 2) u
 Vs:∃u,mg "OUT"=some u∧RelV (V.int 3) u
 wY:∃u,mg "SEEKING"=some u∧RelV (V.int 1) u
 FD:∃u,mg "OFFER"=some u∧RelV (V.int 2) u
 pC:∃u,mg "ASKING"=some u∧RelV (V.int 3) u
 PN:∃u,mg "YES"=some u∧RelV (V.int 4) u
 Xf:∃u,mg "NO"=some u∧RelV (V.int 5) u
 Dr:∃u,mg "OFF"=some u∧RelV (V.int 0) u
 zg:∃u,mg "SEEKS"=some u∧RelV (V.int 1) u
 Al:∃u,mg "ASKS"=some u∧RelV (V.int 2) u
 Lm:∃u,mg "BOUND"=some u∧RelV (V.int 3) u
 uR:∃u,mg "RENEWS"=some u∧RelV (V.int 4) u
 nH:∃u,mg "ASKS_ALL"=some u∧RelV (V.int 5) u
 hZ:∃u,mg "COMES_BACK"=some u∧RelV (V.int 6) u
 Ln:mg "WAITS"=some (.ref t.jZ)
 Lo:∀H,bJ K H t.jZ [V.int 3,V.int 7,V.int 15,V.int 31,V.int 63,V.int 63,V.int 63,V.int 63,V.int 63,V.int 63,V.int 63]
 jq:∃u,mg "MOST_SEEKING_TRIES"=some u∧RelV (V.int 10) u
 lA:∃u,mg "LAST_ASKING_TRY"=some u∧RelV (V.int 3) u
 jr:∃u,mg "LAST_RETURNING_TRY"=some u∧RelV (V.int 2) u
 rD:∃u,mg "LEAST_PAUSE"=some u∧RelV (V.int 60) u
 Ds:mg "NOWHERE"=some (.ref t.f9)
 Dt:∀H,bJ K H t.f9 [V.int (-1),V.int (-1)]
 Am:mg "NO_OFFER"=some (.ref t.eY)
 An:∀H,bJ K H t.eY [V.int (-1),V.int 0,V.int 0]
 Ao:mg "NO_LEASE"=some (.ref t.eZ)
 Ap:∀H,bJ K H t.eZ [V.int (-1),V.int 0,V.int 0,V.int 0,V.int 0]
 rE:∃u,mg "MOST_RELAYS"=some u∧RelV (V.int 64) u
 pD:∃u,mg "MOST_CLIENTS"=some u∧RelV (V.int 64) u
 oh:∃u,mg "MOST_ASSIGNED"=some u∧RelV (V.int 128) u
 Hw:∃u,mg "LATEST"=some u∧RelV (V.int 1000000000000000) u
 Lp:mg "CALLS"=some (.ref t.gz)
 cM:DM K t.gz [(1,V.ref t.cz),(2,V.ref t.iA),(3,V.ref t.eJ),(4,V.ref t.dS),(5,V.ref t.cR),(6,V.ref t.eK),(7,V.ref t.f_assign),(8,V.ref t.cS),(9,V.ref t.iB),(10,V.ref t.iC),(11,V.ref t.dU),(12,V.ref t.iD),(13,V.ref t.eM),(14,V.ref t.iE),(15,V.ref t.f6),(16,V.ref t.bQ),(17,V.ref t.bF),(18,V.ref t.iF),(19,V.ref t.cA),(20,V.ref t.cB),(21,V.ref t.cb)]
 Aq:mg "RANGES"=some (.ref t.fg)
 dB:DMS K t.fg [("servers",V.ref t.oO),("cap",V.ref t.oP),("time",V.ref t.oQ),("circuit",V.ref t.oR),("limit",V.ref t.oS),("host",V.ref t.oT),("address",V.ref t.oU),("len",V.ref t.oW),("x",V.ref t.oX),("t",V.ref t.m4),("m",V.ref t.m6),("number",V.ref t.m7),("kind",V.ref t.m8),("hops",V.ref t.m9),("of a pair",V.ref t.ng)]
 xP:∀H,bJ K H t.oO [V.int 1,V.int 4]
 xQ:∀H,bJ K H t.oP [V.int 1,V.int 10000]
 xR:∀H,bJ K H t.oQ [V.int 0,V.int 1000000000000000]
 xS:∀H,bJ K H t.oR [V.int 0,V.int 4095]
 xT:∀H,bJ K H t.oS [V.int 1,V.int 16]
 xU:∀H,bJ K H t.oT [V.int 0,V.int 281474976710655]
 xV:∀H,bJ K H t.oU [V.int 0,V.int 4294967295]
 xW:∀H,bJ K H t.oW [V.int 1,V.int 1000000000]
 xX:∀H,bJ K H t.oX [V.int 0,V.int 1]
 uS:∀H,bJ K H t.m4 [V.int 0,V.int 20000]
 uT:∀H,bJ K H t.m6 [V.int 0,V.int 1000]
 uV:∀H,bJ K H t.m7 [V.int 1,V.int 1000000000000000000]
 uW:∀H,bJ K H t.m8 [V.int 1,V.int 5]
 uX:∀H,bJ K H t.m9 [V.int 0,V.int 16]
 uY:∀H,bJ K H t.ng [V.int 0,V.int 4095]
 pE:∃u,mg "MOST_FURTHER"=some u∧RelV (V.int 32) u
 wZ:mg "NUMBERS"=some (.ref t.dq)
 bA:DM K t.dq [(0,V.ref t.gn),(1,V.ref t.iX),(2,V.ref t.iY),(3,V.ref t.iZ),(4,V.ref t.i4),(5,V.ref t.i5),(6,V.ref t.i6),(7,V.ref t.i7),(8,V.ref t.i8),(9,V.ref t.i9),(10,V.ref t.ja),(11,V.ref t.jb),(12,V.ref t.jc),(13,V.ref t.jd),(14,V.ref t.je),(15,V.ref t.jf),(16,V.ref t.jg),(17,V.ref t.jh),(18,V.ref t.ji),(19,V.ref t.jj),(20,V.ref t.jk),(21,V.ref t.jl)]
 lO:∀H,bJ K H t.gn [V.str "servers",V.str "cap",V.str "time"]
 rF:∀H,bJ K H t.iX [V.str "relay",V.str "circuit",V.str "limit"]
 rG:∀H,bJ K H t.iY [V.str "host",V.str "relay",V.str "circuit"]
 rH:∀H,bJ K H t.iZ [V.str "host"]
 rJ:∀H,bJ K H t.i4 [V.str "host"]
 rK:∀H,bJ K H t.i5 [V.str "host"]
 rL:∀H,bJ K H t.i6 [V.str "host"]
 rM:∀H,bJ K H t.i7 [V.str "server",V.str "host",V.str "relay",V.str "address",V.str "len"]
 rN:∀H,bJ K H t.i8 [V.str "server",V.str "host",V.str "relay"]
 rP:∀H,bJ K H t.i9 [V.str "server",V.str "x"]
 rQ:∀H,bJ K H t.ja [V.str "t"]
 rR:∀H,bJ K H t.jb [V.str "k"]
 rS:∀H,bJ K H t.jc [V.str "k"]
 rT:∀H,bJ K H t.jd [V.str "k"]
 rV:∀H,bJ K H t.je [V.str "m"]
 rW:∀H,bJ K H t.jf [V.str "relay",V.str "circuit",V.str "host",V.str "number",V.str "kind",V.str "server or none",V.str "address",V.str "hops"]
 rX:∀H,bJ K H t.jg [V.str "host"]
 rY:∀H,bJ K H t.jh [V.str "server",V.str "host"]
 rZ:∀H,bJ K H t.ji [V.str "k"]
 r6:∀H,bJ K H t.jj [V.str "relay",V.str "circuit"]
 sf:∀H,bJ K H t.jk []
 si:∀H,bJ K H t.jl []
 Lq:∃u,mg "BEGIN"=some u∧RelV (V.int 0) u
 Lr:mg "all"=none
 Ls:mg "any"=none
 d6:mg "len"=none
 FE:mg "list"=none
 Hy:mg "max"=none
 xY:mg "min"=none
 uZ:mg "range"=none
 pF:mg "sorted"=none
 zh:mg "tuple"=none
 Lu:mg "zip"=none
theorem Xg {K:Frag}{h:Heap}{mg:Str→Option Value}(X:K.In h)(G:h.Ns mainGlobals mg)
  {b0 aN aR a9 cZ cu cF da uf mT fV mV ug d9 g9 mW jO ui de dE ee mX dF ef eC dG dH hC fW jT cH dI hR eh eX fX cI df dJ dM fY cy cz iA eJ dS cR eK f_assign cS iB iC fZ dU iD eM iE f6 bQ bF iF cA cB cb hW dN ej dg dh lH f7 jZ f9 eY eZ gz fg b1 b2 b3 b4 b5 b6 b7 b8 b9 b10 b11 b12 b13 b14 b15 dq b16 b17 b18 b19 b20 b21 b22 b23 b24 b25 b26 b27 b28 b29 b30 b31 b32 b33 b34 b35 b36 b37:Addr}{sl1 sl2 sl3 sl4 sl5 sl6 sl7 sl8 sl9 ajq ajr ajs ajt aju ajv ajw ajx ajy ajz ajA ajB ajC ajD ajE ajF ajG ajH ajI ajJ ajK ajL ajM ajN ajO ajP ajQ ajR ajS ajT ajU ajV ajW ajX ajY ajZ aj0 aj1 aj2 aj3 aj4 aj5 aj6 aj7 aj8 aj9 aka akb akc akd ake akf akg akh aki akj akk akl akm akn ako akp akq akr aks akt aku akv akw akx aky akz akA akB akC akD akE akF akG akH akI akJ akK akL akM akN akO akP akQ akR aa0 aa1 aa2 aa3 aa4 aa5 aa6 aa7 aa8:Array (Option Value)}{hh1 hh2 hh3 hh4 hh5 hh6 hh7 hh8 hh9 akU akV akW akX akY akZ:Int}{nn1 nn2 nn3 nn4 nn5 nn6 nn7 nn8 nn9 ak0 ak1 ak2 ak3 ak4 ak5 ak6 ak7 ak8 ak9 ala alb alc ald ale alf alg alh ali alj alk alm aln alo alp alq alr als alu alv alw alx aly alz alA:Nat}{od1 an1 od2 an2 od3 an3 od4 an4 od5 an5 od6 an6 od7 an7 od8 an8 od9 an9 alB aa9 alC aba alD abb alE abc alF abd alG abe alH abf alI abg alJ abh alK abi alL abj alM abk alN abl alO abm alP abn alQ abo alR abp alS abq alT abr alU abt alV abu alW abv alX abw alY abx alZ aby al0 abz al1 abA al2 abB al3 abC al4 abD al5 abE al6 abF al7 abG al8 abH al9 abI ama abJ amb abK amc abL amd abM ame abN amf abO amg abP amh abQ ami abR amj abS amk abT aml abU amm abV amn abW amo abX amq abY amr abZ ams ab0 amt ab1 amu ab2 amv ab3 amw ab4 amx ab5 dd1 dd2 dd3 dd4 dd5 dd6 dd7 dd8 dd9 amy amz amA amB amC amD amE amF amG amH amI amJ amK amL amM amN amO amP amQ amR amS amT amU amV amW amX amY amZ am0 am1 am2 am3:Option Addr}{t1 t2 t3 t4 t5 t6 t7 t8 t9 t10 t11 t12 t13 t14 t15 t16 t17 t18 t19 t20 t21 t22 t23 t24 t25 t26 t27 t28 t29 t30 t31 t32 t33 t34 t35 t36 t37 t38 t39 t40 t41 t42 t43 t44 t45 t46 t47 t48 t49 t50 t51 t52 t53 t54 t55 t56 t57 t58 t59 t60 t61 t62 t63 t64 t65 t66 t67 t68 t69 t70 t71 t72 t73 t74 t75 t76 t77 t78 t79 t80 t81 t82 t83 t84 t85 t86 t87 t88 t89 t90 t91 t92 t93 t94 t95 t96 t97 t98 t99 am4 am5 am6 am7 am8 am9 ana anb anc ane anf ang anh ani anj ank anl anm ano anp anq anr ans ant anu anv anw anx anz anA anB anC anD anE anF anG anH anI anJ anK anL anM anN anO anP anQ anR anS anT anU anV anW anY anZ an0 aoa aob aoc aod aoe aof aog aoh aoi aoj aok aol aom aon aoo aop aoq aor aos aot aou aov aow aox:Tok}{oc1 kV1 dc1 pm1 cd1 ct1 oc2 kV2 dc2 pm2 cd2 ct2 oc3 kV3 dc3 pm3 cd3 ct3 oc4 kV4 dc4 pm4 cd4 ct4 oc5 kV5 dc5 pm5 cd5 ct5 oc6 kV6 dc6 pm6 cd6 ct6 oc7 kV7 dc7 pm7 cd7 ct7 oc8 kV8 dc8 pm8 cd8 ct8 oc9 kV9 dc9 pm9 cd9 ct9 aoH ab6 ab7 ab8 Xh ab9 aoI aca acb acd Xi ace aoJ acf acg ach Xj aci aoK acj ack acm Xk acn aoL aco acp acq Xl acr aoM acs acu acv Xm acw aoN acx acy acz Xn acA aoO acB acC acD Xo acE aoP acF acG acH Xp acI aoQ acJ acK acL Xq acM aoR acN acO acP Xr acQ aoS acR acS acT Xs acU aoT acV acW acX Xu acY aoU acZ ac0 ac1 Xv ac2 aoV ac3 ac4 ac5 Xx ac6 aoW ac7 ac8 ac9 Xy ada aoX adb ade adf Xz adg aoY adh adi adj XA adk aoZ adl adm adn XB ado ao0 adp adq ads XC adt ao1 adu adv adw XD adx ao2 ady adz adA XE adB ao3 adC adD adE XF adF ao4 adG adH adI XG adJ ao5 adK adL adM XH adN ao6 adO adP adQ XI adR ao7 adS adT adU XJ adV ao8 adW adX adY XM adZ ao9 ad0 ad1 ad2 XN ad3 apa ad4 ad5 ad6 XO ad7 apb ad8 ad9 aea XQ aeb apc aec aed aee XR aef apd aeg aeh aei XS aej ape aek ael aem XT aen apf aeo aep aeq XU aer apg aes aet aeu XW aev aph aew aex aey XX aez api aeA aeB aeC XY aeD apj aeE aeF aeG XZ aeH apk aeI aeJ aeK X0 aeL apl aeM aeN aeO X1 aeP apm aeQ aeR aeS X2 aeT apn aeU aeV aeW X3 aeX apo aeY aeZ ae0 X4 ae1 apq ae2 ae3 ae4 X5 ae5 apr ae6 ae7 ae8 X6 ae9 aps afa afb afc X7 afd apt afe aff afg X8 afh apu afi afj afk X9 afl apv afm afn afo Yb afp apw afq afr afs Yc aft apx afu afv afw Yd afx apy afy afz afA Ye afB apz afC afD afE Yg afF apA afG afH afI Yh afJ apB afK afL afM Yi afN apC afO afP afQ Yj afR apD afS afT afU Yk afV:Value}
  (TN:nsIn K mainGlobals "Relay"=some (some (.ref b0)))
  (PQ:plainGet K b0 Str.empty=true)
  (PR:hasDictIn K b0=true)
  (PU:plainOver K b0=true)
  (PV:findIn K (.ref b0) "__setattr__"=some (some (.builtin "object.__setattr__")))
  (oY:makesIn K b0=true)
  (PX:keepIn K (.ref b0)=true)
  (bf:findIn K (.ref b0) "parent"=some none)
  (cf:findIn K (.ref b0) "circuit"=some none)
  (eN:findIn K (.ref b0) "limit"=some none)
  (M5:nsIn K mainGlobals "Message"=some (some (.ref aN)))
  (JZ:plainGet K aN Str.empty=true)
  (J0:hasDictIn K aN=true)
  (J1:plainOver K aN=true)
  (J2:findIn K (.ref aN) "__setattr__"=some (some (.builtin "object.__setattr__")))
  (gE:makesIn K aN=true)
  (J3:keepIn K (.ref aN)=true)
  (aG:findIn K (.ref aN) "place"=some none)
  (bO:findIn K (.ref aN) "host"=some none)
  (cn:findIn K (.ref aN) "number"=some none)
  (bP:findIn K (.ref aN) "kind"=some none)
  (ba:findIn K (.ref aN) "server"=some none)
  (bh:findIn K (.ref aN) "address"=some none)
  (bq:findIn K (.ref aN) "length"=some none)
  (bD:findIn K (.ref aN) "hops"=some none)
  (aY:findIn K (.ref aN) "marks"=some none)
  (PY:nsIn K mainGlobals "Client"=some (some (.ref aR)))
  (M6:plainGet K aR Str.empty=true)
  (M7:hasDictIn K aR=true)
  (M8:plainOver K aR=true)
  (M9:findIn K (.ref aR) "__setattr__"=some (some (.builtin "object.__setattr__")))
  (qG:makesIn K aR=true)
  (Na:keepIn K (.ref aR)=true)
  (fF:findIn K (.ref aR) "host"=some none)
  (aX:findIn K (.ref aR) "plugged"=some none)
  (aJ:findIn K (.ref aR) "phase"=some none)
  (bI:findIn K (.ref aR) "counter"=some none)
  (bS:findIn K (.ref aR) "awaited"=some none)
  (cw:findIn K (.ref aR) "sent"=some none)
  (aZ:findIn K (.ref aR) "tries"=some none)
  (bx:findIn K (.ref aR) "due"=some none)
  (bj:findIn K (.ref aR) "offer"=some none)
  (aO:findIn K (.ref aR) "lease"=some none)
  (TQ:nsIn K mainGlobals "World"=some (some (.ref a9)))
  (PZ:plainGet K a9 Str.empty=true)
  (P0:hasDictIn K a9=true)
  (P1:plainOver K a9=true)
  (P2:findIn K (.ref a9) "__setattr__"=some (some (.builtin "object.__setattr__")))
  (uw:makesIn K a9=true)
  (P4:keepIn K (.ref a9)=true)
  (bb:findIn K (.ref a9) "now"=some none)
  (bR:findIn K (.ref a9) "servers"=some none)
  (gb:findIn K (.ref a9) "cap"=some none)
  (bE:findIn K (.ref a9) "relays"=some none)
  (bV:findIn K (.ref a9) "hung"=some none)
  (aA:findIn K (.ref a9) "clients"=some none)
  (dW:findIn K (.ref a9) "resting"=some none)
  (br:findIn K (.ref a9) "assigned"=some none)
  (cT:findIn K (.ref a9) "written"=some none)
  (bu:findIn K (.ref a9) "bag"=some none)
  (FF:findIn K (.ref b0) "__init__"=some (some (.ref cZ)))
  (FG:isFn K (.ref cZ)=true)
  (u4:K.lookup cZ=some ⟨oc1,od1,.func (fO "__init__" "Relay.__init__" fK kV1 dc1 pm1 an1 cd1 ct1),sl1⟩)
  (u5:codeIn K cd1 "Relay.__init__"=true)
  (u6:keepIn K (.ref cZ)=true)
  (Ar:findIn K (.ref aN) "__init__"=some (some (.ref cu)))
  (As:isFn K (.ref cu)=true)
  (pG:K.lookup cu=some ⟨oc2,od2,.func (fO "__init__" "Message.__init__" eF kV2 dc2 pm2 an2 cd2 ct2),sl2⟩)
  (pH:codeIn K cd2 "Message.__init__"=true)
  (pI:keepIn K (.ref cu)=true)
  (BZ:findIn K (.ref aR) "__init__"=some (some (.ref cF)))
  (B0:isFn K (.ref cF)=true)
  (sj:K.lookup cF=some ⟨oc3,od3,.func (fO "__init__" "Client.__init__" fj kV3 dc3 pm3 an3 cd3 ct3),sl3⟩)
  (sk:codeIn K cd3 "Client.__init__"=true)
  (sm:keepIn K (.ref cF)=true)
  (FH:findIn K (.ref a9) "__init__"=some (some (.ref da)))
  (FI:isFn K (.ref da)=true)
  (u7:K.lookup da=some ⟨oc4,od4,.func (fO "__init__" "World.__init__" fL kV4 dc4 pm4 an4 cd4 ct4),sl4⟩)
  (u9:codeIn K cd4 "World.__init__"=true)
  (va:keepIn K (.ref da)=true)
  (afW:nsIn K mainGlobals "put"=some (some (.ref uf)))
  (Vt:K.lookup uf=some ⟨oc5,od5,.func (fO "put" "put" C8 kV5 dc5 pm5 an5 cd5 ct5),sl5⟩)
  (Vu:codeIn K cd5 "put"=true)
  (k_put:keepIn K (.ref uf)=true)
  (Yl:nsIn K mainGlobals "send"=some (some (.ref mT)))
  (P5:K.lookup mT=some ⟨oc6,od6,.func (fO "send" "send" wz kV6 dc6 pm6 an6 cd6 ct6),sl6⟩)
  (P6:codeIn K cd6 "send"=true)
  (P7:keepIn K (.ref mT)=true)
  (Nb:nsIn K mainGlobals "wait_of"=some (some (.ref fV)))
  (Du:K.lookup fV=some ⟨oc7,od7,.func (fO "wait_of" "wait_of" j5 kV7 dc7 pm7 an7 cd7 ct7),sl7⟩)
  (Dv:codeIn K cd7 "wait_of"=true)
  (Dx:keepIn K (.ref fV)=true)
  (Ym:nsIn K mainGlobals "seek"=some (some (.ref mV)))
  (P8:K.lookup mV=some ⟨oc8,od8,.func (fO "seek" "seek" wA kV8 dc8 pm8 an8 cd8 ct8),sl8⟩)
  (P9:codeIn K cd8 "seek"=true)
  (Qa:keepIn K (.ref mV)=true)
  (afX:nsIn K mainGlobals "ask"=some (some (.ref ug)))
  (Vv:K.lookup ug=some ⟨oc9,od9,.func (fO "ask" "ask" C9 kV9 dc9 pm9 an9 cd9 ct9),sl9⟩)
  (Vw:codeIn K cd9 "ask"=true)
  (Vx:keepIn K (.ref ug)=true)
  (Hz:nsIn K mainGlobals "come_back"=some (some (.ref d9)))
  (xZ:K.lookup d9=some ⟨aoH,alB,.func (fO "come_back" "come_back" gG ab6 ab7 ab8 aa9 Xh ab9),ajq⟩)
  (ya:codeIn K Xh "come_back"=true)
  (yb:keepIn K (.ref d9)=true)
  (Qb:nsIn K mainGlobals "settle"=some (some (.ref g9)))
  (HB:K.lookup g9=some ⟨aoI,alC,.func (fO "settle" "settle" l9 aca acb acd aba Xi ace),ajr⟩)
  (HC:codeIn K Xi "settle"=true)
  (HD:keepIn K (.ref g9)=true)
  (Yn:nsIn K mainGlobals "bind"=some (some (.ref mW)))
  (Qc:K.lookup mW=some ⟨aoJ,alD,.func (fO "bind" "bind" wB acf acg ach abb Xj aci),ajs⟩)
  (Qe:codeIn K Xj "bind"=true)
  (Qg:keepIn K (.ref mW)=true)
  (TR:nsIn K mainGlobals "renew"=some (some (.ref jO)))
  (Lv:K.lookup jO=some ⟨aoK,alE,.func (fO "renew" "renew" qo acj ack acm abc Xk acn),ajt⟩)
  (Lw:codeIn K Xk "renew"=true)
  (Lx:keepIn K (.ref jO)=true)
  (afY:nsIn K mainGlobals "act"=some (some (.ref ui)))
  (Vy:K.lookup ui=some ⟨aoL,alF,.func (fO "act" "act" Dc aco acp acq abd Xl acr),aju⟩)
  (Vz:codeIn K Xl "act"=true)
  (VA:keepIn K (.ref ui)=true)
  (B2:nsIn K mainGlobals "act_seeking"=some (some (.ref de)))
  (so:K.lookup de=some ⟨aoM,alG,.func (fO "act_seeking" "act_seeking" fk acs acu acv abe Xm acw),ajv⟩)
  (sq:codeIn K Xm "act_seeking"=true)
  (sr:keepIn K (.ref de)=true)
  (FJ:nsIn K mainGlobals "act_asking"=some (some (.ref dE)))
  (vc:K.lookup dE=some ⟨aoN,alH,.func (fO "act_asking" "act_asking" fM acx acy acz abf Xn acA),ajw⟩)
  (vd:codeIn K Xn "act_asking"=true)
  (ve:keepIn K (.ref dE)=true)
  (HE:nsIn K mainGlobals "act_until"=some (some (.ref ee)))
  (yc:K.lookup ee=some ⟨aoO,alI,.func (fO "act_until" "act_until" eR acB acC acD abg Xo acE),ajx⟩)
  (yd:codeIn K Xo "act_until"=true)
  (ye:keepIn K (.ref ee)=true)
  (Yo:nsIn K mainGlobals "hear"=some (some (.ref mX)))
  (Qh:K.lookup mX=some ⟨aoP,alJ,.func (fO "hear" "hear" wC acF acG acH abh Xp acI),ajy⟩)
  (Qi:codeIn K Xp "hear"=true)
  (Qj:keepIn K (.ref mX)=true)
  (FK:nsIn K mainGlobals "hear_offer"=some (some (.ref dF)))
  (vf:K.lookup dF=some ⟨aoQ,alK,.func (fO "hear_offer" "hear_offer" fN acJ acK acL abi Xq acM),ajz⟩)
  (vg:codeIn K Xq "hear_offer"=true)
  (vh:keepIn K (.ref dF)=true)
  (HF:nsIn K mainGlobals "is_better"=some (some (.ref ef)))
  (yf:K.lookup ef=some ⟨aoR,alL,.func (fO "is_better" "is_better" gH acN acO acP abj Xr acQ),ajA⟩)
  (yg:codeIn K Xr "is_better"=true)
  (yh:keepIn K (.ref ef)=true)
  (J4:nsIn K mainGlobals "hear_yes"=some (some (.ref eC)))
  (Au:K.lookup eC=some ⟨aoS,alM,.func (fO "hear_yes" "hear_yes" iq acR acS acT abk Xs acU),ajB⟩)
  (Av:codeIn K Xs "hear_yes"=true)
  (Aw:keepIn K (.ref eC)=true)
  (FL:nsIn K mainGlobals "is_fitting"=some (some (.ref dG)))
  (vi:K.lookup dG=some ⟨aoT,alN,.func (fO "is_fitting" "is_fitting" fP acV acW acX abl Xu acY),ajC⟩)
  (vj:codeIn K Xu "is_fitting"=true)
  (vk:keepIn K (.ref dG)=true)
  (FN:nsIn K mainGlobals "deliver_at"=some (some (.ref dH)))
  (vm:K.lookup dH=some ⟨aoU,alO,.func (fO "deliver_at" "deliver_at" fQ acZ ac0 ac1 abm Xv ac2),ajD⟩)
  (vn:codeIn K Xv "deliver_at"=true)
  (vo:keepIn K (.ref dH)=true)
  (Qk:nsIn K mainGlobals "put_on"=some (some (.ref hC)))
  (HG:K.lookup hC=some ⟨aoV,alP,.func (fO "put_on" "put_on" md ac3 ac4 ac5 abn Xx ac6),ajE⟩)
  (HH:codeIn K Xx "put_on"=true)
  (HI:keepIn K (.ref hC)=true)
  (Nc:nsIn K mainGlobals "hand_up"=some (some (.ref fW)))
  (Dy:K.lookup fW=some ⟨aoW,alQ,.func (fO "hand_up" "hand_up" j6 ac7 ac8 ac9 abo Xy ada),ajF⟩)
  (Dz:codeIn K Xy "hand_up"=true)
  (DA:keepIn K (.ref fW)=true)
  (TU:nsIn K mainGlobals "serve"=some (some (.ref jT)))
  (Ly:K.lookup jT=some ⟨aoX,alR,.func (fO "serve" "serve" qr adb ade adf abp Xz adg),ajG⟩)
  (Lz:codeIn K Xz "serve"=true)
  (LA:keepIn K (.ref jT)=true)
  (Ax:nsIn K mainGlobals "serve_asking"=some (some (.ref cH)))
  (pJ:K.lookup cH=some ⟨aoY,alS,.func (fO "serve_asking" "serve_asking" eG adh adi adj abq XA adk),ajH⟩)
  (pK:codeIn K XA "serve_asking"=true)
  (pL:keepIn K (.ref cH)=true)
  (FO:nsIn K mainGlobals "write_down"=some (some (.ref dI)))
  (vp:K.lookup dI=some ⟨aoZ,alT,.func (fO "write_down" "write_down" fR adl adm adn abr XB ado),ajI⟩)
  (vq:codeIn K XB "write_down"=true)
  (vt:keepIn K (.ref dI)=true)
  (Ql:nsIn K mainGlobals "answer"=some (some (.ref hR)))
  (HJ:K.lookup hR=some ⟨ao0,alU,.func (fO "answer" "answer" me adp adq ads abt XC adt),ajJ⟩)
  (HK:codeIn K XC "answer"=true)
  (HL:keepIn K (.ref hR)=true)
  (HM:nsIn K mainGlobals "hand_down"=some (some (.ref eh)))
  (yi:K.lookup eh=some ⟨ao1,alV,.func (fO "hand_down" "hand_down" gI adu adv adw abu XD adx),ajK⟩)
  (yj:codeIn K XD "hand_down"=true)
  (yk:keepIn K (.ref eh)=true)
  (J5:nsIn K mainGlobals "come_out"=some (some (.ref eX)))
  (Ay:K.lookup eX=some ⟨ao2,alW,.func (fO "come_out" "come_out" iu ady adz adA abv XE adB),ajL⟩)
  (Az:codeIn K XE "come_out"=true)
  (AA:keepIn K (.ref eX)=true)
  (Nd:nsIn K mainGlobals "or_else"=some (some (.ref fX)))
  (DB:K.lookup fX=some ⟨ao3,alX,.func (fO "or_else" "or_else" j7 adC adD adE abw XF adF),ajM⟩)
  (DD:codeIn K XF "or_else"=true)
  (DE:keepIn K (.ref fX)=true)
  (HN:nsIn K mainGlobals "pairs_row"=some (some (.ref cI)))
  (yl:K.lookup cI=some ⟨ao4,alY,.func (fO "pairs_row" "pairs_row" gJ adG adH adI abx XG adJ),ajN⟩)
  (ym:codeIn K XG "pairs_row"=true)
  (yn:keepIn K (.ref cI)=true)
  (B6:nsIn K mainGlobals "message_row"=some (some (.ref df)))
  (su:K.lookup df=some ⟨ao5,alZ,.func (fO "message_row" "message_row" fm adK adL adM aby XH adN),ajO⟩)
  (sx:codeIn K XH "message_row"=true)
  (sy:keepIn K (.ref df)=true)
  (FP:nsIn K mainGlobals "client_row"=some (some (.ref dJ)))
  (vv:K.lookup dJ=some ⟨ao6,al0,.func (fO "client_row" "client_row" fS adO adP adQ abz XI adR),ajP⟩)
  (vx:codeIn K XI "client_row"=true)
  (vy:keepIn K (.ref dJ)=true)
  (FQ:nsIn K mainGlobals "written_of"=some (some (.ref dM)))
  (vz:K.lookup dM=some ⟨ao7,al1,.func (fO "written_of" "written_of" eV adS adT adU abA XJ adV),ajQ⟩)
  (vA:codeIn K XJ "written_of"=true)
  (vB:keepIn K (.ref dM)=true)
  (Nf:nsIn K mainGlobals "path_of"=some (some (.ref fY)))
  (DF:K.lookup fY=some ⟨ao8,al2,.func (fO "path_of" "path_of" j8 adW adX adY abB XM adZ),ajR⟩)
  (DH:codeIn K XM "path_of"=true)
  (DI:keepIn K (.ref fY)=true)
  (yS:nsIn K mainGlobals "is_plugged_at"=some (some (.ref cy)))
  (oj:K.lookup cy=some ⟨ao9,al3,.func (fO "is_plugged_at" "is_plugged_at" dv ad0 ad1 ad2 abC XN ad3),ajS⟩)
  (om:codeIn K XN "is_plugged_at"=true)
  (oo:keepIn K (.ref cy)=true)
  (HP:nsIn K mainGlobals "add_relay"=some (some (.ref cz)))
  (yo:K.lookup cz=some ⟨apa,al4,.func (fO "add_relay" "add_relay" gL ad4 ad5 ad6 abD XO ad7),ajT⟩)
  (yp:codeIn K XO "add_relay"=true)
  (yq:keepIn K (.ref cz)=true)
  (Yp:nsIn K mainGlobals "plug"=some (some (.ref iA)))
  (Qm:K.lookup iA=some ⟨apb,al5,.func (fO "plug" "plug" wD ad8 ad9 aea abE XQ aeb),ajU⟩)
  (Qn:codeIn K XQ "plug"=true)
  (Qo:keepIn K (.ref iA)=true)
  (Qp:nsIn K mainGlobals "unplug"=some (some (.ref eJ)))
  (HQ:K.lookup eJ=some ⟨apc,al6,.func (fO "unplug" "unplug" mf aec aed aee abF XR aef),ajV⟩)
  (HR:codeIn K XR "unplug"=true)
  (HS:keepIn K (.ref eJ)=true)
  (Ng:nsIn K mainGlobals "turn_on"=some (some (.ref dS)))
  (DJ:K.lookup dS=some ⟨apd,al7,.func (fO "turn_on" "turn_on" j9 aeg aeh aei abG XS aej),ajW⟩)
  (DK:codeIn K XS "turn_on"=true)
  (DL:keepIn K (.ref dS)=true)
  (J6:nsIn K mainGlobals "turn_off"=some (some (.ref cR)))
  (AB:K.lookup cR=some ⟨ape,al8,.func (fO "turn_off" "turn_off" iy aek ael aem abH XT aen),ajX⟩)
  (AD:codeIn K XT "turn_off"=true)
  (AE:keepIn K (.ref cR)=true)
  (Qq:nsIn K mainGlobals "forget"=some (some (.ref eK)))
  (HU:K.lookup eK=some ⟨apf,al9,.func (fO "forget" "forget" mh aeo aep aeq abI XU aer),ajY⟩)
  (HV:codeIn K XU "forget"=true)
  (HW:keepIn K (.ref eK)=true)
  (Qr:nsIn K mainGlobals "assign"=some (some (.ref f_assign)))
  (HX:K.lookup f_assign=some ⟨apg,ama,.func (fO "assign" "assign" mj aes aet aeu abJ XW aev),ajZ⟩)
  (HY:codeIn K XW "assign"=true)
  (HZ:keepIn K (.ref f_assign)=true)
  (J7:nsIn K mainGlobals "withdraw"=some (some (.ref cS)))
  (AF:K.lookup cS=some ⟨aph,amb,.func (fO "withdraw" "withdraw" iz aew aex aey abK XX aez),aj0⟩)
  (AG:codeIn K XX "withdraw"=true)
  (AH:keepIn K (.ref cS)=true)
  (Yq:nsIn K mainGlobals "rest"=some (some (.ref iB)))
  (Qs:K.lookup iB=some ⟨api,amc,.func (fO "rest" "rest" wF aeA aeB aeC abL XY aeD),aj1⟩)
  (Qt:codeIn K XY "rest"=true)
  (Qu:keepIn K (.ref iB)=true)
  (Yr:nsIn K mainGlobals "tick"=some (some (.ref iC)))
  (Qv:K.lookup iC=some ⟨apj,amd,.func (fO "tick" "tick" wG aeE aeF aeG abM XZ aeH),aj2⟩)
  (Qw:codeIn K XZ "tick"=true)
  (Qx:keepIn K (.ref iC)=true)
  (Nh:nsIn K mainGlobals "is_full"=some (some (.ref fZ)))
  (DN:K.lookup fZ=some ⟨apk,ame,.func (fO "is_full" "is_full" ka aeI aeJ aeK abN X0 aeL),aj3⟩)
  (DO:codeIn K X0 "is_full"=true)
  (DP:keepIn K (.ref fZ)=true)
  (Ni:nsIn K mainGlobals "deliver"=some (some (.ref dU)))
  (DQ:K.lookup dU=some ⟨apl,amf,.func (fO "deliver" "deliver" ke aeM aeN aeO abO X1 aeP),aj4⟩)
  (DR:codeIn K X1 "deliver"=true)
  (DS:keepIn K (.ref dU)=true)
  (Ys:nsIn K mainGlobals "lose"=some (some (.ref iD)))
  (Qy:K.lookup iD=some ⟨apm,amg,.func (fO "lose" "lose" wH aeQ aeR aeS abP X2 aeT),aj5⟩)
  (Qz:codeIn K X2 "lose"=true)
  (QA:keepIn K (.ref iD)=true)
  (QB:nsIn K mainGlobals "double"=some (some (.ref eM)))
  (Ia:K.lookup eM=some ⟨apn,amh,.func (fO "double" "double" ml aeU aeV aeW abQ X3 aeX),aj6⟩)
  (Ib:codeIn K X3 "double"=true)
  (Ic:keepIn K (.ref eM)=true)
  (Yt:nsIn K mainGlobals "flow"=some (some (.ref iE)))
  (QC:K.lookup iE=some ⟨apo,ami,.func (fO "flow" "flow" wI aeY aeZ ae0 abR X4 ae1),aj7⟩)
  (QD:codeIn K X4 "flow"=true)
  (QE:keepIn K (.ref iE)=true)
  (TV:nsIn K mainGlobals "forge"=some (some (.ref f6)))
  (LB:K.lookup f6=some ⟨apq,amj,.func (fO "forge" "forge" mQ ae2 ae3 ae4 abS X5 ae5),aj8⟩)
  (LC:codeIn K X5 "forge"=true)
  (LD:keepIn K (.ref f6)=true)
  (Ca:nsIn K mainGlobals "tell_client"=some (some (.ref bQ)))
  (sA:K.lookup bQ=some ⟨apr,amk,.func (fO "tell_client" "tell_client" fo ae6 ae7 ae8 abT X6 ae9),aj9⟩)
  (sC:codeIn K X6 "tell_client"=true)
  (sD:keepIn K (.ref bQ)=true)
  (AI:nsIn K mainGlobals "tell_written"=some (some (.ref bF)))
  (pM:K.lookup bF=some ⟨aps,aml,.func (fO "tell_written" "tell_written" eI afa afb afc abU X7 afd),aka⟩)
  (pN:codeIn K X7 "tell_written"=true)
  (pO:keepIn K (.ref bF)=true)
  (Yu:nsIn K mainGlobals "peek"=some (some (.ref iF)))
  (QF:K.lookup iF=some ⟨apt,amm,.func (fO "peek" "peek" wJ afe aff afg abV X8 afh),akb⟩)
  (QG:codeIn K X8 "peek"=true)
  (QH:keepIn K (.ref iF)=true)
  (Ie:nsIn K mainGlobals "tell_path"=some (some (.ref cA)))
  (yr:K.lookup cA=some ⟨apu,amn,.func (fO "tell_path" "tell_path" gM afi afj afk abW X9 afl),akc⟩)
  (yt:codeIn K X9 "tell_path"=true)
  (yu:keepIn K (.ref cA)=true)
  (Ig:nsIn K mainGlobals "tell_next"=some (some (.ref cB)))
  (yw:K.lookup cB=some ⟨apv,amo,.func (fO "tell_next" "tell_next" fB afm afn afo abX Yb afp),akd⟩)
  (yx:codeIn K Yb "tell_next"=true)
  (yy:keepIn K (.ref cB)=true)
  (FR:nsIn K mainGlobals "tell_state"=some (some (.ref cb)))
  (vC:K.lookup cb=some ⟨apw,amq,.func (fO "tell_state" "tell_state" fT afq afr afs abY Yc aft),ake⟩)
  (vD:codeIn K Yc "tell_state"=true)
  (vE:keepIn K (.ref cb)=true)
  (QI:nsIn K mainGlobals "row_of"=some (some (.ref hW)))
  (Ih:K.lookup hW=some ⟨apx,amr,.func (fO "row_of" "row_of" mq afu afv afw abZ Yd afx),akf⟩)
  (Ii:codeIn K Yd "row_of"=true)
  (Ij:keepIn K (.ref hW)=true)
  (FT:nsIn K mainGlobals "is_granted"=some (some (.ref dN)))
  (vF:K.lookup dN=some ⟨apy,ams,.func (fO "is_granted" "is_granted" fU afy afz afA ab0 Ye afB),akg⟩)
  (vG:codeIn K Ye "is_granted"=true)
  (vH:keepIn K (.ref dN)=true)
  (Ik:nsIn K mainGlobals "are_pairs"=some (some (.ref ej)))
  (yz:K.lookup ej=some ⟨apz,amt,.func (fO "are_pairs" "are_pairs" fC afC afD afE ab1 Yg afF),akh⟩)
  (yA:codeIn K Yg "are_pairs"=true)
  (yB:keepIn K (.ref ej)=true)
  (Cb:nsIn K mainGlobals "are_granted"=some (some (.ref dg)))
  (sE:K.lookup dg=some ⟨apA,amu,.func (fO "are_granted" "are_granted" fq afG afH afI ab2 Yh afJ),aki⟩)
  (sF:codeIn K Yh "are_granted"=true)
  (sG:keepIn K (.ref dg)=true)
  (Cc:nsIn K mainGlobals "split_calls"=some (some (.ref dh)))
  (sH:K.lookup dh=some ⟨apB,amv,.func (fO "split_calls" "split_calls" fu afK afL afM ab3 Yi afN),akj⟩)
  (sI:codeIn K Yi "split_calls"=true)
  (sJ:keepIn K (.ref dh)=true)
  (Yv:nsIn K mainGlobals "play"=some (some (.ref lH)))
  (QJ:K.lookup lH=some ⟨apC,amw,.func (fO "play" "play" wK afO afP afQ ab4 Yj afR),akk⟩)
  (QK:codeIn K Yj "play"=true)
  (QL:keepIn K (.ref lH)=true)
  (Nj:nsIn K mainGlobals "answers"=some (some (.ref f7)))
  (DT:K.lookup f7=some ⟨apD,amx,.func (fO "answers" "answers" kf afS afT afU ab5 Yk afV),akl⟩)
  (DU:codeIn K Yk "answers"=true)
  (DV:keepIn K (.ref f7)=true)
  (Cd:nsIn K mainGlobals "FIRST_LIMIT"=some (some (Value.int 16 t1)))
  (apE:nsIn K mainGlobals "UP"=some (some (Value.int 0 t2)))
  (Il:nsIn K mainGlobals "AT_SERVER"=some (some (Value.int 1 t3)))
  (Yw:nsIn K mainGlobals "DOWN"=some (some (Value.int 2 t4)))
  (afZ:nsIn K mainGlobals "OUT"=some (some (Value.int 3 t5)))
  (Nk:nsIn K mainGlobals "SEEKING"=some (some (Value.int 1 t6)))
  (TX:nsIn K mainGlobals "OFFER"=some (some (Value.int 2 t7)))
  (QM:nsIn K mainGlobals "ASKING"=some (some (Value.int 3 t8)))
  (af0:nsIn K mainGlobals "YES"=some (some (Value.int 4 t9)))
  (apF:nsIn K mainGlobals "NO"=some (some (Value.int 5 t10)))
  (af1:nsIn K mainGlobals "OFF"=some (some (Value.int 0 t11)))
  (TY:nsIn K mainGlobals "SEEKS"=some (some (Value.int 1 t12)))
  (Yx:nsIn K mainGlobals "ASKS"=some (some (Value.int 2 t13)))
  (TZ:nsIn K mainGlobals "BOUND"=some (some (Value.int 3 t14)))
  (QN:nsIn K mainGlobals "RENEWS"=some (some (Value.int 4 t15)))
  (J8:nsIn K mainGlobals "ASKS_ALL"=some (some (Value.int 5 t16)))
  (FU:nsIn K mainGlobals "COMES_BACK"=some (some (Value.int 6 t17)))
  (T1:nsIn K mainGlobals "WAITS"=some (some (.ref jZ)))
  (lk1:K.lookup jZ=some ⟨.type "tuple",dd1,.seq #[Value.int 3 t18,Value.int 7 t19,Value.int 15 t20,Value.int 31 t21,Value.int 63 t22,Value.int 63 t23,Value.int 63 t24,Value.int 63 t25,Value.int 63 t26,Value.int 63 t27,Value.int 63 t28] nn1,akm⟩)
  (pP:nsIn K mainGlobals "MOST_SEEKING_TRIES"=some (some (Value.int 10 t29)))
  (vI:nsIn K mainGlobals "LAST_ASKING_TRY"=some (some (Value.int 3 t30)))
  (pQ:nsIn K mainGlobals "LAST_RETURNING_TRY"=some (some (Value.int 2 t31)))
  (Ce:nsIn K mainGlobals "LEAST_PAUSE"=some (some (Value.int 60 t32)))
  (Nl:nsIn K mainGlobals "NOWHERE"=some (some (.ref f9)))
  (lk2:K.lookup f9=some ⟨.type "tuple",dd2,.seq #[Value.int (-1) t33,Value.int (-1) t34] nn2,akn⟩)
  (J9:nsIn K mainGlobals "NO_OFFER"=some (some (.ref eY)))
  (lk3:K.lookup eY=some ⟨.type "tuple",dd3,.seq #[Value.int (-1) t35,Value.int 0 t36,Value.int 0 t37] nn3,ako⟩)
  (Ka:nsIn K mainGlobals "NO_LEASE"=some (some (.ref eZ)))
  (lk4:K.lookup eZ=some ⟨.type "tuple",dd4,.seq #[Value.int (-1) t38,Value.int 0 t39,Value.int 0 t40,Value.int 0 t41,Value.int 0 t42] nn4,akp⟩)
  (Cf:nsIn K mainGlobals "MOST_RELAYS"=some (some (Value.int 64 t43)))
  (AJ:nsIn K mainGlobals "MOST_CLIENTS"=some (some (Value.int 64 t44)))
  (yT:nsIn K mainGlobals "MOST_ASSIGNED"=some (some (Value.int 128 t45)))
  (QO:nsIn K mainGlobals "LATEST"=some (some (Value.int 1000000000000000 t46)))
  (Ua:nsIn K mainGlobals "CALLS"=some (some (.ref gz)))
  (lk5:K.lookup gz=some ⟨.type "dict",none,.dict #[⟨1,.int 1 t47,Value.ref cz⟩,⟨2,.int 2 t48,Value.ref iA⟩,⟨3,.int 3 t49,Value.ref eJ⟩,⟨4,.int 4 t50,Value.ref dS⟩,⟨5,.int 5 t51,Value.ref cR⟩,⟨6,.int 6 t52,Value.ref eK⟩,⟨7,.int 7 t53,Value.ref f_assign⟩,⟨8,.int 8 t54,Value.ref cS⟩,⟨9,.int 9 t55,Value.ref iB⟩,⟨10,.int 10 t56,Value.ref iC⟩,⟨11,.int 11 t57,Value.ref dU⟩,⟨12,.int 12 t58,Value.ref iD⟩,⟨13,.int 13 t59,Value.ref eM⟩,⟨14,.int 14 t60,Value.ref iE⟩,⟨15,.int 15 t61,Value.ref f6⟩,⟨16,.int 16 t62,Value.ref bQ⟩,⟨17,.int 17 t63,Value.ref bF⟩,⟨18,.int 18 t64,Value.ref iF⟩,⟨19,.int 19 t65,Value.ref cA⟩,⟨20,.int 20 t66,Value.ref cB⟩,⟨21,.int 21 t67,Value.ref cb⟩] nn5,#[]⟩)
  (QP:nsIn K mainGlobals "RANGES"=some (some (.ref fg)))
  (lk6:K.lookup fg=some ⟨.type "dict",none,.dict #[⟨hh1,.str "servers" t68,Value.ref b1⟩,⟨hh2,.str "cap" t69,Value.ref b2⟩,⟨hh3,.str "time" t70,Value.ref b3⟩,⟨hh4,.str "circuit" t71,Value.ref b4⟩,⟨hh5,.str "limit" t72,Value.ref b5⟩,⟨hh6,.str "host" t73,Value.ref b6⟩,⟨hh7,.str "address" t74,Value.ref b7⟩,⟨hh8,.str "len" t75,Value.ref b8⟩,⟨hh9,.str "x" t76,Value.ref b9⟩,⟨akU,.str "t" t77,Value.ref b10⟩,⟨akV,.str "m" t78,Value.ref b11⟩,⟨akW,.str "number" t79,Value.ref b12⟩,⟨akX,.str "kind" t80,Value.ref b13⟩,⟨akY,.str "hops" t81,Value.ref b14⟩,⟨akZ,.str "of a pair" t82,Value.ref b15⟩] nn6,#[]⟩)
  (lk7:K.lookup b1=some ⟨.type "tuple",dd5,.seq #[Value.int 1 t83,Value.int 4 t84] nn7,akq⟩)
  (lk8:K.lookup b2=some ⟨.type "tuple",dd6,.seq #[Value.int 1 t85,Value.int 10000 t86] nn8,akr⟩)
  (lk9:K.lookup b3=some ⟨.type "tuple",dd7,.seq #[Value.int 0 t87,Value.int 1000000000000000 t88] nn9,aks⟩)
  (apG:K.lookup b4=some ⟨.type "tuple",dd8,.seq #[Value.int 0 t89,Value.int 4095 t90] ak0,akt⟩)
  (apH:K.lookup b5=some ⟨.type "tuple",dd9,.seq #[Value.int 1 t91,Value.int 16 t92] ak1,aku⟩)
  (apI:K.lookup b6=some ⟨.type "tuple",amy,.seq #[Value.int 0 t93,Value.int 281474976710655 t94] ak2,akv⟩)
  (apJ:K.lookup b7=some ⟨.type "tuple",amz,.seq #[Value.int 0 t95,Value.int 4294967295 t96] ak3,akw⟩)
  (apK:K.lookup b8=some ⟨.type "tuple",amA,.seq #[Value.int 1 t97,Value.int 1000000000 t98] ak4,akx⟩)
  (apL:K.lookup b9=some ⟨.type "tuple",amB,.seq #[Value.int 0 t99,Value.int 1 am4] ak5,aky⟩)
  (apM:K.lookup b10=some ⟨.type "tuple",amC,.seq #[Value.int 0 am5,Value.int 20000 am6] ak6,akz⟩)
  (apN:K.lookup b11=some ⟨.type "tuple",amD,.seq #[Value.int 0 am7,Value.int 1000 am8] ak7,akA⟩)
  (apO:K.lookup b12=some ⟨.type "tuple",amE,.seq #[Value.int 1 am9,Value.int 1000000000000000000 ana] ak8,akB⟩)
  (apP:K.lookup b13=some ⟨.type "tuple",amF,.seq #[Value.int 1 anb,Value.int 5 anc] ak9,akC⟩)
  (apQ:K.lookup b14=some ⟨.type "tuple",amG,.seq #[Value.int 0 ane,Value.int 16 anf] ala,akD⟩)
  (apR:K.lookup b15=some ⟨.type "tuple",amH,.seq #[Value.int 0 ang,Value.int 4095 anh] alb,akE⟩)
  (AK:nsIn K mainGlobals "MOST_FURTHER"=some (some (Value.int 32 ani)))
  (Nm:nsIn K mainGlobals "NUMBERS"=some (some (.ref dq)))
  (apS:K.lookup dq=some ⟨.type "dict",none,.dict #[⟨0,.int 0 anj,Value.ref b16⟩,⟨1,.int 1 ank,Value.ref b17⟩,⟨2,.int 2 anl,Value.ref b18⟩,⟨3,.int 3 anm,Value.ref b19⟩,⟨4,.int 4 ano,Value.ref b20⟩,⟨5,.int 5 anp,Value.ref b21⟩,⟨6,.int 6 anq,Value.ref b22⟩,⟨7,.int 7 anr,Value.ref b23⟩,⟨8,.int 8 ans,Value.ref b24⟩,⟨9,.int 9 ant,Value.ref b25⟩,⟨10,.int 10 anu,Value.ref b26⟩,⟨11,.int 11 anv,Value.ref b27⟩,⟨12,.int 12 anw,Value.ref b28⟩,⟨13,.int 13 anx,Value.ref b29⟩,⟨14,.int 14 anz,Value.ref b30⟩,⟨15,.int 15 anA,Value.ref b31⟩,⟨16,.int 16 anB,Value.ref b32⟩,⟨17,.int 17 anC,Value.ref b33⟩,⟨18,.int 18 anD,Value.ref b34⟩,⟨19,.int 19 anE,Value.ref b35⟩,⟨20,.int 20 anF,Value.ref b36⟩,⟨21,.int 21 anG,Value.ref b37⟩] alc,#[]⟩)
  (apT:K.lookup b16=some ⟨.type "tuple",amI,.seq #[Value.str "servers" anH,Value.str "cap" anI,Value.str "time" anJ] ald,akF⟩)
  (apU:K.lookup b17=some ⟨.type "tuple",amJ,.seq #[Value.str "relay" anK,Value.str "circuit" anL,Value.str "limit" anM] ale,akG⟩)
  (apV:K.lookup b18=some ⟨.type "tuple",amK,.seq #[Value.str "host" anN,Value.str "relay" anO,Value.str "circuit" anP] alf,akH⟩)
  (apW:K.lookup b19=some ⟨.type "tuple",amL,.seq #[Value.str "host" anQ] alg,akI⟩)
  (apX:K.lookup b20=some ⟨.type "tuple",amM,.seq #[Value.str "host" anR] alh,akJ⟩)
  (apY:K.lookup b21=some ⟨.type "tuple",amN,.seq #[Value.str "host" anS] ali,akK⟩)
  (apZ:K.lookup b22=some ⟨.type "tuple",amO,.seq #[Value.str "host" anT] alj,akL⟩)
  (ap0:K.lookup b23=some ⟨.type "tuple",amP,.seq #[Value.str "server" anU,Value.str "host" anV,Value.str "relay" anW,Value.str "address" anY,Value.str "len" anZ] alk,akM⟩)
  (ap1:K.lookup b24=some ⟨.type "tuple",amQ,.seq #[Value.str "server" an0,Value.str "host" aoa,Value.str "relay" aob] alm,akN⟩)
  (ap2:K.lookup b25=some ⟨.type "tuple",amR,.seq #[Value.str "server" aoc,Value.str "x" aod] aln,akO⟩)
  (ap3:K.lookup b26=some ⟨.type "tuple",amS,.seq #[Value.str "t" aoe] alo,akP⟩)
  (ap4:K.lookup b27=some ⟨.type "tuple",amT,.seq #[Value.str "k" aof] alp,akQ⟩)
  (ap5:K.lookup b28=some ⟨.type "tuple",amU,.seq #[Value.str "k" aog] alq,akR⟩)
  (ap6:K.lookup b29=some ⟨.type "tuple",amV,.seq #[Value.str "k" aoh] alr,aa0⟩)
  (ap7:K.lookup b30=some ⟨.type "tuple",amW,.seq #[Value.str "m" aoi] als,aa1⟩)
  (ap8:K.lookup b31=some ⟨.type "tuple",amX,.seq #[Value.str "relay" aoj,Value.str "circuit" aok,Value.str "host" aol,Value.str "number" aom,Value.str "kind" aon,Value.str "server or none" aoo,Value.str "address" aop,Value.str "hops" aoq] alu,aa2⟩)
  (ap9:K.lookup b32=some ⟨.type "tuple",amY,.seq #[Value.str "host" aor] alv,aa3⟩)
  (aqa:K.lookup b33=some ⟨.type "tuple",amZ,.seq #[Value.str "server" aos,Value.str "host" aot] alw,aa4⟩)
  (aqb:K.lookup b34=some ⟨.type "tuple",am0,.seq #[Value.str "k" aou] alx,aa5⟩)
  (aqc:K.lookup b35=some ⟨.type "tuple",am1,.seq #[Value.str "relay" aov,Value.str "circuit" aow] aly,aa6⟩)
  (aqd:K.lookup b36=some ⟨.type "tuple",am2,.seq #[] alz,aa7⟩)
  (aqe:K.lookup b37=some ⟨.type "tuple",am3,.seq #[] alA,aa8⟩)
  (Ub:nsIn K mainGlobals "BEGIN"=some (some (Value.int 0 aox)))
  (iG:b0≠aN)
  (gA:b0≠aR)
  (hX:b0≠a9)
  (fw:aN≠aR)
  (gf:aN≠a9)
  (gB:aR≠a9)
  (Lr:nsIn K mainGlobals "all"=some none)
  (Ls:nsIn K mainGlobals "any"=some none)
  (d6:nsIn K mainGlobals "len"=some none)
  (FE:nsIn K mainGlobals "list"=some none)
  (Hy:nsIn K mainGlobals "max"=some none)
  (xY:nsIn K mainGlobals "min"=some none)
  (uZ:nsIn K mainGlobals "range"=some none)
  (pF:nsIn K mainGlobals "sorted"=some none)
  (zh:nsIn K mainGlobals "tuple"=some none)
  (Lu:nsIn K mainGlobals "zip"=some none):
  ∃t,Txt K mg t:=by
 refine ⟨{b0:=b0,aN:=aN,aR:=aR,a9:=a9,cZ:=cZ,jM:=fO "__init__" "Relay.__init__" fK kV1 dc1 pm1 an1 cd1 ct1,cu:=cu,gZ:=fO "__init__" "Message.__init__" eF kV2 dc2 pm2 an2 cd2 ct2,cF:=cF,iR:=fO "__init__" "Client.__init__" fj kV3 dc3 pm3 an3 cd3 ct3,da:=da,jN:=fO "__init__" "World.__init__" fL kV4 dc4 pm4 an4 cd4 ct4,uf:=uf,Le:=fO "put" "put" C8 kV5 dc5 pm5 an5 cd5 ct5,mT:=mT,Fj:=fO "send" "send" wz kV6 dc6 pm6 an6 cd6 ct6,fV:=fV,qz:=fO "wait_of" "wait_of" j5 kV7 dc7 pm7 an7 cd7 ct7,mV:=mV,Fl:=fO "seek" "seek" wA kV8 dc8 pm8 an8 cd8 ct8,ug:=ug,Lf:=fO "ask" "ask" C9 kV9 dc9 pm9 an9 cd9 ct9,d9:=d9,k9:=fO "come_back" "come_back" gG ab6 ab7 ab8 aa9 Xh ab9,g9:=g9,uh:=fO "settle" "settle" l9 aca acb acd aba Xi ace,mW:=mW,Fm:=fO "bind" "bind" wB acf acg ach abb Xj aci,jO:=jO,zc:=fO "renew" "renew" qo acj ack acm abc Xk acn,ui:=ui,Lg:=fO "act" "act" Dc aco acp acq abd Xl acr,de:=de,iS:=fO "act_seeking" "act_seeking" fk acs acu acv abe Xm acw,dE:=dE,jP:=fO "act_asking" "act_asking" fM acx acy acz abf Xn acA,ee:=ee,lg:=fO "act_until" "act_until" eR acB acC acD abg Xo acE,mX:=mX,Fn:=fO "hear" "hear" wC acF acG acH abh Xp acI,dF:=dF,jQ:=fO "hear_offer" "hear_offer" fN acJ acK acL abi Xq acM,ef:=ef,lh:=fO "is_better" "is_better" gH acN acO acP abj Xr acQ,eC:=eC,kE:=fO "hear_yes" "hear_yes" iq acR acS acT abk Xs acU,dG:=dG,jR:=fO "is_fitting" "is_fitting" fP acV acW acX abl Xu acY,dH:=dH,jS:=fO "deliver_at" "deliver_at" fQ acZ ac0 ac1 abm Xv ac2,hC:=hC,uj:=fO "put_on" "put_on" md ac3 ac4 ac5 abn Xx ac6,fW:=fW,qA:=fO "hand_up" "hand_up" j6 ac7 ac8 ac9 abo Xy ada,jT:=jT,zd:=fO "serve" "serve" qr adb ade adf abp Xz adg,cH:=cH,hJ:=fO "serve_asking" "serve_asking" eG adh adi adj abq XA adk,dI:=dI,jU:=fO "write_down" "write_down" fR adl adm adn abr XB ado,hR:=hR,uk:=fO "answer" "answer" me adp adq ads abt XC adt,eh:=eh,lj:=fO "hand_down" "hand_down" gI adu adv adw abu XD adx,eX:=eX,mY:=fO "come_out" "come_out" iu ady adz adA abv XE adB,fX:=fX,qB:=fO "or_else" "or_else" j7 adC adD adE abw XF adF,cI:=cI,fE:=fO "pairs_row" "pairs_row" gJ adG adH adI abx XG adJ,df:=df,iT:=fO "message_row" "message_row" fm adK adL adM aby XH adN,dJ:=dJ,jV:=fO "client_row" "client_row" fS adO adP adQ abz XI adR,dM:=dM,jW:=fO "written_of" "written_of" eV adS adT adU abA XJ adV,fY:=fY,qC:=fO "path_of" "path_of" j8 adW adX adY abB XM adZ,cy:=cy,gy:=fO "is_plugged_at" "is_plugged_at" dv ad0 ad1 ad2 abC XN ad3,cz:=cz,ll:=fO "add_relay" "add_relay" gL ad4 ad5 ad6 abD XO ad7,iA:=iA,Fo:=fO "plug" "plug" wD ad8 ad9 aea abE XQ aeb,eJ:=eJ,um:=fO "unplug" "unplug" mf aec aed aee abF XR aef,dS:=dS,qD:=fO "turn_on" "turn_on" j9 aeg aeh aei abG XS aej,cR:=cR,mZ:=fO "turn_off" "turn_off" iy aek ael aem abH XT aen,eK:=eK,uo:=fO "forget" "forget" mh aeo aep aeq abI XU aer,f_assign:=f_assign,uq:=fO "assign" "assign" mj aes aet aeu abJ XW aev,cS:=cS,m3:=fO "withdraw" "withdraw" iz aew aex aey abK XX aez,iB:=iB,Fp:=fO "rest" "rest" wF aeA aeB aeC abL XY aeD,iC:=iC,Fq:=fO "tick" "tick" wG aeE aeF aeG abM XZ aeH,fZ:=fZ,qE:=fO "is_full" "is_full" ka aeI aeJ aeK abN X0 aeL,dU:=dU,qF:=fO "deliver" "deliver" ke aeM aeN aeO abO X1 aeP,iD:=iD,Fs:=fO "lose" "lose" wH aeQ aeR aeS abP X2 aeT,eM:=eM,ur:=fO "double" "double" ml aeU aeV aeW abQ X3 aeX,iE:=iE,Ft:=fO "flow" "flow" wI aeY aeZ ae0 abR X4 ae1,f6:=f6,ze:=fO "forge" "forge" mQ ae2 ae3 ae4 abS X5 ae5,bQ:=bQ,iU:=fO "tell_client" "tell_client" fo ae6 ae7 ae8 abT X6 ae9,bF:=bF,hU:=fO "tell_written" "tell_written" eI afa afb afc abU X7 afd,iF:=iF,Fu:=fO "peek" "peek" wJ afe aff afg abV X8 afh,cA:=cA,lp:=fO "tell_path" "tell_path" gM afi afj afk abW X9 afl,cB:=cB,lq:=fO "tell_next" "tell_next" fB afm afn afo abX Yb afp,cb:=cb,jX:=fO "tell_state" "tell_state" fT afq afr afs abY Yc aft,hW:=hW,uu:=fO "row_of" "row_of" mq afu afv afw abZ Yd afx,dN:=dN,jY:=fO "is_granted" "is_granted" fU afy afz afA ab0 Ye afB,ej:=ej,lr:=fO "are_pairs" "are_pairs" fC afC afD afE ab1 Yg afF,dg:=dg,iV:=fO "are_granted" "are_granted" fq afG afH afI ab2 Yh afJ,dh:=dh,iW:=fO "split_calls" "split_calls" fu afK afL afM ab3 Yi afN,lH:=lH,zW:=fO "play" "play" wK afO afP afQ ab4 Yj afR,f7:=f7,kg:=fO "answers" "answers" kf afS afT afU ab5 Yk afV,jZ:=jZ,f9:=f9,eY:=eY,eZ:=eZ,gz:=gz,fg:=fg,oO:=b1,oP:=b2,oQ:=b3,oR:=b4,oS:=b5,oT:=b6,oU:=b7,oW:=b8,oX:=b9,m4:=b10,m6:=b11,m7:=b12,m8:=b13,m9:=b14,ng:=b15,dq:=dq,gn:=b16,iX:=b17,iY:=b18,iZ:=b19,i4:=b20,i5:=b21,i6:=b22,i7:=b23,i8:=b24,i9:=b25,ja:=b26,jb:=b27,jc:=b28,jd:=b29,je:=b30,jf:=b31,jg:=b32,jh:=b33,ji:=b34,jj:=b35,jk:=b36,jl:=b37},?_⟩
 exact {
  Fv:=mg_of X G TN,
  cj:=⟨PQ,PR,PU,PV⟩,
  bf:=bf,
  cf:=cf,
  eN:=eN,
  mr:=mg_of X G M5,
  au:=⟨JZ,J0,J1,J2⟩,
  aG:=aG,
  bO:=bO,
  cn:=cn,
  bP:=bP,
  ba:=ba,
  bh:=bh,
  bq:=bq,
  bD:=bD,
  aY:=aY,
  Hl:=mg_of X G PY,
  aq:=⟨M6,M7,M8,M9⟩,
  fF:=fF,
  aX:=aX,
  aJ:=aJ,
  bI:=bI,
  bS:=bS,
  cw:=cw,
  aZ:=aZ,
  bx:=bx,
  bj:=bj,
  aO:=aO,
  Lh:=mg_of X G TQ,
  aw:=⟨PZ,P0,P1,P2⟩,
  bb:=bb,
  bR:=bR,
  gb:=gb,
  bE:=bE,
  bV:=bV,
  aA:=aA,
  dW:=dW,
  br:=br,
  cT:=cT,
  bu:=bu,
  iG:=iG,
  gA:=gA,
  hX:=hX,
  fw:=fw,
  gf:=gf,
  gB:=gB,
  oY:=⟨oY,FF,FG,PX⟩,
  uv:=ax (st:=fK) u4 u5 u6,
  nh:=(ax (st:=fK) u4 u5 u6).binds (ps:=jz) fun _ _ _ _ _ _=>aaV fun _ _ _ _=>rfl,
  gE:=⟨gE,Ar,As,J3⟩,
  oZ:=ax (st:=eF) pG pH pI,
  fG:=(ax (st:=eF) pG pH pI).binds (ps:=gU) fun _ _ _ _ _ _=>aaW fun _ _ _ _ _ _ _ _ _ _=>rfl,
  qG:=⟨qG,BZ,B0,Na⟩,
  rg:=ax (st:=fj) sj sk sm,
  rh:=(ax (st:=fj) sj sk sm).binds (ps:=iK) fun _ _ _ _ _ _=>ff fun _ _=>rfl,
  uw:=⟨uw,FH,FI,P4⟩,
  ux:=ax (st:=fL) u7 u9 va,
  uz:=(ax (st:=fL) u7 u9 va).binds (ps:=jA) fun _ _ _ _ _ _=>aaV fun _ _ _ _=>rfl,
  zX:=ax (st:=C8) Vt Vu k_put,
  Dg:=mg_of X G afW,
  Dh:=(ax (st:=C8) Vt Vu k_put).binds (ps:=K9) fun _ _ _ _ _ _=>ff fun _ _=>rfl,
  wL:=ax (st:=wz) P5 P6 P7,
  zY:=mg_of X G Yl,
  zZ:=(ax (st:=wz) P5 P6 P7).binds (ps:=EU) fun _ _ _ _ _ _=>Tv fun _ _ _ _ _=>rfl,
  mv:=ax (st:=j5) Du Dv Dx,
  qH:=mg_of X G Nb,
  qI:=(ax (st:=j5) Du Dv Dx).binds (ps:=qm) fun _ _ _ _ _ _=>Hc fun _=>rfl,
  sU:=ax (st:=wA) P8 P9 Qa,
  wM:=mg_of X G Ym,
  wN:=(ax (st:=wA) P8 P9 Qa).binds (ps:=EV) fun _ _ _ _ _ _=>tT fun _ _ _=>rfl,
  Li:=ax (st:=C9) Vv Vw Vx,
  Pj:=mg_of X G afX,
  Pk:=(ax (st:=C9) Vv Vw Vx).binds (ps:=Lb) fun _ _ _ _ _ _=>tT fun _ _ _=>rfl,
  lu:=ax (st:=gG) xZ ya yb,
  o3:=mg_of X G Hz,
  o4:=(ax (st:=gG) xZ ya yb).binds (ps:=kS) fun _ _ _ _ _ _=>tT fun _ _ _=>rfl,
  uA:=ax (st:=l9) HB HC HD,
  z0:=mg_of X G Qb,
  z6:=(ax (st:=l9) HB HC HD).binds (ps:=tU) fun _ _ _ _ _ _=>ff fun _ _=>rfl,
  JO:=ax (st:=wB) Qc Qe Qg,
  Pl:=mg_of X G Yn,
  Pn:=(ax (st:=wB) Qc Qe Qg).binds (ps:=EX) fun _ _ _ _ _ _=>Hc fun _=>rfl,
  zf:=ax (st:=qo) Lv Lw Lx,
  Fw:=mg_of X G TR,
  Fx:=(ax (st:=qo) Lv Lw Lx).binds (ps:=y9) fun _ _ _ _ _ _=>Tv fun _ _ _ _ _=>rfl,
  Po:=ax (st:=Dc) Vy Vz VA,
  Vq:=mg_of X G afY,
  Vr:=(ax (st:=Dc) Vy Vz VA).binds (ps:=Lc) fun _ _ _ _ _ _=>ff fun _ _=>rfl,
  lI:=ax (st:=fk) so sq sr,
  rj:=mg_of X G B2,
  rk:=(ax (st:=fk) so sq sr).binds (ps:=iL) fun _ _ _ _ _ _=>ff fun _ _=>rfl,
  ni:=ax (st:=fM) vc vd ve,
  uB:=mg_of X G FJ,
  uC:=(ax (st:=fM) vc vd ve).binds (ps:=jB) fun _ _ _ _ _ _=>ff fun _ _=>rfl,
  o5:=ax (st:=eR) yc yd ye,
  xD:=mg_of X G HE,
  xE:=(ax (st:=eR) yc yd ye).binds (ps:=kT) fun _ _ _ _ _ _=>ff fun _ _=>rfl,
  JP:=ax (st:=wC) Qh Qi Qj,
  Pp:=mg_of X G Yo,
  Pq:=(ax (st:=wC) Qh Qi Qj).binds (ps:=EZ) fun _ _ _ _ _ _=>tT fun _ _ _=>rfl,
  nj:=ax (st:=fN) vf vg vh,
  uD:=mg_of X G FK,
  uE:=(ax (st:=fN) vf vg vh).binds (ps:=jC) fun _ _ _ _ _ _=>ff fun _ _=>rfl,
  o6:=ax (st:=gH) yf yg yh,
  xF:=mg_of X G HF,
  xG:=(ax (st:=gH) yf yg yh).binds (ps:=kU) fun _ _ _ _ _ _=>ff fun _ _=>rfl,
  sV:=ax (st:=iq) Au Av Aw,
  z7:=mg_of X G J4,
  z9:=(ax (st:=iq) Au Av Aw).binds (ps:=kx) fun _ _ _ _ _ _=>tT fun _ _ _=>rfl,
  nk:=ax (st:=fP) vi vj vk,
  uF:=mg_of X G FL,
  uG:=(ax (st:=fP) vi vj vk).binds (ps:=jD) fun _ _ _ _ _ _=>ff fun _ _=>rfl,
  j0:=ax (st:=fQ) vm vn vo,
  nq:=mg_of X G FN,
  nt:=(ax (st:=fQ) vm vn vo).binds (ps:=jE) fun _ _ _ _ _ _=>ff fun _ _=>rfl,
  o7:=ax (st:=md) HG HH HI,
  uH:=mg_of X G Qk,
  uI:=(ax (st:=md) HG HH HI).binds (ps:=tV) fun _ _ _ _ _ _=>Tv fun _ _ _ _ _=>rfl,
  wO:=ax (st:=j6) Dy Dz DA,
  Di:=mg_of X G Nc,
  Dj:=(ax (st:=j6) Dy Dz DA).binds (ps:=qp) fun _ _ _ _ _ _=>ff fun _ _=>rfl,
  Fy:=ax (st:=qr) Ly Lz LA,
  Lj:=mg_of X G TU,
  Lk:=(ax (st:=qr) Ly Lz LA).binds (ps:=za) fun _ _ _ _ _ _=>ff fun _ _=>rfl,
  kF:=ax (st:=eG) pJ pK pL,
  o8:=mg_of X G Ax,
  o9:=(ax (st:=eG) pJ pK pL).binds (ps:=gW) fun _ _ _ _ _ _=>tT fun _ _ _=>rfl,
  nv:=ax (st:=fR) vp vq vt,
  uJ:=mg_of X G FO,
  uK:=(ax (st:=fR) vp vq vt).binds (ps:=jF) fun _ _ _ _ _ _=>tT fun _ _ _=>rfl,
  mw:=ax (st:=me) HJ HK HL,
  pb:=mg_of X G Ql,
  pd:=(ax (st:=me) HJ HK HL).binds (ps:=tX) fun _ _ _ _ _ _=>Tv fun _ _ _ _ _=>rfl,
  pf:=ax (st:=gI) yi yj yk,
  xH:=mg_of X G HM,
  xI:=(ax (st:=gI) yi yj yk).binds (ps:=kY) fun _ _ _ _ _ _=>ff fun _ _=>rfl,
  sW:=ax (st:=iu) Ay Az AA,
  Aa:=mg_of X G J5,
  Ab:=(ax (st:=iu) Ay Az AA).binds (ps:=mK) fun _ _ _ _ _ _=>ff fun _ _=>rfl,
  iH:=ax (st:=j7) DB DD DE,
  kh:=mg_of X G Nd,
  kj:=(ax (st:=j7) DB DD DE).binds (ps:=qt) fun _ _ _ _ _ _=>ff fun _ _=>rfl,
  jo:=ax (st:=gJ) yl ym yn,
  lx:=mg_of X G HN,
  ly:=(ax (st:=gJ) yl ym yn).binds (ps:=fA) fun _ _ _ _ _ _=>Hc fun _=>rfl,
  jm:=ax (st:=fm) su sx sy,
  lJ:=mg_of X G B6,
  lK:=(ax (st:=fm) su sx sy).binds (ps:=iM) fun _ _ _ _ _ _=>Hc fun _=>rfl,
  ny:=ax (st:=fS) vv vx vy,
  uL:=mg_of X G FP,
  uM:=(ax (st:=fS) vv vx vy).binds (ps:=jG) fun _ _ _ _ _ _=>Hc fun _=>rfl,
  nB:=ax (st:=eV) vz vA vB,
  uN:=mg_of X G FQ,
  uP:=(ax (st:=eV) vz vA vB).binds (ps:=jH) fun _ _ _ _ _ _=>tT fun _ _ _=>rfl,
  wQ:=ax (st:=j8) DF DH DI,
  Dk:=mg_of X G Nf,
  Dl:=(ax (st:=j8) DF DH DI).binds (ps:=qu) fun _ _ _ _ _ _=>tT fun _ _ _=>rfl,
  jt:=ax (st:=dv) oj om oo,
  n6:=mg_of X G yS,
  og:=(ax (st:=dv) oj om oo).binds (ps:=gw) fun _ _ _ _ _ _=>tT fun _ _ _=>rfl,
  pj:=ax (st:=gL) yo yp yq,
  Hm:=mg_of X G HP,
  xJ:=(ax (st:=gL) yo yp yq).binds (ps:=kZ) fun _ _ _ _ _ _=>ff fun _ _=>rfl,
  JQ:=ax (st:=wD) Qm Qn Qo,
  W9:=mg_of X G Yp,
  Pr:=(ax (st:=wD) Qm Qn Qo).binds (ps:=E7) fun _ _ _ _ _ _=>ff fun _ _=>rfl,
  Ac:=ax (st:=mf) HQ HR HS,
  Pt:=mg_of X G Qp,
  Hn:=(ax (st:=mf) HQ HR HS).binds (ps:=ua) fun _ _ _ _ _ _=>ff fun _ _=>rfl,
  wR:=ax (st:=j9) DJ DK DL,
  M0:=mg_of X G Ng,
  Dm:=(ax (st:=j9) DJ DK DL).binds (ps:=qv) fun _ _ _ _ _ _=>ff fun _ _=>rfl,
  sX:=ax (st:=iy) AB AD AE,
  JR:=mg_of X G J6,
  Ae:=(ax (st:=iy) AB AD AE).binds (ps:=mN) fun _ _ _ _ _ _=>ff fun _ _=>rfl,
  Af:=ax (st:=mh) HU HV HW,
  Pu:=mg_of X G Qq,
  Ho:=(ax (st:=mh) HU HV HW).binds (ps:=ub) fun _ _ _ _ _ _=>ff fun _ _=>rfl,
  Ag:=ax (st:=mj) HX HY HZ,
  Pw:=mg_of X G Qr,
  Hq:=(ax (st:=mj) HX HY HZ).binds (ps:=uc) fun _ _ _ _ _ _=>ff fun _ _=>rfl,
  sY:=ax (st:=iz) AF AG AH,
  JS:=mg_of X G J7,
  Ah:=(ax (st:=iz) AF AG AH).binds (ps:=mP) fun _ _ _ _ _ _=>ff fun _ _=>rfl,
  JT:=ax (st:=wF) Qs Qt Qu,
  Xa:=mg_of X G Yq,
  Px:=(ax (st:=wF) Qs Qt Qu).binds (ps:=E8) fun _ _ _ _ _ _=>ff fun _ _=>rfl,
  JU:=ax (st:=wG) Qv Qw Qx,
  Xb:=mg_of X G Yr,
  Py:=(ax (st:=wG) Qv Qw Qx).binds (ps:=E9) fun _ _ _ _ _ _=>ff fun _ _=>rfl,
  qJ:=ax (st:=ka) DN DO DP,
  wU:=mg_of X G Nh,
  wV:=(ax (st:=ka) DN DO DP).binds (ps:=qw) fun _ _ _ _ _ _=>Hc fun _=>rfl,
  wW:=ax (st:=ke) DQ DR DS,
  M3:=mg_of X G Ni,
  Dn:=(ax (st:=ke) DQ DR DS).binds (ps:=qx) fun _ _ _ _ _ _=>ff fun _ _=>rfl,
  JV:=ax (st:=wH) Qy Qz QA,
  Xc:=mg_of X G Ys,
  Pz:=(ax (st:=wH) Qy Qz QA).binds (ps:=Fc) fun _ _ _ _ _ _=>ff fun _ _=>rfl,
  Ai:=ax (st:=ml) Ia Ib Ic,
  PB:=mg_of X G QB,
  Hr:=(ax (st:=ml) Ia Ib Ic).binds (ps:=ud) fun _ _ _ _ _ _=>ff fun _ _=>rfl,
  JW:=ax (st:=wI) QC QD QE,
  Xd:=mg_of X G Yt,
  PD:=(ax (st:=wI) QC QD QE).binds (ps:=Fd) fun _ _ _ _ _ _=>ff fun _ _=>rfl,
  Fz:=ax (st:=mQ) LB LC LD,
  TM:=mg_of X G TV,
  Ll:=(ax (st:=mQ) LB LC LD).binds (ps:=zb) fun _ _ _ _ _ _=>ff fun _ _=>rfl,
  lL:=ax (st:=fo) sA sC sD,
  BY:=mg_of X G Ca,
  rm:=(ax (st:=fo) sA sC sD).binds (ps:=iO) fun _ _ _ _ _ _=>ff fun _ _=>rfl,
  kG:=ax (st:=eI) pM pN pO,
  Aj:=mg_of X G AI,
  pk:=(ax (st:=eI) pM pN pO).binds (ps:=gY) fun _ _ _ _ _ _=>ff fun _ _=>rfl,
  JX:=ax (st:=wJ) QF QG QH,
  Xe:=mg_of X G Yu,
  PF:=(ax (st:=wJ) QF QG QH).binds (ps:=Ff) fun _ _ _ _ _ _=>ff fun _ _=>rfl,
  pq:=ax (st:=gM) yr yt yu,
  Hs:=mg_of X G Ie,
  xK:=(ax (st:=gM) yr yt yu).binds (ps:=k0) fun _ _ _ _ _ _=>ff fun _ _=>rfl,
  px:=ax (st:=fB) yw yx yy,
  Ht:=mg_of X G Ig,
  xM:=(ax (st:=fB) yw yx yy).binds (ps:=k7) fun _ _ _ _ _ _=>ff fun _ _=>rfl,
  nE:=ax (st:=fT) vC vD vE,
  FA:=mg_of X G FR,
  uQ:=(ax (st:=fT) vC vD vE).binds (ps:=jJ) fun _ _ _ _ _ _=>ff fun _ _=>rfl,
  Ak:=ax (st:=mq) Ih Ii Ij,
  Hu:=mg_of X G QI,
  Hv:=(ax (st:=mq) Ih Ii Ij).binds (ps:=ue) fun _ _ _ _ _ _=>tT fun _ _ _=>rfl,
  j1:=ax (st:=fU) vF vG vH,
  nF:=mg_of X G FT,
  nG:=(ax (st:=fU) vF vG vH).binds (ps:=jK) fun _ _ _ _ _ _=>tT fun _ _ _=>rfl,
  pz:=ax (st:=fC) yz yA yB,
  xN:=mg_of X G Ik,
  xO:=(ax (st:=fC) yz yA yB).binds (ps:=k8) fun _ _ _ _ _ _=>ff fun _ _=>rfl,
  lM:=ax (st:=fq) sE sF sG,
  rn:=mg_of X G Cb,
  rp:=(ax (st:=fq) sE sF sG).binds (ps:=iP) fun _ _ _ _ _ _=>tT fun _ _ _=>rfl,
  lN:=ax (st:=fu) sH sI sJ,
  rq:=mg_of X G Cc,
  rB:=(ax (st:=fu) sH sI sJ).binds (ps:=iQ) fun _ _ _ _ _ _=>Hc fun _=>rfl,
  JY:=ax (st:=wK) QJ QK QL,
  PH:=mg_of X G Yv,
  PJ:=(ax (st:=wK) QJ QK QL).binds (ps:=zV) fun _ _ _ _ _ _=>tT fun _ _ _=>rfl,
  wX:=ax (st:=kf) DT DU DV,
  Dq:=mg_of X G Nj,
  M4:=(ax (st:=kf) DT DU DV).binds (ps:=qy) fun _ _ _ _ _ _=>Hc fun _=>rfl,
  rC:=⟨_,mg_of X G Cd,⟨_,rfl⟩⟩,
  PM:=⟨_,mg_of X G apE,⟨_,rfl⟩⟩,
  pB:=⟨_,mg_of X G Il,⟨_,rfl⟩⟩,
  FC:=⟨_,mg_of X G Yw,⟨_,rfl⟩⟩,
  Vs:=⟨_,mg_of X G afZ,⟨_,rfl⟩⟩,
  wY:=⟨_,mg_of X G Nk,⟨_,rfl⟩⟩,
  FD:=⟨_,mg_of X G TX,⟨_,rfl⟩⟩,
  pC:=⟨_,mg_of X G QM,⟨_,rfl⟩⟩,
  PN:=⟨_,mg_of X G af0,⟨_,rfl⟩⟩,
  Xf:=⟨_,mg_of X G apF,⟨_,rfl⟩⟩,
  Dr:=⟨_,mg_of X G af1,⟨_,rfl⟩⟩,
  zg:=⟨_,mg_of X G TY,⟨_,rfl⟩⟩,
  Al:=⟨_,mg_of X G Yx,⟨_,rfl⟩⟩,
  Lm:=⟨_,mg_of X G TZ,⟨_,rfl⟩⟩,
  uR:=⟨_,mg_of X G QN,⟨_,rfl⟩⟩,
  nH:=⟨_,mg_of X G J8,⟨_,rfl⟩⟩,
  hZ:=⟨_,mg_of X G FU,⟨_,rfl⟩⟩,
  Ln:=mg_of X G T1,
  Lo:=fun H=> .inr ⟨_,_,_,lk1,rfl,rfl,(by show 11≤sizeLine;decide),.cons ⟨_,rfl⟩ (.cons ⟨_,rfl⟩ (.cons ⟨_,rfl⟩ (.cons ⟨_,rfl⟩ (.cons ⟨_,rfl⟩ (.cons ⟨_,rfl⟩ (.cons ⟨_,rfl⟩ (.cons ⟨_,rfl⟩ (.cons ⟨_,rfl⟩ (.cons ⟨_,rfl⟩ (.cons ⟨_,rfl⟩ (.nil)))))))))))⟩,
  jq:=⟨_,mg_of X G pP,⟨_,rfl⟩⟩,
  lA:=⟨_,mg_of X G vI,⟨_,rfl⟩⟩,
  jr:=⟨_,mg_of X G pQ,⟨_,rfl⟩⟩,
  rD:=⟨_,mg_of X G Ce,⟨_,rfl⟩⟩,
  Ds:=mg_of X G Nl,
  Dt:=fun H=> .inr ⟨_,_,_,lk2,rfl,rfl,(by show 2≤sizeLine;decide),.cons ⟨_,rfl⟩ (.cons ⟨_,rfl⟩ (.nil))⟩,
  Am:=mg_of X G J9,
  An:=fun H=> .inr ⟨_,_,_,lk3,rfl,rfl,(by show 3≤sizeLine;decide),.cons ⟨_,rfl⟩ (.cons ⟨_,rfl⟩ (.cons ⟨_,rfl⟩ (.nil)))⟩,
  Ao:=mg_of X G Ka,
  Ap:=fun H=> .inr ⟨_,_,_,lk4,rfl,rfl,(by show 5≤sizeLine;decide),.cons ⟨_,rfl⟩ (.cons ⟨_,rfl⟩ (.cons ⟨_,rfl⟩ (.cons ⟨_,rfl⟩ (.cons ⟨_,rfl⟩ (.nil)))))⟩,
  rE:=⟨_,mg_of X G Cf,⟨_,rfl⟩⟩,
  pD:=⟨_,mg_of X G AJ,⟨_,rfl⟩⟩,
  oh:=⟨_,mg_of X G yT,⟨_,rfl⟩⟩,
  Hw:=⟨_,mg_of X G QO,⟨_,rfl⟩⟩,
  Lp:=mg_of X G Ua,
  cM:=⟨(by show ([1,2,3,4,5,6,7,8,9,10,11,12,13,14,15,16,17,18,19,20,21] :List Int).Nodup;decide),_,_,_,lk5,⟨rfl,rfl,rfl⟩,rfl,.cons rfl (by show (1:Int)=hashInt 1;decide) rfl (.cons rfl (by show (2:Int)=hashInt 2;decide) rfl (.cons rfl (by show (3:Int)=hashInt 3;decide) rfl (.cons rfl (by show (4:Int)=hashInt 4;decide) rfl (.cons rfl (by show (5:Int)=hashInt 5;decide) rfl (.cons rfl (by show (6:Int)=hashInt 6;decide) rfl (.cons rfl (by show (7:Int)=hashInt 7;decide) rfl (.cons rfl (by show (8:Int)=hashInt 8;decide) rfl (.cons rfl (by show (9:Int)=hashInt 9;decide) rfl (.cons rfl (by show (10:Int)=hashInt 10;decide) rfl (.cons rfl (by show (11:Int)=hashInt 11;decide) rfl (.cons rfl (by show (12:Int)=hashInt 12;decide) rfl (.cons rfl (by show (13:Int)=hashInt 13;decide) rfl (.cons rfl (by show (14:Int)=hashInt 14;decide) rfl (.cons rfl (by show (15:Int)=hashInt 15;decide) rfl (.cons rfl (by show (16:Int)=hashInt 16;decide) rfl (.cons rfl (by show (17:Int)=hashInt 17;decide) rfl (.cons rfl (by show (18:Int)=hashInt 18;decide) rfl (.cons rfl (by show (19:Int)=hashInt 19;decide) rfl (.cons rfl (by show (20:Int)=hashInt 20;decide) rfl (.cons rfl (by show (21:Int)=hashInt 21;decide) rfl (.nil)))))))))))))))))))))⟩,
  Aq:=mg_of X G QP,
  dB:=⟨_,_,_,lk6,⟨rfl,rfl,rfl⟩,rfl,.cons rfl rfl (.cons rfl rfl (.cons rfl rfl (.cons rfl rfl (.cons rfl rfl (.cons rfl rfl (.cons rfl rfl (.cons rfl rfl (.cons rfl rfl (.cons rfl rfl (.cons rfl rfl (.cons rfl rfl (.cons rfl rfl (.cons rfl rfl (.cons rfl rfl (.nil)))))))))))))))⟩,
  xP:=fun H=> .inr ⟨_,_,_,lk7,rfl,rfl,(by show 2≤sizeLine;decide),.cons ⟨_,rfl⟩ (.cons ⟨_,rfl⟩ (.nil))⟩,
  xQ:=fun H=> .inr ⟨_,_,_,lk8,rfl,rfl,(by show 2≤sizeLine;decide),.cons ⟨_,rfl⟩ (.cons ⟨_,rfl⟩ (.nil))⟩,
  xR:=fun H=> .inr ⟨_,_,_,lk9,rfl,rfl,(by show 2≤sizeLine;decide),.cons ⟨_,rfl⟩ (.cons ⟨_,rfl⟩ (.nil))⟩,
  xS:=fun H=> .inr ⟨_,_,_,apG,rfl,rfl,(by show 2≤sizeLine;decide),.cons ⟨_,rfl⟩ (.cons ⟨_,rfl⟩ (.nil))⟩,
  xT:=fun H=> .inr ⟨_,_,_,apH,rfl,rfl,(by show 2≤sizeLine;decide),.cons ⟨_,rfl⟩ (.cons ⟨_,rfl⟩ (.nil))⟩,
  xU:=fun H=> .inr ⟨_,_,_,apI,rfl,rfl,(by show 2≤sizeLine;decide),.cons ⟨_,rfl⟩ (.cons ⟨_,rfl⟩ (.nil))⟩,
  xV:=fun H=> .inr ⟨_,_,_,apJ,rfl,rfl,(by show 2≤sizeLine;decide),.cons ⟨_,rfl⟩ (.cons ⟨_,rfl⟩ (.nil))⟩,
  xW:=fun H=> .inr ⟨_,_,_,apK,rfl,rfl,(by show 2≤sizeLine;decide),.cons ⟨_,rfl⟩ (.cons ⟨_,rfl⟩ (.nil))⟩,
  xX:=fun H=> .inr ⟨_,_,_,apL,rfl,rfl,(by show 2≤sizeLine;decide),.cons ⟨_,rfl⟩ (.cons ⟨_,rfl⟩ (.nil))⟩,
  uS:=fun H=> .inr ⟨_,_,_,apM,rfl,rfl,(by show 2≤sizeLine;decide),.cons ⟨_,rfl⟩ (.cons ⟨_,rfl⟩ (.nil))⟩,
  uT:=fun H=> .inr ⟨_,_,_,apN,rfl,rfl,(by show 2≤sizeLine;decide),.cons ⟨_,rfl⟩ (.cons ⟨_,rfl⟩ (.nil))⟩,
  uV:=fun H=> .inr ⟨_,_,_,apO,rfl,rfl,(by show 2≤sizeLine;decide),.cons ⟨_,rfl⟩ (.cons ⟨_,rfl⟩ (.nil))⟩,
  uW:=fun H=> .inr ⟨_,_,_,apP,rfl,rfl,(by show 2≤sizeLine;decide),.cons ⟨_,rfl⟩ (.cons ⟨_,rfl⟩ (.nil))⟩,
  uX:=fun H=> .inr ⟨_,_,_,apQ,rfl,rfl,(by show 2≤sizeLine;decide),.cons ⟨_,rfl⟩ (.cons ⟨_,rfl⟩ (.nil))⟩,
  uY:=fun H=> .inr ⟨_,_,_,apR,rfl,rfl,(by show 2≤sizeLine;decide),.cons ⟨_,rfl⟩ (.cons ⟨_,rfl⟩ (.nil))⟩,
  pE:=⟨_,mg_of X G AK,⟨_,rfl⟩⟩,
  wZ:=mg_of X G Nm,
  bA:=⟨(by show ([0,1,2,3,4,5,6,7,8,9,10,11,12,13,14,15,16,17,18,19,20,21] :List Int).Nodup;decide),_,_,_,apS,⟨rfl,rfl,rfl⟩,rfl,.cons rfl (by show (0:Int)=hashInt 0;decide) rfl (.cons rfl (by show (1:Int)=hashInt 1;decide) rfl (.cons rfl (by show (2:Int)=hashInt 2;decide) rfl (.cons rfl (by show (3:Int)=hashInt 3;decide) rfl (.cons rfl (by show (4:Int)=hashInt 4;decide) rfl (.cons rfl (by show (5:Int)=hashInt 5;decide) rfl (.cons rfl (by show (6:Int)=hashInt 6;decide) rfl (.cons rfl (by show (7:Int)=hashInt 7;decide) rfl (.cons rfl (by show (8:Int)=hashInt 8;decide) rfl (.cons rfl (by show (9:Int)=hashInt 9;decide) rfl (.cons rfl (by show (10:Int)=hashInt 10;decide) rfl (.cons rfl (by show (11:Int)=hashInt 11;decide) rfl (.cons rfl (by show (12:Int)=hashInt 12;decide) rfl (.cons rfl (by show (13:Int)=hashInt 13;decide) rfl (.cons rfl (by show (14:Int)=hashInt 14;decide) rfl (.cons rfl (by show (15:Int)=hashInt 15;decide) rfl (.cons rfl (by show (16:Int)=hashInt 16;decide) rfl (.cons rfl (by show (17:Int)=hashInt 17;decide) rfl (.cons rfl (by show (18:Int)=hashInt 18;decide) rfl (.cons rfl (by show (19:Int)=hashInt 19;decide) rfl (.cons rfl (by show (20:Int)=hashInt 20;decide) rfl (.cons rfl (by show (21:Int)=hashInt 21;decide) rfl (.nil))))))))))))))))))))))⟩,
  lO:=fun H=> .inr ⟨_,_,_,apT,rfl,rfl,(by show 3≤sizeLine;decide),.cons ⟨_,rfl⟩ (.cons ⟨_,rfl⟩ (.cons ⟨_,rfl⟩ (.nil)))⟩,
  rF:=fun H=> .inr ⟨_,_,_,apU,rfl,rfl,(by show 3≤sizeLine;decide),.cons ⟨_,rfl⟩ (.cons ⟨_,rfl⟩ (.cons ⟨_,rfl⟩ (.nil)))⟩,
  rG:=fun H=> .inr ⟨_,_,_,apV,rfl,rfl,(by show 3≤sizeLine;decide),.cons ⟨_,rfl⟩ (.cons ⟨_,rfl⟩ (.cons ⟨_,rfl⟩ (.nil)))⟩,
  rH:=fun H=> .inr ⟨_,_,_,apW,rfl,rfl,(by show 1≤sizeLine;decide),.cons ⟨_,rfl⟩ (.nil)⟩,
  rJ:=fun H=> .inr ⟨_,_,_,apX,rfl,rfl,(by show 1≤sizeLine;decide),.cons ⟨_,rfl⟩ (.nil)⟩,
  rK:=fun H=> .inr ⟨_,_,_,apY,rfl,rfl,(by show 1≤sizeLine;decide),.cons ⟨_,rfl⟩ (.nil)⟩,
  rL:=fun H=> .inr ⟨_,_,_,apZ,rfl,rfl,(by show 1≤sizeLine;decide),.cons ⟨_,rfl⟩ (.nil)⟩,
  rM:=fun H=> .inr ⟨_,_,_,ap0,rfl,rfl,(by show 5≤sizeLine;decide),.cons ⟨_,rfl⟩ (.cons ⟨_,rfl⟩ (.cons ⟨_,rfl⟩ (.cons ⟨_,rfl⟩ (.cons ⟨_,rfl⟩ (.nil)))))⟩,
  rN:=fun H=> .inr ⟨_,_,_,ap1,rfl,rfl,(by show 3≤sizeLine;decide),.cons ⟨_,rfl⟩ (.cons ⟨_,rfl⟩ (.cons ⟨_,rfl⟩ (.nil)))⟩,
  rP:=fun H=> .inr ⟨_,_,_,ap2,rfl,rfl,(by show 2≤sizeLine;decide),.cons ⟨_,rfl⟩ (.cons ⟨_,rfl⟩ (.nil))⟩,
  rQ:=fun H=> .inr ⟨_,_,_,ap3,rfl,rfl,(by show 1≤sizeLine;decide),.cons ⟨_,rfl⟩ (.nil)⟩,
  rR:=fun H=> .inr ⟨_,_,_,ap4,rfl,rfl,(by show 1≤sizeLine;decide),.cons ⟨_,rfl⟩ (.nil)⟩,
  rS:=fun H=> .inr ⟨_,_,_,ap5,rfl,rfl,(by show 1≤sizeLine;decide),.cons ⟨_,rfl⟩ (.nil)⟩,
  rT:=fun H=> .inr ⟨_,_,_,ap6,rfl,rfl,(by show 1≤sizeLine;decide),.cons ⟨_,rfl⟩ (.nil)⟩,
  rV:=fun H=> .inr ⟨_,_,_,ap7,rfl,rfl,(by show 1≤sizeLine;decide),.cons ⟨_,rfl⟩ (.nil)⟩,
  rW:=fun H=> .inr ⟨_,_,_,ap8,rfl,rfl,(by show 8≤sizeLine;decide),.cons ⟨_,rfl⟩ (.cons ⟨_,rfl⟩ (.cons ⟨_,rfl⟩ (.cons ⟨_,rfl⟩ (.cons ⟨_,rfl⟩ (.cons ⟨_,rfl⟩ (.cons ⟨_,rfl⟩ (.cons ⟨_,rfl⟩ (.nil))))))))⟩,
  rX:=fun H=> .inr ⟨_,_,_,ap9,rfl,rfl,(by show 1≤sizeLine;decide),.cons ⟨_,rfl⟩ (.nil)⟩,
  rY:=fun H=> .inr ⟨_,_,_,aqa,rfl,rfl,(by show 2≤sizeLine;decide),.cons ⟨_,rfl⟩ (.cons ⟨_,rfl⟩ (.nil))⟩,
  rZ:=fun H=> .inr ⟨_,_,_,aqb,rfl,rfl,(by show 1≤sizeLine;decide),.cons ⟨_,rfl⟩ (.nil)⟩,
  r6:=fun H=> .inr ⟨_,_,_,aqc,rfl,rfl,(by show 2≤sizeLine;decide),.cons ⟨_,rfl⟩ (.cons ⟨_,rfl⟩ (.nil))⟩,
  sf:=fun H=> .inr ⟨_,_,_,aqd,rfl,rfl,(by show 0≤sizeLine;decide),.nil⟩,
  si:=fun H=> .inr ⟨_,_,_,aqe,rfl,rfl,(by show 0≤sizeLine;decide),.nil⟩,
  Lq:=⟨_,mg_of X G Ub,⟨_,rfl⟩⟩,
  Lr:=mg_none_of X G Lr,
  Ls:=mg_none_of X G Ls,
  d6:=mg_none_of X G d6,
  FE:=mg_none_of X G FE,
  Hy:=mg_none_of X G Hy,
  xY:=mg_none_of X G xY,
  uZ:=mg_none_of X G uZ,
  pF:=mg_none_of X G pF,
  zh:=mg_none_of X G zh,
  Lu:=mg_none_of X G Lu}
end Rl
namespace Rl
def FV (c:Int×List Int):List Int:=c.1::(c.2.length:Int)::(c.2 ++ [0])
def enc:List (Int×List Int)→List Int
 | [] => []
 |c::cs=>FV c ++ enc cs
def lB (c:Int×List Int):List (List Int):= [c.1::c.2]
theorem sZ:∀ (as bs:List (Int×List Int)),enc (as ++ bs)=enc as ++ enc bs
 | [],_=>rfl
 |a::as,bs=>by
  show FV a ++ enc (as ++ bs)=(FV a ++ enc as) ++ enc bs
  rw [sZ as bs,List.append_assoc]
theorem j2 {P:List (List Int)→Prop}
  (c0:∀a b c,P [[0,a,b,c]])
  (c1:∀a b c,P [[1,a,b,c]])
  (c2:∀a b c,P [[2,a,b,c]])
  (c3:∀a,P [[3,a]])
  (c4:∀a,P [[4,a]])
  (c5:∀a,P [[5,a]])
  (c6:∀a,P [[6,a]])
  (c7:∀a b c d e,P [[7,a,b,c,d,e]])
  (c8:∀a b c,P [[8,a,b,c]])
  (c9:∀a b,P [[9,a,b]])
  (c10:∀a,P [[10,a]])
  (c11:∀a,P [[11,a]])
  (c12:∀a,P [[12,a]])
  (c13:∀a,P [[13,a]])
  (c14:∀a,P [[14,a]])
  (c15:∀a b c d e f g h m,VbcnagNeutral.asked1 [15::a::b::c::d::e::f::g::h::m] =true→P [15::a::b::c::d::e::f::g::h::m])
  (c16:∀a,P [[16,a]])
  (c17:∀a b,P [[17,a,b]])
  (c18:∀a,P [[18,a]])
  (c19:∀a b,P [[19,a,b]])
  (c20:P [[20]])
  (c21:P [[21]])
  {c:List (List Int)}(h:VbcnagNeutral.asked1 c=true):P c:=by
 rcases c with _|⟨_|⟨n|n,l⟩,t⟩ <;>try (cases h;done)
 rcases n with _|_|_|_|_|_|_|_|_|_|_|_|_|_|_|_|_|_|_|_|_|_|n <;>try (cases h;done)
 ·rcases l with _|⟨_,_|⟨_,_|⟨_,_|_⟩⟩⟩ <;>try (cases h;done)
  rcases t with _|_ <;>try (cases h;done)
  exact c0 _ _ _
 ·rcases l with _|⟨_,_|⟨_,_|⟨_,_|_⟩⟩⟩ <;>try (cases h;done)
  rcases t with _|_ <;>try (cases h;done)
  exact c1 _ _ _
 ·rcases l with _|⟨_,_|⟨_,_|⟨_,_|_⟩⟩⟩ <;>try (cases h;done)
  rcases t with _|_ <;>try (cases h;done)
  exact c2 _ _ _
 ·rcases l with _|⟨_,_|_⟩ <;>try (cases h;done)
  rcases t with _|_ <;>try (cases h;done)
  exact c3 _
 ·rcases l with _|⟨_,_|_⟩ <;>try (cases h;done)
  rcases t with _|_ <;>try (cases h;done)
  exact c4 _
 ·rcases l with _|⟨_,_|_⟩ <;>try (cases h;done)
  rcases t with _|_ <;>try (cases h;done)
  exact c5 _
 ·rcases l with _|⟨_,_|_⟩ <;>try (cases h;done)
  rcases t with _|_ <;>try (cases h;done)
  exact c6 _
 ·rcases l with _|⟨_,_|⟨_,_|⟨_,_|⟨_,_|⟨_,_|_⟩⟩⟩⟩⟩ <;>try (cases h;done)
  rcases t with _|_ <;>try (cases h;done)
  exact c7 _ _ _ _ _
 ·rcases l with _|⟨_,_|⟨_,_|⟨_,_|_⟩⟩⟩ <;>try (cases h;done)
  rcases t with _|_ <;>try (cases h;done)
  exact c8 _ _ _
 ·rcases l with _|⟨_,_|⟨_,_|_⟩⟩ <;>try (cases h;done)
  rcases t with _|_ <;>try (cases h;done)
  exact c9 _ _
 ·rcases l with _|⟨_,_|_⟩ <;>try (cases h;done)
  rcases t with _|_ <;>try (cases h;done)
  exact c10 _
 ·rcases l with _|⟨_,_|_⟩ <;>try (cases h;done)
  rcases t with _|_ <;>try (cases h;done)
  exact c11 _
 ·rcases l with _|⟨_,_|_⟩ <;>try (cases h;done)
  rcases t with _|_ <;>try (cases h;done)
  exact c12 _
 ·rcases l with _|⟨_,_|_⟩ <;>try (cases h;done)
  rcases t with _|_ <;>try (cases h;done)
  exact c13 _
 ·rcases l with _|⟨_,_|_⟩ <;>try (cases h;done)
  rcases t with _|_ <;>try (cases h;done)
  exact c14 _
 ·rcases l with _|⟨_,_|⟨_,_|⟨_,_|⟨_,_|⟨_,_|⟨_,_|⟨_,_|⟨_,l⟩⟩⟩⟩⟩⟩⟩⟩ <;>try (cases h;done)
  rcases t with _|_ <;>try (cases h;done)
  exact c15 _ _ _ _ _ _ _ _ _ h
 ·rcases l with _|⟨_,_|_⟩ <;>try (cases h;done)
  rcases t with _|_ <;>try (cases h;done)
  exact c16 _
 ·rcases l with _|⟨_,_|⟨_,_|_⟩⟩ <;>try (cases h;done)
  rcases t with _|_ <;>try (cases h;done)
  exact c17 _ _
 ·rcases l with _|⟨_,_|_⟩ <;>try (cases h;done)
  rcases t with _|_ <;>try (cases h;done)
  exact c18 _
 ·rcases l with _|⟨_,_|⟨_,_|_⟩⟩ <;>try (cases h;done)
  rcases t with _|_ <;>try (cases h;done)
  exact c19 _ _
 ·rcases l with _|_ <;>try (cases h;done)
  rcases t with _|_ <;>try (cases h;done)
  exact c20
 ·rcases l with _|_ <;>try (cases h;done)
  rcases t with _|_ <;>try (cases h;done)
  exact c21
theorem Kb {c:List (List Int)}(h:VbcnagNeutral.asked1 c=true):∃p ns,c= [p::ns] :=by
 refine j2 (P:=fun c=>∃p ns,c= [p::ns]) ?_ ?_ ?_ ?_ ?_ ?_ ?_ ?_ ?_ ?_ ?_ ?_ ?_ ?_ ?_ ?_ ?_ ?_ ?_ ?_ ?_ ?_ h <;>(intros;exact ⟨_,_,rfl⟩)
theorem QQ (p:Int)(ns:List Int):PyWide.put1 [p::ns] =FV (p,ns):=rfl
theorem LF:∀ (cs:List (List (List Int))),(∀c∈cs,VbcnagNeutral.asked1 c=true)→
  ∃ds:List (Int×List Int),cs=ds.map lB∧PyWide.put cs=enc ds
 | [],_=>⟨[],rfl,rfl⟩
 |c::cs,h=>by
  obtain ⟨ds,e1,e2⟩:=LF cs fun d hd=>h d (List.Mem.tail _ hd)
  obtain ⟨p,ns,e⟩:=Kb (h c (List.Mem.head _))
  refine ⟨(p,ns)::ds,?_,?_⟩
  ·rw [e,e1];rfl
  ·show PyWide.put1 c ++ PyWide.put cs=FV (p,ns) ++ enc ds
   rw [e,e2,QQ]
theorem Im {l:List Int}(h:PyVbcnag.answers_asked l=true):∃cs:List (Int×List Int),
  l=enc cs∧cs.length≤400∧(∀c∈cs,VbcnagNeutral.asked1 (lB c)=true)∧
  PyVbcnag.answers l=PyFlat.told (PyFlat.played VbcnagNeutral.step VbcnagNeutral.start (cs.map lB))∧
  (PyVbcnag.answers l).length≤10000000:=by
 unfold PyVbcnag.answers_asked at h
 cases e:PyVbcnag.calls l with
 |none=>rw [e] at h;cases h
 |some cs=>
  rw [e] at h
  simp only [Bool.and_eq_true] at h
  obtain ⟨⟨h1,h2⟩,h3⟩:=h
  have a:l=PyWide.put cs∧∀c∈cs,PyWide.okCall c:=PyWide.put_calls _ _ _ e
  unfold VbcnagNeutral.asked at h2
  simp only [Bool.and_eq_true,List.all_eq_true] at h2
  obtain ⟨ds,e1,e2⟩:=LF cs h2.1
  refine ⟨ds,a.1.trans e2,?_,?_,?_,?_⟩
  ·have:cs.length≤400:=of_decide_eq_true h1
   rw [e1,List.length_map] at this
   exact this
  ·intro c hc
   exact h2.1 _ (by rw [e1];exact List.mem_map_of_mem hc)
  ·unfold PyVbcnag.answers
   rw [e,e1]
  ·exact of_decide_eq_true h3
def dk (s:Option Vbcnag.World)(c:Int×List Int):Option Vbcnag.World×List Int:=VbcnagNeutral.step s (lB c)
def gp (s:Option Vbcnag.World):List (Int×List Int)→Option Vbcnag.World
 | [] =>s
 |c::cs=>gp (dk s c).1 cs
def dO (s:Option Vbcnag.World):List (Int×List Int)→List Int
 | [] => []
 |c::cs=>((dk s c).2.length:Int)::((dk s c).2 ++ dO (dk s c).1 cs)
theorem FW:∀ (cs:List (Int×List Int))(s:Option Vbcnag.World),
  PyFlat.told (PyFlat.played VbcnagNeutral.step s (cs.map lB))=dO s cs
 | [],_=>rfl
 |c::cs,s=>by
  show PyFlat.told ((VbcnagNeutral.step s (lB c)).2::PyFlat.played VbcnagNeutral.step (VbcnagNeutral.step s (lB c)).1 (cs.map lB))=_
  have ih:=FW cs (dk s c).1
  unfold PyFlat.told at ih ⊢
  rw [List.flatMap_cons]
  show ((dk s c).2.length:Int)::(dk s c).2 ++ _=_
  rw [show List.flatMap (fun a=>((a.length:Int)::a:List Int)) (PyFlat.played VbcnagNeutral.step (VbcnagNeutral.step s (lB c)).1 (cs.map lB))=dO (dk s c).1 cs from ih]
  rfl
theorem kH:∀ (as bs:List (Int×List Int))(s:Option Vbcnag.World),dO s (as ++ bs)=dO s as ++ dO (gp s as) bs
 | [],_,_=>rfl
 |a::as,bs,s=>by
  show ((dk s a).2.length:Int)::((dk s a).2 ++ dO (dk s a).1 (as ++ bs))=((dk s a).2.length:Int)::(((dk s a).2 ++ dO (dk s a).1 as) ++ dO (gp (dk s a).1 as) bs)
  rw [kH as bs,List.append_assoc]
theorem vJ:∀ (as bs:List (Int×List Int))(s:Option Vbcnag.World),gp s (as ++ bs)=gp (gp s as) bs
 | [],_,_=>rfl
 |a::as,bs,s=>vJ as bs (dk s a).1
end Rl
namespace Rl
open Vbcnag
theorem gg:∀ (l:List Under)(w:World),puts w l=({w with bag:=w.bag ++ l.take (w.cap - w.bag.length)},l.take (w.cap - w.bag.length))
 | [],w=>by simp [puts]
 |m::l,w=>by
  unfold puts
  by_cases h:w.bag.length < w.cap
  ·rw [if_pos h,gg l]
   obtain ⟨k,hk⟩:∃k,w.cap - w.bag.length=k + 1:=⟨w.cap - w.bag.length - 1,by omega⟩
   have h2:w.cap - (w.bag ++ [m]).length=k:=by rw [List.length_append];simp only [List.length_cons,List.length_nil];omega
   simp only [h2,hk,List.take_succ_cons,List.append_assoc,List.cons_append,List.nil_append]
  ·rw [if_neg h,gg l]
   have h2:w.cap - w.bag.length=0:=by omega
   simp only [h2,List.take_zero]
theorem pR (w:World)(u:Under):puts w [u] =if w.bag.length < w.cap then ({w with bag:=w.bag ++ [u] },[u]) else (w,[]):=rfl
structure vK (c:Client):Prop where
 off:c.phase=0→c.due=none
 on:c.phase≠0→c.due.isSome=true
 le6:c.phase≤6
 ask:c.phase=2→c.best.isSome=true
 held:3≤c.phase→c.lease.isSome=true
structure Sr (now:Nat) (c d:Client):Prop where
 good:vK d
 host:d.host=c.host
 place:d.place=c.place
 due:d.due=c.due∨∃t,d.due=some t∧now < t
theorem AL (a b:Nat):0 < wait a b:=by
 have h:0 < 2 ^ a:=Nat.two_pow_pos a
 unfold wait
 omega
theorem mx {now phase tries:Nat}{f:Nat→Nat}{kind:Nat}{sv:Option Nat}{addr:Nat}{c:Client}(h0:phase≠0)(h6:phase≤6)(ha:phase=2→c.best.isSome=true)(hh:3≤phase→c.lease.isSome=true)(hf:∀n,now < f n):
  Sr now c (sends now phase tries f kind sv addr c).1∧∃t,(sends now phase tries f kind sv addr c).1.due=some t∧now < t:=
 ⟨⟨⟨fun h=>absurd h h0,fun _=>rfl,h6,ha,hh⟩,rfl,rfl,.inr ⟨_,rfl,hf _⟩⟩,_,rfl,hf _⟩
theorem my (now tries:Nat)(c:Client):Sr now c (seek now tries c).1∧∃t,(seek now tries c).1.due=some t∧now < t:=by
 have h:=mx (now:=now) (phase:=1) (tries:=tries) (f:=fun n=>now + wait tries n) (kind:=1) (sv:=none) (addr:=0) (c:={c with best:=none,lease:=none}) (by decide) (by decide) (fun h=>by cases h) (fun h=>by exact absurd h (by decide)) (fun n=>by have:=AL tries n;omega)
 obtain ⟨⟨g,a,b,d⟩,e⟩:=h
 exact ⟨⟨g,a,b,d⟩,e⟩
theorem AM (now tries:Nat)(o:Offer){c:Client}(hb:c.best.isSome=true):Sr now c (askFor now tries o c).1∧∃t,(askFor now tries o c).1.due=some t∧now < t:=
 mx (by decide) (by decide) (fun _=>hb) (fun h=>absurd h (by decide)) (fun n=>by have:=AL tries n;omega)
theorem vL (now tries:Nat)(l:Lease){c:Client}(hb:c.lease.isSome=true):Sr now c (comeBack now tries l c).1∧∃t,(comeBack now tries l c).1.due=some t∧now < t:=
 mx (by decide) (by decide) (fun h=>by cases h) (fun _=>hb) (fun n=>by have:=AL tries n;omega)
theorem nI (now:Nat)(l:Lease){c:Client}(hb:c.lease.isSome=true):Sr now c (settle now l c).1∧∃t,(settle now l c).1.due=some t∧now < t:=by
 unfold settle
 split
 ·rename_i h
  exact ⟨⟨⟨fun h=>(by cases h),fun _=>rfl,(by show 3≤6;decide),fun h=>(by cases h),fun _=>hb⟩,rfl,rfl,.inr ⟨_,rfl,h⟩⟩,_,rfl,h⟩
 ·split
  ·exact mx (by decide) (by decide) (fun h=>by cases h) (fun _=>hb) (fun n=>by omega)
  ·split
   ·exact mx (by decide) (by decide) (fun h=>by cases h) (fun _=>hb) (fun n=>by omega)
   ·exact my now 0 c
theorem pS (now:Nat){c:Client}(g:vK c)(h:c.phase≠0):Sr now c (acts now c).1∧∃t,(acts now c).1.due=some t∧now < t:=by
 have h6:=g.le6
 unfold acts
 split
 ·exact AM _ _ _ (by simp [*])
 ·exact my _ _ _
 ·split
  ·exact AM _ _ _ (by simp [*])
  ·exact my _ _ _
 ·split
  ·exact vL _ _ _ (by simp [*])
  ·exact nI _ _ (by simp [*])
 ·exact nI _ _ (by simp [*])
 ·rename_i h1 h2 h3 h4
  exfalso
  have hl:c.lease=none:=by assumption
  by_cases q:3≤c.phase
  ·have:=g.held q
   rw [hl] at this
   cases this
  ·by_cases q1:c.phase=1
   ·cases hb:c.best with
    |none=>simp_all
    |some o=>simp_all
   ·have q2:c.phase=2:=by omega
    have:=g.ask q2
    cases hb:c.best with
    |none=>rw [hb] at this;cases this
    |some o=>simp_all
theorem Nn (now:Nat){c:Client}(g:vK c)(m:Msg):Sr now c (hears now c m).1:=by
 have self:Sr now c c:=⟨g,rfl,rfl,.inl rfl⟩
 unfold hears
 split
 ·exact self
 ·rename_i hp
  have hp0:c.phase≠0:=fun e=>hp (.inl e)
  split
  ·dsimp only
   split
   ·rename_i hx
    exact ⟨⟨fun h=>absurd h hp0,fun h=>g.on h,g.le6,fun h=>rfl,fun h=>g.held h⟩,rfl,rfl,.inl rfl⟩
   ·exact self
  ·rename_i sv _ _
   split
   ·have:=nI now {server:=sv,addr:=m.addr,half:=c.sent + m.len / 2,late:=c.sent + m.len * 7 / 8,till:=c.sent + m.len} (c:={c with best:=none,lease:=some {server:=sv,addr:=m.addr,half:=c.sent + m.len / 2,late:=c.sent + m.len * 7 / 8,till:=c.sent + m.len} }) rfl
    obtain ⟨⟨a,b,d,e⟩,f⟩:=this
    exact ⟨a,b,d,.inr f⟩
   ·exact self
  ·split
   ·exact (my now 0 c).1
   ·exact self
  ·exact self
theorem DW:∀ {l:List Client}{c:Client},(l.map (·.host)).Nodup→c∈l→l.find? (fun d=>d.host==c.host)=some c
 | [],c,_,h=>by cases h
 |d::l,c,nd,h=>by
  rw [List.map_cons,List.nodup_cons] at nd
  rw [List.find?_cons]
  cases h with
  |head=>simp
  |tail _ h=>
   have:¬d.host=c.host:=fun e=>nd.1 (by rw [e];exact List.mem_map_of_mem h)
   have hb:(d.host==c.host)=false:=by simpa using this
   rw [hb]
   exact DW nd.2 h
theorem j3 {w:World}{h:Nat}{c:Client}(e:clientOf w h=some c):c∈w.clients∧c.host=h:=by
 unfold clientOf at e
 exact ⟨List.mem_of_find?_eq_some e,by simpa using List.find?_some e⟩
theorem map_set:∀ {l:List Client}{i:Nat}{c d:Client},(l.map (·.host)).Nodup→l[i]?=some c→d.host=c.host→(l.map fun x=>if x.host=d.host then d else x)=l.set i d
 | [],i,c,d,_,h,_=>by simp at h
 |x::l,0,c,d,nd,h,e=>by
  rw [List.map_cons,List.nodup_cons] at nd
  have hx:x=c:=by simpa using h
  subst hx
  rw [List.map_cons,if_pos e.symm,List.set_cons_zero]
  congr 1
  have:∀y∈l,(if y.host=d.host then d else y)=y:=fun y hy=>if_neg fun q=>nd.1 (by rw [←e,←q];exact List.mem_map_of_mem hy)
  rw [List.map_congr_left this,List.map_id']
 |x::l,i + 1,c,d,nd,h,e=>by
  rw [List.map_cons,List.nodup_cons] at nd
  have hl:l[i]?=some c:=by simpa using h
  have:¬x.host=d.host:=fun q=>nd.1 (by rw [q,e];exact List.mem_map_of_mem (List.mem_of_getElem? hl))
  rw [List.map_cons,if_neg this,List.set_cons_succ,map_set nd.2 hl e]
theorem bW {w:World}{i:Nat}{c d:Client}(nd:(w.clients.map (·.host)).Nodup)(h:w.clients[i]?=some c)(e:d.host=c.host):setClient w d={w with clients:=w.clients.set i d}:=by
 unfold setClient
 rw [map_set nd h e]
theorem Io {w:World}{i:Nat}{c:Client}(nd:(w.clients.map (·.host)).Nodup)(h:w.clients[i]?=some c):clientOf w c.host=some c:=DW nd (List.mem_of_getElem? h)
theorem kl {l:List Client}{i:Nat}{c d:Client}(h:l[i]?=some c)(e:d.host=c.host):(l.set i d).map (·.host)=l.map (·.host):=by
 rw [List.map_set]
 apply List.ext_getElem?
 intro j
 rw [List.getElem?_set]
 split
 ·rename_i hj
  subst hj
  obtain ⟨hl,hc⟩:=List.getElem?_eq_some_iff.mp h
  rw [List.length_map,if_pos hl,List.getElem?_map,h,e]
  rfl
 ·rfl
def gq (a b:Nat×Nat):Prop:=a.1 < b.1∨(a.1=b.1∧a.2≤b.2)
theorem QR (a:Nat×Nat):gq a a:= .inr ⟨rfl,Nat.le_refl _⟩
theorem lex_trans {a b c:Nat×Nat}(h:gq a b)(k:gq b c):gq a c:=by
 unfold gq at *;omega
theorem QS {a b:Nat×Nat}(h:gq a b)(k:gq b a):a=b:=by
 unfold gq at *
 apply Prod.ext <;>omega
theorem AN (a b:Nat×Nat):sooner a b=true ↔ ¬gq b a:=by
 unfold sooner gq
 simp only [Bool.or_eq_true,decide_eq_true_eq,Bool.and_eq_true,beq_iff_eq]
 omega
def pick (b:Option (Nat×Nat))(x:Nat×Nat):Option (Nat×Nat):=match b with
 |none=>some x
 |some y=>if sooner x y=true then some x else some y
theorem kI:∀ (l:List (Nat×Nat))(b:Nat×Nat),∃z,l.foldl pick (some b)=some z∧(z=b∨z∈l)∧gq z b∧∀x∈l,gq z x
 | [],b=>⟨b,rfl,.inl rfl,QR b,fun x h=>by cases h⟩
 |a::l,b=>by
  rw [List.foldl_cons]
  by_cases h:sooner a b=true
  ·have e:pick (some b) a=some a:=if_pos h
   rw [e]
   obtain ⟨z,e1,m,le,all⟩:=kI l a
   have qW:gq a b:=by
    have:=(AN a b).mp h
    unfold gq at *;omega
   refine ⟨z,e1,?_,lex_trans le qW,fun x hx=> ?_⟩
   ·rcases m with m|m
    ·exact .inr (by rw [m];exact List.Mem.head _)
    ·exact .inr (List.Mem.tail _ m)
   ·cases hx with
    |head=>exact le
    |tail _ hx=>exact all x hx
  ·have e:pick (some b) a=some b:=if_neg h
   rw [e]
   obtain ⟨z,e1,m,le,all⟩:=kI l b
   have we:gq b a:=by
    have:=(AN a b)
    by_cases q:gq b a
    ·exact q
    ·exact absurd (this.mpr q) h
   refine ⟨z,e1,?_,le,fun x hx=> ?_⟩
   ·rcases m with m|m
    ·exact .inl m
    ·exact .inr (List.Mem.tail _ m)
   ·cases hx with
    |head=>exact lex_trans le we
    |tail _ hx=>exact all x hx
theorem gr {l:List (Nat×Nat)}{z:Nat×Nat}(h:soonest l=some z):z∈l∧∀x∈l,gq z x:=by
 cases l with
 |nil=>cases h
 |cons a l=>
  have e:soonest (a::l)=l.foldl pick (some a):=rfl
  rw [e] at h
  obtain ⟨y,e1,m,le,all⟩:=kI l a
  rw [e1] at h
  cases h
  refine ⟨?_,fun x hx=> ?_⟩
  ·rcases m with m|m
   ·rw [m];exact List.Mem.head _
   ·exact List.Mem.tail _ m
  ·cases hx with
   |head=>exact le
   |tail _ hx=>exact all x hx
theorem Kc {l:List (Nat×Nat)}{z:Nat×Nat}(hm:z∈l)(all:∀x∈l,gq z x):soonest l=some z:=by
 cases l with
 |nil=>cases hm
 |cons a l=>
  cases e:soonest (a::l) with
  |none=>
   have e2:soonest (a::l)=l.foldl pick (some a):=rfl
   obtain ⟨y,e1,_⟩:=kI l a
   rw [e2,e1] at e
   cases e
  |some y=>
   obtain ⟨hy,aqf⟩:=gr e
   rw [QS (aqf z hm) (all y hy)]
theorem vM {l:List (Nat×Nat)}(h:soonest l=none):l= [] :=by
 cases l with
 |nil=>rfl
 |cons a l=>
  have e2:soonest (a::l)=l.foldl pick (some a):=rfl
  obtain ⟨y,e1,_⟩:=kI l a
  rw [e2,e1] at h
  cases h
theorem gu {w:World}{t h:Nat}:(t,h)∈dues w ↔ ∃c∈w.clients,c.due=some t∧c.host=h:=by
 unfold dues
 rw [List.mem_filterMap]
 constructor
 ·rintro ⟨c,hc,e⟩
  cases hd:c.due with
  |none=>rw [hd] at e;cases e
  |some d=>
   rw [hd] at e
   cases e
   exact ⟨c,hc,hd,rfl⟩
 ·rintro ⟨c,hc,e1,e2⟩
  exact ⟨c,hc,by rw [e1,e2];rfl⟩
def vN (e:Nat)(c:Client):Nat:=match c.due with
 |some d=>e + 1 - d
 |none=>0
def mu (e:Nat)(l:List Client):Nat:=(l.map (vN e)).sum
theorem QT:∀ {l:List Client}{i:Nat}{c d:Client}{e:Nat},l[i]?=some c→mu e (l.set i d) + vN e c=mu e l + vN e d
 | [],i,c,d,e,h=>by simp at h
 |x::l,0,c,d,e,h=>by
  have hx:x=c:=by simpa using h
  subst hx
  simp only [mu,List.set_cons_zero,List.map_cons,List.sum_cons]
  omega
 |x::l,i + 1,c,d,e,h=>by
  have ih:=QT (l:=l) (i:=i) (c:=c) (d:=d) (e:=e) (by simpa using h)
  simp only [mu,List.set_cons_succ,List.map_cons,List.sum_cons] at ih ⊢
  omega
theorem VB {e k:Nat}:∀ {l:List Client},(∀c∈l,∀d,c.due=some d→e + 1 - d≤k)→mu e l≤k * l.length
 | [],_=>by simp [mu]
 |c::l,h=>by
  have ih:=VB (l:=l) fun d hd=>h d (List.Mem.tail _ hd)
  have h1:vN e c≤k:=by
   unfold vN
   split
   ·rename_i d hd
    exact h c (List.Mem.head _) d hd
   ·omega
  simp only [mu,List.map_cons,List.sum_cons,List.length_cons,Nat.mul_succ] at ih ⊢
  omega
structure sL (w:World):Prop where
 nd:(w.clients.map (·.host)).Nodup
 cl:∀c∈w.clients,vK c
theorem j4 {c:Client}(g:vK c){t:Nat}(h:c.due=some t):c.phase≠0:=fun q=>by
 rw [g.off q] at h;cases h
def gj (w:World)(t:Nat)(c:Client):World:=done {w with now:=t} (acts t c)
theorem vO {w:World}{i t:Nat}{c:Client}(g:sL w)(h:w.clients[i]?=some c)(hp:c.phase≠0):
  (gj w t c).clients=w.clients.set i (acts t c).1∧(gj w t c).now=t∧(gj w t c).cap=w.cap∧(gj w t c).servers=w.servers∧(gj w t c).relays=w.relays∧
  (gj w t c).resting=w.resting∧(gj w t c).assigned=w.assigned∧(gj w t c).written=w.written:=by
 have hd:=(pS t (g.cl c (List.mem_of_getElem? h)) hp).1
 unfold gj done
 rw [gg,bW (w:={w with now:=t}) (i:=i) (c:=c) g.nd h hd.host]
 exact ⟨rfl,rfl,rfl,rfl,rfl,rfl,rfl,rfl⟩
theorem AO {w:World}{i t:Nat}{c:Client}(g:sL w)(h:w.clients[i]?=some c)(hp:c.phase≠0):sL (gj w t c):=by
 have hd:=(pS t (g.cl c (List.mem_of_getElem? h)) hp).1
 have e:=(vO (t:=t) g h hp).1
 refine ⟨?_,?_⟩
 ·rw [e,kl h hd.host]
  exact g.nd
 ·rw [e]
  intro d hm
  rcases List.mem_or_eq_of_mem_set hm with q|q
  ·exact g.cl d q
  ·rw [q];exact hd.good
theorem AQ {w:World}{i t e:Nat}{c:Client}(g:sL w)(h:w.clients[i]?=some c)(hd:c.due=some t)(hle:t≤e):mu e (gj w t c).clients < mu e w.clients:=by
 have hp:=j4 (g.cl c (List.mem_of_getElem? h)) hd
 obtain ⟨_,t',ht,eA⟩:=pS t (g.cl c (List.mem_of_getElem? h)) hp
 rw [(vO (t:=t) g h hp).1]
 have m:=QT (e:=e) (d:=(acts t c).1) h
 have s1:vN e c=e + 1 - t:=by unfold vN;rw [hd]
 have s2:vN e (acts t c).1=e + 1 - t':=by unfold vN;rw [ht]
 omega
theorem DX {n e i t:Nat}{w:World}{c:Client}(g:sL w)(h:w.clients[i]?=some c)(hs:soonest (dues w)=some (t,c.host))(hle:t≤e):
  ticks (n + 1) e w=((ticks n e (gj w t c)).1,(ticks n e (gj w t c)).2 + 1):=by
 show (match soonest (dues w) with
  |none=>({w with now:=e},0)
  |some (t,host)=>
   if e < t then ({w with now:=e},0)
   else match clientOf w host with
    |none=>(w,0)
    |some c=>
     let y:=acts t c
     let v:=setClient {w with now:=t} y.1
     let x:=ticks n e (puts v (outOf y.1 y.2)).1
     (x.1,x.2 + 1))=_
 rw [hs]
 dsimp only
 rw [if_neg (Nat.not_lt.mpr hle),Io g.nd h]
 rfl
theorem DY {n e:Nat}{w:World}(h:∀c∈w.clients,∀d,c.due=some d→e < d):ticks (n + 1) e w=({w with now:=e},0):=by
 show (match soonest (dues w) with
  |none=>({w with now:=e},0)
  |some (t,host)=>
   if e < t then ({w with now:=e},0)
   else match clientOf w host with
    |none=>(w,0)
    |some c=>
     let y:=acts t c
     let v:=setClient {w with now:=t} y.1
     let x:=ticks n e (puts v (outOf y.1 y.2)).1
     (x.1,x.2 + 1))=_
 cases hs:soonest (dues w) with
 |none=>rfl
 |some z=>
  obtain ⟨t,host⟩:=z
  obtain ⟨c,hc,h1,_⟩:=gu.mp (gr hs).1
  dsimp only
  rw [if_pos (h c hc t h1)]
structure vP (lid e:Nat) (w0 w:World) (k:Nat):Prop where
 good:sL w
 ex:∃n,mu e w.clients < n∧ticks lid e w0=((ticks n e w).1,(ticks n e w).2 + k)
theorem vP.start {lid e:Nat}{w:World}(g:sL w)(h:mu e w.clients < lid):vP lid e w w 0:=⟨g,lid,h,rfl⟩
theorem vP.act {lid e k i t:Nat}{w0 w:World}{c:Client}(G:vP lid e w0 w k)(h:w.clients[i]?=some c)(hs:soonest (dues w)=some (t,c.host))(hd:c.due=some t)(hle:t≤e):vP lid e w0 (gj w t c) (k + 1):=by
 obtain ⟨g,n,hn,e1⟩:=G
 have hp:=j4 (g.cl c (List.mem_of_getElem? h)) hd
 have hm:=AQ g h hd hle
 cases n with
 |zero=>omega
 |succ n=>
  refine ⟨AO g h hp,n,by omega,?_⟩
  rw [e1,DX g h hs hle]
  show _=(_,(ticks n e (gj w t c)).2 + (k + 1))
  congr 1
  show (ticks n e (gj w t c)).2 + 1 + k=_
  omega
theorem vP.ends {lid e k:Nat}{w0 w:World}(G:vP lid e w0 w k)(h:∀c∈w.clients,∀d,c.due=some d→e < d):ticks lid e w0=({w with now:=e},k):=by
 obtain ⟨g,n,hn,e1⟩:=G
 cases n with
 |zero=>omega
 |succ n=>
  rw [e1,DY h]
  show (_,0 + k)=_
  rw [Nat.zero_add]
theorem AR {w:World}{t:Nat}(h:∀c∈w.clients,∀d,c.due=some d→w.now < d):mu (w.now + t) w.clients < (t + 1) * (w.clients.length + 1):=by
 have h1:=VB (e:=w.now + t) (k:=t) (l:=w.clients) fun c hc d hd=>by have:=h c hc d hd;omega
 have h2:t * w.clients.length≤t * (w.clients.length + 1):=Nat.mul_le_mul_left _ (Nat.le_succ _)
 have h3:(t + 1) * (w.clients.length + 1)=t * (w.clients.length + 1) + (w.clients.length + 1):=Nat.succ_mul _ _
 omega
structure js (nr ns:Nat) (u:Under):Prop where
 marks:u.msg.marks.length≤32
 hops:u.msg.hops≤16
 up:∀r c,u.place= .up r c→r < nr∧u.msg.marks.length≤16 + u.msg.hops
 server:∀s,u.place= .server s→s < ns
 back:(∀r,u.place≠ .down r)∧(∀r c,u.place≠ .circuit r c)∨(u.msg.server.isSome=true∧(u.msg.kind=2∨u.msg.kind=4∨u.msg.kind=5))
def fh (x:Written):Nat×Nat×Nat:=(x.server,x.host,x.addr)
theorem kJ {α:Type}:∀ {l:List α}{a:α},l.Nodup→a ∉ l→(l ++ [a]).Nodup
 | [],a,_,_=>by simp
 |x::l,a,nd,h=>by
  rw [List.nodup_cons] at nd
  rw [List.cons_append,List.nodup_cons]
  refine ⟨fun q=> ?_,kJ nd.2 fun q=>h (List.Mem.tail _ q)⟩
  rcases List.mem_append.mp q with q|q
  ·exact nd.1 q
  ·have:x=a:=by simpa using q
   exact h (by rw [this];exact List.Mem.head _)
structure cp (w:World):Prop where
 nd:(w.clients.map (·.host)).Nodup
 cl:∀c∈w.clients,vK c
 Np:∀c∈w.clients,∀d,c.due=some d→w.now < d
 e9:∀c∈w.clients,∀m,c.place=some m→m.relay < w.relays.length
 vQ:w.clients.length≤64
 Ip:w.relays.length≤64
 root:∃r,w.relays[0]?=some r∧r.above=none
 tree:∀ (i:Nat)(r:Relay),w.relays[i]?=some r→0 < i→∃m,r.above=some m∧m.relay < i
 limit:∀r∈w.relays,r.limit≤16
 Zw:1≤w.servers∧w.servers≤4
 cap:1≤w.cap∧w.cap≤10000
 bag:w.bag.length≤w.cap
 msgs:∀u∈w.bag,js w.relays.length w.servers u
 now:w.now≤TIMES
 asg:w.assigned.length≤128
 Yy:(w.written.map fh).Nodup
theorem AS (x:Written):∀l:List Written,(write x l).map fh=if fh x∈l.map fh then l.map fh else l.map fh ++ [fh x]
 | [] =>rfl
 |y::l=>by
  unfold write
  split
  ·rename_i h
   have e:fh x=fh y:=by
    obtain ⟨h1,h2,h3⟩:=h
    show (_,_,_)=(_,_,_)
    rw [h1,h2,h3]
   rw [if_pos (by rw [e];exact List.mem_cons_self ..)]
   rfl
  ·rename_i h
   have e:fh x≠fh y:=fun q=>by
    injection q with q1 q
    injection q with q2 q3
    exact h ⟨q1.symm,q2.symm,q3.symm⟩
   rw [List.map_cons,AS x l,List.map_cons]
   by_cases q:fh x∈l.map fh
   ·rw [if_pos q,if_pos (List.mem_cons_of_mem _ q)]
   ·rw [if_neg q,if_neg (fun z=>by
     rcases List.mem_cons.mp z with z|z
     ·exact e z
     ·exact q z)]
    rfl
theorem QU {x:Written}{l:List Written}(h:(l.map fh).Nodup):((write x l).map fh).Nodup:=by
 rw [AS]
 split
 ·exact h
 ·rename_i q
  exact kJ h q
theorem cp.t {w:World}(g:cp w):sL w:=⟨g.nd,g.cl⟩
theorem Kd {n cap t:Nat}(hn:1≤n∧n≤4)(hc:1≤cap∧cap≤10000)(ht:t≤TIMES):cp {now:=t,servers:=n,cap:=cap,relays:= [{above:=none,limit:=16}] } where
 nd:=List.nodup_nil
 cl:=fun c h=>by cases h
 Np:=fun c h=>by cases h
 e9:=fun c h=>by cases h
 vQ:=Nat.zero_le _
 Ip:=by show 1≤64;decide
 root:=⟨_,rfl,rfl⟩
 tree:=fun i r h hi=>by
  cases i with
  |zero=>exact absurd hi (Nat.lt_irrefl _)
  |succ i=>simp at h
 limit:=fun r h=>by
  have e:r={above:=none,limit:=16}:=by simpa using h
  subst e
  exact Nat.le_refl _
 Zw:=hn
 cap:=hc
 bag:=Nat.zero_le _
 msgs:=fun u h=>by cases h
 now:=ht
 asg:=Nat.zero_le _
 Yy:=List.nodup_nil
theorem DZ {w:World}(g:cp w){l:List Under}(h:∀u∈l,js w.relays.length w.servers u):cp (puts w l).1:=by
 rw [gg]
 have hb:=g.bag
 exact {g with
  bag:=by
   show (w.bag ++ l.take (w.cap - w.bag.length)).length≤w.cap
   rw [List.length_append,List.length_take]
   omega
  msgs:=fun u hu=>by
   rcases List.mem_append.mp hu with q|q
   ·exact g.msgs u q
   ·exact h u (List.mem_of_mem_take q)}
theorem AU {w:World}(g:cp w){i:Nat}{c d:Client}(h:w.clients[i]?=some c)(hd:Sr w.now c d):cp {w with clients:=w.clients.set i d}:=
 have hc:=List.mem_of_getElem? h
 {g with
  nd:=by
   show ((w.clients.set i d).map (·.host)).Nodup
   rw [kl h hd.host]
   exact g.nd
  cl:=fun x hx=>by
   rcases List.mem_or_eq_of_mem_set hx with q|q
   ·exact g.cl x q
   ·rw [q];exact hd.good
  Np:=fun x hx t ht=>by
   rcases List.mem_or_eq_of_mem_set hx with q|q
   ·exact g.Np x q t ht
   ·subst q
    rcases hd.due with e|⟨t',e,eA⟩
    ·exact g.Np c hc t (by rw [←e];exact ht)
    ·rw [e] at ht
     cases ht
     exact eA
  e9:=fun x hx m hm=>by
   rcases List.mem_or_eq_of_mem_set hx with q|q
   ·exact g.e9 x q m hm
   ·subst q
    exact g.e9 c hc m (by rw [←hd.place];exact hm)
  vQ:=by
   show (w.clients.set i d).length≤64
   rw [List.length_set]
   exact g.vQ}
structure Nq (m:Msg):Prop where
 hops:m.hops=0
 marks:m.marks= []
theorem AV {w:World}(g:cp w){c d:Client}(hc:c∈w.clients)(hp:d.place=c.place){l:List Msg}(hl:∀m∈l,Nq m):∀u∈outOf d l,js w.relays.length w.servers u:=by
 intro u hu
 unfold outOf at hu
 split at hu
 ·cases hu
 ·rename_i p e
  obtain ⟨m,hm,rfl⟩:=List.mem_map.mp hu
  have hs:=hl m hm
  have hr:=g.e9 c hc p (by rw [←hp];exact e)
  refine ⟨(by show m.marks.length≤32;rw [hs.marks];decide),(by show m.hops≤16;rw [hs.hops];decide),fun r c e=> ?_,fun s e=>(by cases e),.inl ⟨fun r e=>(by cases e),fun r c e=>(by cases e)⟩⟩
  cases e
  exact ⟨hr,(by show m.marks.length≤_;rw [hs.marks];exact Nat.zero_le _)⟩
theorem dX {now phase tries:Nat}{f:Nat→Nat}{kind:Nat}{sv:Option Nat}{addr:Nat}{c:Client}:∀m∈(sends now phase tries f kind sv addr c).2,Nq m:=fun m hm=>by
 have e:m={host:=c.host,number:=c.counter + 1,kind:=kind,server:=sv,addr:=addr}:=by simpa [sends] using hm
 subst e
 exact ⟨rfl,rfl⟩
theorem pT (now:Nat)(l:Lease)(c:Client):∀m∈(settle now l c).2,Nq m:=by
 unfold settle
 intro m hm
 split at hm
 ·cases hm
 ·split at hm
  ·exact dX m hm
  ·split at hm
   ·exact dX m hm
   ·exact dX m hm
theorem Nr (now:Nat)(c:Client):∀m∈(acts now c).2,Nq m:=by
 unfold acts
 intro m hm
 split at hm
 ·exact dX m hm
 ·exact dX m hm
 ·split at hm <;>exact dX m hm
 ·split at hm
  ·exact dX m hm
  ·exact pT _ _ _ m hm
 ·exact pT _ _ _ m hm
 ·cases hm
theorem Ke (now:Nat)(c:Client)(x:Msg):∀m∈(hears now c x).2,Nq m:=by
 unfold hears
 intro m hm
 split at hm
 ·cases hm
 ·split at hm
  ·dsimp only at hm
   split at hm <;>cases hm
  ·split at hm
   ·exact pT _ _ _ m hm
   ·cases hm
  ·split at hm
   ·exact dX m hm
   ·cases hm
  ·cases hm
theorem w6 {w:World}(g:cp w){i:Nat}{c:Client}{y:Done}(h:w.clients[i]?=some c)(hd:Sr w.now c y.1)(hs:∀m∈y.2,Nq m):cp (done w y):=by
 unfold done
 rw [bW g.nd h hd.host]
 exact DZ (AU g h hd) (AV g (List.mem_of_getElem? h) hd.place hs)
theorem nJ {w:World}{r:Nat}{x:Relay}(h:w.relays[r]?=some x):relayAt w r=x:=by
 unfold relayAt
 rw [List.getD_eq_getElem?_getD,h]
 rfl
theorem Iq {w:World}(g:cp w){s:Nat}{m:Msg}(hm:m.marks.length≤32):
  cp (served w s m).1∧(served w s m).1.relays=w.relays∧(served w s m).1.servers=w.servers∧(served w s m).1.bag=w.bag∧(served w s m).1.cap=w.cap∧(served w s m).1.written.length≤w.written.length + 1∧∀u∈(served w s m).2,js w.relays.length w.servers u:=by
 have hb:∀ (kind addr len:Nat),(kind=2∨kind=4∨kind=5)→∀u∈ [({place:= .down 0,msg:={m with kind:=kind,server:=some s,addr:=addr,len:=len,hops:=0} }:Under)],js w.relays.length w.servers u:=by
  intro kind addr len hk u hu
  have e:u={place:= .down 0,msg:={m with kind:=kind,server:=some s,addr:=addr,len:=len,hops:=0} }:=by simpa using hu
  subst e
  exact ⟨hm,Nat.zero_le _,fun r c e=>(by cases e),fun s e=>(by cases e),.inr ⟨rfl,hk⟩⟩
 have hw:∀ (x:Written)(l:List Written),(write x l).length≤l.length + 1:=by
  intro x l
  induction l with
  |nil=>exact Nat.le_refl _
  |cons y l ih=>
   unfold write
   split
   ·simp
   ·simp only [List.length_cons];omega
 have self:∀l:List Under,(∀u∈l,js w.relays.length w.servers u)→cp w∧w.relays=w.relays∧w.servers=w.servers∧w.bag=w.bag∧w.cap=w.cap∧w.written.length≤w.written.length + 1∧∀u∈l,js w.relays.length w.servers u:=
  fun l hl=>⟨g,rfl,rfl,rfl,rfl,Nat.le_succ _,hl⟩
 have nil:∀u∈([] :List Under),js w.relays.length w.servers u:=fun u hu=>by cases hu
 unfold served
 dsimp only
 split
 ·exact self _ nil
 ·split
  ·exact self _ nil
  ·split
   ·exact self _ (hb _ _ _ (.inl rfl))
   ·split
    ·exact self _ nil
    ·split
     ·split
      ·exact ⟨{g with Yy:=QU g.Yy},rfl,rfl,rfl,rfl,hw _ _,hb _ _ _ (.inr (.inl rfl))⟩
      ·exact self _ (hb _ _ _ (.inr (.inr rfl)))
     ·split
      ·exact self _ (hb _ _ _ (.inr (.inr rfl)))
      ·exact self _ nil
   ·exact self _ nil
theorem vR {w:World}(g:cp w){u:Under}(hu:js w.relays.length w.servers u):
  cp (handled w u).1∧(handled w u).1.relays=w.relays∧(handled w u).1.servers=w.servers∧(handled w u).1.bag=w.bag∧(handled w u).1.cap=w.cap∧(handled w u).1.written.length≤w.written.length + 1∧∀v∈(handled w u).2,js w.relays.length w.servers v:=by
 have self:∀l:List Under,(∀u∈l,js w.relays.length w.servers u)→cp w∧w.relays=w.relays∧w.servers=w.servers∧w.bag=w.bag∧w.cap=w.cap∧w.written.length≤w.written.length + 1∧∀u∈l,js w.relays.length w.servers u:=
  fun l hl=>⟨g,rfl,rfl,rfl,rfl,Nat.le_succ _,hl⟩
 have nil:∀u∈([] :List Under),js w.relays.length w.servers u:=fun u hu=>by cases hu
 unfold handled
 split
 ·rename_i r c eD
  dsimp only
  split
  ·exact self _ nil
  ·split
   ·exact self _ nil
   ·rename_i h1 h2
    refine self _ fun v hv=> ?_
    obtain ⟨hr,hk⟩:=hu.up r c eD
    obtain ⟨x,hx⟩:∃x,w.relays[r]?=some x:=⟨_,List.getElem?_eq_getElem hr⟩
    have ex:=nJ hx
    have aaH:=g.limit x (List.mem_of_getElem? hx)
    rw [ex] at h2 hv
    have eA:u.msg.hops < 16:=by omega
    split at hv
    ·rename_i a ha
     have e:v={place:= .up a.relay a.circuit,msg:={u.msg with hops:=u.msg.hops + 1,marks:={relay:=r,circuit:=c}::u.msg.marks} }:=by simpa using hv
     subst e
     have yC:0 < r:=by
      cases r with
      |zero=>
       obtain ⟨y,hy,hya⟩:=g.root
       rw [hy] at hx
       cases hx
       rw [hya] at ha
       cases ha
      |succ r=>exact Nat.succ_pos _
     obtain ⟨m,Zx,hm2⟩:=g.tree r x hx yC
     rw [ha] at Zx
     cases Zx
     refine ⟨(by show u.msg.marks.length + 1≤32;omega),(by show u.msg.hops + 1≤16;omega),fun r' c' e=> ?_,fun s e=>(by cases e),.inl ⟨fun r e=>(by cases e),fun r c e=>(by cases e)⟩⟩
     cases e
     exact ⟨Nat.lt_trans hm2 hr,(by show u.msg.marks.length + 1≤16 + (u.msg.hops + 1);omega)⟩
    ·obtain ⟨s,hs,rfl⟩:=List.mem_map.mp hv
     refine ⟨(by show u.msg.marks.length + 1≤32;omega),(by show u.msg.hops + 1≤16;omega),fun r' c' e=>(by cases e),fun s' e=> ?_,.inl ⟨fun r e=>(by cases e),fun r c e=>(by cases e)⟩⟩
     cases e
     exact List.mem_range.mp hs
 ·exact Iq g hu.marks
 ·rename_i r eD
  have hb:u.msg.server.isSome=true∧(u.msg.kind=2∨u.msg.kind=4∨u.msg.kind=5):=by
   rcases hu.back with q|q
   ·exact absurd eD (q.1 r)
   ·exact q
  split
  ·exact self _ nil
  ·rename_i k l CS
   have hl:l.length≤32:=by
    have:=hu.marks
    rw [CS] at this
    simp only [List.length_cons] at this
    omega
   split
   ·exact self _ nil
   ·dsimp only
    refine self _ fun v hv=> ?_
    split at hv
    ·rename_i q _
     have e:v={place:= .down q,msg:={u.msg with marks:=l} }:=by simpa using hv
     subst e
     exact ⟨hl,hu.hops,fun r c e=>(by cases e),fun s e=>(by cases e),.inr hb⟩
    ·have e:v={place:= .circuit k.relay k.circuit,msg:={u.msg with marks:=l} }:=by simpa using hv
     subst e
     exact ⟨hl,hu.hops,fun r c e=>(by cases e),fun s e=>(by cases e),.inr hb⟩
 ·split
  ·exact self _ nil
  ·rename_i x hx
   split
   ·obtain ⟨hm,_⟩:=j3 hx
    obtain ⟨i,hi⟩:=List.getElem?_of_mem hm
    have hd:=Nn w.now (g.cl x hm) u.msg
    dsimp only
    rw [bW g.nd hi hd.host]
    exact ⟨AU g hi hd,rfl,rfl,rfl,rfl,Nat.le_succ _,AV g hm hd.place (Ke _ _ _)⟩
   ·exact self _ nil
theorem nL {w:World}(g:cp w)(k:Nat):cp {w with bag:=w.bag.eraseIdx k}:=
 {g with
  bag:=by
   show (w.bag.eraseIdx k).length≤w.cap
   have:=g.bag
   rw [List.length_eraseIdx]
   split <;>omega
  msgs:=fun u hu=>g.msgs u (List.mem_of_mem_eraseIdx hu)}
theorem ia {w:World}(g:cp w)(k:Nat):cp (delivered w k).1∧(delivered w k).1.written.length≤w.written.length + 1:=by
 unfold delivered
 split
 ·exact ⟨g,Nat.le_succ _⟩
 ·rename_i u hu
  have g1:=nL g k
  obtain ⟨h1,h2,h3,h4,h5,h6,h7⟩:=vR g1 (u:=u) (g.msgs u (List.mem_of_getElem? hu))
  dsimp only
  refine ⟨DZ h1 fun v hv=>by rw [h2,h3];exact h7 v hv,?_⟩
  rw [gg]
  exact h6
theorem AW:∀ (n:Nat){w:World},cp w→cp (flows n w).1∧(flows n w).1.written.length≤w.written.length + n
 |0,w,g=>⟨g,Nat.le_refl _⟩
 |n + 1,w,g=>by
  unfold flows
  split
  ·exact ⟨g,Nat.le_add_right _ _⟩
  ·obtain ⟨g1,h1⟩:=ia g 0
   obtain ⟨g2,h2⟩:=AW n g1
   exact ⟨g2,(by show (flows n (delivered w 0).1).1.written.length≤_;omega)⟩
theorem lP {w:World}{h:Nat}(e:clientOf w h=none):h ∉ w.clients.map (·.host):=by
 intro q
 obtain ⟨c,hc,rfl⟩:=List.mem_map.mp q
 unfold clientOf at e
 rw [List.find?_eq_none] at e
 exact e c hc (by simp)
theorem AX {w:World}(g:cp w){i:Nat}{c:Client}(h:w.clients[i]?=some c)(p:Option Mark)(hp:∀m,p=some m→m.relay < w.relays.length):cp {w with clients:=w.clients.set i {c with place:=p} }:=
 have hc:=List.mem_of_getElem? h
 {g with
  nd:=by
   show ((w.clients.set i {c with place:=p}).map (·.host)).Nodup
   rw [kl (d:={c with place:=p}) h rfl]
   exact g.nd
  cl:=fun x hx=>by
   rcases List.mem_or_eq_of_mem_set hx with q|q
   ·exact g.cl x q
   ·subst q
    have k:=g.cl c hc
    exact ⟨k.off,k.on,k.le6,k.ask,k.held⟩
  Np:=fun x hx t ht=>by
   rcases List.mem_or_eq_of_mem_set hx with q|q
   ·exact g.Np x q t ht
   ·subst q
    exact g.Np c hc t ht
  e9:=fun x hx m hm=>by
   rcases List.mem_or_eq_of_mem_set hx with q|q
   ·exact g.e9 x q m hm
   ·subst q
    exact hp m hm
  vQ:=by
   show (w.clients.set i {c with place:=p}).length≤64
   rw [List.length_set]
   exact g.vQ}
theorem Nt {w:World}(g:cp w)(t:Nat)(ht:w.now + t≤TIMES):cp (ticks ((t + 1) * (w.clients.length + 1)) (w.now + t) w).1∧(ticks ((t + 1) * (w.clients.length + 1)) (w.now + t) w).1.written=w.written∧(ticks ((t + 1) * (w.clients.length + 1)) (w.now + t) w).1.now=w.now + t:=by
 have key:∀ (n:Nat)(v:World),mu (w.now + t) v.clients < n→sL v→(v.clients.length≤64∧(∀c∈v.clients,∀m,c.place=some m→m.relay < v.relays.length)∧v.relays=w.relays∧v.servers=w.servers∧v.cap=w.cap∧v.assigned=w.assigned∧v.written=w.written∧v.bag.length≤v.cap∧∀u∈v.bag,js w.relays.length w.servers u)→
   cp (ticks n (w.now + t) v).1∧(ticks n (w.now + t) v).1.written=w.written∧(ticks n (w.now + t) v).1.now=w.now + t:=by
  intro n
  induction n with
  |zero=>intro v h;omega
  |succ n ih=>
   intro v hmu tg ⟨h1,h2,h3,h4,h5,h6,h7,h8,h9⟩
   have fin:(∀c∈v.clients,∀d,c.due=some d→w.now + t < d)→cp (ticks (n + 1) (w.now + t) v).1∧(ticks (n + 1) (w.now + t) v).1.written=w.written∧(ticks (n + 1) (w.now + t) v).1.now=w.now + t:=fun gm=>by
    rw [DY gm]
    refine ⟨⟨tg.nd,tg.cl,gm,h2,h1,?_,?_,?_,?_,?_,?_,h8,?_,ht,?_,?_⟩,h7,rfl⟩
    ·show v.relays.length≤64;rw [h3];exact g.Ip
    ·show ∃r,v.relays[0]?=some r∧r.above=none;rw [h3];exact g.root
    ·show ∀ (i:Nat)(r:Relay),v.relays[i]?=some r→0 < i→∃m,r.above=some m∧m.relay < i;rw [h3];exact g.tree
    ·show ∀r∈v.relays,r.limit≤16;rw [h3];exact g.limit
    ·show 1≤v.servers∧v.servers≤4;rw [h4];exact g.Zw
    ·show 1≤v.cap∧v.cap≤10000;rw [h5];exact g.cap
    ·show ∀u∈v.bag,js v.relays.length v.servers u;rw [h3,h4];exact h9
    ·show v.assigned.length≤128;rw [h6];exact g.asg
    ·show (v.written.map fh).Nodup;rw [h7];exact g.Yy
   cases hs:soonest (dues v) with
   |none=>
    have hn:=vM hs
    refine fin fun c hc d hd=> ?_
    have:(d,c.host)∈dues v:=gu.mpr ⟨c,hc,hd,rfl⟩
    rw [hn] at this
    cases this
   |some z=>
    obtain ⟨s,host⟩:=z
    obtain ⟨hm,gm⟩:=gr hs
    by_cases hle:s≤w.now + t
    ·obtain ⟨c,hc,hd,hh⟩:=gu.mp hm
     obtain ⟨i,hi⟩:=List.getElem?_of_mem hc
     subst hh
     have hp:=j4 (tg.cl c hc) hd
     rw [DX tg hi hs hle]
     have e:=vO (t:=s) tg hi hp
     have axg:=AQ tg hi hd hle
     have did:=(pS s (tg.cl c hc) hp).1
     obtain ⟨e1,e2,e3,e4,e5,e6,e7,e8⟩:=e
     refine ih (gj v s c) (by omega) (AO tg hi hp) ⟨?_,?_,e5.trans h3,e4.trans h4,e3.trans h5,e7.trans h6,e8.trans h7,?_,?_⟩
     ·rw [e1,List.length_set];exact h1
     ·rw [e1,e5]
      intro x hx m hm
      rcases List.mem_or_eq_of_mem_set hx with q|q
      ·exact h2 x q m hm
      ·subst q
       exact h2 c hc m (by rw [←did.place];exact hm)
     ·rw [e3]
      show (done {v with now:=s} (acts s c)).bag.length≤v.cap
      unfold done
      rw [gg]
      show (v.bag ++ List.take (v.cap - v.bag.length) _).length≤v.cap
      rw [List.length_append,List.length_take]
      omega
     ·show ∀u∈(done {v with now:=s} (acts s c)).bag,js w.relays.length w.servers u
      unfold done
      rw [gg]
      intro u hu
      rcases List.mem_append.mp hu with q|q
      ·exact h9 u q
      ·have q':=List.mem_of_mem_take q
       unfold outOf at q'
       split at q'
       ·cases q'
       ·rename_i p ep
        obtain ⟨m,WM,rfl⟩:=List.mem_map.mp q'
        have sn:=Nr s c m WM
        have hr:=h2 c hc p (by rw [←did.place];exact ep)
        rw [h3] at hr
        refine ⟨(by show m.marks.length≤32;rw [sn.marks];decide),(by show m.hops≤16;rw [sn.hops];decide),fun r c e=> ?_,fun s e=>(by cases e),.inl ⟨fun r e=>(by cases e),fun r c e=>(by cases e)⟩⟩
        cases e
        exact ⟨hr,(by show m.marks.length≤_;rw [sn.marks];exact Nat.zero_le _)⟩
    ·refine fin fun c hc d hd=> ?_
     have:=gm (d,c.host) (gu.mpr ⟨c,hc,hd,rfl⟩)
     unfold gq at this
     dsimp only at this
     omega
 exact key _ w (AR g.Np) g.t ⟨g.vQ,g.e9,rfl,rfl,rfl,rfl,rfl,g.bag,g.msgs⟩
theorem bM {x lo hi:Int}:within x lo hi=true ↔ lo≤x∧x≤hi:=by
 unfold within
 rw [Bool.and_eq_true,decide_eq_true_eq,decide_eq_true_eq]
theorem nM {w:World}{r:Int}(h:isRelay w r=true):0≤r∧r.toNat < w.relays.length:=by
 have:=bM.mp h
 omega
theorem fi {w:World}(g:cp w){host:Int}{f:Client→World×Answer}(h:∀ (i:Nat)(c:Client),w.clients[i]?=some c→cp (f c).1∧(f c).1.written.length≤w.written.length + 1000):
  cp (withClient w host f).1∧(withClient w host f).1.written.length≤w.written.length + 1000:=by
 unfold withClient
 split
 ·exact ⟨g,Nat.le_add_right _ _⟩
 ·split
  ·exact ⟨g,Nat.le_add_right _ _⟩
  ·rename_i c hc
   obtain ⟨i,hi⟩:=List.getElem?_of_mem (j3 hc).1
   exact h i c hi
theorem pU:∀ (n:Nat)(l:List Int),l.length≤2 * n→(marksIn l).length≤n
 |n,[],_=>by simp [marksIn]
 |n,[a],_=>by simp [marksIn]
 |0,a::b::l,h=>by simp at h
 |n + 1,a::b::l,h=>by
  have:=pU n l (by simp only [List.length_cons] at h;omega)
  simp only [marksIn,List.length_cons]
  omega
theorem FX {w:World}(g:cp w)(c:Call):cp (inWorld w c).1∧(inWorld w c).1.written.length≤w.written.length + 1000:=by
 have self:cp w∧w.written.length≤w.written.length + 1000:=⟨g,Nat.le_add_right _ _⟩
 cases c with
 |begin=>exact self
 |wrong=>exact self
 |relay p c l=>
  unfold inWorld
  dsimp only
  split
  ·exact self
  ·split
   ·exact self
   ·split
    ·exact self
    ·split
     ·exact self
     ·rename_i h1 h2 h3 h4
      simp only [Bool.not_eq_false,Bool.and_eq_true] at h1
      have hb:w.bag= [] :=Classical.not_not.mp h4
      refine ⟨{g with e9:=fun x hx m hm=> ?_,Ip:= ?_,root:= ?_,tree:= ?_,limit:= ?_,msgs:= ?_},Nat.le_add_right _ _⟩
      ·have:=g.e9 x hx m hm
       show m.relay < (w.relays ++ _).length
       rw [List.length_append];omega
      ·show (w.relays ++ [_]).length≤64
       rw [List.length_append];simp only [List.length_cons,List.length_nil];omega
      ·obtain ⟨r,hr,ha⟩:=g.root
       refine ⟨r,?_,ha⟩
       show (w.relays ++ [_])[0]?=some r
       rw [List.getElem?_append_left (List.getElem?_eq_some_iff.mp hr).1];exact hr
      ·intro i r hi WR
       have Vm:(w.relays ++ [({above:=some (mark p c),limit:=l.toNat}:Relay)])[i]?=some r:=hi
       by_cases q:i < w.relays.length
       ·rw [List.getElem?_append_left q] at Vm
        exact g.tree i r Vm WR
       ·rw [List.getElem?_append_right (Nat.not_lt.mp q)] at Vm
        have hi0:i - w.relays.length=0:=by
         cases e:i - w.relays.length with
         |zero=>rfl
         |succ k=>rw [e] at Vm;simp at Vm
        rw [hi0] at Vm
        have er:r={above:=some (mark p c),limit:=l.toNat}:=by simpa using Vm.symm
        subst er
        refine ⟨_,rfl,?_⟩
        have:=(nM h1.1).2
        show p.toNat < i
        omega
      ·intro r hr
       rcases List.mem_append.mp hr with q|q
       ·exact g.limit r q
       ·have er:r={above:=some (mark p c),limit:=l.toNat}:=by simpa using q
        subst er
        have:=bM.mp h1.2.2
        show l.toNat≤16
        omega
      ·intro u hu
       have hu':u∈w.bag:=hu
       rw [hb] at hu'
       cases hu'
 |plug host r c=>
  unfold inWorld
  dsimp only
  split
  ·exact self
  ·split
   ·exact self
   ·split
    ·exact self
    ·rename_i h1 h2 h3
     simp only [Bool.not_eq_false,Bool.and_eq_true] at h1
     have hr:=(nM h1.2.1).2
     split
     ·rename_i x hx
      obtain ⟨i,hi⟩:=List.getElem?_of_mem (j3 hx).1
      dsimp only
      rw [bW g.nd hi (by rfl)]
      refine ⟨AX g hi _ fun m hm=> ?_,Nat.le_add_right _ _⟩
      cases hm
      exact hr
     ·rename_i hx
      split
      ·exact self
      ·rename_i h4
       refine ⟨{g with nd:= ?_,cl:= ?_,Np:= ?_,e9:= ?_,vQ:= ?_},Nat.le_add_right _ _⟩
       ·show ((w.clients ++ [_]).map (fun x:Client=>x.host)).Nodup
        rw [List.map_append]
        exact kJ g.nd (lP hx)
       ·intro x hm
        rcases List.mem_append.mp hm with q|q
        ·exact g.cl x q
        ·have ex:x={host:=host.toNat,place:=some (mark r c)}:=by simpa using q
         subst ex
         exact ⟨fun _=>rfl,fun h=>absurd rfl h,Nat.zero_le _,fun h=>(by cases h),fun h=>(by cases h)⟩
       ·intro x hm d hd
        rcases List.mem_append.mp hm with q|q
        ·exact g.Np x q d hd
        ·have ex:x={host:=host.toNat,place:=some (mark r c)}:=by simpa using q
         subst ex
         cases hd
       ·intro x hm m hp
        rcases List.mem_append.mp hm with q|q
        ·exact g.e9 x q m hp
        ·have ex:x={host:=host.toNat,place:=some (mark r c)}:=by simpa using q
         subst ex
         cases hp
         exact hr
       ·show (w.clients ++ [_]).length≤64
        rw [List.length_append];simp only [List.length_cons,List.length_nil];omega
 |unplug host=>
  refine fi g fun i c hi=> ?_
  split
  ·exact self
  ·dsimp only
   rw [bW g.nd hi (by rfl)]
   exact ⟨AX g hi _ fun m hm=>(by cases hm),Nat.le_add_right _ _⟩
 |on host=>
  refine fi g fun i c hi=> ?_
  split
  ·exact self
  ·dsimp only
   have wr:∀y:Done,(done w y).written=w.written:=fun y=>by
    unfold done
    rw [gg]
    rfl
   refine ⟨?_,by rw [wr];exact Nat.le_add_right _ _⟩
   split
   ·exact w6 g hi (my _ _ _).1 dX
   ·rename_i l hl
    split
    ·exact w6 g hi (vL _ _ _ (by rw [hl];rfl)).1 dX
    ·exact w6 g hi (my _ _ _).1 dX
 |off host=>
  refine fi g fun i c hi=> ?_
  split
  ·exact self
  ·dsimp only
   rw [bW g.nd hi (by rfl)]
   have hc:=List.mem_of_getElem? hi
   refine ⟨{g with nd:= ?_,cl:= ?_,Np:= ?_,e9:= ?_,vQ:= ?_},Nat.le_add_right _ _⟩
   ·show ((w.clients.set i {c with phase:=0,number:=0,sent:=0,tries:=0,due:=none,best:=none}).map (fun x:Client=>x.host)).Nodup
    rw [kl (d:={c with phase:=0,number:=0,sent:=0,tries:=0,due:=none,best:=none}) hi rfl]
    exact g.nd
   ·intro x hx
    rcases List.mem_or_eq_of_mem_set hx with q|q
    ·exact g.cl x q
    ·subst q
     exact ⟨fun _=>rfl,fun h=>absurd rfl h,Nat.zero_le _,fun h=>(by cases h),fun h=>(by cases h)⟩
   ·intro x hx d hd
    rcases List.mem_or_eq_of_mem_set hx with q|q
    ·exact g.Np x q d hd
    ·subst q
     cases hd
   ·intro x hx m hm
    rcases List.mem_or_eq_of_mem_set hx with q|q
    ·exact g.e9 x q m hm
    ·subst q
     exact g.e9 c hc m hm
   ·show (w.clients.set i _).length≤64
    rw [List.length_set]
    exact g.vQ
 |forget host=>
  refine fi g fun i c hi=> ?_
  split
  ·exact self
  ·rename_i hph
   have hp0:c.phase=0:=Classical.not_not.mp hph
   dsimp only
   rw [bW g.nd hi (by rfl)]
   have k:=g.cl c (List.mem_of_getElem? hi)
   exact ⟨AU g hi ⟨⟨k.off,k.on,k.le6,k.ask,fun h=>absurd (show 3≤c.phase from h) (by omega)⟩,rfl,rfl,.inl rfl⟩,Nat.le_add_right _ _⟩
 |assign s host r a l=>
  unfold inWorld
  dsimp only
  split
  ·exact self
  ·split
   ·refine ⟨{g with asg:= ?_},Nat.le_add_right _ _⟩
    show (w.assigned.map _).length≤128
    rw [List.length_map]
    exact g.asg
   ·split
    ·exact self
    ·refine ⟨{g with asg:= ?_},Nat.le_add_right _ _⟩
     show (w.assigned ++ [_]).length≤128
     rw [List.length_append];simp only [List.length_cons,List.length_nil];omega
 |withdraw s host r=>
  unfold inWorld
  dsimp only
  split
  ·exact self
  ·split
   ·exact self
   ·refine ⟨{g with asg:= ?_},Nat.le_add_right _ _⟩
    exact Nat.le_trans (List.length_filter_le _ _) g.asg
 |rest s x=>
  unfold inWorld
  dsimp only
  split
  ·exact self
  ·exact ⟨{g with},Nat.le_add_right _ _⟩
 |tick t=>
  unfold inWorld
  dsimp only
  split
  ·exact self
  ·split
   ·exact self
   ·rename_i h1 h2
    obtain ⟨k1,k2,_⟩:=Nt g t.toNat (by omega)
    exact ⟨k1,by dsimp only;rw [k2];exact Nat.le_add_right _ _⟩
 |deliver k=>
  unfold inWorld
  dsimp only
  split
  ·exact self
  ·obtain ⟨k1,k2⟩:=ia g k.toNat
   exact ⟨k1,by dsimp only;omega⟩
 |lose k=>
  unfold inWorld
  dsimp only
  split
  ·exact self
  ·exact ⟨nL g _,Nat.le_add_right _ _⟩
 |double k=>
  unfold inWorld
  dsimp only
  split
  ·exact self
  ·split
   ·exact self
   ·rename_i h1 h2
    have hf:¬w.cap≤w.bag.length:=fun q=>h2 (by unfold full;exact decide_eq_true q)
    refine ⟨{g with bag:= ?_,msgs:= ?_},Nat.le_add_right _ _⟩
    ·show (w.bag ++ (w.bag[k.toNat]?).toList).length≤w.cap
     rw [List.length_append]
     cases e:w.bag[k.toNat]? with
     |none=>simp only [Option.toList,List.length_nil];omega
     |some u=>simp only [Option.toList,List.length_cons,List.length_nil];omega
    ·intro u hu
     rcases List.mem_append.mp hu with q|q
     ·exact g.msgs u q
     ·cases e:w.bag[k.toNat]? with
      |none=>rw [e] at q;cases q
      |some v=>
       rw [e] at q
       have ev:u=v:=by simpa [Option.toList] using q
       rw [ev]
       exact g.msgs v (List.mem_of_getElem? e)
 |flow m=>
  unfold inWorld
  dsimp only
  split
  ·exact self
  ·rename_i h1
   have hm:=bM.mp (by simpa using h1)
   obtain ⟨k1,k2⟩:=AW m.toNat g
   exact ⟨k1,by dsimp only;omega⟩
 |forge r c host n kind s a hops marks=>
  unfold inWorld
  dsimp only
  split
  ·exact self
  ·split
   ·exact self
   ·split
    ·exact self
    ·split
     ·exact self
     ·split
      ·exact self
      ·rename_i h1 h2 h3 h4 h5
       simp only [Bool.not_eq_false,Bool.and_eq_true] at h1
       have hf:¬w.cap≤w.bag.length:=fun q=>h5 (by unfold full;exact decide_eq_true q)
       have hl:marks.length≤32:=by
        by_cases q:32 < marks.length
        ·exact absurd (.inr (.inl q)) h2
        ·omega
       have hk:=pU 16 marks (by omega)
       have hh:=bM.mp h1.2.2.2.2.2.2.2
       have hr:=(nM h1.1).2
       refine ⟨{g with bag:= ?_,msgs:= ?_},Nat.le_add_right _ _⟩
       ·show (w.bag ++ [_]).length≤w.cap
        rw [List.length_append];simp only [List.length_cons,List.length_nil];omega
       ·intro u hu
        rcases List.mem_append.mp hu with q|q
        ·exact g.msgs u q
        ·have e:=List.mem_singleton.mp q
         subst e
         refine ⟨(by show (marksIn marks).length≤32;omega),(by show hops.toNat≤16;omega),fun r' c' e=> ?_,fun s e=>(by cases e),.inl ⟨fun r e=>(by cases e),fun r c e=>(by cases e)⟩⟩
         cases e
         exact ⟨hr,(by show (marksIn marks).length≤16 + hops.toNat;omega)⟩
 |client host=>exact fi g fun i c hi=>self
 |written s host=>
  unfold inWorld
  dsimp only
  split <;>exact self
 |peek k=>
  unfold inWorld
  dsimp only
  split <;>exact self
 |path r c=>
  unfold inWorld
  dsimp only
  split <;>exact self
 |next=>exact self
 |state=>exact self
def D0 (n:Nat):Option World→Prop
 |none=>True
 |some w=>cp w∧w.written.length≤1000 * n
theorem Nu {n:Nat}{s:Option World}(g:D0 n s)(c:Call):D0 (n + 1) (Vbcnag.step s c).1:=by
 have same:D0 (n + 1) s:=by
  cases s with
  |none=>trivial
  |some w=>exact ⟨g.1,by have:=g.2;omega⟩
 have main:∀w,s=some w→D0 (n + 1) (some (inWorld w c).1):=fun w e=>by
  subst e
  have:=FX g.1 c
  have h2:=g.2
  exact ⟨this.1,by have:=this.2;omega⟩
 unfold Vbcnag.step
 split
 ·exact same
 ·split
  ·exact same
  ·rename_i n' cap t h
   simp only [Bool.not_eq_false,Bool.and_eq_true] at h
   have h1:=bM.mp h.1
   have h2:=bM.mp h.2.1
   have h3:=bM.mp h.2.2
   exact ⟨Kd (by omega) (by omega) (by omega),Nat.zero_le _⟩
 ·split
  ·trivial
  ·exact main _ rfl
end Rl
namespace Rl
open PySem PySem.Spec PyProof.Rows L2
open Vbcnag (Mark Msg Under Offer Lease Client Relay Assigned Written)
abbrev VW:=Vbcnag.World
def nV (n:Nat):V:= .int (n:Int)
def oV:Option Nat→V
 |none=> .bX
 |some n=>nV n
structure Cs where
 R:Addr
 M:Addr
 C:Addr
 W:Addr
structure Cs.Ok (C:Cs):Prop where
 wc:C.W≠C.C
 wr:C.W≠C.R
 wm:C.W≠C.M
 cr:C.C≠C.R
 cm:C.C≠C.M
def Fix (C:Cs):HO→Prop
 | .tup _=>True
 | .ins c _ _=>c=C.R∨c=C.M
 |_=>False
def dZ (C:Cs)(H H':Hp):Prop:=∀b o,Fix C o→H b=some o→H' b=some o
theorem dZ.trans {C:Cs}{H H1 H2:Hp}(a:dZ C H H1)(b:dZ C H1 H2):dZ C H H2:=fun c o f h=>b c o f (a c o f h)
theorem dZ.tup {C:Cs}{H H':Hp}(k:dZ C H H'){b:Addr}{xs:List V}(h:H b=some (.tup xs)):H' b=some (.tup xs):=k b _ trivial h
theorem dZ.upd {C:Cs}{H:Hp}{a:Addr}{u o:HO}(h:H a=some u)(n:¬Fix C u):dZ C H (upd H a o):=fun b x f e=>by
 rw [az (a8 e h (fun q=>n (q ▸ f)))]
 exact e
def Ir (H:Hp):Option Mark→V→Prop
 |none,v=>v= .bX
 |some m,v=>∃b,v= .ref b∧H b=some (.tup [nV m.relay,nV m.circuit])
def Nv (H:Hp):Option Offer→V→Prop
 |none,v=>v= .bX
 |some o,v=>∃b,v= .ref b∧H b=some (.tup [nV o.server,nV o.addr,nV o.len])
def QV (H:Hp):Option Lease→V→Prop
 |none,v=>v= .bX
 |some l,v=>∃b,v= .ref b∧H b=some (.tup [nV l.server,nV l.addr,nV l.half,nV l.late,nV l.till])
theorem Ir.keep {C:Cs}{H H':Hp}(k:dZ C H H'){p:Option Mark}{v:V}(h:Ir H p v):Ir H' p v:=by
 cases p with
 |none=>exact h
 |some m=>obtain ⟨b,e,q⟩:=h;exact ⟨b,e,k.tup q⟩
theorem Nv.keep {C:Cs}{H H':Hp}(k:dZ C H H'){p:Option Offer}{v:V}(h:Nv H p v):Nv H' p v:=by
 cases p with
 |none=>exact h
 |some m=>obtain ⟨b,e,q⟩:=h;exact ⟨b,e,k.tup q⟩
theorem QV.keep {C:Cs}{H H':Hp}(k:dZ C H H'){p:Option Lease}{v:V}(h:QV H p v):QV H' p v:=by
 cases p with
 |none=>exact h
 |some m=>obtain ⟨b,e,q⟩:=h;exact ⟨b,e,k.tup q⟩
def rfs (p c l:V):List (Str×V):= [("parent",p),("circuit",c),("limit",l)]
def lC (C:Cs)(H:Hp)(a:Addr)(r:Relay):Prop:=∃d,H a=some (.ins C.R d (rfs (oV (r.above.map (·.relay))) (oV (r.above.map (·.circuit))) (nV r.limit)))
def dy (H:Hp)(m:Mark)(v:V):Prop:=∃b,v= .ref b∧H b=some (.tup [nV m.relay,nV m.circuit])
def dt:Vbcnag.Place→List V
 | .up r c=> [nV 0,nV r,nV c]
 | .server s=> [nV 1,nV s,nV 0]
 | .down r=> [nV 2,nV r,nV 0]
 | .circuit r c=> [nV 3,nV r,nV c]
def mfs (pl ho nu ki se ad le hp mk:V):List (Str×V):= [("place",pl),("host",ho),("number",nu),("kind",ki),("server",se),("address",ad),("length",le),("hops",hp),("marks",mk)]
def gN (C:Cs)(H:Hp)(a:Addr)(u:Under):Prop:=∃d p m xs,H a=some (.ins C.M d (mfs (.ref p) (nV u.msg.host) (nV u.msg.number) (nV u.msg.kind) (oV u.msg.server) (nV u.msg.addr) (nV u.msg.len) (nV u.msg.hops) (.ref m)))∧
 H p=some (.tup (dt u.place))∧H m=some (.tup xs)∧Paired (dy H) u.msg.marks xs
def cfs (ho pl ph co nu se tr du be le:V):List (Str×V):= [("host",ho),("plugged",pl),("phase",ph),("counter",co),("awaited",nu),("sent",se),("tries",tr),("due",du),("offer",be),("lease",le)]
def tw (c:Client)(pl be le:V):List (Str×V):=cfs (nV c.host) pl (nV c.phase) (nV c.counter) (nV c.number) (nV c.sent) (nV c.tries) (oV c.due) be le
structure Nw (H:Hp) (c:Client) (pl be le:V):Prop where
 pl:Ir H c.place pl
 be:Nv H c.best be
 le:QV H c.lease le
def eO (C:Cs)(H:Hp)(a:Addr)(c:Client):Prop:=∃d pl be le,H a=some (.ins C.C d (tw c pl be le))∧Nw H c pl be le
theorem Nw.keep {C:Cs}{H H':Hp}(k:dZ C H H'){c:Client}{pl be le:V}(h:Nw H c pl be le):Nw H' c pl be le:=⟨h.pl.keep k,h.be.keep k,h.le.keep k⟩
theorem lC.keep {C:Cs}{H H':Hp}(k:dZ C H H'){a:Addr}{r:Relay}(h:lC C H a r):lC C H' a r:=by
 obtain ⟨d,e⟩:=h
 exact ⟨d,k a _ (.inl rfl) e⟩
theorem gN.keep {C:Cs}{H H':Hp}(k:dZ C H H'){a:Addr}{u:Under}(h:gN C H a u):gN C H' a u:=by
 obtain ⟨d,p,m,xs,e1,e2,e3,e4⟩:=h
 exact ⟨d,p,m,xs,k a _ (.inr rfl) e1,k.tup e2,k.tup e3,Paired.cN e4 fun m v ⟨b,e,q⟩=>⟨b,e,k.tup q⟩⟩
theorem eO.keep {C:Cs}{H H':Hp}(k:dZ C H H'){a:Addr}{c:Client}(e:∀o,H a=some o→H' a=some o)(h:eO C H a c):eO C H' a c:=by
 obtain ⟨d,pl,be,le,e1,r⟩:=h
 exact ⟨d,pl,be,le,e _ e1,r.keep k⟩
def wfs (no sv ca re hu cl rs ag wr bg:V):List (Str×V):= [("now",no),("servers",sv),("cap",ca),("relays",re),("hung",hu),("clients",cl),("resting",rs),("assigned",ag),("written",wr),("bag",bg)]
structure Ad where
 w:Addr
 dw:Addr
 rl:Addr
 hd:Addr
 cd:Addr
 rs:Addr
 ag:Addr
 wr:Addr
 bg:Addr
def Ad.fs (A:Ad)(now servers cap:Nat):List (Str×V):=wfs (nV now) (nV servers) (nV cap) (.ref A.rl) (.ref A.hd) (.ref A.cd) (.ref A.rs) (.ref A.ag) (.ref A.wr) (.ref A.bg)
def w8 (a b:Nat):List Key:= [.inl (a:Int),.inl (b:Int)]
def dn (a b c:Nat):List Key:= [.inl (a:Int),.inl (b:Int),.inl (c:Int)]
def gv (H:Hp)(p:List Key×V)(x:Assigned):Prop:=p.1=dn x.server x.host x.relay∧∃b,p.2= .ref b∧H b=some (.tup [nV x.addr,nV x.len])
def bH (cas:List Addr)(cs:List Client):List (Key×V):=List.zipWith (fun a c=>((Sum.inl (c.host:Int):Key),V.ref a)) cas cs
def cC (l:List Written):List (List Key×V):=l.map fun x=>(dn x.server x.host x.addr,nV x.till)
structure Rep (C:Cs) (H:Hp) (A:Ad) (cas:List Addr) (W:VW):Prop where
 cW:H A.w=some (.ins C.W A.dw (A.fs W.now W.servers W.cap))
 rl:∃ras:List Addr,H A.rl=some (.lst (ras.map V.ref))∧Paired (lC C H) ras W.relays
 hd:∃kvs,H A.hd=some (.dT kvs)∧kvs.length≤W.relays.length∧∀m:Mark,dD kvs (w8 m.relay m.circuit)=(Vbcnag.below W m).map nV
 cd:H A.cd=some (.dK (bH cas W.clients))
 ca:Paired (eO C H) cas W.clients
 rs:∃bs:List Bool,H A.rs=some (.lst (bs.map V.bl))∧bs.length=W.servers∧∀ (s:Nat)(b:Bool),bs[s]?=some b→b=W.resting.contains s
 ag:∃kvs,H A.ag=some (.dT kvs)∧Paired (gv H) kvs W.assigned
 wr:H A.wr=some (.dT (cC W.written))
 bg:∃bas:List Addr,H A.bg=some (.lst (bas.map V.ref))∧Paired (gN C H) bas W.bag
 n1:A.rl≠A.rs∧A.rl≠A.bg∧A.rs≠A.bg
 n2:A.hd≠A.ag∧A.hd≠A.wr∧A.ag≠A.wr
 n3:cas.Nodup
 hn:(W.clients.map (·.host)).Nodup
def Ad.mut (A:Ad)(cas:List Addr)(b:Addr):Prop:=b=A.w∨b=A.rl∨b=A.hd∨b=A.cd∨b=A.rs∨b=A.ag∨b=A.wr∨b=A.bg∨b∈cas
def ez (A:Ad)(cas:List Addr)(H H':Hp):Prop:=∀b o,H b=some o→¬A.mut cas b→H' b=some o
theorem ez.refl {A:Ad}{cas:List Addr}{H:Hp}:ez A cas H H:=fun _ _ h _=>h
theorem ez.trans {A:Ad}{cas:List Addr}{H H1 H2:Hp}(a:ez A cas H H1)(b:ez A cas H1 H2):ez A cas H H2:=fun c o h n=>b c o (a c o h n) n
theorem ez.upd {A:Ad}{cas:List Addr}{H:Hp}{a:Addr}{o:HO}(h:A.mut cas a):ez A cas H (L2.upd H a o):=fun b x e n=>by
 rw [az (show b≠a from fun q=>n (by rw [q];exact h))]
 exact e
theorem Paired.at {α β:Type}{F:α→β→Prop}:∀ {l:List α}{m:List β}{i:Nat}{b:β},Paired F l m→m[i]?=some b→∃a,l[i]?=some a∧F a b
 |_,_,_,_,.nil,h=>by simp at h
 |_,_,0,_,.cons f _,h=>by
  have e:=Option.some.inj (show some _=some _ from h)
  exact ⟨_,rfl,e ▸ f⟩
 |_,_,i + 1,b,.cons _ t,h=>Paired.at (i:=i) t h
theorem cU {α β:Type}{F:α→β→Prop}:∀ {l:List α}{m:List β},Paired F l m ↔ l.length=m.length∧∀ (i:Nat)(a:α)(b:β),l[i]?=some a→m[i]?=some b→F a b
 | [],[] =>⟨fun _=>⟨rfl,fun i a b h=>by simp at h⟩,fun _=> .nil⟩
 | [],b::m=>⟨fun h=>(nomatch h),fun h=>(by simp at h)⟩
 |a::l,[] =>⟨fun h=>(nomatch h),fun h=>(by simp at h)⟩
 |a::l,b::m=>by
  constructor
  ·intro h
   cases h with
   |cons q t=>
    obtain ⟨e,all⟩:=cU.mp t
    refine ⟨by simp [e],fun i x y h1 h2=> ?_⟩
    cases i with
    |zero=>
     have e1:a=x:=Option.some.inj h1
     have e2:b=y:=Option.some.inj h2
     exact e1 ▸ e2 ▸ q
    |succ i=>exact all i x y h1 h2
  ·rintro ⟨e,all⟩
   exact .cons (all 0 a b rfl rfl) (cU.mpr ⟨by simpa using e,fun i x y h1 h2=>all (i + 1) x y h1 h2⟩)
theorem Paired.yD {α β:Type}{F:α→β→Prop}{l:List α}{m:List β}{a:α}{b:β}(h:Paired F l m)(q:F a b):Paired F (l ++ [a]) (m ++ [b]):=Paired.snoc h q
theorem aj.ao {H:Hp}{a:Addr}{o:HO}(h:H a=none):aj H (L2.upd H a o):=fun b x e=>by
 rw [az (aH e h)]
 exact e
theorem aj.keep {C:Cs}{H H':Hp}(k:aj H H'):dZ C H H':=fun b o _ e=>k b o e
theorem aj.ek {A:Ad}{cas:List Addr}{H H':Hp}(k:aj H H'):ez A cas H H':=fun b o e _=>k b o e
theorem gv.keep {C:Cs}{H H':Hp}(k:dZ C H H'){p:List Key×V}{x:Assigned}(h:gv H p x):gv H' p x:=by
 obtain ⟨e,b,e2,q⟩:=h
 exact ⟨e,b,e2,k.tup q⟩
section
variable {C:Cs}{H H':Hp}{A:Ad}{cas:List Addr}{W:VW}
theorem Rep.same (R:Rep C H A cas W)(k:aj H H'):Rep C H' A cas W:=by
 have kk:dZ C H H':=aj.keep k
 obtain ⟨ras,h1,h2⟩:=R.rl
 obtain ⟨kvs,h3,h4,h5⟩:=R.hd
 obtain ⟨bs,h6,h7⟩:=R.rs
 obtain ⟨ks,h8,h9⟩:=R.ag
 obtain ⟨bas,vS,GB⟩:=R.bg
 exact ⟨k _ _ R.cW,⟨ras,k _ _ h1,Paired.cN h2 fun a b f=>f.keep kk⟩,⟨kvs,k _ _ h3,h4,h5⟩,k _ _ R.cd,Paired.cN R.ca fun a b f=>f.keep kk (fun o e=>k _ _ e),⟨bs,k _ _ h6,h7⟩,⟨ks,k _ _ h8,Paired.cN h9 fun a b f=>f.keep kk⟩,k _ _ R.wr,
  ⟨bas,k _ _ vS,Paired.cN GB fun a b f=>f.keep kk⟩,R.n1,R.n2,R.n3,R.hn⟩
theorem Kf {cas:List Addr}{cs:List Client}{i:Nat}{c c':Client}(h:cs[i]?=some c)(e:c'.host=c.host):bH cas (cs.set i c')=bH cas cs:=by
 unfold bH
 apply List.ext_getElem?
 intro j
 rw [List.getElem?_zipWith,List.getElem?_zipWith,List.getElem?_set]
 by_cases q:i=j
 ·subst q
  obtain ⟨hl,_⟩:=List.getElem?_eq_some_iff.mp h
  rw [if_pos rfl,if_pos hl,h]
  cases cas[i]? with
  |none=>rfl
  |some a=>show some _=some _;rw [e]
 ·rw [if_neg q]
theorem Rep.cli (R:Rep C H A cas W){i:Nat}{c:Client}(h:W.clients[i]?=some c):∃a,cas[i]?=some a∧eO C H a c:=Paired.at R.ca h
theorem Rep.gO (R:Rep C H A cas W){i:Nat}{c:Client}{a:Addr}(h:W.clients[i]?=some c)(ha:cas[i]?=some a):eO C H a c:=(cU.mp R.ca).2 i a c ha h
theorem Rep.setC (K:C.Ok)(R:Rep C H A cas W){i:Nat}{ca d:Addr}{c c':Client}{fs:List (Str×V)}{pl be le:V}(hi:cas[i]?=some ca)(hc:W.clients[i]?=some c)(hh:c'.host=c.host)(he:H ca=some (.ins C.C d fs))(hr:Nw H c' pl be le):
  Rep C (L2.upd H ca (.ins C.C d (tw c' pl be le))) A cas {W with clients:=W.clients.set i c'}:=by
 have nf:¬Fix C (.ins C.C d fs):=fun q=>by
  rcases q with q|q
  ·exact K.cr q
  ·exact K.cm q
 have kk:dZ C H (L2.upd H ca (.ins C.C d (tw c' pl be le))):=dZ.upd he nf
 have at_:∀ {b:Addr}{o:HO},H b=some o→o≠ .ins C.C d fs→L2.upd H ca (.ins C.C d (tw c' pl be le)) b=some o:=fun {b o} e n=>by
  rw [az (a8 e he n)]
  exact e
 obtain ⟨ras,h1,h2⟩:=R.rl
 obtain ⟨kvs,h3,h4,h5⟩:=R.hd
 obtain ⟨bs,h6,h7⟩:=R.rs
 obtain ⟨ks,h8,h9⟩:=R.ag
 obtain ⟨bas,vS,GB⟩:=R.bg
 have P:=cU.mp R.ca
 refine ⟨at_ R.cW (fun q=> ?_),⟨ras,at_ h1 (fun q=>nomatch q),Paired.cN h2 fun a b f=>f.keep kk⟩,⟨kvs,at_ h3 (fun q=>nomatch q),h4,h5⟩,?_,?_,⟨bs,at_ h6 (fun q=>nomatch q),h7⟩,⟨ks,at_ h8 (fun q=>nomatch q),Paired.cN h9 fun a b f=>f.keep kk⟩,
  at_ R.wr (fun q=>nomatch q),⟨bas,at_ vS (fun q=>nomatch q),Paired.cN GB fun a b f=>f.keep kk⟩,R.n1,R.n2,R.n3,?_⟩
 ·injection q with q1
  exact K.wc q1
 ·show L2.upd H ca _ A.cd=some (.dK (bH cas (W.clients.set i c')))
  rw [Kf hc hh]
  exact at_ R.cd (fun q=>nomatch q)
 ·refine cU.mpr ⟨by show cas.length=(W.clients.set i c').length;rw [List.length_set];exact P.1,fun j a b ha hb=> ?_⟩
  have Zy:(W.clients.set i c')[j]?=some b:=hb
  by_cases q:i=j
  ·subst q
   obtain ⟨hl,_⟩:=List.getElem?_eq_some_iff.mp hc
   rw [List.getElem?_set_self hl] at Zy
   have eb:=Option.some.inj Zy
   have ea:=Option.some.inj (hi.symm.trans ha)
   subst eb ea
   exact ⟨d,pl,be,le,ab,hr.keep kk⟩
  ·rw [List.getElem?_set_ne q] at Zy
   have na:a≠ca:=fun z=>q (Vl R.n3 hi (z ▸ ha))
   exact (P.2 j a b ha Zy).keep kk fun o e=>by rw [az na];exact e
 ·show ((W.clients.set i c').map (·.host)).Nodup
  rw [kl hc hh]
  exact R.hn
theorem Rep.Kg (R:Rep C H A cas W){bas:List Addr}{l:List Under}(h:Paired (gN C H) bas l):Rep C (L2.upd H A.bg (.lst (bas.map V.ref))) A cas {W with bag:=l}:=by
 obtain ⟨axk,vS,GB⟩:=R.bg
 have kk:dZ C H (L2.upd H A.bg (.lst (bas.map V.ref))):=dZ.upd vS (fun q=>q)
 have at_:∀ {b:Addr}{o:HO},H b=some o→b≠A.bg→L2.upd H A.bg (.lst (bas.map V.ref)) b=some o:=fun {b o} e n=>by
  rw [az n]
  exact e
 obtain ⟨ras,h1,h2⟩:=R.rl
 obtain ⟨kvs,h3,h4,h5⟩:=R.hd
 obtain ⟨bs,h6,h7⟩:=R.rs
 obtain ⟨ks,h8,h9⟩:=R.ag
 refine ⟨at_ R.cW (a8 R.cW vS (fun q=>nomatch q)),⟨ras,at_ h1 R.n1.2.1,Paired.cN h2 fun a b f=>f.keep kk⟩,⟨kvs,at_ h3 (a8 h3 vS (fun q=>nomatch q)),h4,h5⟩,at_ R.cd (a8 R.cd vS (fun q=>nomatch q)),
  Paired.cN R.ca fun a b f=>f.keep kk fun o e=> ?_,⟨bs,at_ h6 R.n1.2.2,h7⟩,⟨ks,at_ h8 (a8 h8 vS (fun q=>nomatch q)),Paired.cN h9 fun a b f=>f.keep kk⟩,at_ R.wr (a8 R.wr vS (fun q=>nomatch q)),
  ⟨bas,ab,Paired.cN h fun a b f=>f.keep kk⟩,R.n1,R.n2,R.n3,R.hn⟩
 obtain ⟨d,pl,be,le,e1,_⟩:=f
 exact at_ e (a8 e1 vS (fun q=>nomatch q))
theorem Rep.QW (K:C.Ok)(R:Rep C H A cas W)(t:Nat):Rep C (L2.upd H A.w (.ins C.W A.dw (A.fs t W.servers W.cap))) A cas {W with now:=t}:=by
 have h0:=R.cW
 have nf:¬Fix C (.ins C.W A.dw (A.fs W.now W.servers W.cap)):=fun q=>by
  rcases q with q|q
  ·exact K.wr q
  ·exact K.wm q
 have kk:dZ C H (L2.upd H A.w (.ins C.W A.dw (A.fs t W.servers W.cap))):=dZ.upd h0 nf
 have at_:∀ {b:Addr}{o:HO},H b=some o→o≠ .ins C.W A.dw (A.fs W.now W.servers W.cap)→L2.upd H A.w (.ins C.W A.dw (A.fs t W.servers W.cap)) b=some o:=fun {b o} e n=>by
  rw [az (a8 e h0 n)]
  exact e
 obtain ⟨ras,h1,h2⟩:=R.rl
 obtain ⟨kvs,h3,h4,h5⟩:=R.hd
 obtain ⟨bs,h6,h7⟩:=R.rs
 obtain ⟨ks,h8,h9⟩:=R.ag
 obtain ⟨bas,vS,GB⟩:=R.bg
 refine ⟨ab,⟨ras,at_ h1 (fun q=>nomatch q),Paired.cN h2 fun a b f=>f.keep kk⟩,⟨kvs,at_ h3 (fun q=>nomatch q),h4,h5⟩,at_ R.cd (fun q=>nomatch q),
  Paired.cN R.ca fun a b f=>f.keep kk fun o e=> ?_,⟨bs,at_ h6 (fun q=>nomatch q),h7⟩,⟨ks,at_ h8 (fun q=>nomatch q),Paired.cN h9 fun a b f=>f.keep kk⟩,at_ R.wr (fun q=>nomatch q),
  ⟨bas,at_ vS (fun q=>nomatch q),Paired.cN GB fun a b f=>f.keep kk⟩,R.n1,R.n2,R.n3,R.hn⟩
 obtain ⟨d,pl,be,le,e1,_⟩:=f
 refine at_ e fun q=> ?_
 rw [e1] at e
 have e2:=Option.some.inj e
 rw [←e2] at q
 injection q with q1
 exact K.wc q1.symm
theorem Rep.VC (R:Rep C H A cas W){kvs:List (List Key×V)}{l:List Assigned}(h:Paired (gv H) kvs l):Rep C (L2.upd H A.ag (.dT kvs)) A cas {W with assigned:=l}:=by
 obtain ⟨ks,h8,h9⟩:=R.ag
 have kk:dZ C H (L2.upd H A.ag (.dT kvs)):=dZ.upd h8 (fun q=>q)
 have at_:∀ {b:Addr}{o:HO},H b=some o→b≠A.ag→L2.upd H A.ag (.dT kvs) b=some o:=fun {b o} e n=>by
  rw [az n]
  exact e
 obtain ⟨ras,h1,h2⟩:=R.rl
 obtain ⟨Kh,h3,h4,h5⟩:=R.hd
 obtain ⟨bs,h6,h7⟩:=R.rs
 obtain ⟨bas,vS,GB⟩:=R.bg
 refine ⟨at_ R.cW (a8 R.cW h8 (fun q=>nomatch q)),⟨ras,at_ h1 (a8 h1 h8 (fun q=>nomatch q)),Paired.cN h2 fun a b f=>f.keep kk⟩,⟨Kh,at_ h3 R.n2.1,h4,h5⟩,at_ R.cd (a8 R.cd h8 (fun q=>nomatch q)),
  Paired.cN R.ca fun a b f=>f.keep kk fun o e=> ?_,⟨bs,at_ h6 (a8 h6 h8 (fun q=>nomatch q)),h7⟩,⟨kvs,ab,Paired.cN h fun a b f=>f.keep kk⟩,at_ R.wr (Ne.symm R.n2.2.2),
  ⟨bas,at_ vS (a8 vS h8 (fun q=>nomatch q)),Paired.cN GB fun a b f=>f.keep kk⟩,R.n1,R.n2,R.n3,R.hn⟩
 obtain ⟨d,pl,be,le,e1,_⟩:=f
 exact at_ e (a8 e1 h8 (fun q=>nomatch q))
theorem Rep.af7 (R:Rep C H A cas W)(l:List Written):Rep C (L2.upd H A.wr (.dT (cC l))) A cas {W with written:=l}:=by
 have h8:=R.wr
 have kk:dZ C H (L2.upd H A.wr (.dT (cC l))):=dZ.upd h8 (fun q=>q)
 have at_:∀ {b:Addr}{o:HO},H b=some o→b≠A.wr→L2.upd H A.wr (.dT (cC l)) b=some o:=fun {b o} e n=>by
  rw [az n]
  exact e
 obtain ⟨ras,h1,h2⟩:=R.rl
 obtain ⟨Kh,h3,h4,h5⟩:=R.hd
 obtain ⟨bs,h6,h7⟩:=R.rs
 obtain ⟨ks,hA,hB⟩:=R.ag
 obtain ⟨bas,vS,GB⟩:=R.bg
 refine ⟨at_ R.cW (a8 R.cW h8 (fun q=>nomatch q)),⟨ras,at_ h1 (a8 h1 h8 (fun q=>nomatch q)),Paired.cN h2 fun a b f=>f.keep kk⟩,⟨Kh,at_ h3 R.n2.2.1,h4,h5⟩,at_ R.cd (a8 R.cd h8 (fun q=>nomatch q)),
  Paired.cN R.ca fun a b f=>f.keep kk fun o e=> ?_,⟨bs,at_ h6 (a8 h6 h8 (fun q=>nomatch q)),h7⟩,⟨ks,at_ hA R.n2.2.2,Paired.cN hB fun a b f=>f.keep kk⟩,ab,
  ⟨bas,at_ vS (a8 vS h8 (fun q=>nomatch q)),Paired.cN GB fun a b f=>f.keep kk⟩,R.n1,R.n2,R.n3,R.hn⟩
 obtain ⟨d,pl,be,le,e1,_⟩:=f
 exact at_ e (a8 e1 h8 (fun q=>nomatch q))
theorem Rep.af8 (R:Rep C H A cas W){bs:List Bool}{l:List Nat}(hl:bs.length=W.servers)(h:∀ (s:Nat)(b:Bool),bs[s]?=some b→b=l.contains s):Rep C (L2.upd H A.rs (.lst (bs.map V.bl))) A cas {W with resting:=l}:=by
 obtain ⟨bs0,h6,h7⟩:=R.rs
 have kk:dZ C H (L2.upd H A.rs (.lst (bs.map V.bl))):=dZ.upd h6 (fun q=>q)
 have at_:∀ {b:Addr}{o:HO},H b=some o→b≠A.rs→L2.upd H A.rs (.lst (bs.map V.bl)) b=some o:=fun {b o} e n=>by
  rw [az n]
  exact e
 obtain ⟨ras,h1,h2⟩:=R.rl
 obtain ⟨Kh,h3,h4,h5⟩:=R.hd
 obtain ⟨ks,h8,h9⟩:=R.ag
 obtain ⟨bas,vS,GB⟩:=R.bg
 refine ⟨at_ R.cW (a8 R.cW h6 (fun q=>nomatch q)),⟨ras,at_ h1 R.n1.1,Paired.cN h2 fun a b f=>f.keep kk⟩,⟨Kh,at_ h3 (a8 h3 h6 (fun q=>nomatch q)),h4,h5⟩,at_ R.cd (a8 R.cd h6 (fun q=>nomatch q)),
  Paired.cN R.ca fun a b f=>f.keep kk fun o e=> ?_,⟨bs,ab,hl,h⟩,⟨ks,at_ h8 (a8 h8 h6 (fun q=>nomatch q)),Paired.cN h9 fun a b f=>f.keep kk⟩,at_ R.wr (a8 R.wr h6 (fun q=>nomatch q)),
  ⟨bas,at_ vS (Ne.symm R.n1.2.2),Paired.cN GB fun a b f=>f.keep kk⟩,R.n1,R.n2,R.n3,R.hn⟩
 obtain ⟨d,pl,be,le,e1,_⟩:=f
 exact at_ e (a8 e1 h6 (fun q=>nomatch q))
end
def cs (t:jL):Cs:=⟨t.b0,t.aN,t.aR,t.a9⟩
section
variable {P:Program}{w:World}{K:PySem.W.Frag}{mg:Str→Option Value}{base:Heap}{t:jL}
theorem fH (T:Txt K mg t):(cs t).Ok:=⟨Ne.symm T.gB,Ne.symm T.hX,Ne.symm T.gf,Ne.symm T.gA,Ne.symm T.fw⟩
def af9 (C:Cs):Sp:=fun vs H Q _=>∃ (A:Ad)(cas:List Addr)(W:VW)(m:Addr)(u:Under),vs= [.ref A.w,.ref m] ∧Rep C H A cas W∧W.bag.length≤10000∧gN C H m u∧
 ∀H',Rep C H' A cas (Vbcnag.puts W [u]).1→ez A cas H H'→Q .bX H'
theorem Iu {C:Cs}{H:Hp}{a:List Addr}{l:List Under}(h:Paired (gN C H) a l):(a.map V.ref).length=l.length:=by
 rw [List.length_map]
 exact Paired.length h
theorem AY (T:Txt K mg t):bB P w K mg base fe 1 t.uf t.Le K9 (af9 (cs t)):=by
 refine T.zX.ok WU (fun vs H Q E h=> ?_) (fun d4 A0 outer s H vs Q E hr h=> ?_)
 ·obtain ⟨A,cas,W,m,u,rfl,_⟩:=h
  rfl
 ·obtain ⟨A,cas,W,m,u,rfl,R,hb,hm,k⟩:=h
  obtain ⟨bas,ot,we⟩:=R.bg
  refine ⟨_,ak (bp (aL lW (a6 aT (by rfl) T.d6 PySem.boot_len (aa (ai (pv 0) rfl) af)) (ai (pv 0) rfl) (aQ _))
   (ak (aI (ij PySem.F.plainAttrs_list PySem.F.slot_list_append PySem.F.type_list_append lX (ai (pv 0) rfl) (aa (pv 1) af)))) aV),?_⟩
  refine ⟨_,rfl,A.w,_,_,_,_,rfl,R.cW,T.aw,T.bu,rfl,A.bg,_,rfl,.inl (cK.of ot),_,rfl,A.w,_,_,_,_,rfl,R.cW,T.aw,T.gb,rfl,_,_,rfl,rfl,_,rfl,?_⟩
  have hlen:=Iu we
  have Bz:decide (((bas.map V.ref).length:Int) < (W.cap:Int))=true ↔ W.bag.length < W.cap:=by
   rw [hlen,decide_eq_true_iff]
   omega
  refine eQ (fun hc=> ?_) fun hc=> ?_
  ·have eA:=Bz.mp hc
   refine ⟨_,rfl,A.w,_,_,_,_,rfl,R.cW,T.aw,T.bu,rfl,.inl ⟨rfl,_,cK.of ot⟩,_,rfl,A.bg,_,_,rfl,rfl,ot,(by rw [hlen];exact Nat.lt_of_le_of_lt hb (by decide)),?_⟩
   refine k _ ?_ (ez.upd (.inr (.inr (.inr (.inr (.inr (.inr (.inr (.inl rfl)))))))))
   rw [pR,if_pos eA]
   have:=R.Kg (bas:=bas ++ [m]) (l:=W.bag ++ [u]) (Paired.yD we hm)
   rw [List.map_append] at this
   exact this
  ·have hge:¬W.bag.length < W.cap:=fun q=>hc (Bz.mpr q)
   refine k _ ?_ ez.refl
   rw [pR,if_neg hge]
   exact R
end
theorem lt1000 {n:Nat}(h:Nat.blt n 1000=true):n < 1000:=by simpa [Nat.blt_eq] using h
section
variable {P:Program}{w:World}{K:PySem.W.Frag}{mg:Str→Option Value}{base:Heap}{t:jL}
def Uc (C:Cs):Sp:=fun vs H Q _=>∃ (p d:Addr)(a b c:V),vs= [.ref p,a,b,c] ∧H p=some (.ins C.R d [])∧
 ∀H',H' p=some (.ins C.R d (rfs a b c))→(∀b o,H b=some o→b≠p→H' b=some o)→Q .bX H'
theorem Iv (T:Txt K mg t):bB P w K mg base fe 1 t.cZ t.jM jz (Uc (cs t)):=by
 refine T.uv.ok BK (fun vs H Q E h=> ?_) (fun d4 A0 outer s H vs Q E hr h=> ?_)
 ·obtain ⟨p,d,a,b,c,rfl,_⟩:=h
  rfl
 ·obtain ⟨p,d,a,b,c,rfl,hp,k⟩:=h
  refine ⟨_,ae (aP (pv 0) (pv 1) rfl) (ae (aP (pv 0) (pv 2) rfl) (ak (aP (pv 0) (pv 3) rfl))),?_⟩
  refine ⟨_,rfl,_,rfl,p,_,d,_,rfl,hp,T.cj,T.bf,lt1000 rfl,_,rfl,_,rfl,p,_,d,_,rfl,ab,T.cj,T.cf,lt1000 rfl,_,rfl,_,rfl,p,_,d,_,rfl,ab,T.cj,T.eN,lt1000 rfl,?_⟩
  exact k _ ab fun b o e hb=>by
   simp only [az hb]
   exact e
def aga (C:Cs):Sp:=fun vs H Q _=>∃ (p d:Addr)(pl ho nu ki se ad le hp mk:V),vs= [.ref p,pl,ho,nu,ki,se,ad,le,hp,mk] ∧H p=some (.ins C.M d [])∧
 ∀H',H' p=some (.ins C.M d (mfs pl ho nu ki se ad le hp mk))→(∀b o,H b=some o→b≠p→H' b=some o)→Q .bX H'
theorem FY (T:Txt K mg t):bB P w K mg base fe 1 t.cu t.gZ gU (aga (cs t)):=by
 refine T.oZ.ok yP (fun vs H Q E h=> ?_) (fun d4 A0 outer s H vs Q E hr h=> ?_)
 ·obtain ⟨p,d,pl,ho,nu,ki,se,ad,le,hp,mk,rfl,_⟩:=h
  rfl
 ·obtain ⟨p,d,pl,ho,nu,ki,se,ad,le,hp,mk,rfl,h0,k⟩:=h
  refine ⟨_,ae (aP (pv 0) (pv 1) rfl) (ae (aP (pv 0) (pv 2) rfl) (ae (aP (pv 0) (pv 3) rfl) (ae (aP (pv 0) (pv 4) rfl) (ae (aP (pv 0) (pv 5) rfl)
   (ae (aP (pv 0) (pv 6) rfl) (ae (aP (pv 0) (pv 7) rfl) (ae (aP (pv 0) (pv 8) rfl) (ak (aP (pv 0) (pv 9) rfl))))))))),?_⟩
  refine ⟨_,rfl,_,rfl,p,_,d,_,rfl,h0,T.au,T.aG,lt1000 rfl,_,rfl,_,rfl,p,_,d,_,rfl,ab,T.au,T.bO,lt1000 rfl,_,rfl,_,rfl,p,_,d,_,rfl,ab,T.au,T.cn,lt1000 rfl,
   _,rfl,_,rfl,p,_,d,_,rfl,ab,T.au,T.bP,lt1000 rfl,_,rfl,_,rfl,p,_,d,_,rfl,ab,T.au,T.ba,lt1000 rfl,_,rfl,_,rfl,p,_,d,_,rfl,ab,T.au,T.bh,lt1000 rfl,
   _,rfl,_,rfl,p,_,d,_,rfl,ab,T.au,T.bq,lt1000 rfl,_,rfl,_,rfl,p,_,d,_,rfl,ab,T.au,T.bD,lt1000 rfl,_,rfl,_,rfl,p,_,d,_,rfl,ab,T.au,T.aY,lt1000 rfl,?_⟩
  exact k _ ab fun b o e hb=>by
   simp only [az hb]
   exact e
def QX (C:Cs):Sp:=fun vs H Q _=>∃ (p d:Addr)(h:Nat),vs= [.ref p,nV h] ∧H p=some (.ins C.C d [])∧
 ∀H',H' p=some (.ins C.C d (tw {host:=h} .bX .bX .bX))→(∀b o,H b=some o→b≠p→H' b=some o)→Q .bX H'
theorem Ny (T:Txt K mg t):bB P w K mg base fe 1 t.cF t.iR iK (QX (cs t)):=by
 refine T.rg.ok zP (fun vs H Q E h=> ?_) (fun d4 A0 outer s H vs Q E hr h=> ?_)
 ·obtain ⟨p,d,h,rfl,_⟩:=h
  rfl
 ·obtain ⟨p,d,ho,rfl,h0,k⟩:=h
  obtain ⟨uO,mO,rO⟩:=T.Dr
  refine ⟨_,ae (aP (pv 0) (pv 1) rfl) (ae (aP (pv 0) eS rfl) (ae (aP (pv 0) (aD (by rfl) mO rO) rfl) (ae (aP (pv 0) ah rfl) (ae (aP (pv 0) ah rfl)
   (ae (aP (pv 0) ah rfl) (ae (aP (pv 0) ah rfl) (ae (aP (pv 0) eS rfl) (ae (aP (pv 0) eS rfl) (ak (aP (pv 0) eS rfl)))))))))),?_⟩
  refine ⟨_,rfl,_,rfl,p,_,d,_,rfl,h0,T.aq,T.fF,lt1000 rfl,_,rfl,p,_,d,_,rfl,ab,T.aq,T.aX,lt1000 rfl,_,rfl,p,_,d,_,rfl,ab,T.aq,T.aJ,lt1000 rfl,
   _,rfl,p,_,d,_,rfl,ab,T.aq,T.bI,lt1000 rfl,_,rfl,p,_,d,_,rfl,ab,T.aq,T.bS,lt1000 rfl,_,rfl,p,_,d,_,rfl,ab,T.aq,T.cw,lt1000 rfl,
   _,rfl,p,_,d,_,rfl,ab,T.aq,T.aZ,lt1000 rfl,_,rfl,p,_,d,_,rfl,ab,T.aq,T.bx,lt1000 rfl,_,rfl,p,_,d,_,rfl,ab,T.aq,T.bj,lt1000 rfl,_,rfl,p,_,d,_,rfl,ab,T.aq,T.aO,lt1000 rfl,?_⟩
  exact k _ ab fun b o e hb=>by
   simp only [az hb]
   exact e
end
def ik (now:Nat)(c:Client):Client:={c with counter:=c.counter + 1,number:=c.counter + 1,sent:=now}
def Iw (c:Client)(kind:Nat)(sv:Option Nat)(addr:Nat):Msg:={host:=c.host,number:=c.counter + 1,kind:=kind,server:=sv,addr:=addr}
def vT (W:VW)(i:Nat)(c:Client)(kind:Nat)(sv:Option Nat)(addr:Nat):VW:=
 (Vbcnag.puts {W with clients:=W.clients.set i (ik W.now c)} (Vbcnag.outOf (ik W.now c) [Iw c kind sv addr])).1
theorem Ad.il {A:Ad}{cas:List Addr}{i:Nat}{ca:Addr}(h:cas[i]?=some ca):A.mut cas ca:= .inr (.inr (.inr (.inr (.inr (.inr (.inr (.inr (List.mem_of_getElem? h))))))))
section
variable {P:Program}{w:World}{K:PySem.W.Frag}{mg:Str→Option Value}{base:Heap}{t:jL}
def Yz (C:Cs):Sp:=fun vs H Q _=>∃ (A:Ad)(cas:List Addr)(W:VW)(i:Nat)(ca:Addr)(c:Client)(kind:Nat)(sv:Option Nat)(addr:Nat),
 vs= [.ref A.w,.ref ca,nV kind,oV sv,nV addr] ∧Rep C H A cas W∧W.bag.length≤10000∧cas[i]?=some ca∧W.clients[i]?=some c∧
 ∀H',Rep C H' A cas (vT W i c kind sv addr)→ez A cas H H'→Q .bX H'
theorem zi (T:Txt K mg t):bB P w K mg base fe 3 t.mT t.Fj EU (Yz (cs t)):=by
 refine T.wL.ok La (fun vs H Q E h=> ?_) (fun d4 A0 outer s H vs Q E hr h=> ?_)
 ·obtain ⟨A,cas,W,i,ca,c,kind,sv,addr,rfl,_⟩:=h
  rfl
 ·obtain ⟨A,cas,W,i,ca,c,kind,sv,addr,rfl,R,hb,hi,hc,k⟩:=h
  have Iy:gP 1 _:=hr.mono (by decide)
  have CK:=fH T
  obtain ⟨uU,mU,rU⟩:=T.PM
  obtain ⟨d,pl,be,le,dA,d3⟩:=R.gO hc hi
  have nwc:A.w≠ca:=a8 R.cW dA (fun q=>CK.wc (by injection q))
  refine ⟨_,ae (Mm (pv 1) ah Wc) (ae (aP (pv 1) (ai (pv 1) rfl) rfl) (ae (aP (pv 1) (ai (pv 0) rfl) rfl)
   (ak (bp (cq (gS (ai (pv 1) rfl)))
    (ae (aW (i:=5) La.nd rfl (Or.inl rfl) (bZ (aa (aD (by rfl) mU rU) (aa (aF bc (ai (pv 1) rfl) ah (fun _ _=>rfl)) (aa (aF bc (ai (pv 1) rfl) ah (fun _ _=>rfl)) af)))))
     (ak (aI (aB (AY T) Iy (by rfl) T.Dg T.zX.kp T.Dh .nil aU (aa (pv 0) (aa (kP T.gE (FY T) hr (by rfl) T.mr T.fG .nil aU
      (aa (pv 5) (aa (ai (pv 1) rfl) (aa (ai (pv 1) rfl) (aa (pv 2) (aa (pv 3) (aa (pv 4) (aa ah (aa ah (aa (bZ af) af)))))))))) af)))))) aV)))),?_⟩
  refine ⟨_,rfl,ca,_,d,_,_,rfl,dA,T.aq,T.bI,rfl,_,_,rfl,rfl,d,_,dA,lt1000 rfl,?_⟩
  refine ⟨_,rfl,ca,_,d,_,_,rfl,ab,T.aq,T.bI,rfl,_,rfl,ca,_,d,_,rfl,ab,T.aq,T.bS,lt1000 rfl,?_⟩
  refine ⟨_,rfl,A.w,_,_,_,_,rfl,(by rw [az nwc,az nwc];exact R.cW),T.aw,T.bb,rfl,_,rfl,ca,_,d,_,rfl,ab,T.aq,T.cw,lt1000 rfl,?_⟩
  rw [cJ,cJ]
  generalize BB:L2.upd H ca _=H1
  have hH:L2.upd H ca (.ins (cs t).C d (tw (ik W.now c) pl be le))=H1:=BB
  have R1:Rep (cs t) H1 A cas {W with clients:=W.clients.set i (ik W.now c)}:=by
   rw [←hH]
   exact R.setC CK hi hc rfl dA ⟨d3.pl,d3.be,d3.le⟩
  have F1:ez A cas H H1:=by
   rw [←hH]
   exact ez.upd (Ad.il hi)
  have Bz:H1 ca=some (.ins (cs t).C d (tw (ik W.now c) pl be le)):=by
   rw [←hH]
   exact ab
  have Nz:Ir H1 c.place pl:=by
   obtain ⟨_,_,_,_,e1,q⟩:=R1.gO (c:=ik W.now c) (by rw [List.getElem?_set_self (List.getElem?_eq_some_iff.mp hc).1]) hi
   rw [Bz] at e1
   injection e1 with e1
   injection e1 with _ _ e1
   injection e1 with _ e1
   injection e1 with e1 _
   injection e1 with _ e1
   rw [e1]
   exact q.pl
  clear hH BB
  refine ⟨_,rfl,ca,_,d,_,_,rfl,Bz,T.aq,T.aX,rfl,_,rfl,?_⟩
  cases eD:c.place with
  |none=>
   rw [eD] at Nz
   have e:pl= .bX:=Nz
   subst e
   refine bL ?_
   refine k _ ?_ F1
   unfold vT Vbcnag.outOf
   rw [show (ik W.now c).place=none from eD]
   exact R1
  |some m=>
   rw [eD] at Nz
   obtain ⟨b,e,QY⟩:=Nz
   subst e
   refine bC ?_
   refine ⟨_,rfl,ca,_,d,_,_,rfl,Bz,T.aq,T.aX,rfl,b,_,_,_,rfl,rfl,bJ.of QY,rfl,_,rfl,ca,_,d,_,_,rfl,Bz,T.aq,T.aX,rfl,b,_,_,_,rfl,rfl,bJ.of QY,rfl,(by show 3≤sizeLine;decide),fun q hq=> ?_⟩
   have S2:=aj.ao (o:=HO.tup [V.int 0,nV m.relay,nV m.circuit]) hq
   refine ⟨_,rfl,_,rfl,_,rfl,ca,_,d,_,_,rfl,S2 _ _ Bz,T.aq,T.fF,rfl,_,rfl,ca,_,d,_,_,rfl,S2 _ _ Bz,T.aq,T.bI,rfl,_,rfl,_,rfl,_,rfl,(by show 0≤sizeLine;decide),fun z hz=> ?_⟩
   have S3:=aj.ao (o:=HO.tup []) hz
   intro x dx nx NA Zz
   refine ⟨x,dx,_,_,_,_,_,_,_,_,_,rfl,ab,fun H5 h5 k5=>⟨rfl,?_⟩⟩
   have S5:=aj.made nx NA k5
   have YA:=(S2.trans S3).trans S5
   have hq5:=S5 _ _ (S3 _ _ (ab (H:=H1) (a:=q) (o:=HO.tup [V.int 0,nV m.relay,nV m.circuit])))
   have hz5:=S5 _ _ (ab (H:=L2.upd H1 q (HO.tup [V.int 0,nV m.relay,nV m.circuit])) (a:=z) (o:=HO.tup []))
   refine ⟨A,cas,{W with clients:=W.clients.set i (ik W.now c)},x,{place:= .up m.relay m.circuit,msg:=Iw c kind sv addr},rfl,R1.same YA,hb,⟨dx,q,z,[],h5,hq5,hz5,.nil⟩,fun H6 R6 F6=> ?_⟩
   refine k _ ?_ ((F1.trans (aj.ek YA)).trans F6)
   unfold vT Vbcnag.outOf
   rw [show (ik W.now c).place=some m from eD]
   exact R6
end
theorem AZ (W:VW)(i:Nat)(c:Client)(kind:Nat)(sv:Option Nat)(addr:Nat):
  vT W i c kind sv addr={W with clients:=W.clients.set i (ik W.now c),bag:=W.bag ++ (Vbcnag.outOf c [Iw c kind sv addr]).take (W.cap - W.bag.length)}:=by
 unfold vT
 rw [gg]
 rfl
theorem Iz {c d:Client}(h:c.place=d.place)(l:List Msg):Vbcnag.outOf c l=Vbcnag.outOf d l:=by
 unfold Vbcnag.outOf
 rw [h]
theorem qK {W:VW}{i:Nat}{c:Client}{y:Vbcnag.Done}(nd:(W.clients.map (·.host)).Nodup)(hc:W.clients[i]?=some c)(hh:y.1.host=c.host):
  Vbcnag.done W y={W with clients:=W.clients.set i y.1,bag:=W.bag ++ (Vbcnag.outOf y.1 y.2).take (W.cap - W.bag.length)}:=by
 unfold Vbcnag.done
 rw [gg,bW nd hc hh]
theorem NB {W:VW}{i:Nat}{c c1 c3:Client}{y:Vbcnag.Done}{kind addr:Nat}{sv:Option Nat}(nd:(W.clients.map (·.host)).Nodup)(hc:W.clients[i]?=some c)(e1:y.1=c3)(hh:c3.host=c.host)(hp:c1.place=c3.place)(e2:y.2= [Iw c1 kind sv addr]):
  {vT {W with clients:=W.clients.set i c1} i c1 kind sv addr with clients:=(vT {W with clients:=W.clients.set i c1} i c1 kind sv addr).clients.set i c3}=Vbcnag.done W y:=by
 rw [qK nd hc (by rw [e1];exact hh),AZ,e1,e2,Iz hp]
 simp only [List.set_set]
theorem zj {W:VW}{l:List Client}(h:W.bag.length≤10000):({W with clients:=l}:VW).bag.length≤10000:=h
theorem ju {l:List Client}{i:Nat}{c d:Client}(h:l[i]?=some c):(l.set i d)[i]?=some d:=List.getElem?_set_self (List.getElem?_eq_some_iff.mp h).1
theorem Rep.due {C:Cs}{H2:Hp}{A:Ad}{cas:List Addr}{W:VW}{i:Nat}{ca:Addr}{c c1:Client}{kind addr:Nat}{sv:Option Nat}(CK:C.Ok)(R2:Rep C H2 A cas (vT {W with clients:=W.clients.set i c1} i c1 kind sv addr))
  (nd:(W.clients.map (·.host)).Nodup)(hc:W.clients[i]?=some c)(hi:cas[i]?=some ca)(x:Nat)(y:Vbcnag.Done)(e1:y.1={ik W.now c1 with due:=some x})(hh:c1.host=c.host)(e2:y.2= [Iw c1 kind sv addr]):
  ∃d2 Ud Ue Ug,H2 ca=some (.ins C.C d2 (tw (ik W.now c1) Ud Ue Ug))∧eO C H2 ca (ik W.now c1)∧H2 A.w=some (.ins C.W A.dw (A.fs W.now W.servers W.cap))∧
   Rep C (L2.upd H2 ca (.ins C.C d2 (tw {ik W.now c1 with due:=some x} Ud Ue Ug))) A cas (Vbcnag.done W y):=by
 have hc2:(vT {W with clients:=W.clients.set i c1} i c1 kind sv addr).clients[i]?=some (ik W.now c1):=by
  rw [AZ]
  exact ju (ju hc)
 have hw:=R2.cW
 rw [AZ] at hw
 have CA:=R2.gO hc2 hi
 obtain ⟨d2,Ud,Ue,Ug,w9,YB⟩:=id CA
 refine ⟨d2,Ud,Ue,Ug,w9,CA,hw,?_⟩
 have R3:=R2.setC CK (c':={ik W.now c1 with due:=some x}) hi hc2 rfl w9 ⟨YB.pl,YB.be,YB.le⟩
 have E:=NB (c1:=c1) (c3:={ik W.now c1 with due:=some x}) nd hc e1 hh rfl e2
 rw [←E]
 exact R3
theorem QZ:∀n:Nat,n≤10→GL [V.int 3,V.int 7,V.int 15,V.int 31,V.int 63,V.int 63,V.int 63,V.int 63,V.int 63,V.int 63,V.int 63] (n:Int)=some (nV (min 64 (4 * 2 ^ n) - 1))
 |0,_=>rfl
 |1,_=>rfl
 |2,_=>rfl
 |3,_=>rfl
 |4,_=>rfl
 |5,_=>rfl
 |6,_=>rfl
 |7,_=>rfl
 |8,_=>rfl
 |9,_=>rfl
 |10,_=>rfl
 |n + 11,h=>absurd h (by omega)
section
variable {P:Program}{w:World}{K:PySem.W.Frag}{mg:Str→Option Value}{base:Heap}{t:jL}
def YC (C:Cs):Sp:=fun vs H Q _=>∃ (ca:Addr)(c:Client),vs= [.ref ca] ∧eO C H ca c∧c.tries≤10∧Q (nV (Vbcnag.wait c.tries c.counter)) H
theorem FZ (T:Txt K mg t):bB P w K mg base fe 1 t.fV t.qz qm (YC (cs t)):=by
 refine T.mv.ok JH (fun vs H Q E h=> ?_) (fun d4 A0 outer s H vs Q E hr h=> ?_)
 ·obtain ⟨ca,c,rfl,_⟩:=h
  rfl
 ·obtain ⟨ca,c,rfl,⟨d,pl,be,le,dA,d3⟩,ht,k⟩:=h
  refine ⟨_,ak (aK (cO eB (aF bc (aD (v:= .ref t.jZ) (by rfl) T.Ln rfl) (ai (pv 0) rfl) (fun _ _=>rfl)) (cO Oz (ai (pv 0) rfl) ah))),?_⟩
  refine ⟨_,rfl,ca,_,d,_,_,rfl,dA,T.aq,T.aZ,rfl,t.jZ,_,_,_,rfl,rfl,T.Lo H,QZ _ ht,_,rfl,ca,_,d,_,_,rfl,dA,T.aq,T.bI,rfl,_,_,rfl,rfl,(by show (0:Int) < 3;decide),_,_,rfl,rfl,?_⟩
  have e:(V.int (((min 64 (4 * 2 ^ c.tries) - 1:Nat):Int) + (c.counter:Int) % 3))=nV (Vbcnag.wait c.tries c.counter):=congrArg V.int (by unfold Vbcnag.wait;omega)
  show Q (V.int (((min 64 (4 * 2 ^ c.tries) - 1:Nat):Int) + (c.counter:Int) % 3)) H
  rw [e]
  exact k
def YD (C:Cs):Sp:=fun vs H Q _=>∃ (A:Ad)(cas:List Addr)(W:VW)(i:Nat)(ca:Addr)(c:Client)(n:Nat),
 vs= [.ref A.w,.ref ca,nV n] ∧Rep C H A cas W∧W.bag.length≤10000∧cas[i]?=some ca∧W.clients[i]?=some c∧n≤10∧
 ∀H',Rep C H' A cas (Vbcnag.done W (Vbcnag.seek W.now n c))→ez A cas H H'→Q .bX H'
theorem vU (T:Txt K mg t):bB P w K mg base fe 4 t.mV t.Fl EV (YD (cs t)):=by
 refine T.sU.ok Tw (fun vs H Q E h=> ?_) (fun d4 A0 outer s H vs Q E hr h=> ?_)
 ·obtain ⟨A,cas,W,i,ca,c,n,rfl,_⟩:=h
  rfl
 ·obtain ⟨A,cas,W,i,ca,c,n,rfl,R,hb,hi,hc,hn,k⟩:=h
  have Iy:gP 1 _:=hr.mono (by decide)
  have CK:=fH T
  obtain ⟨u1,m1,r1⟩:=T.zg
  obtain ⟨u2,m2,r2⟩:=T.wY
  obtain ⟨d,pl,be,le,dA,d3⟩:=R.gO hc hi
  refine ⟨_,ae (aP (pv 1) eS rfl) (ae (aP (pv 1) eS rfl) (ae (aP (pv 1) (aD (by rfl) m1 r1) rfl) (ae (aP (pv 1) (pv 2) rfl)
   (ae (aI (aB (zi T) hr (by rfl) T.zY T.wL.kp T.zZ .nil aU (aa (pv 0) (aa (pv 1) (aa (aD (by rfl) m2 r2) (aa eS (aa ah af)))))))
   (ak (aP (pv 1) (cO eB (ai (pv 0) rfl) (aB (FZ T) Iy (by rfl) T.qH T.mv.kp T.qI .nil aU (aa (pv 1) af))) rfl)))))),?_⟩
  refine ⟨_,rfl,ca,_,d,_,rfl,dA,T.aq,T.bj,lt1000 rfl,_,rfl,ca,_,d,_,rfl,ab,T.aq,T.aO,lt1000 rfl,_,rfl,ca,_,d,_,rfl,ab,T.aq,T.aJ,lt1000 rfl,
   _,rfl,_,rfl,ca,_,d,_,rfl,ab,T.aq,T.aZ,lt1000 rfl,?_⟩
  rw [cJ,cJ,cJ]
  generalize BB:L2.upd H ca _=H1
  have hH:L2.upd H ca (.ins (cs t).C d (tw {c with best:=none,lease:=none,phase:=1,tries:=n} pl .bX .bX))=H1:=BB
  have R1:Rep (cs t) H1 A cas {W with clients:=W.clients.set i {c with best:=none,lease:=none,phase:=1,tries:=n} }:=by
   rw [←hH]
   exact R.setC CK hi hc rfl dA ⟨d3.pl,rfl,rfl⟩
  have F1:ez A cas H H1:=by
   rw [←hH]
   exact ez.upd (Ad.il hi)
  clear hH BB
  refine ⟨_,rfl,_,rfl,A,cas,{W with clients:=W.clients.set i {c with best:=none,lease:=none,phase:=1,tries:=n} },i,ca,{c with best:=none,lease:=none,phase:=1,tries:=n},1,none,0,rfl,R1,zj hb,hi,ju hc,fun H2 R2 F2=> ?_⟩
  obtain ⟨d2,Ud,Ue,Ug,w9,CA,NC,R3⟩:=Rep.due CK R2 R.hn hc hi (W.now + Vbcnag.wait n (c.counter + 1)) (Vbcnag.seek W.now n c) rfl rfl rfl
  refine ⟨_,rfl,A.w,_,_,_,_,rfl,NC,T.aw,T.bb,rfl,_,rfl,ca,_,rfl,CA,hn,_,_,rfl,rfl,_,rfl,ca,_,d2,_,rfl,w9,T.aq,T.bx,lt1000 rfl,?_⟩
  exact k _ R3 ((F1.trans F2).trans (ez.upd (Ad.il hi)))
end
section
variable {P:Program}{w:World}{K:PySem.W.Frag}{mg:Str→Option Value}{base:Heap}{t:jL}
def agb (C:Cs):Sp:=fun vs H Q _=>∃ (A:Ad)(cas:List Addr)(W:VW)(i:Nat)(ca:Addr)(c:Client)(n:Nat)(o:Offer),
 vs= [.ref A.w,.ref ca,nV n] ∧Rep C H A cas W∧W.bag.length≤10000∧cas[i]?=some ca∧W.clients[i]?=some c∧n≤10∧c.best=some o∧
 ∀H',Rep C H' A cas (Vbcnag.done W (Vbcnag.askFor W.now n o c))→ez A cas H H'→Q .bX H'
theorem Q0 (T:Txt K mg t):bB P w K mg base fe 4 t.ug t.Lf Lb (agb (cs t)):=by
 refine T.Li.ok WX (fun vs H Q E h=> ?_) (fun d4 A0 outer s H vs Q E hr h=> ?_)
 ·obtain ⟨A,cas,W,i,ca,c,n,o,rfl,_⟩:=h
  rfl
 ·obtain ⟨A,cas,W,i,ca,c,n,o,rfl,R,hb,hi,hc,hn,ho,k⟩:=h
  have Iy:gP 1 _:=hr.mono (by decide)
  have CK:=fH T
  obtain ⟨u1,m1,r1⟩:=T.Al
  obtain ⟨u2,m2,r2⟩:=T.pC
  obtain ⟨d,pl,be,le,dA,d3⟩:=R.gO hc hi
  have Gz:=d3.be
  rw [ho] at Gz
  obtain ⟨b,e,EO⟩:=Gz
  subst e
  refine ⟨_,ae (aP (pv 1) (aD (by rfl) m1 r1) rfl) (ae (aP (pv 1) (pv 2) rfl)
   (ae (aI (aB (zi T) hr (by rfl) T.zY T.wL.kp T.zZ .nil aU (aa (pv 0) (aa (pv 1) (aa (aD (by rfl) m2 r2) (aa (aF bc (ai (pv 1) rfl) ah (fun _ _=>rfl)) (aa (aF bc (ai (pv 1) rfl) ah (fun _ _=>rfl)) af)))))))
   (ak (aP (pv 1) (cO eB (ai (pv 0) rfl) (aB (FZ T) Iy (by rfl) T.qH T.mv.kp T.qI .nil aU (aa (pv 1) af))) rfl)))),?_⟩
  refine ⟨_,rfl,ca,_,d,_,rfl,dA,T.aq,T.aJ,lt1000 rfl,_,rfl,_,rfl,ca,_,d,_,rfl,ab,T.aq,T.aZ,lt1000 rfl,?_⟩
  rw [cJ]
  generalize BB:L2.upd H ca _=H1
  have hH:L2.upd H ca (.ins (cs t).C d (tw {c with phase:=2,tries:=n} pl (.ref b) le))=H1:=BB
  have R1:Rep (cs t) H1 A cas {W with clients:=W.clients.set i {c with phase:=2,tries:=n} }:=by
   rw [←hH]
   exact R.setC CK hi hc rfl dA ⟨d3.pl,d3.be,d3.le⟩
  have F1:ez A cas H H1:=by
   rw [←hH]
   exact ez.upd (Ad.il hi)
  have Bz:H1 ca=some (.ins (cs t).C d (tw {c with phase:=2,tries:=n} pl (.ref b) le)):=by
   rw [←hH]
   exact ab
  have QY:H1 b=some (.tup [nV o.server,nV o.addr,nV o.len]):=by
   rw [←hH,az (a8 EO dA (fun q=>nomatch q))]
   exact EO
  clear hH BB
  refine ⟨_,rfl,_,rfl,_,rfl,ca,_,d,_,_,rfl,Bz,T.aq,T.bj,rfl,b,_,_,_,rfl,rfl,bJ.of QY,rfl,_,rfl,ca,_,d,_,_,rfl,Bz,T.aq,T.bj,rfl,b,_,_,_,rfl,rfl,bJ.of QY,rfl,
   A,cas,{W with clients:=W.clients.set i {c with phase:=2,tries:=n} },i,ca,{c with phase:=2,tries:=n},3,some o.server,o.addr,rfl,R1,zj hb,hi,ju hc,fun H2 R2 F2=> ?_⟩
  obtain ⟨d2,Ud,Ue,Ug,w9,CA,NC,R3⟩:=Rep.due CK R2 R.hn hc hi (W.now + Vbcnag.wait n (c.counter + 1)) (Vbcnag.askFor W.now n o c) rfl rfl rfl
  refine ⟨_,rfl,A.w,_,_,_,_,rfl,NC,T.aw,T.bb,rfl,_,rfl,ca,_,rfl,CA,hn,_,_,rfl,rfl,_,rfl,ca,_,d2,_,rfl,w9,T.aq,T.bx,lt1000 rfl,?_⟩
  exact k _ R3 ((F1.trans F2).trans (ez.upd (Ad.il hi)))
def YE (C:Cs):Sp:=fun vs H Q _=>∃ (A:Ad)(cas:List Addr)(W:VW)(i:Nat)(ca:Addr)(c:Client)(n:Nat)(l:Lease),
 vs= [.ref A.w,.ref ca,nV n] ∧Rep C H A cas W∧W.bag.length≤10000∧cas[i]?=some ca∧W.clients[i]?=some c∧n≤10∧c.lease=some l∧
 ∀H',Rep C H' A cas (Vbcnag.done W (Vbcnag.comeBack W.now n l c))→ez A cas H H'→Q .bX H'
theorem LG (T:Txt K mg t):bB P w K mg base fe 4 t.d9 t.k9 kS (YE (cs t)):=by
 refine T.lu.ok EW (fun vs H Q E h=> ?_) (fun d4 A0 outer s H vs Q E hr h=> ?_)
 ·obtain ⟨A,cas,W,i,ca,c,n,o,rfl,_⟩:=h
  rfl
 ·obtain ⟨A,cas,W,i,ca,c,n,o,rfl,R,hb,hi,hc,hn,ho,k⟩:=h
  have Iy:gP 1 _:=hr.mono (by decide)
  have CK:=fH T
  obtain ⟨u1,m1,r1⟩:=T.hZ
  obtain ⟨u2,m2,r2⟩:=T.pC
  obtain ⟨d,pl,be,le,dA,d3⟩:=R.gO hc hi
  have hle:=d3.le
  rw [ho] at hle
  obtain ⟨b,e,EO⟩:=hle
  subst e
  refine ⟨_,ae (aP (pv 1) (aD (by rfl) m1 r1) rfl) (ae (aP (pv 1) (pv 2) rfl)
   (ae (aI (aB (zi T) hr (by rfl) T.zY T.wL.kp T.zZ .nil aU (aa (pv 0) (aa (pv 1) (aa (aD (by rfl) m2 r2) (aa eS (aa (aF bc (ai (pv 1) rfl) ah (fun _ _=>rfl)) af)))))))
   (ak (aP (pv 1) (cO eB (ai (pv 0) rfl) (aB (FZ T) Iy (by rfl) T.qH T.mv.kp T.qI .nil aU (aa (pv 1) af))) rfl)))),?_⟩
  refine ⟨_,rfl,ca,_,d,_,rfl,dA,T.aq,T.aJ,lt1000 rfl,_,rfl,_,rfl,ca,_,d,_,rfl,ab,T.aq,T.aZ,lt1000 rfl,?_⟩
  rw [cJ]
  generalize BB:L2.upd H ca _=H1
  have hH:L2.upd H ca (.ins (cs t).C d (tw {c with phase:=6,tries:=n} pl be (.ref b)))=H1:=BB
  have R1:Rep (cs t) H1 A cas {W with clients:=W.clients.set i {c with phase:=6,tries:=n} }:=by
   rw [←hH]
   exact R.setC CK hi hc rfl dA ⟨d3.pl,d3.be,d3.le⟩
  have F1:ez A cas H H1:=by
   rw [←hH]
   exact ez.upd (Ad.il hi)
  have Bz:H1 ca=some (.ins (cs t).C d (tw {c with phase:=6,tries:=n} pl be (.ref b))):=by
   rw [←hH]
   exact ab
  have QY:H1 b=some (.tup [nV o.server,nV o.addr,nV o.half,nV o.late,nV o.till]):=by
   rw [←hH,az (a8 EO dA (fun q=>nomatch q))]
   exact EO
  clear hH BB
  refine ⟨_,rfl,_,rfl,_,rfl,ca,_,d,_,_,rfl,Bz,T.aq,T.aO,rfl,b,_,_,_,rfl,rfl,bJ.of QY,rfl,
   A,cas,{W with clients:=W.clients.set i {c with phase:=6,tries:=n} },i,ca,{c with phase:=6,tries:=n},3,none,o.addr,rfl,R1,zj hb,hi,ju hc,fun H2 R2 F2=> ?_⟩
  obtain ⟨d2,Ud,Ue,Ug,w9,CA,NC,R3⟩:=Rep.due CK R2 R.hn hc hi (W.now + Vbcnag.wait n (c.counter + 1)) (Vbcnag.comeBack W.now n o c) rfl rfl rfl
  refine ⟨_,rfl,A.w,_,_,_,_,rfl,NC,T.aw,T.bb,rfl,_,rfl,ca,_,rfl,CA,hn,_,_,rfl,rfl,_,rfl,ca,_,d2,_,rfl,w9,T.aq,T.bx,lt1000 rfl,?_⟩
  exact k _ R3 ((F1.trans F2).trans (ez.upd (Ad.il hi)))
def xa (l:Lease)(c:Client):Client:={c with phase:=3,tries:=0,number:=0,due:=some l.half}
def YF (C:Cs):Sp:=fun vs H Q _=>∃ (A:Ad)(cas:List Addr)(W:VW)(i:Nat)(ca:Addr)(c:Client)(l:Lease),
 vs= [.ref ca] ∧Rep C H A cas W∧cas[i]?=some ca∧W.clients[i]?=some c∧c.lease=some l∧
 ∀H',Rep C H' A cas (Vbcnag.done W (xa l c,[]))→ez A cas H H'→Q .bX H'
theorem Uh (T:Txt K mg t):bB P w K mg base fe 1 t.mW t.Fm EX (YF (cs t)):=by
 refine T.JO.ok Tx (fun vs H Q E h=> ?_) (fun d4 A0 outer s H vs Q E hr h=> ?_)
 ·obtain ⟨A,cas,W,i,ca,c,l,rfl,_⟩:=h
  rfl
 ·obtain ⟨A,cas,W,i,ca,c,l,rfl,R,hi,hc,ho,k⟩:=h
  have CK:=fH T
  obtain ⟨u1,m1,r1⟩:=T.Lm
  obtain ⟨d,pl,be,le,dA,d3⟩:=R.gO hc hi
  have hle:=d3.le
  rw [ho] at hle
  obtain ⟨b,e,EO⟩:=hle
  subst e
  have nb:b≠ca:=a8 EO dA (fun q=>nomatch q)
  refine ⟨_,ae (aP (pv 0) (aD (by rfl) m1 r1) rfl) (ae (aP (pv 0) ah rfl) (ae (aP (pv 0) ah rfl) (ak (aP (pv 0) (aF bc (ai (pv 0) rfl) ah (fun _ _=>rfl)) rfl)))),?_⟩
  refine ⟨_,rfl,ca,_,d,_,rfl,dA,T.aq,T.aJ,lt1000 rfl,_,rfl,ca,_,d,_,rfl,ab,T.aq,T.aZ,lt1000 rfl,_,rfl,ca,_,d,_,rfl,ab,T.aq,T.bS,lt1000 rfl,?_⟩
  refine ⟨_,rfl,ca,_,d,_,_,rfl,ab,T.aq,T.aO,rfl,b,_,_,_,rfl,rfl,bJ.of (by rw [az nb,az nb,az nb];exact EO),rfl,_,rfl,ca,_,d,_,rfl,ab,T.aq,T.bx,lt1000 rfl,?_⟩
  rw [cJ,cJ,cJ]
  have R1:=R.setC CK (c':=xa l c) hi hc rfl dA ⟨d3.pl,d3.be,d3.le⟩
  refine k _ ?_ (ez.upd (Ad.il hi))
  rw [qK R.hn hc (y:=(xa l c,[])) rfl]
  have e0:Vbcnag.outOf (xa l c) [] = [] :=by
   unfold Vbcnag.outOf
   split <;>rfl
  show Rep _ _ _ _ {W with clients:=W.clients.set i (xa l c),bag:=W.bag ++ (Vbcnag.outOf (xa l c) []).take _}
  rw [e0,List.take_nil,List.append_nil]
  exact R1
end
section
variable {P:Program}{w:World}{K:PySem.W.Frag}{mg:Str→Option Value}{base:Heap}{t:jL}
def pV (now lim:Nat):Nat:=min lim (now + max 60 ((lim - now) / 2))
def Ui (C:Cs):Sp:=fun vs H Q _=>∃ (A:Ad)(cas:List Addr)(W:VW)(i:Nat)(ca:Addr)(c:Client)(ph:Nat)(sv:Option Nat)(lim:Nat)(l:Lease),
 vs= [.ref A.w,.ref ca,nV ph,oV sv,nV lim] ∧Rep C H A cas W∧W.bag.length≤10000∧cas[i]?=some ca∧W.clients[i]?=some c∧W.now < lim∧c.lease=some l∧
 ∀H',Rep C H' A cas (Vbcnag.done W (Vbcnag.sends W.now ph 0 (fun _=>pV W.now lim) 3 sv l.addr c))→ez A cas H H'→Q .bX H'
theorem IA (T:Txt K mg t):bB P w K mg base fe 4 t.jO t.zc y9 (Ui (cs t)):=by
 refine T.zf.ok He (fun vs H Q E h=> ?_) (fun d4 A0 outer s H vs Q E hr h=> ?_)
 ·obtain ⟨A,cas,W,i,ca,c,ph,sv,lim,l,rfl,_⟩:=h
  rfl
 ·obtain ⟨A,cas,W,i,ca,c,ph,sv,lim,l,rfl,R,hb,hi,hc,eA,ho,k⟩:=h
  have CK:=fH T
  obtain ⟨u1,m1,r1⟩:=T.rD
  obtain ⟨u2,m2,r2⟩:=T.pC
  obtain ⟨d,pl,be,le,dA,d3⟩:=R.gO hc hi
  have hle:=d3.le
  rw [ho] at hle
  obtain ⟨b,e,EO⟩:=hle
  subst e
  refine ⟨_,ae (aP (pv 1) (pv 2) rfl) (ae (aP (pv 1) ah rfl)
   (ae (aI (aB (zi T) hr (by rfl) T.zY T.wL.kp T.zZ .nil aU (aa (pv 0) (aa (pv 1) (aa (aD (by rfl) m2 r2) (aa (pv 3) (aa (aF bc (ai (pv 1) rfl) ah (fun _ _=>rfl)) af)))))))
   (ae (aW (i:=5) He.nd rfl (Or.inl rfl) (a6 (CH rfl) (by rfl) T.Hy PyProof.Rows.boot_max (aa (aD (by rfl) m1 r1) (aa (cO Ek (cO Jh (pv 4) (ai (pv 0) rfl)) ah) af))))
   (ak (aP (pv 1) (a6 (CI rfl) (by rfl) T.xY PyProof.Rows.boot_min (aa (pv 4) (aa (cO eB (ai (pv 0) rfl) (pv 5)) af))) rfl))))),?_⟩
  refine ⟨_,rfl,_,rfl,ca,_,d,_,rfl,dA,T.aq,T.aJ,lt1000 rfl,_,rfl,ca,_,d,_,rfl,ab,T.aq,T.aZ,lt1000 rfl,?_⟩
  rw [cJ]
  generalize BB:L2.upd H ca _=H1
  have hH:L2.upd H ca (.ins (cs t).C d (tw {c with phase:=ph,tries:=0} pl be (.ref b)))=H1:=BB
  have R1:Rep (cs t) H1 A cas {W with clients:=W.clients.set i {c with phase:=ph,tries:=0} }:=by
   rw [←hH]
   exact R.setC CK hi hc rfl dA ⟨d3.pl,d3.be,d3.le⟩
  have F1:ez A cas H H1:=by
   rw [←hH]
   exact ez.upd (Ad.il hi)
  have Bz:H1 ca=some (.ins (cs t).C d (tw {c with phase:=ph,tries:=0} pl be (.ref b))):=by
   rw [←hH]
   exact ab
  have QY:H1 b=some (.tup [nV l.server,nV l.addr,nV l.half,nV l.late,nV l.till]):=by
   rw [←hH,az (a8 EO dA (fun q=>nomatch q))]
   exact EO
  clear hH BB
  refine ⟨_,rfl,_,rfl,_,rfl,_,rfl,ca,_,d,_,_,rfl,Bz,T.aq,T.aO,rfl,b,_,_,_,rfl,rfl,bJ.of QY,rfl,
   A,cas,{W with clients:=W.clients.set i {c with phase:=ph,tries:=0} },i,ca,{c with phase:=ph,tries:=0},3,sv,l.addr,rfl,R1,zj hb,hi,ju hc,fun H2 R2 F2=> ?_⟩
  obtain ⟨d2,Ud,Ue,Ug,w9,CA,NC,R3⟩:=Rep.due CK R2 R.hn hc hi (pV W.now lim) (Vbcnag.sends W.now ph 0 (fun _=>pV W.now lim) 3 sv l.addr c) rfl rfl rfl
  refine ⟨_,rfl,_,rfl,A.w,_,_,_,_,rfl,NC,T.aw,T.bb,rfl,_,_,rfl,rfl,_,_,rfl,rfl,⟨by decide,by decide⟩,_,_,rfl,?_⟩
  refine ⟨_,rfl,_,rfl,A.w,_,_,_,_,rfl,NC,T.aw,T.bb,rfl,_,rfl,_,_,rfl,rfl,_,_,rfl,_,rfl,ca,_,d2,_,rfl,w9,T.aq,T.bx,lt1000 rfl,?_⟩
  refine k _ ?_ ((F1.trans F2).trans (ez.upd (Ad.il hi)))
  have e:(if (W.now:Int) + (if ((lim:Int) - (W.now:Int)) / 2 >60 then ((lim:Int) - (W.now:Int)) / 2 else 60) < (lim:Int) then (W.now:Int) + (if ((lim:Int) - (W.now:Int)) / 2 >60 then ((lim:Int) - (W.now:Int)) / 2 else 60) else (lim:Int))=((pV W.now lim:Nat):Int):=by
   unfold pV
   split <;>split at * <;>omega
  show Rep (cs t) (L2.upd H2 ca (.ins (cs t).C d2 (oq "due" (V.int (if (W.now:Int) + (if ((lim:Int) - (W.now:Int)) / 2 >60 then ((lim:Int) - (W.now:Int)) / 2 else 60) < (lim:Int) then (W.now:Int) + (if ((lim:Int) - (W.now:Int)) / 2 >60 then ((lim:Int) - (W.now:Int)) / 2 else 60) else (lim:Int))) (tw (ik W.now {c with phase:=ph,tries:=0}) Ud Ue Ug)))) A cas _
  rw [e]
  exact R3
def Q1 (C:Cs):Sp:=fun vs H Q _=>∃ (A:Ad)(cas:List Addr)(W:VW)(i:Nat)(ca:Addr)(c:Client)(l:Lease),
 vs= [.ref A.w,.ref ca] ∧Rep C H A cas W∧W.bag.length≤10000∧cas[i]?=some ca∧W.clients[i]?=some c∧c.lease=some l∧
 ∀H',Rep C H' A cas (Vbcnag.done W (Vbcnag.settle W.now l c))→ez A cas H H'→Q .bX H'
theorem jv {a b:Nat}:decide ((a:Int) < (b:Int))=true ↔ a < b:=by
 rw [decide_eq_true_iff]
 omega
theorem D1 (T:Txt K mg t):bB P w K mg base fe 5 t.g9 t.uh tU (Q1 (cs t)):=by
 refine T.uA.ok MO (fun vs H Q E h=> ?_) (fun d4 A0 outer s H vs Q E hr h=> ?_)
 ·obtain ⟨A,cas,W,i,ca,c,l,rfl,_⟩:=h
  rfl
 ·obtain ⟨A,cas,W,i,ca,c,l,rfl,R,hb,hi,hc,ho,k⟩:=h
  have Iy:gP 1 _:=hr.mono (by decide)
  obtain ⟨u1,m1,r1⟩:=T.uR
  obtain ⟨u2,m2,r2⟩:=T.nH
  obtain ⟨d,pl,be,le,dA,d3⟩:=R.gO hc hi
  have hle:=d3.le
  rw [ho] at hle
  obtain ⟨b,e,EO⟩:=hle
  subst e
  have hS:=bJ.of (K:=K) EO
  refine ⟨_,ak (bp (aL lW (ai (pv 0) rfl) (aF bc (ai (pv 1) rfl) ah (fun _ _=>rfl)) (aQ _)) (ak (aI (aB (Uh T) Iy (by rfl) T.Pl T.JO.kp T.Pn .nil aU (aa (pv 1) af))))
   (ak (bp (aL lW (ai (pv 0) rfl) (aF bc (ai (pv 1) rfl) ah (fun _ _=>rfl)) (aQ _))
    (ak (aI (aB (IA T) hr (by rfl) T.Fw T.zf.kp T.Fx .nil aU (aa (pv 0) (aa (pv 1) (aa (aD (by rfl) m1 r1) (aa (aF bc (ai (pv 1) rfl) ah (fun _ _=>rfl)) (aa (aF bc (ai (pv 1) rfl) ah (fun _ _=>rfl)) af))))))))
   (ak (bp (aL lW (ai (pv 0) rfl) (aF bc (ai (pv 1) rfl) ah (fun _ _=>rfl)) (aQ _))
    (ak (aI (aB (IA T) hr (by rfl) T.Fw T.zf.kp T.Fx .nil aU (aa (pv 0) (aa (pv 1) (aa (aD (by rfl) m2 r2) (aa eS (aa (aF bc (ai (pv 1) rfl) ah (fun _ _=>rfl)) af))))))))
    (ak (aI (aB (vU T) hr (by rfl) T.wM T.sU.kp T.wN .nil aU (aa (pv 0) (aa (pv 1) (aa ah af))))))))))),?_⟩
  refine ⟨_,rfl,A.w,_,_,_,_,rfl,R.cW,T.aw,T.bb,rfl,_,rfl,ca,_,d,_,_,rfl,dA,T.aq,T.aO,rfl,b,_,_,_,rfl,rfl,hS,rfl,_,_,rfl,rfl,_,rfl,?_⟩
  refine eQ (fun q1=> ?_) fun q1=> ?_
  ·have h1:=jv.mp q1
   refine ⟨_,rfl,A,cas,W,i,ca,c,l,rfl,R,hi,hc,ho,fun H' R' F'=>k H' ?_ F'⟩
   unfold Vbcnag.settle
   rw [if_pos h1]
   exact R'
  ·have h1:¬W.now < l.half:=fun z=>q1 (jv.mpr z)
   refine ⟨_,rfl,A.w,_,_,_,_,rfl,R.cW,T.aw,T.bb,rfl,_,rfl,ca,_,d,_,_,rfl,dA,T.aq,T.aO,rfl,b,_,_,_,rfl,rfl,hS,rfl,_,_,rfl,rfl,_,rfl,?_⟩
   refine eQ (fun q2=> ?_) fun q2=> ?_
   ·have h2:=jv.mp q2
    refine ⟨_,rfl,_,rfl,_,rfl,ca,_,d,_,_,rfl,dA,T.aq,T.aO,rfl,b,_,_,_,rfl,rfl,hS,rfl,_,rfl,ca,_,d,_,_,rfl,dA,T.aq,T.aO,rfl,b,_,_,_,rfl,rfl,hS,rfl,
     A,cas,W,i,ca,c,4,some l.server,l.late,l,rfl,R,hb,hi,hc,h2,ho,fun H' R' F'=>k H' ?_ F'⟩
    unfold Vbcnag.settle
    rw [if_neg h1,if_pos h2]
    exact R'
   ·have h2:¬W.now < l.late:=fun z=>q2 (jv.mpr z)
    refine ⟨_,rfl,A.w,_,_,_,_,rfl,R.cW,T.aw,T.bb,rfl,_,rfl,ca,_,d,_,_,rfl,dA,T.aq,T.aO,rfl,b,_,_,_,rfl,rfl,hS,rfl,_,_,rfl,rfl,_,rfl,?_⟩
    refine eQ (fun q3=> ?_) fun q3=> ?_
    ·have h3:=jv.mp q3
     refine ⟨_,rfl,_,rfl,_,rfl,ca,_,d,_,_,rfl,dA,T.aq,T.aO,rfl,b,_,_,_,rfl,rfl,hS,rfl,
      A,cas,W,i,ca,c,5,none,l.till,l,rfl,R,hb,hi,hc,h3,ho,fun H' R' F'=>k H' ?_ F'⟩
     unfold Vbcnag.settle
     rw [if_neg h1,if_neg h2,if_pos h3]
     exact R'
    ·have h3:¬W.now < l.till:=fun z=>q3 (jv.mpr z)
     refine ⟨_,rfl,_,rfl,A,cas,W,i,ca,c,0,rfl,R,hb,hi,hc,Nat.zero_le _,fun H' R' F'=>k H' ?_ F'⟩
     unfold Vbcnag.settle
     rw [if_neg h1,if_neg h2,if_neg h3]
     exact R'
end
theorem Uj {now:Nat}{c:Client}{o:Offer}(h1:c.phase=1)(h2:c.best=some o):Vbcnag.acts now c=Vbcnag.askFor now 0 o c:=by
 unfold Vbcnag.acts
 rw [h1,h2]
 cases c.lease <;>rfl
theorem Uk {now:Nat}{c:Client}(h1:c.phase=1)(h2:c.best=none):Vbcnag.acts now c=Vbcnag.seek now (min (c.tries + 1) 10) c:=by
 unfold Vbcnag.acts
 rw [h1,h2]
 cases c.lease <;>rfl
theorem Q2 {now:Nat}{c:Client}{o:Offer}(h1:c.phase=2)(h2:c.best=some o):Vbcnag.acts now c=if c.tries < 3 then Vbcnag.askFor now (c.tries + 1) o c else Vbcnag.seek now 0 c:=by
 unfold Vbcnag.acts
 rw [h1,h2]
 cases c.lease <;>rfl
theorem Q3 {now:Nat}{c:Client}{l:Lease}(h1:c.phase=6)(h2:c.lease=some l):Vbcnag.acts now c=if c.tries < 2 then Vbcnag.comeBack now (c.tries + 1) l c else Vbcnag.settle now l c:=by
 unfold Vbcnag.acts
 rw [h1,h2]
 cases c.best <;>rfl
theorem Q4 {now:Nat}{c:Client}{l:Lease}(h1:c.phase=3∨c.phase=4∨c.phase=5)(h2:c.lease=some l):Vbcnag.acts now c=Vbcnag.settle now l c:=by
 unfold Vbcnag.acts
 rcases h1 with h1|h1|h1 <;>rw [h1,h2] <;>cases c.best <;>rfl
section
variable {P:Program}{w:World}{K:PySem.W.Frag}{mg:Str→Option Value}{base:Heap}{t:jL}
def Q5 (p:Client→Prop)(C:Cs):Sp:=fun vs H Q _=>∃ (A:Ad)(cas:List Addr)(W:VW)(i:Nat)(ca:Addr)(c:Client),
 vs= [.ref A.w,.ref ca] ∧Rep C H A cas W∧W.bag.length≤10000∧cas[i]?=some ca∧W.clients[i]?=some c∧vK c∧p c∧
 ∀H',Rep C H' A cas (Vbcnag.done W (Vbcnag.acts W.now c))→ez A cas H H'→Q .bX H'
theorem A1 (T:Txt K mg t):bB P w K mg base fe 5 t.de t.iS iL (Q5 (fun c=>c.phase=1) (cs t)):=by
 refine T.lI.ok zQ (fun vs H Q E h=> ?_) (fun d4 A0 outer s H vs Q E hr h=> ?_)
 ·obtain ⟨A,cas,W,i,ca,c,rfl,_⟩:=h
  rfl
 ·obtain ⟨A,cas,W,i,ca,c,rfl,R,hb,hi,hc,hg,hp,k⟩:=h
  obtain ⟨d,pl,be,le,dA,d3⟩:=R.gO hc hi
  obtain ⟨IB,pW,pX⟩:=T.jq
  refine ⟨_,ak (bp (cq (gS (ai (pv 1) rfl))) (ak (aI (aB (Q0 T) (hr.mono (by decide)) (by rfl) T.Pj T.Li.kp T.Pk .nil aU (aa (pv 0) (aa (pv 1) (aa ah af)))))) (ak (aI (aB (vU T) (hr.mono (by decide)) (by rfl) T.wM T.sU.kp T.wN .nil aU (aa (pv 0) (aa (pv 1) (aa (a6 (CI rfl) (by rfl) T.xY PyProof.Rows.boot_min (aa (cO eB (ai (pv 1) rfl) ah) (aa (aD (by rfl) pW pX) af))) af))))))),?_⟩
  refine ⟨_,rfl,ca,_,d,_,_,rfl,dA,T.aq,T.bj,rfl,_,rfl,?_⟩
  have Gz:=d3.be
  cases Ul:c.best with
  |none=>
   rw [Ul] at Gz
   have e:be= .bX:=Gz
   subst e
   refine bL ?_
   refine ⟨_,rfl,_,rfl,_,rfl,ca,_,d,_,_,rfl,dA,T.aq,T.aZ,rfl,_,_,rfl,rfl,_,_,rfl,A,cas,W,i,ca,c,min (c.tries + 1) 10,?_,R,hb,hi,hc,Nat.min_le_right _ _,fun H' R' F'=>k H' ?_ F'⟩
   ·have e:(if (10:Int) < (c.tries:Int) + 1 then (10:Int) else (c.tries:Int) + 1)=((min (c.tries + 1) 10:Nat):Int):=by split <;>omega
    show [V.ref A.w,V.ref ca,V.int (if (10:Int) < (c.tries:Int) + 1 then (10:Int) else (c.tries:Int) + 1)] =_
    rw [e]
    rfl
   ·rw [Uk hp Ul]
    exact R'
  |some o=>
   rw [Ul] at Gz
   obtain ⟨b,e,EO⟩:=Gz
   subst e
   refine bC ?_
   refine ⟨_,rfl,_,rfl,A,cas,W,i,ca,c,0,o,rfl,R,hb,hi,hc,Nat.zero_le _,Ul,fun H' R' F'=>k H' ?_ F'⟩
   rw [Uj hp Ul]
   exact R'
theorem Cg (T:Txt K mg t):bB P w K mg base fe 5 t.dE t.jP jB (Q5 (fun c=>c.phase=2) (cs t)):=by
 refine T.ni.ok BO (fun vs H Q E h=> ?_) (fun d4 A0 outer s H vs Q E hr h=> ?_)
 ·obtain ⟨A,cas,W,i,ca,c,rfl,_⟩:=h
  rfl
 ·obtain ⟨A,cas,W,i,ca,c,rfl,R,hb,hi,hc,hg,hp,k⟩:=h
  obtain ⟨d,pl,be,le,dA,d3⟩:=R.gO hc hi
  obtain ⟨o,Ul⟩:=Option.isSome_iff_exists.mp (hg.ask hp)
  obtain ⟨LH,vV,vW⟩:=T.lA
  refine ⟨_,ak (bp (aL lW (ai (pv 1) rfl) (aD (by rfl) vV vW) (aQ _)) (ak (aI (aB (Q0 T) (hr.mono (by decide)) (by rfl) T.Pj T.Li.kp T.Pk .nil aU (aa (pv 0) (aa (pv 1) (aa (cO eB (ai (pv 1) rfl) ah) af)))))) (ak (aI (aB (vU T) (hr.mono (by decide)) (by rfl) T.wM T.sU.kp T.wN .nil aU (aa (pv 0) (aa (pv 1) (aa ah af))))))),?_⟩
  refine ⟨_,rfl,ca,_,d,_,_,rfl,dA,T.aq,T.aZ,rfl,_,_,rfl,rfl,_,rfl,?_⟩
  refine eQ (fun q1=> ?_) fun q1=> ?_
  ·have h1:c.tries < 3:=jv (b:=3)|>.mp q1
   refine ⟨_,rfl,_,rfl,_,rfl,ca,_,d,_,_,rfl,dA,T.aq,T.aZ,rfl,_,_,rfl,rfl,A,cas,W,i,ca,c,c.tries + 1,o,rfl,R,hb,hi,hc,by omega,Ul,fun H' R' F'=>k H' ?_ F'⟩
   rw [Q2 hp Ul,if_pos h1]
   exact R'
  ·have h1:¬c.tries < 3:=fun z=>q1 (jv (b:=3)|>.mpr z)
   refine ⟨_,rfl,_,rfl,A,cas,W,i,ca,c,0,rfl,R,hb,hi,hc,Nat.zero_le _,fun H' R' F'=>k H' ?_ F'⟩
   rw [Q2 hp Ul,if_neg h1]
   exact R'
theorem bT {a b:Nat}:decide (V.int (a:Int)=V.int (b:Int))=true ↔ a=b:=by
 rw [decide_eq_true_iff]
 constructor
 ·intro h
  injection h with h
  omega
 ·intro h
  rw [h]
theorem YG (T:Txt K mg t):bB P w K mg base fe 6 t.ui t.Lg Lc (Q5 (fun c=>c.phase≠0) (cs t)):=by
 refine T.Po.ok WZ (fun vs H Q E h=> ?_) (fun d4 A0 outer s H vs Q E hr h=> ?_)
 ·obtain ⟨A,cas,W,i,ca,c,rfl,_⟩:=h
  rfl
 ·obtain ⟨A,cas,W,i,ca,c,rfl,R,hb,hi,hc,hg,hp,k⟩:=h
  obtain ⟨d,pl,be,le,dA,d3⟩:=R.gO hc hi
  have h6:=hg.le6
  obtain ⟨Um,F0,F8⟩:=T.zg
  obtain ⟨Q6,A2,A3⟩:=T.Al
  obtain ⟨IC,pY,pZ⟩:=T.jr
  obtain ⟨vX,ib,ic⟩:=T.hZ
  refine ⟨_,ak (bp (aL cV (ai (pv 1) rfl) (aD (by rfl) F0 F8) (aQ _)) (ak (aI (aB (A1 T) (hr.mono (by decide)) (by rfl) T.rj T.lI.kp T.rk .nil aU (aa (pv 0) (aa (pv 1) af))))) (ak (bp (aL cV (ai (pv 1) rfl) (aD (by rfl) A2 A3) (aQ _)) (ak (aI (aB (Cg T) (hr.mono (by decide)) (by rfl) T.uB T.ni.kp T.uC .nil aU (aa (pv 0) (aa (pv 1) af))))) (ak (bp (PW.pt (ip (aL cV (ai (pv 1) rfl) (aD (by rfl) ib ic) (aQ _)) (fJ (aL lW (ai (pv 1) rfl) (aD (by rfl) pY pZ) (aQ _))))) (ak (aI (aB (LG T) (hr.mono (by decide)) (by rfl) T.o3 T.lu.kp T.o4 .nil aU (aa (pv 0) (aa (pv 1) (aa (cO eB (ai (pv 1) rfl) ah) af)))))) (ak (aI (aB (D1 T) (hr.mono (by decide)) (by rfl) T.z0 T.uA.kp T.z6 .nil aU (aa (pv 0) (aa (pv 1) af)))))))))),?_⟩
  refine ⟨_,rfl,ca,_,d,_,_,rfl,dA,T.aq,T.aJ,rfl,rfl,_,rfl,?_⟩
  refine eQ (fun q1=> ?_) fun q1=> ?_
  ·have h1:c.phase=1:=bT (b:=1)|>.mp q1
   exact ⟨_,rfl,_,rfl,A,cas,W,i,ca,c,rfl,R,hb,hi,hc,hg,h1,k⟩
  ·have h1:¬c.phase=1:=fun z=>q1 (bT (b:=1)|>.mpr z)
   refine ⟨_,rfl,ca,_,d,_,_,rfl,dA,T.aq,T.aJ,rfl,rfl,_,rfl,?_⟩
   refine eQ (fun q2=> ?_) fun q2=> ?_
   ·have h2:c.phase=2:=bT (b:=2)|>.mp q2
    exact ⟨_,rfl,_,rfl,A,cas,W,i,ca,c,rfl,R,hb,hi,hc,hg,h2,k⟩
   ·have h2:¬c.phase=2:=fun z=>q2 (bT (b:=2)|>.mpr z)
    obtain ⟨l,hl⟩:=Option.isSome_iff_exists.mp (hg.held (by omega))
    refine ⟨_,rfl,ca,_,d,_,_,rfl,dA,T.aq,T.aJ,rfl,rfl,_,rfl,?_⟩
    refine eQ (fun q3=> ?_) fun q3=> ?_
    ·have h3:c.phase=6:=bT (b:=6)|>.mp q3
     refine ⟨_,rfl,ca,_,d,_,_,rfl,dA,T.aq,T.aZ,rfl,_,_,rfl,rfl,_,rfl,?_⟩
     refine eQ (fun q4=> ?_) fun q4=> ?_
     ·have h4:c.tries < 2:=jv (b:=2)|>.mp q4
      refine ⟨_,rfl,_,rfl,_,rfl,ca,_,d,_,_,rfl,dA,T.aq,T.aZ,rfl,_,_,rfl,rfl,A,cas,W,i,ca,c,c.tries + 1,l,rfl,R,hb,hi,hc,by omega,hl,fun H' R' F'=>k H' ?_ F'⟩
      rw [Q3 h3 hl,if_pos h4]
      exact R'
     ·have h4:¬c.tries < 2:=fun z=>q4 (jv (b:=2)|>.mpr z)
      refine ⟨_,rfl,_,rfl,A,cas,W,i,ca,c,l,rfl,R,hb,hi,hc,hl,fun H' R' F'=>k H' ?_ F'⟩
      rw [Q3 h3 hl,if_neg h4]
      exact R'
    ·have h3:¬c.phase=6:=fun z=>q3 (bT (b:=6)|>.mpr z)
     refine bL ?_
     refine ⟨_,rfl,_,rfl,A,cas,W,i,ca,c,l,rfl,R,hb,hi,hc,hl,fun H' R' F'=>k H' ?_ F'⟩
     rw [Q4 (by omega) hl]
     exact R'
end
abbrev yU:=Nat×Addr×Nat
structure WS (cas:List Addr) (cl:List Client) (ws:List yU):Prop where
 at_:∀x∈ws,cas[x.1]?=some x.2.1∧∃c,cl[x.1]?=some c∧c.due=some x.2.2
 ord:ws.Pairwise fun x y=>∀c d,cl[x.1]?=some c→cl[y.1]?=some d→c.host < d.host
 all:∀ (i:Nat)(c:Client)(d:Nat),cl[i]?=some c→c.due=some d→∃x∈ws,x.1=i
theorem LI {α:Type}{R:α→α→Prop}{l:List α}(h:l.Pairwise R){p q:Nat}{x y:α}(hpq:p < q)(hx:l[p]?=some x)(hy:l[q]?=some y):R x y:=by
 obtain ⟨h1,e1⟩:=List.getElem?_eq_some_iff.mp hx
 obtain ⟨h2,e2⟩:=List.getElem?_eq_some_iff.mp hy
 have:=List.pairwise_iff_getElem.mp h p q h1 h2 hpq
 rw [e1,e2] at this
 exact this
theorem WS.soonest {cas:List Addr}{W:VW}{ws:List yU}(S:WS cas W.clients ws){p:Nat}{x:yU}{c:Client}(hp:ws[p]?=some x)(YH:∀y∈ws,x.2.2≤y.2.2)(YI:∀ (q:Nat)(y:yU),q < p→ws[q]?=some y→y.2.2≠x.2.2)(hc:W.clients[x.1]?=some c):
  Vbcnag.soonest (Vbcnag.dues W)=some (x.2.2,c.host)∧c.due=some x.2.2:=by
 obtain ⟨_,c0,hc0,hd0⟩:=S.at_ x (List.mem_of_getElem? hp)
 rw [hc] at hc0
 cases hc0
 refine ⟨Kc (gu.mpr ⟨c,List.mem_of_getElem? hc,hd0,rfl⟩) fun z hz=> ?_,hd0⟩
 obtain ⟨t,h⟩:=z
 obtain ⟨c',hm,hd,hh⟩:=gu.mp hz
 obtain ⟨i,hi⟩:=List.getElem?_of_mem hm
 obtain ⟨y,hy,VD⟩:=S.all i c' t hi hd
 obtain ⟨_,c1,Bz,hd1⟩:=S.at_ y hy
 rw [VD,hi] at Bz
 cases Bz
 rw [hd] at hd1
 have et:t=y.2.2:=Option.some.inj hd1
 have hle:=YH y hy
 unfold gq
 show x.2.2 < t∨(x.2.2=t∧c.host≤h)
 by_cases q:x.2.2=t
 ·refine .inr ⟨q,?_⟩
  obtain ⟨r,hr⟩:=List.getElem?_of_mem hy
  by_cases e:r < p
  ·exact absurd (by rw [←et,q]) (YI r y e hr)
  ·by_cases e2:r=p
   ·rw [e2,hp] at hr
    cases hr
    rw [VD,hi] at hc
    cases hc
    rw [hh]
    exact Nat.le_refl _
   ·have:=LI S.ord (show p < r by omega) hp hr c c' hc (by rw [VD];exact hi)
    rw [←hh]
    omega
 ·exact .inl (by omega)
theorem WS.set {cas:List Addr}{cl:List Client}{ws:List yU}(S:WS cas cl ws){p:Nat}{x:yU}{c c':Client}{d':Nat}(hp:ws[p]?=some x)(hc:cl[x.1]?=some c)(hh:c'.host=c.host)(hd:c'.due=some d'):
  WS cas (cl.set x.1 c') (ws.set p (x.1,x.2.1,d')):=by
 have qY:∀ (q:Nat)(y:yU),q≠p→ws[q]?=some y→y.1≠x.1:=fun q y hq hy e=>by
  rcases Nat.lt_or_gt_of_ne hq with z|z
  ·exact absurd (LI S.ord z hy hp c c (by rw [e];exact hc) hc) (Nat.lt_irrefl _)
  ·exact absurd (LI S.ord z hp hy c c hc (by rw [e];exact hc)) (Nat.lt_irrefl _)
 have eA:=(List.getElem?_eq_some_iff.mp hp).1
 have VE:∀ (i:Nat)(a:Client),(cl.set x.1 c')[i]?=some a→∃b,cl[i]?=some b∧b.host=a.host:=fun i a ha=>by
  by_cases q:x.1=i
  ·rw [←q,ju hc] at ha
   cases ha
   exact ⟨c,by rw [←q];exact hc,hh.symm⟩
  ·rw [List.getElem?_set_ne q] at ha
   exact ⟨a,ha,rfl⟩
 have ix:∀ (q:Nat)(y:yU),(ws.set p (x.1,x.2.1,d'))[q]?=some y→∃z,ws[q]?=some z∧z.1=y.1:=fun q y hy=>by
  by_cases e:p=q
  ·rw [←e,List.getElem?_set_self eA] at hy
   cases hy
   exact ⟨x,by rw [←e];exact hp,rfl⟩
  ·rw [List.getElem?_set_ne e] at hy
   exact ⟨y,hy,rfl⟩
 refine ⟨fun y hy=> ?_,?_,fun i a d ha had=> ?_⟩
 ·obtain ⟨q,hq⟩:=List.getElem?_of_mem hy
  by_cases e:p=q
  ·rw [←e,List.getElem?_set_self eA] at hq
   cases hq
   exact ⟨(S.at_ x (List.mem_of_getElem? hp)).1,c',ju hc,hd⟩
  ·rw [List.getElem?_set_ne e] at hq
   obtain ⟨h1,b,h2,h3⟩:=S.at_ y (List.mem_of_getElem? hq)
   refine ⟨h1,b,?_,h3⟩
   rw [List.getElem?_set_ne (Ne.symm (qY q y (Ne.symm e) hq))]
   exact h2
 ·rw [List.pairwise_iff_getElem]
  intro i j hi hj hij a b ha hb
  obtain ⟨z1,e1,f1⟩:=ix i _ (List.getElem?_eq_getElem hi)
  obtain ⟨z2,e2,f2⟩:=ix j _ (List.getElem?_eq_getElem hj)
  obtain ⟨a',ha',ea⟩:=VE _ a ha
  obtain ⟨b',Zy,eb⟩:=VE _ b hb
  have:=LI S.ord hij e1 e2 a' b' (by rw [f1];exact ha') (by rw [f2];exact Zy)
  omega
 ·by_cases q:x.1=i
  ·exact ⟨(x.1,x.2.1,d'),List.mem_of_getElem? (List.getElem?_set_self eA),q⟩
  ·rw [List.getElem?_set_ne q] at ha
   obtain ⟨y,hy,VD⟩:=S.all i a d ha had
   obtain ⟨r,hr⟩:=List.getElem?_of_mem hy
   have hrp:p≠r:=fun e=>q (by rw [←VD];rw [e] at hp;rw [hp] at hr;cases hr;rfl)
   exact ⟨y,List.mem_of_getElem? (by rw [List.getElem?_set_ne hrp];exact hr),VD⟩
def lQ (cas:List Addr)(cl:List Client)(n:Int):Option yU:=(cl.findIdx? fun c=>decide ((c.host:Int)=n)).bind fun i=>(cas[i]?).bind fun a=>(cl[i]?).bind fun c=>c.due.map fun d=>(i,a,d)
theorem LJ:∀ {cl:List Client}{i:Nat}{c:Client},(cl.map (·.host)).Nodup→cl[i]?=some c→(cl.findIdx? fun x:Client=>decide ((x.host:Int)=(c.host:Int)))=some i
 | [],i,c,_,h=>by simp at h
 |x::cl,0,c,nd,h=>by
  have e:x=c:=Option.some.inj h
  subst e
  rw [List.findIdx?_cons,if_pos (by simp)]
 |x::cl,i + 1,c,nd,h=>by
  rw [List.map_cons,List.nodup_cons] at nd
  have hl:cl[i]?=some c:=h
  have ne:¬x.host=c.host:=fun q=>nd.1 (by rw [q];exact List.mem_map_of_mem (List.mem_of_getElem? hl))
  rw [List.findIdx?_cons,if_neg (by simp;omega),LJ nd.2 hl]
  rfl
theorem xb {cas:List Addr}{cl:List Client}{i:Nat}{c:Client}{a:Addr}(nd:(cl.map (·.host)).Nodup)(h:cl[i]?=some c)(ha:cas[i]?=some a):lQ cas cl (c.host:Int)=(c.due.map fun d=>(i,a,d)):=by
 unfold lQ
 rw [LJ nd h]
 simp only [Option.bind_some,ha,h]
theorem Q7 {cas:List Addr}{cl:List Client}{ns:List Int}(nd:(cl.map (·.host)).Nodup)(hl:cas.length=cl.length)(hp:ns.Perm (cl.map fun c:Client=>(c.host:Int)))(hs:ns.Pairwise (· ≤ ·)):WS cas cl (ns.filterMap (lQ cas cl)):=by
 have mem:∀n∈ns,∃ (i:Nat)(c:Client)(a:Addr),cl[i]?=some c∧cas[i]?=some a∧(c.host:Int)=n:=fun n hn=>by
  have:=hp.mem_iff.mp hn
  obtain ⟨c,hc,e⟩:=List.mem_map.mp this
  obtain ⟨i,hi⟩:=List.getElem?_of_mem hc
  have eA:=(List.getElem?_eq_some_iff.mp hi).1
  exact ⟨i,c,cas[i]'(by omega),hi,List.getElem?_eq_getElem _,e⟩
 have ent:∀n∈ns,∀x,lQ cas cl n=some x→cas[x.1]?=some x.2.1∧∃c:Client,cl[x.1]?=some c∧c.due=some x.2.2∧(c.host:Int)=n:=fun n hn x hx=>by
  obtain ⟨i,c,a,h1,h2,h3⟩:=mem n hn
  rw [←h3,xb nd h1 h2] at hx
  cases hd:c.due with
  |none=>rw [hd] at hx;cases hx
  |some d=>
   rw [hd] at hx
   cases hx
   exact ⟨h2,c,h1,hd,h3⟩
 have ndn:ns.Nodup:=by
  refine hp.nodup_iff.mpr ?_
  have:(cl.map fun c:Client=>(c.host:Int))=(cl.map (·.host)).map (fun n:Nat=>(n:Int)):=by simp
  rw [this]
  exact (List.pairwise_map.mpr (nd.imp fun h q=>h (by omega)))
 have lt:ns.Pairwise (· < ·):=(hs.and ndn).imp fun h=>by omega
 refine ⟨fun x hx=> ?_,?_,fun i c d hi hd=> ?_⟩
 ·obtain ⟨n,hn,e⟩:=List.mem_filterMap.mp hx
  obtain ⟨h1,c,h2,h3,_⟩:=ent n hn x e
  exact ⟨h1,c,h2,h3⟩
 ·rw [List.pairwise_filterMap]
  refine List.Pairwise.imp_of_mem (fun {n m} hn hm eA x hx y hy c d hc hd=> ?_) lt
  obtain ⟨_,c',h2,_,h4⟩:=ent n hn x hx
  obtain ⟨_,d',k2,_,k4⟩:=ent m hm y hy
  rw [hc] at h2
  rw [hd] at k2
  cases h2
  cases k2
  omega
 ·have hn:(c.host:Int)∈ns:=hp.mem_iff.mpr (List.mem_map.mpr ⟨c,List.mem_of_getElem? hi,rfl⟩)
  have eA:=(List.getElem?_eq_some_iff.mp hi).1
  have ha:cas[i]?=some (cas[i]'(by omega)):=List.getElem?_eq_getElem _
  exact ⟨(i,cas[i]'(by omega),d),List.mem_filterMap.mpr ⟨_,hn,by rw [xb nd hi ha,hd];rfl⟩,rfl⟩
theorem p0:∀ {cas:List Addr}{cl:List Client},cas.length=cl.length→(bH cas cl).map (·.1)=(cl.map fun c:Client=>(c.host:Int)).map Sum.inl
 | [],[],_=>rfl
 | [],_::_,h=>by simp at h
 |_::_,[],h=>by simp at h
 |a::cas,c::cl,h=>by
  have ih:=p0 (cas:=cas) (cl:=cl) (by simpa using h)
  unfold bH at ih ⊢
  rw [List.zipWith_cons_cons,List.map_cons,List.map_cons,List.map_cons,ih]
theorem A4:∀ {cas:List Addr}{cl:List Client}{i:Nat}{a:Addr}{c:Client},(cl.map (·.host)).Nodup→cas[i]?=some a→cl[i]?=some c→dD (bH cas cl) (Sum.inl (c.host:Int))=some (.ref a)
 | [],_,i,a,c,_,h,_=>by simp at h
 |_::_,[],i,a,c,_,_,h=>by simp at h
 |b::cas,d::cl,0,a,c,nd,ha,hc=>by
  have e1:b=a:=Option.some.inj ha
  have e2:d=c:=Option.some.inj hc
  subst e1 e2
  exact di rfl
 |b::cas,d::cl,i + 1,a,c,nd,ha,hc=>by
  rw [List.map_cons,List.nodup_cons] at nd
  have hl:cl[i]?=some c:=hc
  have ne:¬d.host=c.host:=fun q=>nd.1 (by rw [q];exact List.mem_map_of_mem (List.mem_of_getElem? hl))
  unfold bH
  rw [List.zipWith_cons_cons,dj (fun q=>ne (by have:=Sum.inl.inj q;omega))]
  exact A4 (i:=i) nd.2 ha hl
theorem Rep.len {C:Cs}{H:Hp}{A:Ad}{cas:List Addr}{W:VW}(R:Rep C H A cas W):cas.length=W.clients.length:=(cU.mp R.ca).1
theorem Rep.there {C:Cs}{H:Hp}{A:Ad}{cas:List Addr}{W:VW}(R:Rep C H A cas W){b:Addr}(h:A.mut cas b):∃o,H b=some o:=by
 rcases h with h|h|h|h|h|h|h|h|h
 ·rw [h];exact ⟨_,R.cW⟩
 ·rw [h];obtain ⟨_,q,_⟩:=R.rl;exact ⟨_,q⟩
 ·rw [h];obtain ⟨_,q,_⟩:=R.hd;exact ⟨_,q⟩
 ·rw [h];exact ⟨_,R.cd⟩
 ·rw [h];obtain ⟨_,q,_⟩:=R.rs;exact ⟨_,q⟩
 ·rw [h];obtain ⟨_,q,_⟩:=R.ag;exact ⟨_,q⟩
 ·rw [h];exact ⟨_,R.wr⟩
 ·rw [h];obtain ⟨_,q,_⟩:=R.bg;exact ⟨_,q⟩
 ·obtain ⟨i,hi⟩:=List.getElem?_of_mem h
  have eA:=(List.getElem?_eq_some_iff.mp hi).1
  have hc:W.clients[i]?=some (W.clients[i]'(by rw [←R.len];exact eA)):=List.getElem?_eq_getElem _
  obtain ⟨d,pl,be,le,e,_⟩:=R.gO hc hi
  exact ⟨_,e⟩
theorem Rep.fresh {C:Cs}{H:Hp}{A:Ad}{cas:List Addr}{W:VW}(R:Rep C H A cas W){b:Addr}(h:H b=none):¬A.mut cas b:=fun q=>by
 obtain ⟨o,e⟩:=R.there q
 rw [h] at e
 cases e
theorem ID {α:Type}{P:α→Prop}:∀ {l:List α},(∃x∈l,P x)→∃ (p:Nat)(x:α),l[p]?=some x∧P x∧∀ (q:Nat)(y:α),q < p→l[q]?=some y→¬P y
 | [],⟨x,h,_⟩=>by cases h
 |a::l,⟨x,h,hx⟩=>by
  by_cases ha:P a
  ·exact ⟨0,a,rfl,ha,fun q y hq _=>absurd hq (Nat.not_lt_zero _)⟩
  ·have hl:x∈l:=by
    cases h with
    |head=>exact absurd hx ha
    |tail _ h=>exact h
   obtain ⟨p,y,h1,h2,h3⟩:=ID ⟨x,hl,hx⟩
   refine ⟨p + 1,y,h1,h2,fun q z hq hz=> ?_⟩
   cases q with
   |zero=>
    have e:a=z:=Option.some.inj hz
    rw [←e]
    exact ha
   |succ q=>exact h3 q z (by omega) hz
section
variable {P:Program}{w:World}{K:PySem.W.Frag}{mg:Str→Option Value}{base:Heap}{t:jL}
theorem Rep.other {C:Cs}{H:Hp}{A:Ad}{cas:List Addr}{W:VW}(R:Rep C H A cas W){F:Addr}{xs:List V}(hF:H F=some (.lst xs))(nm:¬A.mut cas F)(o:HO):Rep C (L2.upd H F o) A cas W:=by
 have kk:dZ C H (L2.upd H F o):=dZ.upd hF (fun q=>q)
 have at_:∀ {b:Addr}{u:HO},A.mut cas b→H b=some u→L2.upd H F o b=some u:=fun {b u} hb e=>by
  rw [az (show b≠F from fun q=>nm (by rw [←q];exact hb))]
  exact e
 obtain ⟨ras,h1,h2⟩:=R.rl
 obtain ⟨kvs,h3,h4,h5⟩:=R.hd
 obtain ⟨bs,h6,h7⟩:=R.rs
 obtain ⟨ks,h8,h9⟩:=R.ag
 obtain ⟨bas,vS,GB⟩:=R.bg
 exact ⟨at_ (.inl rfl) R.cW,⟨ras,at_ (.inr (.inl rfl)) h1,Paired.cN h2 fun a b f=>f.keep kk⟩,⟨kvs,at_ (.inr (.inr (.inl rfl))) h3,h4,h5⟩,at_ (.inr (.inr (.inr (.inl rfl)))) R.cd,
  cU.mpr ⟨(cU.mp R.ca).1,fun i a b ha hb=>((cU.mp R.ca).2 i a b ha hb).keep kk fun u e=>at_ (Ad.il ha) e⟩,⟨bs,at_ (.inr (.inr (.inr (.inr (.inl rfl))))) h6,h7⟩,⟨ks,at_ (.inr (.inr (.inr (.inr (.inr (.inl rfl)))))) h8,Paired.cN h9 fun a b f=>f.keep kk⟩,
  at_ (.inr (.inr (.inr (.inr (.inr (.inr (.inl rfl))))))) R.wr,⟨bas,at_ (.inr (.inr (.inr (.inr (.inr (.inr (.inr (.inl rfl)))))))) vS,Paired.cN GB fun a b f=>f.keep kk⟩,R.n1,R.n2,R.n3,R.hn⟩
theorem ND {W:VW}{t:Nat}{c:Client}(h:W.bag.length≤W.cap):(gj W t c).bag.length≤W.cap:=by
 unfold gj Vbcnag.done
 rw [gg]
 show (W.bag ++ List.take (W.cap - W.bag.length) _).length≤W.cap
 rw [List.length_append,List.length_take]
 omega
def Uo (C:Cs)(lid e:Nat)(W:VW)(A:Ad)(cas:List Addr)(H:Hp)(D F:Addr):Nat→L2.St→Hp→Prop:=fun m σ Hk=>∃ (Wk:VW)(kk:Nat)(ws:List yU)(x0:Int)(v6:Option V),
 σ= [some (.ref A.w),some (nV e),some (.ref D),some (.ref F),some (nV kk),some (.int x0),v6,none,none] ∧vP lid e W Wk kk∧Rep C Hk A cas Wk∧Wk.cap=W.cap∧Wk.bag.length≤W.cap∧Hk D=some (.lst (ws.map fun x=>V.ref x.2.1))∧Hk F=some (.lst (ws.map fun x=>nV x.2.2))∧
 WS cas Wk.clients ws∧ws.length≤64∧((ws= [] ∧x0=(e:Int) + 1)∨((∃x∈ws,x0=(x.2.2:Int))∧∀y∈ws,x0≤(y.2.2:Int)))∧m=mu e Wk.clients∧ez A cas H Hk
theorem A6 {σ:L2.St}{H:Hp}{A B:Hp→Prop}(h:A H):aav σ H (fun b H3=>if b=true then A H3 else B H3):=bC (A:=A H) (B:=B H) h
def Up (C:Cs):Sp:=fun vs H Q _=>∃ (A:Ad)(cas:List Addr)(W:VW)(e lid:Nat),vs= [.ref A.w,nV e] ∧Rep C H A cas W∧W.cap≤10000∧W.bag.length≤W.cap∧W.clients.length≤64∧sL W∧mu e W.clients < lid∧
 ∀H' W' n,Vbcnag.ticks lid e W=({W' with now:=e},n)→Rep C H' A cas W'→ez A cas H H'→Q (nV n) H'
theorem F9 (T:Txt K mg t):bB P w K mg base fe 8 t.ee t.lg kT (Up (cs t)):=by
 refine T.o5.ok cY (fun vs H Q E h=> ?_) (fun d4 A0 outer s H vs Q E hr h=> ?_)
 ·obtain ⟨A,cas,W,e,lid,rfl,_⟩:=h
  rfl
 ·obtain ⟨A,cas,W,e,lid,rfl,R,S9,Q8,hlen,hg,hmu,k⟩:=h
  have hu:=gF hr
  refine ⟨_,ae (zG (i:=2) (own:= [("host",7)]) rfl cY.nd rfl rfl (EC rfl rfl rfl (by decide +kernel)) (qg (a6 (Jx rfl) (by rfl) T.pF PyProof.Rows.boot_sorted (aa (ai (pv 0) rfl) af))) (kr (show EE oK (ay eR) _ _=true by decide +kernel)) (fun _ _ _ _ _=>eU (i:=7) cY.nd rfl (Or.inl rfl)) (fun _ _ _ _ _=>EA (cq (gS (mI K rfl (EH hu (mI K rfl (pv 0) rfl) (pv 7) (fun _ _=>rfl)) rfl)))) (fun _ _ _ _ _=>(EH hu (mI K rfl (pv 0) rfl) (pv 7) (fun _ _=>rfl))))
   (ae (zG (i:=3) (own:= [("client",8)]) rfl cY.nd rfl rfl (EC rfl rfl rfl (by decide +kernel)) (qg (pv 2)) (kr (show EE oK (ay eR) _ _=true by decide +kernel)) (fun _ _ _ _ _=>eU (i:=8) cY.nd rfl (Or.inl rfl)) (fun _ _ _ _ _=>y1) (fun _ _ _ _ _=>(mI K rfl (pv 8) rfl)))
   (ae (aW (i:=4) cY.nd rfl (Or.inl rfl) ah)
   (ae (aW (i:=5) cY.nd rfl (Or.inl rfl) (K8 rfl (by rfl) T.xY (pv 3) (cO eB (pv 1) ah)))
   (ae (tG PassesOwn.never (aL zz (pv 5) (pv 1) (aQ _)) (ae (aP (pv 0) (pv 5) rfl)
   (ae (aW (i:=6) cY.nd rfl (Or.inl rfl) (ij PySem.F.plainAttrs_list PySem.F.slot_list_index PySem.F.type_list_index OJ (pv 3) (aa (pv 5) af)))
   (ae (aI (aB (YG T) (hr.mono (by decide)) (by rfl) T.Vq T.Po.kp T.Vr .nil aU (aa (pv 0) (aa (aF aM (pv 2) (pv 6) (fun _ _=>rfl)) af))))
   (ae (Ox (ai (aF aM (pv 2) (pv 6) (fun _ _=>rfl)) rfl) (Ow (pv 3) (pv 6) set_list))
   (ae (Jd (i:=4) cY.nd rfl (Or.inl rfl) ah Je)
   (ak (aW (i:=5) cY.nd rfl (Or.inl rfl) (a6 (Wq rfl) (by rfl) T.xY PyProof.Rows.boot_min (aa (pv 3) af))))))))))
   (ak (aK (pv 4))))))),?_⟩
  have S0:=R.hn
  have CK:=fH T
  refine ⟨_,rfl,A.w,_,_,_,_,rfl,R.cW,T.aw,T.aA,rfl,A.cd,_,_,rfl,R.cd,p0 R.len,fun ns p Q9 agd hp=>⟨p,rfl,⟨_,cK.of ab⟩,fun D hD=> ?_⟩⟩
  have S1:=aj.ao (o:=HO.lst (ns.map V.int)) hp
  have Nz:L2.upd H p (HO.lst (ns.map V.int)) p=some (.lst (ns.map V.int)):=ab
  generalize L2.upd H p (HO.lst (ns.map V.int))=H1 at *
  have SD:∀l,aj H1 (L2.upd H1 D (.lst l)):=fun l=>aj.ao hD
  have hnl:ns.length≤64:=by
   rw [Q9.length_eq,List.length_map]
   exact hlen
  refine ED (K:=K) (a:=p) (xs:=ns.map V.int) (fun i H'=>H'=L2.upd H1 D (.lst (((ns.take i).filterMap (lQ cas W.clients)).map fun x=>V.ref x.2.1))) rfl (fun i H' _ mz=> ?_) (fun i x H' hx mz=> ?_) (fun H2 Uq=> ?_)
  ·rw [mz]
   exact cK.of (SD _ _ _ Nz)
  ·subst mz
   obtain ⟨n,hn,rfl⟩:∃n,ns[i]?=some n∧x=V.int n:=by
    rw [List.getElem?_map] at hx
    cases q:ns[i]? with
    |none=>rw [q] at hx;cases hx
    |some n=>rw [q] at hx;exact ⟨n,rfl,(Option.some.inj hx).symm⟩
   obtain ⟨ci,hci⟩:=List.getElem?_of_mem (List.mem_of_getElem? hn)
   have Ey:=Q9.mem_iff.mp (List.mem_of_getElem? hn)
   obtain ⟨c,hc,hcn⟩:=List.mem_map.mp Ey
   obtain ⟨j,hj⟩:=List.getElem?_of_mem hc
   obtain ⟨ca,dA,d,pl,be,le,nN,d3⟩:=R.cli hj
   subst hcn
   have aqg:=A4 S0 dA hj
   have SS:=S1.trans (SD (((ns.take i).filterMap (lQ cas W.clients)).map fun x=>V.ref x.2.1))
   have DG:gC (L2.upd H1 D (.lst (((ns.take i).filterMap (lQ cas W.clients)).map fun x=>V.ref x.2.1))) A.cd (V.int (c.host:Int)) (some (.ref ca)):=by
    rw [←aqg]
    exact gC.k (k:=Sum.inl (c.host:Int)) (SS _ _ R.cd)
   have tk:ns.take (i + 1)=ns.take i ++ [(c.host:Int)] :=by rw [List.take_add_one,hn];rfl
   have Ur:=xb (cas:=cas) S0 hj dA
   refine ⟨rfl,_,rfl,A.w,_,_,_,_,rfl,SS _ _ R.cW,T.aw,T.aA,rfl,_,rfl,A.cd,_,rfl,DG,ca,_,d,_,_,rfl,SS _ _ nN,T.aq,T.bx,rfl,_,rfl,?_⟩
   cases hd:c.due with
   |none=>
    refine bL ?_
    rw [hd] at Ur
    rw [tk,List.filterMap_append,List.filterMap_cons,Ur]
    simp
   |some du=>
    refine bC ?_
    rw [hd] at Ur
    refine ⟨_,rfl,A.w,_,_,_,_,rfl,SS _ _ R.cW,T.aw,T.aA,rfl,_,rfl,A.cd,_,rfl,DG,_,ab,?_,?_⟩
    ·rw [List.length_map]
     have h1:=List.length_filterMap_le (lQ cas W.clients) (ns.take i)
     rw [List.length_take] at h1
     exact Nat.lt_of_le_of_lt (show _≤64 by omega) (by decide)
    ·rw [cJ,tk,List.filterMap_append,List.filterMap_cons,Ur]
     simp
  ·rw [List.length_map,List.take_length] at Uq
   have WS0:=Q7 (cas:=cas) S0 R.len Q9 agd
   have C4:(ns.filterMap (lQ cas W.clients)).length≤64:=Nat.le_trans (List.length_filterMap_le _ _) hnl
   generalize ns.filterMap (lQ cas W.clients)=NF at Uq WS0 C4
   have S2:aj H H2:=by
    rw [Uq]
    exact S1.trans (SD _)
   have NC:H2 D=some (.lst (NF.map fun x=>V.ref x.2.1)):=by
    rw [Uq]
    exact ab
   have hDH:H D=none:=S1.free hD
   clear Uq
   refine ⟨_,rfl,D,rfl,⟨_,cK.of NC⟩,fun F hF=> ?_⟩
   have SF:∀l,aj H2 (L2.upd H2 F (.lst l)):=fun l=>aj.ao hF
   refine ED (K:=K) (a:=D) (xs:=NF.map fun x=>V.ref x.2.1) (fun i H'=>H'=L2.upd H2 F (.lst ((NF.take i).map fun x=>nV x.2.2))) rfl (fun i H' _ mz=> ?_) (fun i x H' hx mz=> ?_) (fun H3 Mq=> ?_)
   ·rw [mz]
    exact cK.of (SF _ _ _ NC)
   ·subst mz
    obtain ⟨y,hy,rfl⟩:∃y,NF[i]?=some y∧x=V.ref y.2.1:=by
     rw [List.getElem?_map] at hx
     cases q:NF[i]? with
     |none=>rw [q] at hx;cases hx
     |some n=>rw [q] at hx;exact ⟨n,rfl,(Option.some.inj hx).symm⟩
    obtain ⟨hya,c,hyc,hyd⟩:=WS0.at_ y (List.mem_of_getElem? hy)
    obtain ⟨d,pl,be,le,nN,d3⟩:=R.gO hyc hya
    have SS:=S2.trans (SF ((NF.take i).map fun x=>nV x.2.2))
    refine ⟨rfl,?_⟩
    refine A6 ?_
    refine ⟨_,rfl,y.2.1,_,d,_,_,rfl,SS _ _ nN,T.aq,T.bx,rfl,_,ab,?_,?_⟩
    ·rw [List.length_map,List.length_take]
     exact Nat.lt_of_le_of_lt (show _≤64 by omega) (by decide)
    ·rw [cJ,List.take_add_one,hy,List.map_append,hyd]
     rfl
   ·rw [List.length_map,List.take_length] at Mq
    have S3:aj H H3:=by
     rw [Mq]
     exact S2.trans (SF _)
    have hw3:H3 D=some (.lst (NF.map fun x=>V.ref x.2.1)):=by
     rw [Mq]
     exact SF _ _ _ NC
    have hd3:H3 F=some (.lst (NF.map fun x=>nV x.2.2)):=by
     rw [Mq]
     exact ab
    have hFH:H F=none:=S2.free hF
    have hDF:D≠F:=aH NC hF
    have R3:=R.same S3
    have F3:ez A cas H H3:=aj.ek S3
    have mD:=R.fresh hDH
    have mF:=R.fresh hFH
    clear Mq
    have hmm:∀ws:List yU,(ws.map fun x=>nV x.2.2)=(ws.map fun x=>(x.2.2:Int)).map V.int:=fun ws=>by rw [List.map_map];rfl
    refine ⟨_,rfl,_,rfl,_,_,rfl,rfl,F,NF.map (fun x=>(x.2.2:Int)),rfl,cK.of (by rw [←hmm];exact hd3),?_⟩
    have st0:∀x0:Int,((NF= [] ∧x0=(e:Int) + 1)∨((∃x∈NF,x0=(x.2.2:Int))∧∀y∈NF,x0≤(y.2.2:Int)))→Uo (cs t) lid e W A cas H D F (mu e W.clients) [some (.ref A.w),some (nV e),some (.ref D),some (.ref F),some (nV 0),some (.int x0),none,none,none] H3:=fun x0 hx=>
     ⟨W,0,NF,x0,none,rfl,vP.start hg hmu,R3,rfl,Q8,hw3,hd3,WS0,C4,hx,rfl,F3⟩
    refine (fun turn=>⟨fun z=>⟨Uo (cs t) lid e W A cas H D F,⟨_,st0 _ (.inl ⟨List.map_eq_nil_iff.mp z,rfl⟩)⟩,turn⟩,fun m hm hle=>⟨Uo (cs t) lid e W A cas H D F,⟨_,st0 m (.inr ⟨(let ⟨x,hx,e1⟩:=List.mem_map.mp hm;⟨x,hx,e1.symm⟩),fun y hy=>hle _ (List.mem_map.mpr ⟨y,hy,rfl⟩)⟩)⟩,turn⟩⟩) ?_
    ·rintro m σ Hk ⟨Wk,kk,ws,x0,v6,rfl,Tr,Rk,hck,hbk,hDk,hFk,WSk,aqj,hx0,rfl,Fk⟩
     refine ⟨_,rfl,_,rfl,_,_,rfl,rfl,_,rfl,?_⟩
     refine eQ (fun hle=> ?_) fun hle=> ?_
     ·have WT:x0≤(e:Int):=of_decide_eq_true hle
      obtain ⟨hex,gm⟩:(∃x∈ws,x0=(x.2.2:Int))∧∀y∈ws,x0≤(y.2.2:Int):=by
       rcases hx0 with ⟨_,q⟩|q
       ·omega
       ·exact q
      obtain ⟨p,x,VF,hxx,aqk⟩:=ID hex
      subst hxx
      obtain ⟨hxa,c,Ss,hxd⟩:=WSk.at_ x (List.mem_of_getElem? VF)
      have hte:x.2.2≤e:=by omega
      have YH:∀y∈ws,x.2.2≤y.2.2:=fun y hy=>by have:=gm y hy;omega
      have hf2:∀ (q:Nat)(y:yU),q < p→ws[q]?=some y→y.2.2≠x.2.2:=fun q y hq hy z=>aqk q y hq hy (by rw [z])
      obtain ⟨agf,_⟩:=WSk.soonest VF YH hf2 Ss
      have hgc:=Tr.good.cl c (List.mem_of_getElem? Ss)
      have hph:=j4 hgc hxd
      have aqm:=Tr.act Ss agf hxd hte
      have aqn:=AQ Tr.good Ss hxd hte
      obtain ⟨ea1,ea2,ea3,_⟩:=vO (t:=x.2.2) Tr.good Ss hph
      obtain ⟨did,t2,ht2,axD⟩:=pS x.2.2 hgc hph
      refine ⟨fun σ' H'=>∃m',m' < mu e Wk.clients∧Uo (cs t) lid e W A cas H D F m' σ' H',fun _ _ h=>h,?_⟩
      refine ⟨_,rfl,_,rfl,A.w,_,_,_,rfl,Rk.cW,T.aw,T.bb,lt1000 rfl,?_⟩
      have R4:=Rk.QW CK x.2.2
      have F4:ez A cas Hk (L2.upd Hk A.w (.ins (cs t).W A.dw (A.fs x.2.2 Wk.servers Wk.cap))):=ez.upd (.inl rfl)
      have YJ:=F4 _ _ hDk mD
      have hF4:=F4 _ _ hFk mF
      generalize hH4:L2.upd Hk A.w _=H4
      have hH:L2.upd Hk A.w (.ins (cs t).W A.dw (A.fs x.2.2 Wk.servers Wk.cap))=H4:=hH4
      rw [hH] at R4 F4 YJ hF4
      clear hH hH4
      refine ⟨_,rfl,.inl ⟨rfl,_,cK.of hF4⟩,_,rfl,F,_,_,p,nV x.2.2,rfl,rfl,cK.of hF4,rfl,?_,?_,?_,?_,?_⟩
      ·rw [List.all_map]
       exact List.all_eq_true.mpr fun y _=>rfl
      ·rw [List.getElem?_map,VF]
       rfl
      ·show ((x.2.2:Int)==(x.2.2:Int))=true
       exact beq_self_eq_true _
      ·intro q z hq hz
       rw [List.getElem?_map] at hz
       cases hy:ws[q]? with
       |none=>rw [hy] at hz;cases hz
       |some y=>
        rw [hy] at hz
        cases hz
        have:=hf2 q y hq hy
        show ((y.2.2:Int)==(x.2.2:Int))=false
        exact beq_eq_false_iff_ne.mpr (by omega)
      ·
       have Zo:∀ {Hx:Hp},(ws.map fun x=>V.ref x.2.1)[p]?=some (V.ref x.2.1):=by
        intro _
        rw [List.getElem?_map,VF]
        rfl
       refine ⟨_,rfl,_,rfl,_,rfl,D,_,_,_,rfl,rfl,cK.of YJ,iJ (Zo (Hx:=H4)),A,cas,{Wk with now:=x.2.2},x.1,x.2.1,c,rfl,R4,Nat.le_trans hbk S9,hxa,Ss,hgc,hph,fun H5 R5 F5=> ?_⟩
       have R5':Rep (cs t) H5 A cas (gj Wk x.2.2 c):=R5
       have hD5:=F5 _ _ YJ mD
       have hF5:=F5 _ _ hF4 mF
       have hc5:(gj Wk x.2.2 c).clients[x.1]?=some (Vbcnag.acts x.2.2 c).1:=by
        rw [ea1]
        exact ju Ss
       obtain ⟨d5,pl5,be5,le5,aqo,axF⟩:=R5'.gO hc5 hxa
       refine ⟨_,rfl,_,rfl,D,_,_,_,rfl,rfl,cK.of hD5,iJ (Zo (Hx:=H5)),x.2.1,_,d5,_,_,rfl,aqo,T.aq,T.bx,rfl,_,rfl,_,rfl,F,_,_,p,rfl,rfl,hF5,?_,?_⟩
       ·unfold Od
        have:p < ws.length:=(List.getElem?_eq_some_iff.mp VF).1
        rw [List.length_map,if_pos (by omega),if_pos (by omega)]
        rfl
       ·have Zh:((ws.map fun x=>nV x.2.2).set p (oV (Vbcnag.acts x.2.2 c).1.due))=((ws.set p (x.1,x.2.1,t2)).map fun x=>nV x.2.2):=by
         rw [List.map_set,ht2]
         rfl
        have hws:(ws.set p (x.1,x.2.1,t2)).map (fun x=>V.ref x.2.1)=ws.map fun x=>V.ref x.2.1:=by
         rw [List.map_set]
         apply List.ext_getElem?
         intro q
         rw [List.getElem?_set]
         split
         ·rename_i hq
          subst hq
          have hl:=(List.getElem?_eq_some_iff.mp VF).1
          rw [List.length_map,if_pos hl,Zo (Hx:=H5)]
         ·rfl
        have R6:=Rep.other R5' hF5 mF (.lst ((ws.set p (x.1,x.2.1,t2)).map fun x=>nV x.2.2))
        have WS6:=WSk.set VF Ss did.host ht2
        rw [←ea1] at WS6
        have hD6:L2.upd H5 F (.lst ((ws.set p (x.1,x.2.1,t2)).map fun x=>nV x.2.2)) D=some (.lst ((ws.set p (x.1,x.2.1,t2)).map fun x=>V.ref x.2.1)):=by
         rw [az hDF,hws]
         exact hD5
        have F6:ez A cas H (L2.upd H5 F (.lst ((ws.set p (x.1,x.2.1,t2)).map fun x=>nV x.2.2))):=fun b o hb nm=>by
         rw [az (aH hb hFH)]
         exact (Fk.trans (F4.trans F5)) b o hb nm
        have eD:p < ws.length:=(List.getElem?_eq_some_iff.mp VF).1
        refine ⟨_,rfl,_,_,rfl,rfl,?_⟩
        rw [show ((ws.map fun x=>nV x.2.2).set p (oV (Vbcnag.acts x.2.2 c).1.due))=((ws.set p (x.1,x.2.1,t2)).map fun x=>nV x.2.2) from Zh]
        refine ⟨_,rfl,F,(ws.set p (x.1,x.2.1,t2)).map (fun x=>(x.2.2:Int)),rfl,cK.of (by rw [←hmm];exact ab),(by rw [List.length_map,List.length_set];omega),fun m' WM aqp=> ?_⟩
        obtain ⟨y,hy,ey⟩:=List.mem_map.mp WM
        exact ⟨_,aqn,gj Wk x.2.2 c,kk + 1,ws.set p (x.1,x.2.1,t2),m',some (nV p),rfl,aqm,R6,ea3.trans hck,(by rw [←hck];exact ND (by rw [hck];exact hbk)),hD6,ab,WS6,(by rw [List.length_set];exact aqj),
         .inr ⟨⟨y,hy,ey.symm⟩,fun z hz=>aqp _ (List.mem_map.mpr ⟨z,hz,rfl⟩)⟩,rfl,F6⟩
     ·have WT:¬x0≤(e:Int):=fun q=>hle (decide_eq_true q)
      have O8:=Tr.ends fun c hc d hd=>by
       obtain ⟨i,hi⟩:=List.getElem?_of_mem hc
       obtain ⟨y,hy,VD⟩:=WSk.all i c d hi hd
       obtain ⟨_,c1,Bz,hd1⟩:=WSk.at_ y hy
       rw [VD,hi] at Bz
       cases Bz
       rw [hd] at hd1
       have ed:d=y.2.2:=Option.some.inj hd1
       rcases hx0 with ⟨q,_⟩|⟨_,q⟩
       ·rw [q] at hy
        cases hy
       ·have:=q y hy
        omega
      exact ⟨_,rfl,k Hk Wk kk O8 Rk Fk⟩
end
def bw (g:VW→List Int→Prop)(f:VW→List Int→VW×List Int)(K:PySem.W.Frag)(C:Cs):Sp:=fun vs H Q _=>∃ (A:Ad)(cas:List Addr)(W:VW)(nm:Addr)(ns:List Int),
 vs= [.ref A.w,.ref nm] ∧Rep C H A cas W∧cp W∧cK K H nm (ns.map V.int)∧¬A.mut cas nm∧g W ns∧
 ∀ (H':Hp)(Ci:List Addr)(p:Addr),Rep C H' A Ci (f W ns).1→ez A cas H H'→(∀b∈Ci,b∈cas∨H b=none)→H' p=some (.lst ((f W ns).2.map V.int))→H p=none→Q (.ref p) H'
theorem D2 {cas:List Addr}{W:VW}{n:Nat}(hl:cas.length=W.clients.length)(h:Vbcnag.clientOf W n=none):dD (bH cas W.clients) (Sum.inl (n:Int))=none:=by
 cases q:dD (bH cas W.clients) (Sum.inl (n:Int)) with
 |none=>rfl
 |some v=>
  have m:=Tf q
  rw [p0 hl] at m
  obtain ⟨i,hi,e⟩:=List.mem_map.mp m
  obtain ⟨c,hc,e2⟩:=List.mem_map.mp hi
  have e3:i=(n:Int):=Sum.inl.inj e
  exact absurd (List.mem_map.mpr ⟨c,hc,by omega⟩) (lP h)
theorem A7 {h:Int}(a:Vbcnag.isHost h=true):∃n:Nat,h=(n:Int):=⟨h.toNat,by have:=bM.mp a;omega⟩
theorem cP {H:Hp}{a p:Addr}{o:HO}(h:L2.upd H a o p=none):H p=none:=by
 by_cases z:p=a
 ·rw [z,ab] at h
  cases h
 ·rw [az z] at h
  exact h
theorem Rep.find {C:Cs}{H:Hp}{A:Ad}{cas:List Addr}{W:VW}(R:Rep C H A cas W)(n:Nat):(Vbcnag.clientOf W n=none∧gC H A.cd (V.int (n:Int)) none)∨
  ∃ (i:Nat)(ca:Addr)(c:Client)(d:Addr)(pl be le:V),Vbcnag.clientOf W n=some c∧c.host=n∧W.clients[i]?=some c∧cas[i]?=some ca∧H ca=some (.ins C.C d (tw c pl be le))∧Nw H c pl be le∧gC H A.cd (V.int (n:Int)) (some (.ref ca)):=by
 have tD:∀o,dD (bH cas W.clients) (Sum.inl (n:Int))=o→gC H A.cd (V.int (n:Int)) o:=fun o e=>by
  rw [←e]
  exact gC.k (k:=Sum.inl (n:Int)) R.cd
 cases hc:Vbcnag.clientOf W n with
 |none=>exact .inl ⟨rfl,tD _ (D2 R.len hc)⟩
 |some c=>
  obtain ⟨Zv,BE⟩:=j3 hc
  obtain ⟨i,hi⟩:=List.getElem?_of_mem Zv
  obtain ⟨ca,dA,d,pl,be,le,nN,d3⟩:=R.cli hi
  have hv:=A4 R.hn dA hi
  rw [BE] at hv
  exact .inr ⟨i,ca,c,d,pl,be,le,rfl,BE,hi,dA,nN,d3,tD _ hv⟩
theorem mB {W:VW}{n:Nat}{f:Client→VW×List Int}(hh:Vbcnag.isHost (n:Int)=true)(hc:Vbcnag.clientOf W n=none):Vbcnag.withClient W (n:Int) f=(W,[-2]):=by
 unfold Vbcnag.withClient
 rw [hh,Int.toNat_natCast,hc]
 rfl
theorem gh {W:VW}{n:Nat}{c:Client}{f:Client→VW×List Int}(hh:Vbcnag.isHost (n:Int)=true)(hc:Vbcnag.clientOf W n=some c):Vbcnag.withClient W (n:Int) f=f c:=by
 unfold Vbcnag.withClient
 rw [hh,Int.toNat_natCast,hc]
 rfl
section
variable {P:Program}{w:World}{K:PySem.W.Frag}{mg:Str→Option Value}{base:Heap}{t:jL}
abbrev g1:VW→List Int→Prop:=fun _ ns=>∃h,ns= [h] ∧Vbcnag.isHost h=true
def qL:VW→List Int→VW×List Int:=fun W ns=>Vbcnag.inWorld W (.unplug (ns.headD 0))
theorem NG (T:Txt K mg t):bB P w K mg base fe 8 t.eJ t.um ua (bw g1 qL K (cs t)):=by
 refine T.Ac.ok Dd (fun vs H Q E h=> ?_) (fun d4 A0 outer s H vs Q E hr h=> ?_)
 ·obtain ⟨A,cas,W,nm,ns,rfl,_⟩:=h
  rfl
 ·obtain ⟨A,cas,W,nm,ns,rfl,R,wg,hS,qX,⟨h0,rfl,hh⟩,k⟩:=h
  obtain ⟨n,rfl⟩:=A7 hh
  have hu:=gF hr
  have CK:=fH T
  refine ⟨_,ae (aW (i:=2) Dd.nd rfl (Or.inl rfl) (gT hu (ai (pv 0) rfl) (aF aM (pv 1) ah (fun _ _=>rfl)) ⟨rfl,rfl,rfl,rfl⟩))
   (ae (bp (PW.pt (tE (cq (gR (pv 2))) (mG (cq (gR (ai (pv 2) rfl)))))) (ak (aK (a3 (aa (d8 cG ah) af)))) aV)
   (ae (aP (pv 2) eS rfl)
   (ak (aK (a3 (aa ah af)))))),?_⟩
  rcases R.find n with ⟨hc,DG⟩|⟨i,ca,c,d,pl,be,le,hc,BE,hi,dA,nN,d3,DG⟩
  ·have hf:qL W [(n:Int)] =(W,[-2]):=mB hh hc
   rw [hf] at k
   refine ⟨_,rfl,A.w,_,_,_,_,rfl,R.cW,T.aw,T.aA,rfl,A.cd,rfl,.inl ⟨_,.inl R.cd⟩,_,rfl,nm,_,_,_,rfl,rfl,hS,rfl,_,DG,?_⟩
   refine ⟨_,rfl,_,rfl,bC ?_⟩
   refine bC ?_
   exact ⟨_,rfl,(by show 1≤sizeLine;decide),fun p hp=>k _ cas p (R.same (aj.ao hp)) (aj.ek (aj.ao hp)) (fun b h=> .inl h) ab hp⟩
  ·refine ⟨_,rfl,A.w,_,_,_,_,rfl,R.cW,T.aw,T.aA,rfl,A.cd,rfl,.inl ⟨_,.inl R.cd⟩,_,rfl,nm,_,_,_,rfl,rfl,hS,rfl,_,DG,?_⟩
   refine ⟨_,rfl,_,rfl,bL ?_⟩
   refine ⟨_,rfl,ca,_,d,_,_,rfl,nN,T.aq,T.aX,rfl,_,rfl,?_⟩
   have eD:=d3.pl
   cases hp:c.place with
   |none=>
    have hf:qL W [(n:Int)] =(W,[-2]):=(gh hh hc).trans (if_pos hp)
    rw [hf] at k
    rw [hp] at eD
    have e:pl= .bX:=eD
    subst e
    refine bC ?_
    exact ⟨_,rfl,(by show 1≤sizeLine;decide),fun p hp=>k _ cas p (R.same (aj.ao hp)) (aj.ek (aj.ao hp)) (fun b h=> .inl h) ab hp⟩
   |some m=>
    have hf:qL W [(n:Int)] =({W with clients:=W.clients.set i {c with place:=none} },[0]):=by
     refine (gh hh hc).trans ((if_neg (by rw [hp];exact fun q=>nomatch q)).trans ?_)
     rw [bW (d:={c with place:=none}) R.hn hi rfl]
    rw [hf] at k
    rw [hp] at eD
    obtain ⟨b,e,_⟩:=eD
    subst e
    refine bL ?_
    refine ⟨_,rfl,ca,_,d,_,rfl,nN,T.aq,T.aX,lt1000 rfl,?_⟩
    have R1:=R.setC CK (c':={c with place:=none}) dA hi rfl nN ⟨rfl,d3.be,d3.le⟩
    exact ⟨(by show 1≤sizeLine;decide),fun p hp=>k _ cas p (Rep.same R1 (aj.ao hp)) ((ez.upd (Ad.il dA)).trans (aj.ek (aj.ao hp))) (fun b h=> .inl h) ab (cP hp)⟩
def NH:VW→List Int→VW×List Int:=fun W ns=>Vbcnag.inWorld W (.off (ns.headD 0))
theorem IE (T:Txt K mg t):bB P w K mg base fe 8 t.cR t.mZ mN (bw g1 NH K (cs t)):=by
 refine T.sX.ok xx (fun vs H Q E h=> ?_) (fun d4 A0 outer s H vs Q E hr h=> ?_)
 ·obtain ⟨A,cas,W,nm,ns,rfl,_⟩:=h
  rfl
 ·obtain ⟨A,cas,W,nm,ns,rfl,R,wg,hS,qX,⟨h0,rfl,hh⟩,k⟩:=h
  obtain ⟨n,rfl⟩:=A7 hh
  have hu:=gF hr
  have CK:=fH T
  obtain ⟨Ra,yE,yF⟩:=T.Dr
  refine ⟨_,ae (aW (i:=2) xx.nd rfl (Or.inl rfl) (gT hu (ai (pv 0) rfl) (aF aM (pv 1) ah (fun _ _=>rfl)) ⟨rfl,rfl,rfl,rfl⟩))
   (ae (bp (cq (gR (pv 2))) (ak (aK (a3 (aa (d8 cG ah) af)))) aV)
   (ae (bp (aL cV (ai (pv 2) rfl) (aD (by rfl) yE yF) (aQ _)) (ak (aK (a3 (aa (d8 cG ah) af)))) aV)
   (ae (aP (pv 2) (aD (by rfl) yE yF) rfl)
   (ae (aP (pv 2) ah rfl)
   (ae (aP (pv 2) ah rfl)
   (ae (aP (pv 2) ah rfl)
   (ae (aP (pv 2) eS rfl)
   (ae (aP (pv 2) eS rfl)
   (ak (aK (a3 (aa ah af)))))))))))),?_⟩
  rcases R.find n with ⟨hc,DG⟩|⟨i,ca,c,d,pl,be,le,hc,BE,hi,dA,nN,d3,DG⟩
  ·have hf:NH W [(n:Int)] =(W,[-2]):=mB hh hc
   rw [hf] at k
   refine ⟨_,rfl,A.w,_,_,_,_,rfl,R.cW,T.aw,T.aA,rfl,A.cd,rfl,.inl ⟨_,.inl R.cd⟩,_,rfl,nm,_,_,_,rfl,rfl,hS,rfl,_,DG,?_⟩
   refine ⟨_,rfl,_,rfl,bC ?_⟩
   exact ⟨_,rfl,(by show 1≤sizeLine;decide),fun p hp=>k _ cas p (R.same (aj.ao hp)) (aj.ek (aj.ao hp)) (fun b h=> .inl h) ab hp⟩
  ·refine ⟨_,rfl,A.w,_,_,_,_,rfl,R.cW,T.aw,T.aA,rfl,A.cd,rfl,.inl ⟨_,.inl R.cd⟩,_,rfl,nm,_,_,_,rfl,rfl,hS,rfl,_,DG,?_⟩
   refine ⟨_,rfl,_,rfl,bL ?_⟩
   refine ⟨_,rfl,ca,_,d,_,_,rfl,nN,T.aq,T.aJ,rfl,rfl,_,rfl,?_⟩
   refine eQ (fun q1=> ?_) fun q1=> ?_
   ·have h1:c.phase=0:=bT (b:=0)|>.mp q1
    have hf:NH W [(n:Int)] =(W,[-3]):=(gh hh hc).trans (if_pos h1)
    rw [hf] at k
    exact ⟨_,rfl,(by show 1≤sizeLine;decide),fun p hp=>k _ cas p (R.same (aj.ao hp)) (aj.ek (aj.ao hp)) (fun b h=> .inl h) ab hp⟩
   ·have h1:¬c.phase=0:=fun z=>q1 (bT (b:=0)|>.mpr z)
    have hf:NH W [(n:Int)] =({W with clients:=W.clients.set i {c with phase:=0,number:=0,sent:=0,tries:=0,due:=none,best:=none} },[0]):=by
     refine (gh hh hc).trans ((if_neg h1).trans ?_)
     rw [bW (d:={c with phase:=0,number:=0,sent:=0,tries:=0,due:=none,best:=none}) R.hn hi rfl]
    rw [hf] at k
    refine ⟨_,rfl,ca,_,d,_,rfl,nN,T.aq,T.aJ,lt1000 rfl,_,rfl,ca,_,d,_,rfl,ab,T.aq,T.bS,lt1000 rfl,_,rfl,ca,_,d,_,rfl,ab,T.aq,T.cw,lt1000 rfl,
     _,rfl,ca,_,d,_,rfl,ab,T.aq,T.aZ,lt1000 rfl,_,rfl,ca,_,d,_,rfl,ab,T.aq,T.bx,lt1000 rfl,_,rfl,ca,_,d,_,rfl,ab,T.aq,T.bj,lt1000 rfl,?_⟩
    rw [cJ,cJ,cJ,cJ,cJ]
    have R1:=R.setC CK (c':={c with phase:=0,number:=0,sent:=0,tries:=0,due:=none,best:=none}) dA hi rfl nN ⟨d3.pl,rfl,d3.le⟩
    exact ⟨(by show 1≤sizeLine;decide),fun p hp=>k _ cas p (Rep.same R1 (aj.ao hp)) ((ez.upd (Ad.il dA)).trans (aj.ek (aj.ao hp))) (fun b h=> .inl h) ab (cP hp)⟩
def qM:VW→List Int→VW×List Int:=fun W ns=>Vbcnag.inWorld W (.forget (ns.headD 0))
theorem NI (T:Txt K mg t):bB P w K mg base fe 8 t.eK t.uo ub (bw g1 qM K (cs t)):=by
 refine T.Af.ok De (fun vs H Q E h=> ?_) (fun d4 A0 outer s H vs Q E hr h=> ?_)
 ·obtain ⟨A,cas,W,nm,ns,rfl,_⟩:=h
  rfl
 ·obtain ⟨A,cas,W,nm,ns,rfl,R,wg,hS,qX,⟨h0,rfl,hh⟩,k⟩:=h
  obtain ⟨n,rfl⟩:=A7 hh
  have hu:=gF hr
  have CK:=fH T
  obtain ⟨Ra,yE,yF⟩:=T.Dr
  refine ⟨_,ae (aW (i:=2) De.nd rfl (Or.inl rfl) (gT hu (ai (pv 0) rfl) (aF aM (pv 1) ah (fun _ _=>rfl)) ⟨rfl,rfl,rfl,rfl⟩))
   (ae (bp (cq (gR (pv 2))) (ak (aK (a3 (aa (d8 cG ah) af)))) aV)
   (ae (bp (aL zy (ai (pv 2) rfl) (aD (by rfl) yE yF) (aQ _)) (ak (aK (a3 (aa (d8 cG ah) af)))) aV)
   (ae (aP (pv 2) eS rfl)
   (ak (aK (a3 (aa ah af))))))),?_⟩
  rcases R.find n with ⟨hc,DG⟩|⟨i,ca,c,d,pl,be,le,hc,BE,hi,dA,nN,d3,DG⟩
  ·have hf:qM W [(n:Int)] =(W,[-2]):=mB hh hc
   rw [hf] at k
   refine ⟨_,rfl,A.w,_,_,_,_,rfl,R.cW,T.aw,T.aA,rfl,A.cd,rfl,.inl ⟨_,.inl R.cd⟩,_,rfl,nm,_,_,_,rfl,rfl,hS,rfl,_,DG,?_⟩
   refine ⟨_,rfl,_,rfl,bC ?_⟩
   exact ⟨_,rfl,(by show 1≤sizeLine;decide),fun p hp=>k _ cas p (R.same (aj.ao hp)) (aj.ek (aj.ao hp)) (fun b h=> .inl h) ab hp⟩
  ·refine ⟨_,rfl,A.w,_,_,_,_,rfl,R.cW,T.aw,T.aA,rfl,A.cd,rfl,.inl ⟨_,.inl R.cd⟩,_,rfl,nm,_,_,_,rfl,rfl,hS,rfl,_,DG,?_⟩
   refine ⟨_,rfl,_,rfl,bL ?_⟩
   refine ⟨_,rfl,ca,_,d,_,_,rfl,nN,T.aq,T.aJ,rfl,rfl,_,rfl,?_⟩
   by_cases h1:c.phase=0
   ·have hf:qM W [(n:Int)] =({W with clients:=W.clients.set i {c with lease:=none} },[0]):=by
     refine (gh hh hc).trans ((if_neg (fun q=>q h1)).trans ?_)
     rw [bW (d:={c with lease:=none}) R.hn hi rfl]
    rw [hf] at k
    refine OV (show nV c.phase=V.int 0 by rw [h1];rfl) ?_
    refine ⟨_,rfl,ca,_,d,_,rfl,nN,T.aq,T.aO,lt1000 rfl,?_⟩
    have R1:=R.setC CK (c':={c with lease:=none}) dA hi rfl nN ⟨d3.pl,d3.be,rfl⟩
    exact ⟨(by show 1≤sizeLine;decide),fun p hp=>k _ cas p (Rep.same R1 (aj.ao hp)) ((ez.upd (Ad.il dA)).trans (aj.ek (aj.ao hp))) (fun b h=> .inl h) ab (cP hp)⟩
   ·have hf:qM W [(n:Int)] =(W,[-3]):=(gh hh hc).trans (if_pos h1)
    rw [hf] at k
    have qY:decide (nV c.phase=V.int 0)=false:=decide_eq_false fun q=>h1 (bT (b:=0)|>.mp (decide_eq_true q))
    rw [qY]
    refine bC ?_
    exact ⟨_,rfl,(by show 1≤sizeLine;decide),fun p hp=>k _ cas p (R.same (aj.ao hp)) (aj.ek (aj.ao hp)) (fun b h=> .inl h) ab hp⟩
end
theorem cp.YK {W:VW}(g:cp W):W.bag.length≤10000:=Nat.le_trans g.bag g.cap.2
section
variable {P:Program}{w:World}{K:PySem.W.Frag}{mg:Str→Option Value}{base:Heap}{t:jL}
def YL:VW→List Int→VW×List Int:=fun W ns=>Vbcnag.inWorld W (.on (ns.headD 0))
theorem Ki (T:Txt K mg t):bB P w K mg base fe 8 t.dS t.qD qv (bw g1 YL K (cs t)):=by
 refine T.wR.ok zT (fun vs H Q E h=> ?_) (fun d4 A0 outer s H vs Q E hr h=> ?_)
 ·obtain ⟨A,cas,W,nm,ns,rfl,_⟩:=h
  rfl
 ·obtain ⟨A,cas,W,nm,ns,rfl,R,wg,hS,qX,⟨h0,rfl,hh⟩,k⟩:=h
  obtain ⟨n,rfl⟩:=A7 hh
  have hu:=gF hr
  have CK:=fH T
  obtain ⟨Ra,yE,yF⟩:=T.Dr
  refine ⟨_,ae (aW (i:=2) zT.nd rfl (Or.inl rfl) (gT hu (ai (pv 0) rfl) (aF aM (pv 1) ah (fun _ _=>rfl)) ⟨rfl,rfl,rfl,rfl⟩))
   (ae (bp (cq (gR (pv 2))) (ak (aK (a3 (aa (d8 cG ah) af)))) aV)
   (ae (bp (aL zy (ai (pv 2) rfl) (aD (by rfl) yE yF) (aQ _)) (ak (aK (a3 (aa (d8 cG ah) af)))) aV)
   (ae (bp (PW.pt (ip (cq (gS (ai (pv 2) rfl))) (fJ (aL tI (aF bc (ai (pv 2) rfl) ah (fun _ _=>rfl)) (ai (pv 0) rfl) (aQ _))))) (ak (aI (aB (LG T) (hr.mono (by decide)) (by rfl) T.o3 T.lu.kp T.o4 .nil aU (aa (pv 0) (aa (pv 2) (aa ah af)))))) (ak (aI (aB (vU T) (hr.mono (by decide)) (by rfl) T.wM T.sU.kp T.wN .nil aU (aa (pv 0) (aa (pv 2) (aa ah af)))))))
   (ak (aK (a3 (aa ah af))))))),?_⟩
  rcases R.find n with ⟨hc,DG⟩|⟨i,ca,c,d,pl,be,le,hc,BE,hi,dA,nN,d3,DG⟩
  ·have hf:YL W [(n:Int)] =(W,[-2]):=mB hh hc
   rw [hf] at k
   refine ⟨_,rfl,A.w,_,_,_,_,rfl,R.cW,T.aw,T.aA,rfl,A.cd,rfl,.inl ⟨_,.inl R.cd⟩,_,rfl,nm,_,_,_,rfl,rfl,hS,rfl,_,DG,?_⟩
   refine ⟨_,rfl,_,rfl,bC ?_⟩
   exact ⟨_,rfl,(by show 1≤sizeLine;decide),fun p hp=>k _ cas p (R.same (aj.ao hp)) (aj.ek (aj.ao hp)) (fun b h=> .inl h) ab hp⟩
  ·refine ⟨_,rfl,A.w,_,_,_,_,rfl,R.cW,T.aw,T.aA,rfl,A.cd,rfl,.inl ⟨_,.inl R.cd⟩,_,rfl,nm,_,_,_,rfl,rfl,hS,rfl,_,DG,?_⟩
   refine ⟨_,rfl,_,rfl,bL ?_⟩
   refine ⟨_,rfl,ca,_,d,_,_,rfl,nN,T.aq,T.aJ,rfl,rfl,_,rfl,?_⟩
   by_cases h1:c.phase=0
   ·refine OV (show nV c.phase=V.int 0 by rw [h1];rfl) ?_
    have fin:∀ (y:Vbcnag.Done)(H':Hp),YL W [(n:Int)] =(Vbcnag.done W y,[0])→Rep (cs t) H' A cas (Vbcnag.done W y)→ez A cas H H'→(∀b,H' b=none→H b=none)→∀p,H' p=none→Q (.ref p) (L2.upd H' p (.lst [V.int 0])):=fun y H' hf R' F' fr p hp=>by
     rw [hf] at k
     exact k _ cas p (R'.same (aj.ao hp)) (F'.trans (aj.ek (aj.ao hp))) (fun b h=> .inl h) ab (fr p hp)
    have fr:∀ {W':VW}{H':Hp},Rep (cs t) H' A cas W'→ez A cas H H'→∀b,H' b=none→H b=none:=fun {W' H'} R' F' b hb=>by
     cases q:H b with
     |none=>rfl
     |some o=>
      by_cases hm:A.mut cas b
      ·obtain ⟨o',BD⟩:=R'.there hm
       rw [hb] at BD
       cases BD
      ·rw [F' b o q hm] at hb
       cases hb
    have jx:YL W [(n:Int)] =(Vbcnag.done W (match c.lease with
      |none=>Vbcnag.seek W.now 0 c
      |some l=>if W.now < l.till then Vbcnag.comeBack W.now 0 l c else Vbcnag.seek W.now 0 c),[0]):=(gh hh hc).trans (if_neg (fun q=>q h1))
    refine ⟨_,rfl,ca,_,d,_,_,rfl,nN,T.aq,T.aO,rfl,_,rfl,?_⟩
    have hle:=d3.le
    cases hl:c.lease with
    |none=>
     rw [hl] at hle jx
     have e:le= .bX:=hle
     subst e
     refine bL ?_
     refine bL ?_
     refine ⟨_,rfl,_,rfl,A,cas,W,i,ca,c,0,rfl,R,wg.YK,dA,hi,Nat.zero_le _,fun H' R' F'=> ?_⟩
     exact ⟨(by show 1≤sizeLine;decide),fin _ H' jx R' F' (fr R' F')⟩
    |some l=>
     rw [hl] at hle jx
     obtain ⟨b,e,EO⟩:=hle
     subst e
     refine bC ?_
     refine ⟨_,rfl,ca,_,d,_,_,rfl,nN,T.aq,T.aO,rfl,b,_,_,_,rfl,rfl,bJ.of EO,rfl,_,rfl,A.w,_,_,_,_,rfl,R.cW,T.aw,T.bb,rfl,_,_,rfl,rfl,_,rfl,?_⟩
     refine eQ (fun q2=> ?_) fun q2=> ?_
     ·have h2:W.now < l.till:=jv.mp q2
      refine ⟨_,rfl,_,rfl,A,cas,W,i,ca,c,0,l,rfl,R,wg.YK,dA,hi,Nat.zero_le _,hl,fun H' R' F'=> ?_⟩
      exact ⟨(by show 1≤sizeLine;decide),fin _ H' (jx.trans (by dsimp only;rw [if_pos h2])) R' F' (fr R' F')⟩
     ·have h2:¬W.now < l.till:=fun z=>q2 (jv.mpr z)
      refine ⟨_,rfl,_,rfl,A,cas,W,i,ca,c,0,rfl,R,wg.YK,dA,hi,Nat.zero_le _,fun H' R' F'=> ?_⟩
      exact ⟨(by show 1≤sizeLine;decide),fin _ H' (jx.trans (by dsimp only;rw [if_neg h2])) R' F' (fr R' F')⟩
   ·have hf:YL W [(n:Int)] =(W,[-3]):=(gh hh hc).trans (if_pos h1)
    rw [hf] at k
    have qY:decide (nV c.phase=V.int 0)=false:=decide_eq_false fun q=>h1 (bT (b:=0)|>.mp (decide_eq_true q))
    rw [qY]
    refine bC ?_
    exact ⟨_,rfl,(by show 1≤sizeLine;decide),fun p hp=>k _ cas p (R.same (aj.ao hp)) (aj.ek (aj.ao hp)) (fun b h=> .inl h) ab hp⟩
abbrev Rb:VW→List Int→Prop:=fun _ ns=>∃h,ns= [h] ∧Vbcnag.within h 0 20000=true
def LK:VW→List Int→VW×List Int:=fun W ns=>Vbcnag.inWorld W (.tick (ns.headD 0))
theorem Rep.km {C:Cs}{H H':Hp}{A:Ad}{cas:List Addr}{W':VW}(R':Rep C H' A cas W')(F':ez A cas H H'){b:Addr}(hb:H' b=none):H b=none:=by
 cases q:H b with
 |none=>rfl
 |some o=>
  by_cases hm:A.mut cas b
  ·obtain ⟨o',BD⟩:=R'.there hm
   rw [hb] at BD
   cases BD
  ·rw [F' b o q hm] at hb
   cases hb
theorem Us (T:Txt K mg t):bB P w K mg base fe 9 t.iC t.Fq E9 (bw Rb LK K (cs t)):=by
 refine T.JU.ok Fb (fun vs H Q E h=> ?_) (fun d4 A0 outer s H vs Q E hr h=> ?_)
 ·obtain ⟨A,cas,W,nm,ns,rfl,_⟩:=h
  rfl
 ·obtain ⟨A,cas,W,nm,ns,rfl,R,wg,hS,qX,⟨h0,rfl,hh⟩,k⟩:=h
  obtain ⟨n,rfl⟩:∃n:Nat,h0=(n:Int):=⟨h0.toNat,by have:=bM.mp hh;omega⟩
  have CK:=fH T
  obtain ⟨agi,Rc,Rf⟩:=T.Hw
  refine ⟨_,ae (aW (i:=2) Fb.nd rfl (Or.inl rfl) (cO eB (ai (pv 0) rfl) (aF aM (pv 1) ah (fun _ _=>rfl))))
   (ae (bp (aL tI (pv 2) (aD (by rfl) Rc Rf) (aQ _)) (ak (aK (a3 (aa (d8 cG ah) af)))) aV)
   (ae (aW (i:=3) Fb.nd rfl (Or.inl rfl) (aB (F9 T) (hr.mono (by decide)) (by rfl) T.xD T.o5.kp T.xE .nil aU (aa (pv 0) (aa (pv 2) af))))
   (ae (aP (pv 0) (pv 2) rfl)
   (ak (aK (a3 (aa ah (aa (pv 2) (aa (pv 3) af))))))))),?_⟩
  refine ⟨_,rfl,A.w,_,_,_,_,rfl,R.cW,T.aw,T.bb,rfl,_,rfl,nm,_,_,_,rfl,rfl,hS,rfl,_,_,rfl,rfl,?_⟩
  refine ⟨_,rfl,_,_,rfl,rfl,_,rfl,?_⟩
  have jx:LK W [(n:Int)] =if Vbcnag.TIMES < W.now + n then (W,[-2]) else ((Vbcnag.ticks ((n + 1) * (W.clients.length + 1)) (W.now + n) W).1,0::Vbcnag.nums [(Vbcnag.ticks ((n + 1) * (W.clients.length + 1)) (W.now + n) W).1.now,(Vbcnag.ticks ((n + 1) * (W.clients.length + 1)) (W.now + n) W).2]):=by
   show (if Vbcnag.within (n:Int) 0 20000=false then _ else _)=_
   rw [hh]
   rfl
  refine eQ (fun q1=> ?_) fun q1=> ?_
  ·have h1:Vbcnag.TIMES < W.now + n:=by
    have:=of_decide_eq_true q1
    unfold Vbcnag.TIMES
    omega
   rw [if_pos h1] at jx
   rw [jx] at k
   exact ⟨_,rfl,(by show 1≤sizeLine;decide),fun p hp=>k _ cas p (R.same (aj.ao hp)) (aj.ek (aj.ao hp)) (fun b h=> .inl h) ab hp⟩
  ·have h1:¬Vbcnag.TIMES < W.now + n:=fun z=>q1 (decide_eq_true (by unfold Vbcnag.TIMES at z;omega))
   rw [if_neg h1] at jx
   rw [jx] at k
   refine ⟨_,rfl,_,rfl,A,cas,W,W.now + n,(n + 1) * (W.clients.length + 1),rfl,R,wg.cap.2,wg.bag,wg.vQ,wg.t,AR wg.Np,fun H' W' kk he R' F'=> ?_⟩
   rw [he] at k
   refine ⟨_,rfl,_,rfl,A.w,_,_,_,rfl,R'.cW,T.aw,T.bb,lt1000 rfl,?_⟩
   have R2:=R'.QW CK (W.now + n)
   exact ⟨_,rfl,_,rfl,(by show 3≤sizeLine;decide),fun p hp=>k _ cas p (Rep.same R2 (aj.ao hp)) ((F'.trans (ez.upd (.inl rfl))).trans (aj.ek (aj.ao hp))) (fun b h=> .inl h) ab (R'.km F' (cP hp))⟩
end
theorem fI {a b c a' b' c':Nat}:dn a b c=dn a' b' c' ↔ a=a'∧b=b'∧c=c':=by
 unfold dn
 constructor
 ·intro h
  injection h with h1 h
  injection h with h2 h
  injection h with h3 _
  have e1:=Sum.inl.inj h1
  have e2:=Sum.inl.inj h2
  have e3:=Sum.inl.inj h3
  omega
 ·rintro ⟨rfl,rfl,rfl⟩
  rfl
def isA (s h r:Nat)(y:Assigned):Bool:=decide (y.server=s∧y.host=h∧y.relay=r)
theorem Ga {H:Hp}{p:List Key×V}{y:Assigned}(a:gv H p y)(s h r:Nat):decide (p.1=dn s h r)=isA s h r y:=by
 unfold isA
 rw [a.1]
 by_cases q:y.server=s∧y.host=h∧y.relay=r
 ·rw [decide_eq_true q,decide_eq_true (fI.mpr q)]
 ·rw [decide_eq_false q,decide_eq_false (fun z=>q (fI.mp z))]
theorem Gb {H:Hp}(s h r:Nat):∀ {kvs:List (List Key×V)}{l:List Assigned},Paired (gv H) kvs l→(kvs.any fun kv=>decide (kv.1=dn s h r))=l.any (isA s h r)
 |_,_,.nil=>rfl
 |_,_,.cons a t=>by rw [List.any_cons,List.any_cons,Ga a,Gb s h r t]
theorem IF {H:Hp}(s h r:Nat){kvs:List (List Key×V)}{l:List Assigned}(P:Paired (gv H) kvs l):(dD kvs (dn s h r)).isSome=l.any (isA s h r):=by
 rw [←ku,Gb s h r P]
theorem LL {H:Hp}{x:Assigned}{v:V}(hx:gv H (dn x.server x.host x.relay,v) x):∀ {kvs:List (List Key×V)}{l:List Assigned},Paired (gv H) kvs l→
  Paired (gv H) (kvs.map fun kv=>if kv.1=dn x.server x.host x.relay then (kv.1,v) else kv) (l.map fun y=>if isA x.server x.host x.relay y=true then x else y)
 |_,_,.nil=> .nil
 |_,_,.cons (a:=p) (b:=y) a t=>by
  rw [List.map_cons,List.map_cons]
  refine .cons ?_ (LL hx t)
  have e:=Ga a x.server x.host x.relay
  by_cases q:p.1=dn x.server x.host x.relay
  ·rw [if_pos q,←e,if_pos (decide_eq_true q),q]
   exact hx
  ·rw [if_neg q,←e,if_neg (by simpa using q)]
   exact a
theorem Ut {H:Hp}{x:Assigned}{v:V}(hx:gv H (dn x.server x.host x.relay,v) x){kvs:List (List Key×V)}{l:List Assigned}(P:Paired (gv H) kvs l):
  Paired (gv H) (putK kvs (dn x.server x.host x.relay) v) (if l.any (isA x.server x.host x.relay)=true then l.map (fun y=>if isA x.server x.host x.relay y=true then x else y) else l ++ [x]):=by
 unfold putK
 rw [Gb _ _ _ P]
 split
 ·exact LL hx P
 ·exact Paired.yD P hx
theorem IG {H:Hp}(s h r:Nat):∀ {kvs:List (List Key×V)}{l:List Assigned},Paired (gv H) kvs l→Paired (gv H) (zH kvs (dn s h r)) (l.filter fun y=> !isA s h r y)
 |_,_,.nil=> .nil
 |_,_,.cons (a:=p) (b:=y) a t=>by
  have e:=Ga a s h r
  have ih:=IG s h r t
  unfold zH at ih ⊢
  rw [List.filter_cons,List.filter_cons,←e]
  by_cases q:p.1=dn s h r
  ·rw [if_neg (by simp [q]),if_neg (by simp [q])]
   exact ih
  ·rw [if_pos (by simp [q]),if_pos (by simp [q])]
   exact .cons a ih
section
variable {P:Program}{w:World}{K:PySem.W.Frag}{mg:Str→Option Value}{base:Heap}{t:jL}
abbrev Gd:VW→List Int→Prop:=fun W ns=>∃s h r a l:Nat,ns= [(s:Int),(h:Int),(r:Int),(a:Int),(l:Int)] ∧
 (Vbcnag.isServer W (s:Int) && (Vbcnag.isHost (h:Int) && (Vbcnag.isRelay W (r:Int) && (Vbcnag.within (a:Int) 0 (Vbcnag.ADDRS - 1) && Vbcnag.within (l:Int) 1 1000000000))))=true
def qN:VW→List Int→VW×List Int:=fun W ns=>match ns with
 | [s,h,r,a,l] =>Vbcnag.inWorld W (.assign s h r a l)
 |_=>(W,[])
theorem NJ (T:Txt K mg t):bB P w K mg base fe 8 t.f_assign t.uq uc (bw Gd qN K (cs t)):=by
 refine T.Ag.ok Df (fun vs H Q E h=> ?_) (fun d4 A0 outer s H vs Q E hr h=> ?_)
 ·obtain ⟨A,cas,W,nm,ns,rfl,_⟩:=h
  rfl
 ·obtain ⟨A,cas,W,nm,ns,rfl,R,wg,hS,qX,⟨sv,ho,re,ad,ln,rfl,hh⟩,k⟩:=h
  have hu:=gF hr
  obtain ⟨kvs,Rg,hP⟩:=R.ag
  have jx:qN W [(sv:Int),(ho:Int),(re:Int),(ad:Int),(ln:Int)] =(if W.assigned.any (isA sv ho re)=true then ({W with assigned:=W.assigned.map fun y=>if isA sv ho re y=true then {server:=sv,host:=ho,relay:=re,addr:=ad,len:=ln} else y},[0])
    else if 128≤W.assigned.length then (W,[-2]) else ({W with assigned:=W.assigned ++ [{server:=sv,host:=ho,relay:=re,addr:=ad,len:=ln}] },[0])):=by
   show (if _=false then _ else _)=_
   rw [hh]
   rfl
  have hlen:kvs.length=W.assigned.length:=Paired.length hP
  obtain ⟨Of,yV,yW⟩:=T.oh
  refine ⟨_,ae (aW (i:=2) Df.nd rfl (Or.inl rfl) (bZ (aa (aF aM (pv 1) ah (fun _ _=>rfl)) (aa (aF aM (pv 1) ah (fun _ _=>rfl)) (aa (aF aM (pv 1) ah (fun _ _=>rfl)) af)))))
   (ae (bp (PW.pt (ip (cq (wy hu (pv 2) (ai (pv 0) rfl))) (fJ (aL cV (a6 MB (by rfl) T.d6 PySem.boot_len (aa (ai (pv 0) rfl) af)) (aD (by rfl) yV yW) (aQ _))))) (ak (aK (a3 (aa (d8 cG ah) af)))) aV)
   (ae (y2 hu (ai (pv 0) rfl) (pv 2) (bZ (aa (aF aM (pv 1) ah (fun _ _=>rfl)) (aa (aF aM (pv 1) ah (fun _ _=>rfl)) af))) rfl)
   (ak (aK (a3 (aa ah af)))))),?_⟩
  refine ⟨_,rfl,nm,_,_,_,rfl,rfl,hS,rfl,_,rfl,nm,_,_,_,rfl,rfl,hS,rfl,_,rfl,nm,_,_,_,rfl,rfl,hS,rfl,(by show 3≤sizeLine;decide),fun q hq=> ?_⟩
  have S1:=aj.ao (o:=HO.tup [V.int (sv:Int),V.int (ho:Int),V.int (re:Int)]) hq
  have Kj:L2.upd H q (HO.tup [V.int (sv:Int),V.int (ho:Int),V.int (re:Int)]) q=some (.tup ((dn sv ho re).map kV)):=ab
  generalize L2.upd H q (HO.tup [V.int (sv:Int),V.int (ho:Int),V.int (re:Int)])=H1 at *
  have R1:=R.same S1
  have Ge:=S1 _ _ Rg
  have hP1:Paired (gv H1) kvs W.assigned:=Paired.cN hP fun a b f=>f.keep (aj.keep (C:=cs t) S1)
  have DG:=gC.t Ge Kj
  have A8:=IF sv ho re hP
  refine ⟨_,rfl,_,rfl,A.w,_,_,_,_,rfl,R1.cW,T.aw,T.br,rfl,A.ag,_,rfl,DG,_,rfl,?_⟩
  have C6:cK K H1 nm _:=S1.seq hS
  have eA:kvs.length < sizeLine:=by
   rw [hlen]
   exact Nat.lt_of_le_of_lt wg.asg (by decide)
  have aqq:(W.assigned.any (isA sv ho re)=false∧128≤W.assigned.length∧qN W [(sv:Int),(ho:Int),(re:Int),(ad:Int),(ln:Int)] =(W,[-2]))∨
    ((W.assigned.any (isA sv ho re)=true∨(W.assigned.any (isA sv ho re)=false∧¬128≤W.assigned.length))∧qN W [(sv:Int),(ho:Int),(re:Int),(ad:Int),(ln:Int)] =
     ({W with assigned:=if W.assigned.any (isA sv ho re)=true then W.assigned.map (fun y=>if isA sv ho re y=true then {server:=sv,host:=ho,relay:=re,addr:=ad,len:=ln} else y) else W.assigned ++ [{server:=sv,host:=ho,relay:=re,addr:=ad,len:=ln}] },[0])):=by
   cases ha:W.assigned.any (isA sv ho re) with
   |true=>
    rw [ha,if_pos rfl] at jx
    exact .inr ⟨.inl rfl,by rw [if_pos rfl];exact jx⟩
   |false=>
    rw [ha,if_neg Bool.false_ne_true] at jx
    by_cases hl:128≤W.assigned.length
    ·rw [if_pos hl] at jx
     exact .inl ⟨rfl,hl,jx⟩
    ·rw [if_neg hl] at jx
     exact .inr ⟨.inr ⟨rfl,hl⟩,by rw [if_neg Bool.false_ne_true];exact jx⟩
  rcases aqq with ⟨ha,hl,hf⟩|⟨agk,hf⟩
  ·rw [hf] at k
   rw [A8,ha]
   refine bC ?_
   refine ⟨_,rfl,A.w,_,_,_,_,rfl,R1.cW,T.aw,T.br,rfl,A.ag,_,rfl,Ge,rfl,_,rfl,?_⟩
   have:W.assigned.length=128:=Nat.le_antisymm wg.asg hl
   rw [show decide (V.int (kvs.length:Int)=V.int 128)=true from decide_eq_true (by rw [hlen,this];rfl)]
   refine bC ?_
   exact ⟨_,rfl,(by show 1≤sizeLine;decide),fun p hp=>k _ cas p (R1.same (aj.ao hp)) ((aj.ek S1).trans (aj.ek (aj.ao hp))) (fun b h=> .inl h) ab (S1.free hp)⟩
  ·rw [hf] at k
   rw [A8]
   have put:∀z,H1 z=none→∀p,L2.upd (L2.upd H1 z (.tup [V.int (ad:Int),V.int (ln:Int)])) A.ag (.dT (putK kvs (dn sv ho re) (.ref z))) p=none→
     Q (.ref p) (L2.upd (L2.upd (L2.upd H1 z (.tup [V.int (ad:Int),V.int (ln:Int)])) A.ag (.dT (putK kvs (dn sv ho re) (.ref z)))) p (.lst [V.int 0])):=fun z hz p hp=>by
    have S2:=aj.ao (o:=HO.tup [V.int (ad:Int),V.int (ln:Int)]) hz
    have Jy:Paired (gv (L2.upd H1 z (.tup [V.int (ad:Int),V.int (ln:Int)]))) kvs W.assigned:=Paired.cN hP1 fun a b f=>f.keep (aj.keep (C:=cs t) S2)
    have R3:=(R1.same S2).VC (Ut (x:={server:=sv,host:=ho,relay:=re,addr:=ad,len:=ln}) (v:= .ref z) ⟨rfl,z,rfl,ab⟩ Jy)
    exact k _ cas p (Rep.same R3 (aj.ao hp)) (((aj.ek (S1.trans S2)).trans (ez.upd (.inr (.inr (.inr (.inr (.inr (.inl rfl)))))))).trans (aj.ek (aj.ao hp))) (fun b h=> .inl h) ab (S1.free (S2.free (cP hp)))
   have tail:∀z,H1 z=none→aj H1 (L2.upd H1 z (.tup [V.int (ad:Int),V.int (ln:Int)])):=fun z hz=>aj.ao hz
   rcases agk with ha|⟨ha,hl⟩
   ·rw [ha]
    refine bL ?_
    refine bL ?_
    refine ⟨_,rfl,nm,_,_,_,rfl,rfl,C6,rfl,_,rfl,nm,_,_,_,rfl,rfl,C6,rfl,(by show 2≤sizeLine;decide),fun z hz=> ?_⟩
    exact ⟨_,rfl,A.w,_,_,_,_,rfl,tail z hz _ _ R1.cW,T.aw,T.br,rfl,_,rfl,A.ag,_,rfl,zI.t (tail z hz _ _ Ge) (tail z hz _ _ Kj) eA,(by show 1≤sizeLine;decide),put z hz⟩
   ·rw [ha]
    refine bC ?_
    refine ⟨_,rfl,A.w,_,_,_,_,rfl,R1.cW,T.aw,T.br,rfl,A.ag,_,rfl,Ge,rfl,_,rfl,?_⟩
    rw [show decide (V.int (kvs.length:Int)=V.int 128)=false from decide_eq_false (fun q=>hl (by injection q with q;omega))]
    refine bL ?_
    refine ⟨_,rfl,nm,_,_,_,rfl,rfl,C6,rfl,_,rfl,nm,_,_,_,rfl,rfl,C6,rfl,(by show 2≤sizeLine;decide),fun z hz=> ?_⟩
    exact ⟨_,rfl,A.w,_,_,_,_,rfl,tail z hz _ _ R1.cW,T.aw,T.br,rfl,_,rfl,A.ag,_,rfl,zI.t (tail z hz _ _ Ge) (tail z hz _ _ Kj) eA,(by show 1≤sizeLine;decide),put z hz⟩
abbrev xf:VW→List Int→Prop:=fun W ns=>∃s h r:Nat,ns= [(s:Int),(h:Int),(r:Int)] ∧(Vbcnag.isServer W (s:Int) && (Vbcnag.isHost (h:Int) && Vbcnag.isRelay W (r:Int)))=true
def qO:VW→List Int→VW×List Int:=fun W ns=>match ns with
 | [s,h,r] =>Vbcnag.inWorld W (.withdraw s h r)
 |_=>(W,[])
theorem IH (T:Txt K mg t):bB P w K mg base fe 8 t.cS t.m3 mP (bw xf qO K (cs t)):=by
 refine T.sY.ok xy (fun vs H Q E h=> ?_) (fun d4 A0 outer s H vs Q E hr h=> ?_)
 ·obtain ⟨A,cas,W,nm,ns,rfl,_⟩:=h
  rfl
 ·obtain ⟨A,cas,W,nm,ns,rfl,R,wg,hS,qX,⟨sv,ho,re,rfl,hh⟩,k⟩:=h
  have hu:=gF hr
  obtain ⟨kvs,Rg,hP⟩:=R.ag
  have jx:qO W [(sv:Int),(ho:Int),(re:Int)] =(if W.assigned.any (isA sv ho re)=false then (W,[-2]) else ({W with assigned:=W.assigned.filter fun y=> !isA sv ho re y},[0])):=by
   show (if _=false then _ else _)=_
   rw [hh]
   rfl
  refine ⟨_,ae (aW (i:=2) xy.nd rfl (Or.inl rfl) (bZ (aa (aF aM (pv 1) ah (fun _ _=>rfl)) (aa (aF aM (pv 1) ah (fun _ _=>rfl)) (aa (aF aM (pv 1) ah (fun _ _=>rfl)) af)))))
   (ae (bp (cq (wy hu (pv 2) (ai (pv 0) rfl))) (ak (aK (a3 (aa (d8 cG ah) af)))) aV)
   (ae (aI (O1 hu (ai (pv 0) rfl) (pv 2) ⟨rfl,rfl,rfl,rfl⟩))
   (ak (aK (a3 (aa ah af)))))),?_⟩
  refine ⟨_,rfl,nm,_,_,_,rfl,rfl,hS,rfl,_,rfl,nm,_,_,_,rfl,rfl,hS,rfl,_,rfl,nm,_,_,_,rfl,rfl,hS,rfl,(by show 3≤sizeLine;decide),fun q hq=> ?_⟩
  have S1:=aj.ao (o:=HO.tup [V.int (sv:Int),V.int (ho:Int),V.int (re:Int)]) hq
  have Kj:L2.upd H q (HO.tup [V.int (sv:Int),V.int (ho:Int),V.int (re:Int)]) q=some (.tup ((dn sv ho re).map kV)):=ab
  generalize L2.upd H q (HO.tup [V.int (sv:Int),V.int (ho:Int),V.int (re:Int)])=H1 at *
  have R1:=R.same S1
  have Ge:=S1 _ _ Rg
  have hP1:Paired (gv H1) kvs W.assigned:=Paired.cN hP fun a b f=>f.keep (aj.keep (C:=cs t) S1)
  have DG:=gC.t Ge Kj
  have A8:=IF sv ho re hP
  refine ⟨_,rfl,_,rfl,A.w,_,_,_,_,rfl,R1.cW,T.aw,T.br,rfl,A.ag,_,rfl,DG,_,rfl,?_⟩
  cases hv:dD kvs (dn sv ho re) with
  |none=>
   rw [hv] at A8
   rw [if_pos (show W.assigned.any (isA sv ho re)=false from A8.symm)] at jx
   rw [jx] at k
   refine bC ?_
   exact ⟨_,rfl,(by show 1≤sizeLine;decide),fun p hp=>k _ cas p (R1.same (aj.ao hp)) ((aj.ek S1).trans (aj.ek (aj.ao hp))) (fun b h=> .inl h) ab (S1.free hp)⟩
  |some v=>
   rw [hv] at A8
   rw [if_neg (show ¬W.assigned.any (isA sv ho re)=false from fun z=>by rw [←A8] at z;cases z)] at jx
   rw [jx] at k
   refine bL ?_
   refine ⟨_,rfl,A.w,_,_,_,_,rfl,R1.cW,T.aw,T.br,rfl,A.ag,rfl,.inr ⟨_,.inl Ge⟩,_,rfl,kvs,dn sv ho re,q,v,Ge,rfl,Kj,hv,?_⟩
   have R3:=R1.VC (IG sv ho re hP1)
   exact ⟨(by show 1≤sizeLine;decide),fun p hp=>k _ cas p (Rep.same R3 (aj.ao hp)) (((aj.ek S1).trans (ez.upd (.inr (.inr (.inr (.inr (.inr (.inl rfl)))))))).trans (aj.ek (aj.ao hp))) (fun b h=> .inl h) ab (S1.free (cP hp))⟩
abbrev Rh:VW→List Int→Prop:=fun W ns=>∃s x:Nat,ns= [(s:Int),(x:Int)] ∧(Vbcnag.isServer W (s:Int) && Vbcnag.within (x:Int) 0 1)=true
def LM:VW→List Int→VW×List Int:=fun W ns=>match ns with
 | [s,x] =>Vbcnag.inWorld W (.rest s x)
 |_=>(W,[])
theorem Uu (T:Txt K mg t):bB P w K mg base fe 8 t.iB t.Fp E8 (bw Rh LM K (cs t)):=by
 refine T.JT.ok TF (fun vs H Q E h=> ?_) (fun d4 A0 outer s H vs Q E hr h=> ?_)
 ·obtain ⟨A,cas,W,nm,ns,rfl,_⟩:=h
  rfl
 ·obtain ⟨A,cas,W,nm,ns,rfl,R,wg,hS,qX,⟨sv,x,rfl,hh⟩,k⟩:=h
  obtain ⟨bs,VG,ZA,hbs⟩:=R.rs
  have zk:sv < W.servers:=by
   rw [Bool.and_eq_true] at hh
   have:=bM.mp hh.1
   omega
  have jx:LM W [(sv:Int),(x:Int)] =({W with resting:=if (x:Int)=1 then sv::(W.resting.filter fun t=>t !=sv) else W.resting.filter fun t=>t !=sv},[0]):=by
   show (if _=false then _ else _)=_
   rw [hh]
   rfl
  rw [jx] at k
  refine ⟨_,ae (Ox (jy cV (aF aM (pv 1) ah (fun _ _=>rfl)) ah (aQ _)) (Ow (ai (pv 0) rfl) (aF aM (pv 1) ah (fun _ _=>rfl)) set_list))
   (ak (aK (a3 (aa ah af)))),?_⟩
  refine ⟨_,rfl,nm,_,_,_,rfl,rfl,hS,rfl,rfl,_,rfl,A.w,_,_,_,_,rfl,R.cW,T.aw,T.dW,rfl,_,rfl,nm,_,_,_,rfl,rfl,hS,rfl,A.rs,_,_,sv,rfl,rfl,VG,?_,?_⟩
  ·unfold Od
   rw [List.length_map,if_pos (by omega),if_pos (by omega)]
   rfl
  ·have hx:decide (V.int (x:Int)=V.int 1)=decide (x=1):=by
    by_cases q:x=1
    ·rw [decide_eq_true q,decide_eq_true (by rw [q];rfl)]
    ·rw [decide_eq_false q,decide_eq_false (fun z=>q (by injection z with z;omega))]
   have e1:(bs.map V.bl).set sv (V.bl (decide (V.int (x:Int)=V.int 1)))=(bs.set sv (decide (x=1))).map V.bl:=by
    rw [hx,List.map_set]
   have R1:=R.af8 (bs:=bs.set sv (decide (x=1))) (l:=if (x:Int)=1 then sv::(W.resting.filter fun t=>t !=sv) else W.resting.filter fun t=>t !=sv) (by rw [List.length_set];exact ZA) (fun s' b hb=>by
    by_cases q:sv=s'
    ·subst q
     rw [List.getElem?_set_self (by omega)] at hb
     cases hb
     by_cases z:x=1
     ·rw [if_pos (by omega),decide_eq_true z]
      simp
     ·rw [if_neg (by omega),decide_eq_false z]
      simp
    ·rw [List.getElem?_set_ne q] at hb
     rw [hbs s' b hb]
     have ne:¬s'=sv:=fun z=>q z.symm
     split
     ·simp [ne]
     ·simp [ne])
   rw [←e1] at R1
   exact ⟨(by show 1≤sizeLine;decide),fun p hp=>k _ cas p (Rep.same R1 (aj.ao hp)) ((ez.upd (.inr (.inr (.inr (.inr (.inl rfl)))))).trans (aj.ek (aj.ao hp))) (fun b h=> .inl h) ab (cP hp)⟩
end
end Rl
namespace L2
open PySem PySem.Spec PyProof.Rows
theorem LN {d:Addr}{o:Obj}{kvs:List (Key×V)}{g:TG}{tt:TT}{te:TE}{vs:List Nat}{σ:St}{H1:Hp}{D:Addr}{Qd:Hp→Prop}(Pv:Nat→Hp→Prop)(h0:Pv 0 (upd H1 D (.lst [])))(hl:∀i H,i≤kvs.length→Pv i H→H d=some (.jn o (.dK kvs)))
  (hs:∀i k x H,kvs[i]?=some (k,x)→Pv i H→g x (wipe σ vs) H fun σ2 H2=>wipe σ2 vs=wipe σ vs∧tt σ2 H2 fun b H3=>
   if b=true then te σ2 H3 fun y H4=>∃acc,H4 D=some (.lst acc)∧acc.length < sizeLine∧Pv (i + 1) (upd H4 D (.lst (acc ++ [y]))) else Pv (i + 1) H3)(hd:∀H,Pv kvs.length H→Qd H):
  ∃W:Nat→Nat→Hp→Prop,(∃m,W 0 m (upd H1 D (.lst [])))∧∀i m H,W i m H→
   ((Itd d o kvs).stop i H∧Qd H)∨((Itd d o kvs).go i H∧∃Nx:Hp→Prop,(∀H',Nx H'→∃m',m' < m∧W (i + 1) m' H')∧∀x H',(Itd d o kvs).Ob i H x H'→g x (wipe σ vs) H' fun σ2 H2=>wipe σ2 vs=wipe σ vs∧tt σ2 H2 fun b H3=>
    if b=true then te σ2 H3 fun y H4=>∃acc,H4 D=some (.lst acc)∧acc.length < sizeLine∧Nx (upd H4 D (.lst (acc ++ [y]))) else Nx H3):=by
 refine ⟨fun i m H=>m=kvs.length - i∧i≤kvs.length∧Pv i H,⟨kvs.length,by simp,Nat.zero_le _,h0⟩,?_⟩
 rintro i m H ⟨rfl,hi,p⟩
 have q:=hl i H hi p
 by_cases eA:i < kvs.length
 ·refine .inr ⟨⟨q,eA⟩,Pv (i + 1),fun H' p'=>⟨kvs.length - (i + 1),by omega,rfl,eA,p'⟩,fun x H' y=> ?_⟩
  obtain ⟨e,k,y⟩:=y
  subst e
  exact hs i k x _ y p
 ·have e:i=kvs.length:=by omega
  subst e
  exact .inl ⟨⟨q,Nat.le_refl _⟩,hd H p⟩
end L2
namespace Rl
open PySem PySem.Spec PyProof.Rows L2
open Vbcnag (Mark Msg Under Offer Lease Client Relay Assigned Written)
section
variable {P:Program}{w:World}{K:PySem.W.Frag}{mg:Str→Option Value}{base:Heap}{t:jL}
theorem dR {H:Hp}{a b:Addr}{o:HO}(h:H a=some o)(n:H b=none):b≠a:=fun q=>by
 rw [q,h] at n
 cases n
def aqs (C:Cs):Sp:=fun vs H Q _=>∃ (A:Ad)(cas:List Addr)(W:VW)(r c:Nat),vs= [.ref A.w,nV r,nV c] ∧Rep C H A cas W∧W.clients.length≤64∧
 ∀H',aj H H'→Q (.bl (W.clients.any fun x=>x.place==some {relay:=r,circuit:=c})) H'
theorem D3 {cas:List Addr}{cl:List Client}{i:Nat}{k:Key}{x:V}(h:(bH cas cl)[i]?=some (k,x)):∃a c,cas[i]?=some a∧cl[i]?=some c∧x= .ref a:=by
 unfold bH at h
 rw [List.getElem?_zipWith] at h
 cases ha:cas[i]? with
 |none=>rw [ha] at h;cases h
 |some a=>
  cases hc:cl[i]? with
  |none=>rw [ha,hc] at h;cases h
  |some c=>
   rw [ha,hc] at h
   have e:=Option.some.inj h
   exact ⟨a,c,rfl,rfl,(congrArg Prod.snd e).symm⟩
theorem nO {cas:List Addr}{cl:List Client}(h:cas.length=cl.length):(bH cas cl).length=cl.length:=by
 unfold bH
 rw [List.length_zipWith,h,Nat.min_self]
def plD:Option Mark→PyData
 |none=> .none
 |some m=> .tuple [.int (m.relay:Int),.int (m.circuit:Int)]
theorem Gf {K:PySem.W.Frag}{H:Hp}{p:Option Mark}{v:V}(h:Ir H p v):Dp K H v (plD p)∧SeqAt.shaped (plD p)=true:=by
 cases p with
 |none=>
  have e:v= .bX:=h
  subst e
  exact ⟨.bX,rfl⟩
 |some m=>
  obtain ⟨b,rfl,hb⟩:=h
  exact ⟨.tup (bJ.of hb) (.cons (.int _) (.cons (.int _) .nil)),rfl⟩
theorem LO (p:Option Mark)(m:Mark):PyData.eqv (plD p) (plD (some m))=(p==some m):=by
 cases p with
 |none=>rfl
 |some q=>
  show ((q.relay:Int)==(m.relay:Int) && ((q.circuit:Int)==(m.circuit:Int) && true))=_
  have e:(some q==some m)=decide (q=m):=by
   by_cases z:q=m
   ·subst z;simp
   ·rw [decide_eq_false z]
    simpa using z
  rw [e]
  by_cases z:q=m
  ·subst z;simp
  ·rw [decide_eq_false z]
   cases q with
   |mk a b=>
    cases m with
    |mk c d=>
     rw [Bool.and_true,Bool.and_eq_false_iff]
     by_cases y:a=c
     ·right
      subst y
      have:¬b=d:=fun x=>z (by rw [x])
      simpa using (fun x:(b:Int)=(d:Int)=>this (by omega))
     ·left
      simpa using (fun x:(a:Int)=(c:Int)=>y (by omega))
theorem xg (T:Txt K mg t):bB P w K mg base fe 1 t.cy t.gy gw (aqs (cs t)):=by
 refine T.jt.ok iw (fun vs H Q E h=> ?_) (fun d4 A0 outer s H vs Q E hr h=> ?_)
 ·obtain ⟨A,cas,W,r,c,rfl,_⟩:=h
  rfl
 ·obtain ⟨A,cas,W,r,c,rfl,R,hlen,k⟩:=h
  have hu:=gF hr
  refine ⟨_,ak (aK (a6 (Ws rfl) (by rfl) T.Ls PyProof.Rows.boot_any (aa (EJ (K2 (own:= [("client",3)]) rfl iw.nd (CZ (ai (pv 0) rfl)) (kr (show EE nZ (ay dv) _ _=true by decide +kernel)) (fun _ _ _ _ _=>eU (i:=3) iw.nd rfl (Or.inl rfl)) (fun _ _ _ _ _=>y1) (fun _ _ _ _ _=>(jy (To K rfl hr.units) (mI K rfl (pv 3) rfl) (bZ (aa (pv 1) (aa (pv 2) af))) (aQ _))))) af))),?_⟩
  refine ⟨A.cd,_,R.cd,trivial,fun od=> ?_⟩
  have tD:L2.upd H A.cd (.jn od (.dK (bH cas W.clients))) A.cd=some (.jn od (.dK (bH cas W.clients))):=ab
  have NK:∀b o,b≠A.cd→H b=some o→L2.upd H A.cd (.jn od (.dK (bH cas W.clients))) b=some o:=fun b o n e=>by
   rw [az n]
   exact e
  have back:∀H',aj (L2.upd H A.cd (.jn od (.dK (bH cas W.clients)))) H'→aj H (L2.upd H' A.cd (.dK (bH cas W.clients))):=fun H' S b o e=>by
   by_cases z:b=A.cd
   ·subst z
    rw [R.cd] at e
    rw [←Option.some.inj e]
    exact ab
   ·rw [az z]
    exact S b o (NK b o z e)
  generalize L2.upd H A.cd (.jn od (.dK (bH cas W.clients)))=H0 at *
  refine ⟨_,rfl,A.w,_,_,_,_,rfl,NK _ _ (a8 R.cW R.cd (fun q=>nomatch q)) R.cW,T.aw,T.aA,rfl,A.cd,od,_,rfl,tD,fun D hD=> ?_⟩
  refine LN (fun i H'=>H' D=some (.lst ((W.clients.take i).map fun x=>V.bl (x.place==some {relay:=r,circuit:=c})))∧aj H0 H') ⟨ab,aj.ao hD⟩ (fun i H' _ mz=>mz.2 _ _ tD) (fun i ky x H' hx mz=> ?_) (fun H' mz=> ?_)
  ·obtain ⟨xh,S⟩:=mz
   obtain ⟨ca,cl,dA,K0,rfl⟩:=D3 hx
   obtain ⟨d,pl,be,le,nN,d3⟩:=R.gO K0 dA
   have Ri:=S _ _ (NK _ _ (a8 nN R.cd (fun q=>nomatch q)) nN)
   refine ⟨rfl,?_⟩
   refine A6 ?_
   refine ⟨_,rfl,ca,_,d,_,_,rfl,Ri,T.aq,T.aX,rfl,_,rfl,_,rfl,(by show 2≤sizeLine;decide),fun z hz=> ?_⟩
   have Sz:=aj.ao (o:=HO.tup [nV r,nV c]) hz
   have kk:dZ (cs t) H (L2.upd H' z (.tup [nV r,nV c])):=fun b o f e=>by
    have:b≠A.cd:=fun q=>by
     subst q
     rw [R.cd] at e
     rw [←Option.some.inj e] at f
     exact f
    exact Sz _ _ (S _ _ (NK _ _ this e))
   obtain ⟨d1,d2⟩:=Gf (K:=K) (d3.pl.keep kk)
   obtain ⟨e1,e2⟩:=Gf (K:=K) (H:=L2.upd H' z (.tup [nV r,nV c])) (p:=some {relay:=r,circuit:=c}) (v:= .ref z) ⟨z,rfl,ab⟩
   refine ⟨_,_,d1,e1,d2,e2,_,Sz _ _ xh,?_,?_,?_⟩
   ·rw [List.length_map,List.length_take]
    exact Nat.lt_of_le_of_lt (show _≤64 by omega) (by decide)
   ·rw [ab,LO,List.take_add_one,K0,List.map_append]
    rfl
   ·intro b o e
    rw [az (aH e hD)]
    exact (S.trans Sz) b o e
  ·obtain ⟨xh,S⟩:=mz
   rw [nO R.len,List.take_length] at xh
   have nD:D≠A.cd:=dR tD hD
   refine ⟨S _ _ tD,D,W.clients.map fun x=>x.place==some {relay:=r,circuit:=c},rfl,cK.of (by rw [az nD,xh,List.map_map];rfl),?_⟩
   have e:((W.clients.map fun x=>x.place==some {relay:=r,circuit:=c}).any id)=W.clients.any fun x=>x.place==some {relay:=r,circuit:=c}:=by
    rw [List.any_map]
    rfl
   rw [e]
   exact k _ (back _ S)
end
theorem Rj {H:Hp}{a b:Addr}{x y:HO}(n:a≠b):L2.upd (L2.upd H a x) b y=L2.upd (L2.upd H b y) a x:=by
 funext c
 unfold L2.upd
 by_cases e:c=b
 ·subst e
  simp [Ne.symm n]
 ·simp [e]
theorem Rm {a b a' b':Nat}:w8 a b=w8 a' b' ↔ a=a'∧b=b':=by
 unfold w8
 constructor
 ·intro h
  injection h with h1 h
  injection h with h2 h
  have e1:=Sum.inl.inj h1
  have e2:=Sum.inl.inj h2
  omega
 ·rintro ⟨rfl,rfl⟩
  rfl
theorem Kk {W:VW}{k:Mark}{l:Nat}(h:Vbcnag.below W k=none)(m:Mark):Vbcnag.below {W with relays:=W.relays ++ [{above:=some k,limit:=l}] } m=if m=k then some W.relays.length else Vbcnag.below W m:=by
 unfold Vbcnag.below at *
 show List.findIdx? _ (W.relays ++ _)=_
 rw [List.findIdx?_append]
 by_cases q:m=k
 ·subst q
  rw [h,if_pos rfl]
  simp
 ·rw [if_neg q]
  have:List.findIdx? (fun r:Relay=>r.above==some m) [{above:=some k,limit:=l}] =none:=by
   have:¬k=m:=fun z=>q z.symm
   simp [this]
  rw [this]
  simp
section
variable {C:Cs}{H H':Hp}{A:Ad}{cas:List Addr}{W:VW}
theorem Rep.Uv (R:Rep C H A cas W){ras:List Addr}{l:List Relay}{kvs:List (List Key×V)}(h:Paired (lC C H) ras l)(hk:kvs.length≤l.length)(hv:∀m:Mark,dD kvs (w8 m.relay m.circuit)=(Vbcnag.below {W with relays:=l} m).map nV):
  Rep C (L2.upd (L2.upd H A.rl (.lst (ras.map V.ref))) A.hd (.dT kvs)) A cas {W with relays:=l}:=by
 obtain ⟨axI,h1,h2⟩:=R.rl
 obtain ⟨aqt,h3,h4,h5⟩:=R.hd
 obtain ⟨bs,h6,h7⟩:=R.rs
 obtain ⟨ks,h8,h9⟩:=R.ag
 obtain ⟨bas,vS,GB⟩:=R.bg
 have n0:A.hd≠A.rl:=a8 h3 h1 (fun q=>nomatch q)
 have at_:∀ {b:Addr}{o:HO},H b=some o→b≠A.rl→b≠A.hd→L2.upd (L2.upd H A.rl (.lst (ras.map V.ref))) A.hd (.dT kvs) b=some o:=fun {b o} e n n'=>by
  rw [az n',az n]
  exact e
 have k1:dZ C H (L2.upd H A.rl (.lst (ras.map V.ref))):=dZ.upd h1 (fun q=>q)
 have kk:dZ C H (L2.upd (L2.upd H A.rl (.lst (ras.map V.ref))) A.hd (.dT kvs)):=k1.trans (dZ.upd (u:= .dT aqt) (by rw [az n0];exact h3) (fun q=>q))
 refine ⟨at_ R.cW (a8 R.cW h1 (fun q=>nomatch q)) (a8 R.cW h3 (fun q=>nomatch q)),⟨ras,(by rw [az (Ne.symm n0)];exact ab),Paired.cN h fun a b f=>f.keep kk⟩,⟨kvs,ab,hk,hv⟩,at_ R.cd (a8 R.cd h1 (fun q=>nomatch q)) (a8 R.cd h3 (fun q=>nomatch q)),
  Paired.cN R.ca fun a b f=>f.keep kk fun o e=> ?_,⟨bs,at_ h6 (Ne.symm R.n1.1) (a8 h6 h3 (fun q=>nomatch q)),h7⟩,⟨ks,at_ h8 (a8 h8 h1 (fun q=>nomatch q)) (Ne.symm R.n2.1),Paired.cN h9 fun a b f=>f.keep kk⟩,at_ R.wr (a8 R.wr h1 (fun q=>nomatch q)) (Ne.symm R.n2.2.1),
  ⟨bas,at_ vS (Ne.symm R.n1.2.1) (a8 vS h3 (fun q=>nomatch q)),Paired.cN GB fun a b f=>f.keep kk⟩,R.n1,R.n2,R.n3,R.hn⟩
 obtain ⟨d,pl,be,le,e1,_⟩:=f
 exact at_ e (a8 e1 h1 (fun q=>nomatch q)) (a8 e1 h3 (fun q=>nomatch q))
end
section
variable {P:Program}{w:World}{K:PySem.W.Frag}{mg:Str→Option Value}{base:Heap}{t:jL}
abbrev Kl:VW→List Int→Prop:=fun W ns=>∃p c l:Nat,ns= [(p:Int),(c:Int),(l:Int)] ∧(Vbcnag.isRelay W (p:Int) && (Vbcnag.isCircuit (c:Int) && Vbcnag.within (l:Int) 1 16))=true
def A9:VW→List Int→VW×List Int:=fun W ns=>match ns with
 | [p,c,l] =>Vbcnag.inWorld W (.relay p c l)
 |_=>(W,[])
theorem Gg (T:Txt K mg t):bB P w K mg base fe 8 t.cz t.ll kZ (bw Kl A9 K (cs t)):=by
 refine T.pj.ok jI (fun vs H Q E h=> ?_) (fun d4 A0 outer s H vs Q E hr h=> ?_)
 ·obtain ⟨A,cas,W,nm,ns,rfl,_⟩:=h
  rfl
 ·obtain ⟨A,cas,W,nm,ns,rfl,R,wg,hS,qX,⟨pa,ci,li,rfl,hh⟩,k⟩:=h
  have hu:=gF hr
  obtain ⟨kvs,LP,Rn,GA⟩:=R.hd
  have jx:A9 W [(pa:Int),(ci:Int),(li:Int)] =(if (Vbcnag.below W {relay:=pa,circuit:=ci}).isSome=true∨W.clients.any (fun x=>x.place==some {relay:=pa,circuit:=ci})=true then (W,[-2])
    else if 64≤W.relays.length then (W,[-3]) else if W.bag≠ [] then (W,[-4])
    else ({W with relays:=W.relays ++ [{above:=some {relay:=pa,circuit:=ci},limit:=li}] },0::Vbcnag.nums [W.relays.length])):=by
   show (if _=false then _ else _)=_
   rw [hh]
   rfl
  obtain ⟨Su,Cj,Ck⟩:=T.rE
  refine ⟨_,ae (aW (i:=2) jI.nd rfl (Or.inl rfl) (aF aM (pv 1) ah (fun _ _=>rfl)))
   (ae (aW (i:=3) jI.nd rfl (Or.inl rfl) (aF aM (pv 1) ah (fun _ _=>rfl)))
   (ae (bp (PW.pt (tE (cq (EI hu (bZ (aa (pv 2) (aa (pv 3) af))) (ai (pv 0) rfl))) (mG (oy (aB (xg T) (hr.mono (by decide)) (by rfl) T.n6 T.jt.kp T.og .nil aU (aa (pv 0) (aa (pv 2) (aa (pv 3) af)))))))) (ak (aK (a3 (aa (d8 cG ah) af)))) aV)
   (ae (bp (aL cV (a6 aT (by rfl) T.d6 PySem.boot_len (aa (ai (pv 0) rfl) af)) (aD (by rfl) Cj Ck) (aQ _)) (ak (aK (a3 (aa (d8 cG ah) af)))) aV)
   (ae (bp (aL tI (a6 aT (by rfl) T.d6 PySem.boot_len (aa (ai (pv 0) rfl) af)) ah (aQ _)) (ak (aK (a3 (aa (d8 cG ah) af)))) aV)
   (ae (aW (i:=4) jI.nd rfl (Or.inl rfl) (a6 aT (by rfl) T.d6 PySem.boot_len (aa (ai (pv 0) rfl) af)))
   (ae (aI (ij PySem.F.plainAttrs_list PySem.F.slot_list_append PySem.F.type_list_append lX (ai (pv 0) rfl) (aa (kP T.oY (Iv T) (hr.mono (by decide)) (by rfl) T.Fv T.nh .nil aU (aa (pv 2) (aa (pv 3) (aa (aF aM (pv 1) ah (fun _ _=>rfl)) af)))) af)))
   (ae (y2 hu (ai (pv 0) rfl) (bZ (aa (pv 2) (aa (pv 3) af))) (pv 4) rfl)
   (ak (aK (a3 (aa ah (aa (pv 4) af)))))))))))),?_⟩
  refine ⟨_,rfl,nm,_,_,_,rfl,rfl,hS,rfl,_,rfl,nm,_,_,_,rfl,rfl,hS,rfl,?_⟩
  refine ⟨_,rfl,_,rfl,(by show 2≤sizeLine;decide),fun q hq=> ?_⟩
  have S1:=aj.ao (o:=HO.tup [V.int (pa:Int),V.int (ci:Int)]) hq
  have Kj:L2.upd H q (HO.tup [V.int (pa:Int),V.int (ci:Int)]) q=some (.tup ((w8 pa ci).map kV)):=ab
  generalize L2.upd H q (HO.tup [V.int (pa:Int),V.int (ci:Int)])=H1 at *
  have R1:=R.same S1
  have DG:=gC.t (S1 _ _ LP) Kj
  rw [GA {relay:=pa,circuit:=ci}] at DG
  refine ⟨_,rfl,A.w,_,_,_,_,rfl,R1.cW,T.aw,T.bV,rfl,A.hd,_,rfl,DG,_,rfl,?_⟩
  have refuse:∀ (H':Hp)(x:Int),aj H H'→A9 W [(pa:Int),(ci:Int),(li:Int)] =(W,[x])→∀p,H' p=none→Q (.ref p) (L2.upd H' p (.lst [V.int x])):=fun H' x S hf p hp=>by
   rw [hf] at k
   exact k _ cas p ((R.same S).same (aj.ao hp)) ((aj.ek S).trans (aj.ek (aj.ao hp))) (fun b h=> .inl h) ab (S.free hp)
  cases hb:Vbcnag.below W {relay:=pa,circuit:=ci} with
  |some q0=>
   refine bC ?_
   refine bC ?_
   exact ⟨_,rfl,(by show 1≤sizeLine;decide),refuse _ _ S1 (jx.trans (if_pos (.inl (by rw [hb];rfl))))⟩
  |none=>
   rw [hb] at jx
   refine bL ?_
   refine ⟨_,rfl,_,rfl,_,rfl,A,cas,W,pa,ci,rfl,R1,wg.vQ,fun H2 S2=> ?_⟩
   refine ⟨_,rfl,?_⟩
   have VH:=S1.trans S2
   have R2:=R1.same S2
   cases ha:W.clients.any (fun x=>x.place==some {relay:=pa,circuit:=ci}) with
   |true=>
    rw [ha] at jx
    refine bC ?_
    exact ⟨_,rfl,(by show 1≤sizeLine;decide),refuse _ _ VH (jx.trans (if_pos (.inr rfl)))⟩
   |false=>
    rw [ha,if_neg (by simp)] at jx
    refine bL ?_
    obtain ⟨ras,d3,wj⟩:=R2.rl
    obtain ⟨bas,ot,we⟩:=R2.bg
    have LQ:(ras.map V.ref).length=W.relays.length:=by rw [List.length_map];exact Paired.length wj
    have VI:(bas.map V.ref).length=W.bag.length:=Iu we
    refine ⟨_,rfl,A.w,_,_,_,_,rfl,R2.cW,T.aw,T.bE,rfl,A.rl,_,rfl,.inl (cK.of d3),rfl,_,rfl,?_⟩
    by_cases Sv:64≤W.relays.length
    ·rw [if_pos Sv] at jx
     have e64:W.relays.length=64:=Nat.le_antisymm wg.Ip Sv
     rw [show decide (V.int ((ras.map V.ref).length:Int)=V.int 64)=true from decide_eq_true (by rw [LQ,e64];rfl)]
     refine bC ?_
     exact ⟨_,rfl,(by show 1≤sizeLine;decide),refuse _ _ VH jx⟩
    ·rw [if_neg Sv] at jx
     rw [show decide (V.int ((ras.map V.ref).length:Int)=V.int 64)=false from decide_eq_false (fun q=>Sv (by injection q with q;omega))]
     refine bL ?_
     refine ⟨_,rfl,A.w,_,_,_,_,rfl,R2.cW,T.aw,T.bu,rfl,A.bg,_,rfl,.inl (cK.of ot),_,_,rfl,rfl,_,rfl,?_⟩
     refine eQ (fun hc=> ?_) fun hc=> ?_
     ·have qY:W.bag≠ [] :=fun q=>by
       have:=of_decide_eq_true hc
       rw [VI,q] at this
       simp at this
      rw [if_pos qY] at jx
      exact ⟨_,rfl,(by show 1≤sizeLine;decide),refuse _ _ VH jx⟩
     ·have he:¬W.bag≠ [] :=fun q=>hc (decide_eq_true (by
       have:=List.length_pos_iff.mpr q
       rw [VI]
       omega))
      rw [if_neg he] at jx
      rw [jx] at k
      have Oe:=VH.seq hS
      refine ⟨_,rfl,A.w,_,_,_,_,rfl,R2.cW,T.aw,T.bE,rfl,A.rl,_,rfl,.inl (cK.of d3),?_⟩
      refine ⟨_,rfl,A.w,_,_,_,_,rfl,R2.cW,T.aw,T.bE,rfl,.inl ⟨rfl,_,cK.of d3⟩,_,rfl,_,rfl,_,rfl,nm,_,_,_,rfl,rfl,Oe,rfl,fun x dx hx hdx qY=> ?_⟩
      refine ⟨x,dx,_,_,_,rfl,ab,fun H3 YM hk3=>⟨rfl,?_⟩⟩
      have S3:aj H2 H3:=fun b o e=>hk3 b o (by rw [az (aH e hx),az (aH e hdx)];exact e) (aH e hx)
      clear hk3
      have R3:=R2.same S3
      have YN:=S3 _ _ d3
      have aqv:Paired (lC (cs t) H3) ras W.relays:=Paired.cN wj fun a b f=>f.keep (aj.keep S3)
      refine ⟨A.rl,_,_,rfl,rfl,YN,(by rw [LQ];exact Nat.lt_of_le_of_lt wg.Ip (by decide)),?_⟩
      have n1:A.w≠A.rl:=a8 R3.cW YN (fun q=>nomatch q)
      refine ⟨_,rfl,_,rfl,A.w,_,_,_,_,rfl,(by rw [az n1];exact R3.cW),T.aw,T.bV,rfl,_,rfl,_,rfl,(by show 2≤sizeLine;decide),fun z hz=> ?_⟩
      have nz:z≠A.rl:=fun q=>by
       rw [q,ab] at hz
       cases hz
      rw [Rj (Ne.symm nz)]
      rw [az nz] at hz
      have S4:=aj.ao (o:=HO.tup [V.int (pa:Int),V.int (ci:Int)]) hz
      have ZC:L2.upd H3 z (HO.tup [V.int (pa:Int),V.int (ci:Int)]) z=some (.tup ((w8 pa ci).map kV)):=ab
      generalize L2.upd H3 z (HO.tup [V.int (pa:Int),V.int (ci:Int)])=H4 at *
      have R4:=R3.same S4
      have hx4:=S4 _ _ YM
      have agn:=S4 _ _ (S3 _ _ (VH _ _ LP))
      have aqw:=S4 _ _ YN
      have n2:A.hd≠A.rl:=a8 agn aqw (fun q=>nomatch q)
      have aqx:Paired (lC (cs t) H4) ras W.relays:=Paired.cN aqv fun a b f=>f.keep (aj.keep S4)
      refine ⟨A.hd,_,rfl,zI.t (k:=w8 pa ci) (by rw [az n2];exact agn) (by rw [az nz];exact ZC) (Nat.lt_of_le_of_lt (Nat.le_trans Rn wg.Ip) (by decide)),?_⟩
      have R5:=R4.Uv (ras:=ras ++ [x]) (l:=W.relays ++ [{above:=some {relay:=pa,circuit:=ci},limit:=li}]) (kvs:=putK kvs (w8 pa ci) (V.int ((ras.map V.ref).length:Int))) (Paired.yD aqx (show lC (cs t) H4 x {above:=some {relay:=pa,circuit:=ci},limit:=li} from ⟨dx,hx4⟩))
       (by rw [List.length_append];exact Nat.le_trans (oG ..) (Nat.add_le_add_right Rn 1)) (fun m=>by
        rw [ON,Kk hb,GA m]
        by_cases q:m={relay:=pa,circuit:=ci}
        ·subst q
         rw [if_pos rfl,if_pos rfl,LQ]
         rfl
        ·rw [if_neg q,if_neg (fun z=>q (by obtain ⟨a,b⟩:=Rm.mp z;cases m;cases a;cases b;rfl))])
      rw [List.map_append] at R5
      refine ⟨_,rfl,(by show 2≤sizeLine;decide),fun p hp=> ?_⟩
      have S14:=(VH.trans S3).trans S4
      refine k _ cas p (Rep.same R5 (aj.ao hp)) (((aj.ek S14).trans ((ez.upd (.inr (.inl rfl))).trans (ez.upd (.inr (.inr (.inl rfl)))))).trans (aj.ek (aj.ao hp))) (fun b h=> .inl h) ?_ (S14.free (cP (cP hp)))
      rw [ab,LQ]
      rfl
end
theorem II {cas:List Addr}{cl:List Client}(h:cas.length=cl.length)(x:Addr)(c:Client):bH (cas ++ [x]) (cl ++ [c])=bH cas cl ++ [((Sum.inl (c.host:Int):Key),V.ref x)] :=by
 unfold bH
 rw [List.zipWith_append h]
 rfl
section
variable {C:Cs}{H H':Hp}{A:Ad}{cas:List Addr}{W:VW}
theorem Rep.aqy (R:Rep C H A cas W){x:Addr}{c:Client}(hx:eO C H x c)(hn:x ∉ cas)(hh:c.host ∉ W.clients.map (·.host)):
  Rep C (L2.upd H A.cd (.dK (bH (cas ++ [x]) (W.clients ++ [c])))) A (cas ++ [x]) {W with clients:=W.clients ++ [c] }:=by
 have h0:=R.cd
 generalize hk:bH (cas ++ [x]) (W.clients ++ [c])=kvs
 have kk:dZ C H (L2.upd H A.cd (.dK kvs)):=dZ.upd h0 (fun q=>q)
 have at_:∀ {b:Addr}{o:HO},H b=some o→b≠A.cd→L2.upd H A.cd (.dK kvs) b=some o:=fun {b o} e n=>by
  rw [az n]
  exact e
 obtain ⟨ras,h1,h2⟩:=R.rl
 obtain ⟨Kh,h3,h4,h5⟩:=R.hd
 obtain ⟨bs,h6,h7⟩:=R.rs
 obtain ⟨ks,h8,h9⟩:=R.ag
 obtain ⟨bas,vS,GB⟩:=R.bg
 have ck:∀ {a:Addr}{b:Client},eO C H a b→eO C (L2.upd H A.cd (.dK kvs)) a b:=fun {a b} f=>f.keep kk fun o e=>by
  obtain ⟨d,pl,be,le,e1,_⟩:=f
  exact at_ e (a8 e1 h0 (fun q=>nomatch q))
 refine ⟨at_ R.cW (a8 R.cW h0 (fun q=>nomatch q)),⟨ras,at_ h1 (a8 h1 h0 (fun q=>nomatch q)),Paired.cN h2 fun a b f=>f.keep kk⟩,⟨Kh,at_ h3 (a8 h3 h0 (fun q=>nomatch q)),h4,h5⟩,(by rw [ab,←hk]),
  Paired.yD (Paired.cN R.ca fun a b f=>ck f) (ck hx),⟨bs,at_ h6 (a8 h6 h0 (fun q=>nomatch q)),h7⟩,⟨ks,at_ h8 (a8 h8 h0 (fun q=>nomatch q)),Paired.cN h9 fun a b f=>f.keep kk⟩,at_ R.wr (a8 R.wr h0 (fun q=>nomatch q)),
  ⟨bas,at_ vS (a8 vS h0 (fun q=>nomatch q)),Paired.cN GB fun a b f=>f.keep kk⟩,R.n1,R.n2,kJ R.n3 hn,?_⟩
 show ((W.clients ++ [c]).map (·.host)).Nodup
 rw [List.map_append]
 exact kJ R.hn hh
end
section
variable {P:Program}{w:World}{K:PySem.W.Frag}{mg:Str→Option Value}{base:Heap}{t:jL}
abbrev Ro:VW→List Int→Prop:=fun W ns=>∃h r c:Nat,ns= [(h:Int),(r:Int),(c:Int)] ∧(Vbcnag.isHost (h:Int) && (Vbcnag.isRelay W (r:Int) && Vbcnag.isCircuit (c:Int)))=true
def D4:VW→List Int→VW×List Int:=fun W ns=>match ns with
 | [h,r,c] =>Vbcnag.inWorld W (.plug h r c)
 |_=>(W,[])
theorem Uw (T:Txt K mg t):bB P w K mg base fe 8 t.iA t.Fo E7 (bw Ro D4 K (cs t)):=by
 refine T.JQ.ok tZ (fun vs H Q E h=> ?_) (fun d4 A0 outer s H vs Q E hr h=> ?_)
 ·obtain ⟨A,cas,W,nm,ns,rfl,_⟩:=h
  rfl
 ·obtain ⟨A,cas,W,nm,ns,rfl,R,wg,hS,qX,⟨ho,re,ci,rfl,hh⟩,k⟩:=h
  have hu:=gF hr
  have CK:=fH T
  obtain ⟨kvs,LP,Rn,GA⟩:=R.hd
  have jx:D4 W [(ho:Int),(re:Int),(ci:Int)] =(if (Vbcnag.clientOf W ho).any (fun x=>x.place.isSome)=true then (W,[-2]) else if (Vbcnag.below W {relay:=re,circuit:=ci}).isSome=true then (W,[-3])
    else match Vbcnag.clientOf W ho with
     |some x=>(Vbcnag.setClient W {x with place:=some {relay:=re,circuit:=ci} },[0])
     |none=>if 64≤W.clients.length then (W,[-4]) else ({W with clients:=W.clients ++ [{host:=ho,place:=some {relay:=re,circuit:=ci} }] },[0])):=by
   show (if _=false then _ else _)=_
   rw [hh]
   rfl
  obtain ⟨Rp,Ba,Bb⟩:=T.pD
  refine ⟨_,ae (aW (i:=2) tZ.nd rfl (Or.inl rfl) (aF aM (pv 1) ah (fun _ _=>rfl)))
   (ae (aW (i:=3) tZ.nd rfl (Or.inl rfl) (bZ (aa (aF aM (pv 1) ah (fun _ _=>rfl)) (aa (aF aM (pv 1) ah (fun _ _=>rfl)) af))))
   (ae (aW (i:=4) tZ.nd rfl (Or.inl rfl) (gT hu (ai (pv 0) rfl) (pv 2) ⟨rfl,rfl,rfl,rfl⟩))
   (ae (bp (PW.pt (ip (cq (gS (pv 4))) (fJ (cq (gS (ai (pv 4) rfl)))))) (ak (aK (a3 (aa (d8 cG ah) af)))) aV)
   (ae (bp (cq (EI hu (pv 3) (ai (pv 0) rfl))) (ak (aK (a3 (aa (d8 cG ah) af)))) aV)
   (ae (bp (cq (gR (pv 4))) (ae (bp (aL cV (a6 C0 (by rfl) T.d6 PySem.boot_len (aa (ai (pv 0) rfl) af)) (aD (by rfl) Ba Bb) (aQ _)) (ak (aK (a3 (aa (d8 cG ah) af)))) aV)
   (ae (aW (i:=4) tZ.nd rfl (Or.inl rfl) (kP T.qG (Ny T) (hr.mono (by decide)) (by rfl) T.Hl T.rh .nil aU (aa (pv 2) af)))
   (ak (y2 hu (ai (pv 0) rfl) (pv 2) (pv 4) rfl)))) aV)
   (ae (aP (pv 4) (pv 3) rfl)
   (ak (aK (a3 (aa ah af)))))))))),?_⟩
  refine ⟨_,rfl,nm,_,_,_,rfl,rfl,hS,rfl,_,rfl,nm,_,_,_,rfl,rfl,hS,rfl,_,rfl,nm,_,_,_,rfl,rfl,hS,rfl,(by show 2≤sizeLine;decide),fun q hq=> ?_⟩
  have S1:=aj.ao (o:=HO.tup [V.int (re:Int),V.int (ci:Int)]) hq
  have Kj:L2.upd H q (HO.tup [V.int (re:Int),V.int (ci:Int)]) q=some (.tup ((w8 re ci).map kV)):=ab
  generalize L2.upd H q (HO.tup [V.int (re:Int),V.int (ci:Int)])=H1 at *
  have R1:=R.same S1
  have DG:=gC.t (S1 _ _ LP) Kj
  rw [GA {relay:=re,circuit:=ci}] at DG
  have refuse:∀ (x:Int),D4 W [(ho:Int),(re:Int),(ci:Int)] =(W,[x])→∀p,H1 p=none→Q (.ref p) (L2.upd H1 p (.lst [V.int x])):=fun x hf p hp=>by
   rw [hf] at k
   exact k _ cas p (R1.same (aj.ao hp)) ((aj.ek S1).trans (aj.ek (aj.ao hp))) (fun b h=> .inl h) ab (S1.free hp)
  rcases R1.find ho with ⟨hc,DC⟩|⟨i,ca,c,d,pl,be,le,hc,BE,hi,dA,nN,d3,DC⟩
  ·rw [hc,if_neg (by simp)] at jx
   refine ⟨_,rfl,A.w,_,_,_,_,rfl,R1.cW,T.aw,T.aA,rfl,A.cd,rfl,.inl ⟨_,.inl R1.cd⟩,_,rfl,_,DC,?_⟩
   refine ⟨_,rfl,_,rfl,bL ?_⟩
   refine bL ?_
   refine ⟨_,rfl,_,rfl,A.w,_,_,_,_,rfl,R1.cW,T.aw,T.bV,rfl,A.hd,_,rfl,DG,_,rfl,?_⟩
   cases hb:Vbcnag.below W {relay:=re,circuit:=ci} with
   |some q0=>
    refine bC ?_
    exact ⟨_,rfl,(by show 1≤sizeLine;decide),refuse _ (jx.trans (if_pos (by rw [hb];rfl)))⟩
   |none=>
    rw [hb,if_neg (by simp)] at jx
    refine bL ?_
    refine ⟨_,rfl,_,rfl,bC ?_⟩
    refine ⟨_,rfl,A.w,_,_,_,_,rfl,R1.cW,T.aw,T.aA,rfl,A.cd,_,rfl,R1.cd,rfl,_,rfl,?_⟩
    have Rn:(bH cas W.clients).length=W.clients.length:=nO R.len
    by_cases Sv:64≤W.clients.length
    ·have hf1:=jx.trans (if_pos Sv)
     have e64:W.clients.length=64:=Nat.le_antisymm wg.vQ Sv
     rw [show decide (V.int ((bH cas W.clients).length:Int)=V.int 64)=true from decide_eq_true (by rw [Rn,e64];rfl)]
     refine bC ?_
     exact ⟨_,rfl,(by show 1≤sizeLine;decide),refuse _ hf1⟩
    ·have hf1:=jx.trans (if_neg Sv)
     rw [hf1] at k
     rw [show decide (V.int ((bH cas W.clients).length:Int)=V.int 64)=false from decide_eq_false (fun q=>Sv (by injection q with q;omega))]
     refine bL ?_
     refine ⟨_,rfl,fun x dx hx hdx qY=> ?_⟩
     refine ⟨x,dx,ho,rfl,ab,fun H3 YM hk3=>⟨rfl,?_⟩⟩
     have S3:aj H1 H3:=fun b o e=>hk3 b o (by rw [az (aH e hx),az (aH e hdx)];exact e) (aH e hx)
     clear hk3
     have R3:=R1.same S3
     have Ss:x ∉ cas:=fun m=>by
      obtain ⟨o,BD⟩:=R1.there (b:=x) (.inr (.inr (.inr (.inr (.inr (.inr (.inr (.inr m))))))))
      rw [hx] at BD
      cases BD
     have R4:=R3.aqy (x:=x) (c:={host:=ho}) ⟨dx,.bX,.bX,.bX,YM,rfl,rfl,rfl⟩ Ss (lP hc)
     rw [II R.len] at R4
     refine ⟨_,rfl,_,rfl,A.w,_,_,_,_,rfl,R3.cW,T.aw,T.aA,rfl,_,rfl,A.cd,_,rfl,zI.k (k:=Sum.inl (ho:Int)) R3.cd (by rw [Rn];exact Nat.lt_of_le_of_lt wg.vQ (by decide)),?_⟩
     rw [OO _ (D2 R.len hc)]
     have ncd:x≠A.cd:=a8 YM R3.cd (fun q=>nomatch q)
     have hx4:L2.upd H3 A.cd (HO.dK (bH cas W.clients ++ [((Sum.inl (ho:Int):Key),V.ref x)])) x=some (.ins t.aR dx (tw {host:=ho} .bX .bX .bX)):=by
      rw [az ncd]
      exact YM
     refine ⟨_,rfl,_,rfl,x,_,dx,_,rfl,hx4,T.aq,T.aX,lt1000 rfl,?_⟩
     have hgx:(cas ++ [x])[W.clients.length]?=some x:=by
      rw [←R.len]
      simp
     have hgc:(W.clients ++ [({host:=ho}:Client)])[W.clients.length]?=some {host:=ho}:=by simp
     have hq4:L2.upd H3 A.cd (HO.dK (bH cas W.clients ++ [((Sum.inl (ho:Int):Key),V.ref x)])) q=some (.tup [nV re,nV ci]):=by
      have Sw:=S3 _ _ Kj
      rw [az (a8 Sw R3.cd (fun q=>nomatch q))]
      exact Sw
     have R5:=R4.setC CK (c':={host:=ho,place:=some {relay:=re,circuit:=ci} }) (pl:= .ref q) (be:= .bX) (le:= .bX) hgx hgc rfl hx4 ⟨⟨q,rfl,hq4⟩,rfl,rfl⟩
     have aqA:(W.clients ++ [({host:=ho}:Client)]).set W.clients.length {host:=ho,place:=some {relay:=re,circuit:=ci} }=W.clients ++ [{host:=ho,place:=some {relay:=re,circuit:=ci} }] :=by
      rw [List.set_append_right _ _ (Nat.le_refl _),Nat.sub_self]
      rfl
     have eW:({W with clients:=(W.clients ++ [({host:=ho}:Client)]).set W.clients.length {host:=ho,place:=some {relay:=re,circuit:=ci} } }:VW)={W with clients:=W.clients ++ [{host:=ho,place:=some {relay:=re,circuit:=ci} }] }:=by rw [aqA]
     have R6:=eW ▸ R5
     have S13:=S1.trans S3
     refine ⟨(by show 1≤sizeLine;decide),fun p hp=>k _ (cas ++ [x]) p (Rep.same R6 (aj.ao hp)) (fun b o e n=> ?_) (fun b h=> ?_) ab (S13.free (cP (cP hp)))⟩
     ·have hb3:=S13 _ _ e
      have nx:b≠x:=fun z=>by
       rw [z,S1.free hx] at e
       cases e
      have nc:b≠A.cd:=fun z=>n (.inr (.inr (.inr (.inl z))))
      have e2:L2.upd (L2.upd H3 A.cd (HO.dK (bH cas W.clients ++ [((Sum.inl (ho:Int):Key),V.ref x)]))) x (.ins t.aR dx (tw {host:=ho,place:=some {relay:=re,circuit:=ci} } (.ref q) .bX .bX)) b=some o:=by
       rw [az nx,az nc]
       exact hb3
      rw [az (aH e2 hp)]
      exact e2
     ·rcases List.mem_append.mp h with h|h
      ·exact .inl h
      ·exact .inr (by rw [List.mem_singleton.mp h];exact S1.free hx)
  ·rw [hc] at jx
   refine ⟨_,rfl,A.w,_,_,_,_,rfl,R1.cW,T.aw,T.aA,rfl,A.cd,rfl,.inl ⟨_,.inl R1.cd⟩,_,rfl,_,DC,?_⟩
   refine ⟨_,rfl,_,rfl,bC ?_⟩
   refine ⟨_,rfl,ca,_,d,_,_,rfl,nN,T.aq,T.aX,rfl,_,rfl,?_⟩
   have eD:=d3.pl
   cases hp:c.place with
   |some m=>
    rw [hp] at eD
    obtain ⟨b,e,_⟩:=eD
    subst e
    refine bC ?_
    exact ⟨_,rfl,(by show 1≤sizeLine;decide),refuse _ (jx.trans (if_pos (by show c.place.isSome=true;rw [hp];rfl)))⟩
   |none=>
    rw [hp] at eD
    have e:pl= .bX:=eD
    subst e
    rw [if_neg (by show ¬c.place.isSome=true;rw [hp];simp)] at jx
    refine bL ?_
    refine ⟨_,rfl,_,rfl,A.w,_,_,_,_,rfl,R1.cW,T.aw,T.bV,rfl,A.hd,_,rfl,DG,_,rfl,?_⟩
    cases hb:Vbcnag.below W {relay:=re,circuit:=ci} with
    |some q0=>
     refine bC ?_
     exact ⟨_,rfl,(by show 1≤sizeLine;decide),refuse _ (jx.trans (if_pos (by rw [hb];rfl)))⟩
    |none=>
     rw [hb,if_neg (by simp)] at jx
     have hf:D4 W [(ho:Int),(re:Int),(ci:Int)] =({W with clients:=W.clients.set i {c with place:=some {relay:=re,circuit:=ci} } },[0]):=by
      rw [jx]
      show (Vbcnag.setClient W {c with place:=some {relay:=re,circuit:=ci} },[0])=_
      rw [bW (d:={c with place:=some {relay:=re,circuit:=ci} }) R.hn hi rfl]
     rw [hf] at k
     refine bL ?_
     refine ⟨_,rfl,_,rfl,bL ?_⟩
     refine ⟨_,rfl,_,rfl,ca,_,d,_,rfl,nN,T.aq,T.aX,lt1000 rfl,?_⟩
     have R2:=R1.setC CK (c':={c with place:=some {relay:=re,circuit:=ci} }) (pl:= .ref q) dA hi rfl nN ⟨⟨q,rfl,Kj⟩,d3.be,d3.le⟩
     exact ⟨(by show 1≤sizeLine;decide),fun p hp=>k _ cas p (Rep.same R2 (aj.ao hp)) (((aj.ek S1).trans (ez.upd (Ad.il dA))).trans (aj.ek (aj.ao hp))) (fun b h=> .inl h) ab (S1.free (cP hp))⟩
end
section
variable {P:Program}{w:World}{K:PySem.W.Frag}{mg:Str→Option Value}{base:Heap}{t:jL}
def first (servers cap now:Nat):VW:={now:=now,servers:=servers,cap:=cap,relays:= [{above:=none,limit:=16}] }
def Ux (C:Cs):Sp:=fun vs H Q _=>∃ (p d:Addr)(sv cap now:Nat),vs= [.ref p,nV sv,nV cap,nV now] ∧H p=some (.ins C.W d [])∧sv≤4∧
 ∀ (H':Hp)(A:Ad),A.w=p→Rep C H' A [] (first sv cap now)→(∀b o,H b=some o→b≠p→H' b=some o)→(∀b,A.mut [] b→b=p∨H b=none)→Q .bX H'
def D5 (p:Addr)(H H':Hp):Prop:=∀b o,H b=some o→b≠p→H' b=some o
theorem D5.trans {p:Addr}{H H1 H2:Hp}(a:D5 p H H1)(b:D5 p H1 H2):D5 p H H2:=fun c o h n=>b c o (a c o h n) n
theorem D5.set {p:Addr}{H:Hp}{o:HO}:D5 p H (L2.upd H p o):=fun b x e n=>by
 rw [az n]
 exact e
theorem D5.same {p:Addr}{H H':Hp}(S:aj H H'):D5 p H H':=fun b o e _=>S b o e
theorem D5.none {p:Addr}{H H':Hp}(B:D5 p H H'){b:Addr}(n:b≠p)(h:H' b=none):H b=none:=by
 cases q:H b with
 |none=>rfl
 |some o=>
  rw [B b o q n] at h
  cases h
theorem YO (n:Nat):(List.replicate (n:Int).toNat [V.bl false]).flatten=(List.replicate n false).map V.bl:=by
 rw [Int.toNat_natCast,List.map_replicate]
 induction n with
 |zero=>rfl
 |succ n ih=>
  rw [List.replicate_succ,List.replicate_succ,List.flatten_cons,ih]
  rfl
theorem kK {p a:Addr}{H H':Hp}{o u v:HO}(hp:H p=some u)(ha:H a=none)(e:L2.upd (L2.upd H a o) p v=H'):D5 p H H'∧H' a=some o∧H' p=some v∧a≠p:=by
 have n:a≠p:=fun z=>by
  rw [z,hp] at ha
  cases ha
 subst e
 refine ⟨fun b x hb nb=> ?_,?_,ab,n⟩
 ·rw [az nb,az (aH hb ha)]
  exact hb
 ·rw [az n]
  exact ab
theorem Rq (T:Txt K mg t):bB P w K mg base fe 3 t.da t.jN jA (Ux (cs t)):=by
 refine T.ux.ok BM (fun vs H Q E h=> ?_) (fun d4 A0 outer s H vs Q E hr h=> ?_)
 ·obtain ⟨p,d,sv,cap,now,rfl,_⟩:=h
  rfl
 ·obtain ⟨p,d,sv,cap,now,rfl,h0,zk,k⟩:=h
  obtain ⟨Sx,Cm,Cn⟩:=T.rC
  refine ⟨_,ae (aP (pv 0) (pv 3) rfl)
   (ae (aP (pv 0) (pv 1) rfl)
   (ae (aP (pv 0) (pv 2) rfl)
   (ae (aP (pv 0) (a3 (aa (kP T.oY (Iv T) (hr.mono (by decide)) (by rfl) T.Fv T.nh .nil aU (aa eS (aa eS (aa (aD (by rfl) Cm Cn) af)))) af)) rfl)
   (ae (aP (pv 0) zJ rfl)
   (ae (aP (pv 0) OS rfl)
   (ae (aP (pv 0) (cO Wo (a3 (aa KJ af)) (pv 1)) rfl)
   (ae (aP (pv 0) zJ rfl)
   (ae (aP (pv 0) zJ rfl)
   (ak (aP (pv 0) (a3 af) rfl)))))))))),?_⟩
  refine ⟨_,rfl,_,rfl,p,_,d,_,rfl,h0,T.aw,T.bb,lt1000 rfl,_,rfl,_,rfl,p,_,d,_,rfl,ab,T.aw,T.bR,lt1000 rfl,_,rfl,_,rfl,p,_,d,_,rfl,ab,T.aw,T.gb,lt1000 rfl,?_⟩
  rw [cJ,cJ]
  generalize BB:L2.upd H p _=H1
  have B1:D5 p H H1:=BB ▸ D5.set
  have p1:H1 p=some (.ins t.a9 d [("now",nV now),("servers",nV sv),("cap",nV cap)]):=BB ▸ ab
  clear BB
  refine fun x dx hx hdx qY=>⟨x,dx,_,_,_,rfl,ab,fun H2 hx2 hk2=>⟨rfl,(by show 1≤sizeLine;decide),fun rl d3=> ?_⟩⟩
  have S2:aj H1 H2:=fun b o e=>hk2 b o (by rw [az (aH e hx),az (aH e hdx)];exact e) (aH e hx)
  clear hk2
  have p2:=S2 _ _ p1
  have x2:x≠p:=fun z=>by
   rw [z,p1] at hx
   cases hx
  refine ⟨_,rfl,p,_,d,_,rfl,(aj.ao d3) _ _ p2,T.aw,T.bE,lt1000 rfl,?_⟩
  generalize Mq:L2.upd (L2.upd H2 rl _) p _=H3
  obtain ⟨B3,r3,p3,n3⟩:=kK p2 d3 Mq
  clear Mq
  refine fun hd LP=>⟨_,rfl,p,_,d,_,rfl,(aj.ao LP) _ _ p3,T.aw,T.bV,lt1000 rfl,?_⟩
  generalize hH4:L2.upd (L2.upd H3 hd _) p _=H4
  obtain ⟨B4,r4,p4,n4⟩:=kK p3 LP hH4
  clear hH4
  refine fun cd tD=>⟨_,rfl,p,_,d,_,rfl,(aj.ao tD) _ _ p4,T.aw,T.aA,lt1000 rfl,?_⟩
  generalize hH5:L2.upd (L2.upd H4 cd _) p _=H5
  obtain ⟨B5,r5,p5,n5⟩:=kK p4 tD hH5
  clear hH5
  refine ⟨(by show 1≤sizeLine;decide),fun l0 hl0=>⟨_,rfl,l0,(sv:Int),_,rfl,rfl,ab,(by omega),(by omega),(by simp;exact Nat.le_trans zk (by decide)),fun rs VG=> ?_⟩⟩
  have S6:=aj.ao (o:=HO.lst [V.bl false]) hl0
  generalize L2.upd H5 l0 (HO.lst [V.bl false])=H6 at *
  have p6:=S6 _ _ p5
  refine ⟨_,rfl,p,_,d,_,rfl,(aj.ao VG) _ _ p6,T.aw,T.dW,lt1000 rfl,?_⟩
  generalize hH7:L2.upd (L2.upd H6 rs _) p _=H7
  obtain ⟨B7,r7,p7,n7⟩:=kK p6 VG hH7
  clear hH7
  refine fun ag Rg=>⟨_,rfl,p,_,d,_,rfl,(aj.ao Rg) _ _ p7,T.aw,T.br,lt1000 rfl,?_⟩
  generalize hH8:L2.upd (L2.upd H7 ag _) p _=H8
  obtain ⟨B8,r8,p8,n8⟩:=kK p7 Rg hH8
  clear hH8
  refine fun wr NL=>⟨_,rfl,p,_,d,_,rfl,(aj.ao NL) _ _ p8,T.aw,T.cT,lt1000 rfl,?_⟩
  generalize hH9:L2.upd (L2.upd H8 wr _) p _=H9
  obtain ⟨B9,r9,p9,n9⟩:=kK p8 NL hH9
  clear hH9
  refine ⟨(by show 0≤sizeLine;decide),fun bg ot=>⟨_,rfl,p,_,d,_,rfl,(aj.ao ot) _ _ p9,T.aw,T.bu,lt1000 rfl,?_⟩⟩
  generalize hHA:L2.upd (L2.upd H9 bg _) p _=HA
  obtain ⟨BA,rA,pA,nA⟩:=kK p9 ot hHA
  clear hHA
  have T9:=BA
  have T8:=B9.trans T9
  have T7:=B8.trans T8
  have T6:=B7.trans T7
  have T5:=(D5.same (p:=p) S6).trans T6
  have T4:=B5.trans T5
  have T3:=B4.trans T4
  have T2:=B3.trans T3
  have U1:=B1
  have U2:=U1.trans (D5.same S2)
  have U3:=U2.trans B3
  have U4:=U3.trans B4
  have U5:=U4.trans B5
  have U6:=U5.trans (D5.same S6)
  have U7:=U6.trans B7
  have U8:=U7.trans B8
  have U9:=U8.trans B9
  have er:=YO sv
  rw [er] at r7
  have rlA:=T3 _ _ r3 n3
  have hdA:=T4 _ _ r4 n4
  have cdA:=T5 _ _ r5 n5
  have rsA:=T7 _ _ r7 n7
  have agA:=T8 _ _ r8 n8
  have wrA:=T9 _ _ r9 n9
  have xA:=T2 _ _ hx2 x2
  refine k HA ⟨p,d,rl,hd,cd,rs,ag,wr,bg⟩ rfl ⟨pA,⟨[x],rlA,.cons ⟨dx,xA⟩ .nil⟩,⟨[],hdA,Nat.zero_le _,fun m=>rfl⟩,cdA,.nil,⟨List.replicate sv false,rsA,List.length_replicate,fun s' b hb=> ?_⟩,⟨[],agA,.nil⟩,wrA,⟨[],rA,.nil⟩,
   ⟨?_,?_,?_⟩,⟨?_,?_,?_⟩,List.nodup_nil,List.nodup_nil⟩ (U9.trans BA) (fun b hb=> ?_)
  ·have:=List.mem_of_getElem? hb
   have e:=(List.mem_replicate.mp this).2
   rw [e]
   rfl
  ·exact aH ((D5.same (p:=p) S6) _ _ ((B4.trans B5) _ _ r3 n3) n3) VG
  ·exact aH (((((B4.trans B5).trans (D5.same (p:=p) S6)).trans B7).trans (B8.trans B9)) _ _ r3 n3) ot
  ·exact aH ((B8.trans B9) _ _ r7 n7) ot
  ·exact aH (((B5.trans (D5.same (p:=p) S6)).trans B7) _ _ r4 n4) Rg
  ·exact aH ((((B5.trans (D5.same (p:=p) S6)).trans B7).trans B8) _ _ r4 n4) NL
  ·exact aH r8 NL
  ·rcases hb with q|q|q|q|q|q|q|q|q
   ·exact .inl q
   ·subst q
    exact .inr (U2.none n3 d3)
   ·subst q
    exact .inr (U3.none n4 LP)
   ·subst q
    exact .inr (U4.none n5 tD)
   ·subst q
    exact .inr (U6.none n7 VG)
   ·subst q
    exact .inr (U7.none n8 Rg)
   ·subst q
    exact .inr (U8.none n9 NL)
   ·subst q
    exact .inr (U9.none nA ot)
   ·cases q
end
end Rl
namespace L2
theorem LR {α:Type}(A:List α)(v:α)(C:List α){i:Int}(h:i=(A.length:Int)):GL (A ++ v::C) i=some v:=by
 subst h
 unfold GL Od
 rw [if_pos (by omega),if_pos (by rw [List.length_append,List.length_cons];omega)]
 simp
theorem Uy (A B C:List V){i j:Int}(h:i=(A.length:Int))(h':j=((A.length + B.length:Nat):Int)):sS (A ++ (B ++ C)) (some i) (some j)=B:=by
 subst h h'
 unfold sS
 rw [HT.yZ,HT.yZ]
 have e1:min A.length (A ++ (B ++ C)).length=A.length:=by rw [List.length_append];omega
 have e2:min (A.length + B.length) (A ++ (B ++ C)).length=A.length + B.length:=by rw [List.length_append,List.length_append];omega
 rw [e1,e2,List.drop_left,Nat.add_sub_cancel_left,List.take_left]
end L2
namespace Rl
open PySem PySem.Spec PyProof.Rows L2
section
variable {P:Program}{w:World}{K:PySem.W.Frag}{mg:Str→Option Value}{base:Heap}{t:jL}
def Rr (H H':Hp)(ta:Addr)(c:Int×List Int):Prop:=∃nm,H' ta=some (.tup [.int c.1,.ref nm])∧H' nm=some (.lst (c.2.map V.int))∧H nm=none
def Uz (K:PySem.W.Frag):Sp:=fun vs H Q _=>∃ (a:Addr)(cs:List (Int×List Int)),vs= [.ref a] ∧cK K H a ((enc cs).map V.int)∧cs.length≤400∧
 ∀ (H':Hp)(p:Addr)(IJ:List Addr),aj H H'→H' p=some (.lst (IJ.map V.ref))→H p=none→Paired (Rr H H') IJ cs→Q (.ref p) H'
theorem NM (pre:List (Int×List Int))(c:Int×List Int)(r:List (Int×List Int)):enc (pre ++ c::r)=enc pre ++ (c.1::(c.2.length:Int)::(c.2 ++ (0::enc r))):=by
 rw [sZ]
 show enc pre ++ (FV c ++ enc r)=_
 unfold FV
 simp
def SInv (H:Hp)(a S:Addr)(cs:List (Int×List Int)):Nat→L2.St→Hp→Prop:=fun m σ Hk=>∃ (pre post:List (Int×List Int))(IJ:List Addr)(v3:Option V),
 cs=pre ++ post∧m=post.length∧σ= [some (.ref a),some (.ref S),some (.int ((enc pre).length:Int)),v3] ∧aj H Hk∧Hk S=some (.lst (IJ.map V.ref))∧Paired (fun ta c=>Rr H Hk ta c∧∀nm,Hk ta=some (.tup [.int c.1,.ref nm])→nm≠S) IJ pre
theorem Bc (T:Txt K mg t):bB P w K mg base fe 1 t.dh t.iW iQ (Uz K):=by
 refine T.lN.ok fD (fun vs H Q E h=> ?_) (fun d4 A0 outer s H vs Q E hr h=> ?_)
 ·obtain ⟨a,cs,rfl,_⟩:=h
  rfl
 ·obtain ⟨a,cs,rfl,hS,hlen,k⟩:=h
  refine ⟨_,ae (aW (i:=1) fD.nd rfl (Or.inl rfl) (a3 af))
   (ae (aW (i:=2) fD.nd rfl (Or.inl rfl) ah)
   (ae (tG PassesOwn.never (aL lW (pv 2) (a6 aT (by rfl) T.d6 PySem.boot_len (aa (pv 0) af)) (aQ _)) (ae (aW (i:=3) fD.nd rfl (Or.inl rfl) (tL Er (pv 0) (tK (cO eB (pv 2) ah)) (tK (cO eB (cO eB (pv 2) ah) (aF aM (pv 0) (cO eB (pv 2) ah) (fun _ _=>rfl))))))
   (ae (aI (ij PySem.F.plainAttrs_list PySem.F.slot_list_append PySem.F.type_list_append lX (pv 1) (aa (bZ (aa (aF aM (pv 0) (pv 2) (fun _ _=>rfl)) (aa (pv 3) af))) af)))
   (ak (Jd (i:=2) fD.nd rfl (Or.inl rfl) (cO eB (a6 aT (by rfl) T.d6 PySem.boot_len (aa (pv 3) af)) ah) Je)))))
   (ak (aK (pv 1))))),?_⟩
  refine ⟨(by show 0≤sizeLine;decide),fun S O3=> ?_⟩
  refine ⟨SInv H a S cs,⟨cs.length,[],cs,[],none,rfl,rfl,rfl,aj.ao O3,ab,.nil⟩,?_⟩
  rintro m σ Hk ⟨pre,post,IJ,v3,Ve,hm,rfl,Sk,Og,hP⟩
  have hSa:=Sk.seq hS
  refine ⟨_,rfl,_,rfl,a,_,rfl,.inl hSa,_,_,rfl,rfl,_,rfl,?_⟩
  rw [List.length_map]
  cases post with
  |nil=>
   rw [List.append_nil] at Ve
   subst Ve
   rw [decide_eq_false (Int.lt_irrefl _)]
   refine bL ?_
   exact ⟨_,rfl,k Hk S IJ Sk Og O3 (Paired.cN hP fun a b f=>f.1)⟩
  |cons c r=>
   have hx:enc cs=enc pre ++ (c.1::(c.2.length:Int)::(c.2 ++ (0::enc r))):=by rw [Ve,NM]
   have eA:(enc pre).length < (enc cs).length:=by
    rw [hx,List.length_append,List.length_cons]
    omega
   rw [decide_eq_true (by omega)]
   refine bC ?_
   have hx1:(enc cs).map V.int=(enc pre).map V.int ++ (V.int c.1::(V.int (c.2.length:Int)::(c.2.map V.int ++ (V.int 0::(enc r).map V.int)))):=by
    rw [hx]
    simp
   have hx2:(enc cs).map V.int=((enc pre).map V.int ++ [V.int c.1]) ++ (V.int (c.2.length:Int)::(c.2.map V.int ++ (V.int 0::(enc r).map V.int))):=by
    rw [hx1]
    simp
   have YM:(enc cs).map V.int=((enc pre).map V.int ++ [V.int c.1,V.int (c.2.length:Int)]) ++ (c.2.map V.int ++ (V.int 0::(enc r).map V.int)):=by
    rw [hx1]
    simp
   refine ⟨SInv H a S cs|>fun f σ' H'=>∃m',m' < m∧f m' σ' H',fun σ' H' h=>h,?_⟩
   refine ⟨_,rfl,_,rfl,_,_,rfl,rfl,_,rfl,_,rfl,_,_,rfl,rfl,_,rfl,_,rfl,?_⟩
   refine ⟨_,_,rfl,rfl,a,_,_,V.int (c.2.length:Int),rfl,rfl,hSa,(by rw [hx2];exact LR _ _ _ (by simp)),_,_,rfl,rfl,_,rfl,a,_,rfl,hSa,fun nm qX=> ?_⟩
   rw [show sS ((enc cs).map V.int) (some (((enc pre).length:Int) + 2)) (some (((enc pre).length:Int) + 2 + (c.2.length:Int)))=c.2.map V.int from by
    rw [YM]
    exact Uy _ _ _ (by simp) (by simp)]
   have S2:=aj.ao (o:=HO.lst (c.2.map V.int)) qX
   have ago:L2.upd Hk nm (HO.lst (c.2.map V.int)) nm=some (.lst (c.2.map V.int)):=ab
   have nS:nm≠S:=dR Og qX
   generalize L2.upd Hk nm (HO.lst (c.2.map V.int))=H2 at *
   have Oe:=S2 _ _ Og
   have aqE:=S2.seq hSa
   refine ⟨_,rfl,.inl ⟨rfl,_,cK.of Oe⟩,_,rfl,_,rfl,a,_,_,V.int c.1,rfl,rfl,aqE,(by rw [hx1];exact LR _ _ _ (by simp)),_,rfl,(by show 2≤sizeLine;decide),fun z hz=> ?_⟩
   have S3:=aj.ao (o:=HO.tup [V.int c.1,.ref nm]) hz
   have YQ:L2.upd H2 z (HO.tup [V.int c.1,.ref nm]) z=some (.tup [V.int c.1,.ref nm]):=ab
   have zS:z≠S:=dR Oe hz
   generalize L2.upd H2 z (HO.tup [V.int c.1,.ref nm])=H3 at *
   have hS3:=S3 _ _ Oe
   have eD:IJ.length=pre.length:=Paired.length hP
   have agp:pre.length < 400:=by
    have:=congrArg List.length Ve
    rw [List.length_append,List.length_cons] at this
    omega
   refine ⟨S,_,_,rfl,rfl,hS3,(by rw [List.length_map,eD];exact Nat.lt_of_lt_of_le agp (by decide)),?_⟩
   have nzn:z≠nm:=dR ago hz
   have agq:L2.upd H3 S (HO.lst (IJ.map V.ref ++ [V.ref z])) nm=some (.lst (c.2.map V.int)):=by
    rw [az nS]
    exact S3 _ _ ago
   have ZC:L2.upd H3 S (HO.lst (IJ.map V.ref ++ [V.ref z])) z=some (.tup [V.int c.1,.ref nm]):=by
    rw [az zS]
    exact YQ
   have S4:aj H (L2.upd H3 S (HO.lst (IJ.map V.ref ++ [V.ref z]))):=fun b o e=>by
    rw [az (aH e O3)]
    exact S3 _ _ (S2 _ _ (Sk _ _ e))
   refine ⟨_,rfl,_,rfl,nm,_,rfl,.inl (cK.of agq),_,_,rfl,rfl,?_⟩
   refine ⟨_,_,rfl,rfl,?_⟩
   refine ⟨r.length,(by rw [hm,List.length_cons];omega),pre ++ [c],r,IJ ++ [z],some (.ref nm),(by rw [Ve,List.append_assoc];rfl),rfl,?_,S4,(by rw [List.map_append];exact ab),Paired.yD (Paired.cN hP fun a b f=> ?_) ⟨⟨nm,ZC,agq,Sk.free qX⟩,fun nm' e=> ?_⟩⟩
   ·have e:((enc pre).length:Int) + (((c.2.map V.int).length:Int) + 3)=((enc (pre ++ [c])).length:Int):=by
     rw [sZ]
     show _=((enc pre ++ (FV c ++ [])).length:Int)
     unfold FV
     simp
     omega
    rw [←e]
    rfl
   ·obtain ⟨⟨nm0,f1,f2,f3⟩,f4⟩:=f
    have up:∀b o,b≠S→Hk b=some o→L2.upd H3 S (HO.lst (IJ.map V.ref ++ [V.ref z])) b=some o:=fun b o n e=>by
     rw [az n]
     exact S3 _ _ (S2 _ _ e)
    have g1:=up _ _ (a8 f1 Og (fun q=>nomatch q)) f1
    refine ⟨⟨nm0,g1,up _ _ (f4 _ f1) f2,f3⟩,fun nm' e=> ?_⟩
    rw [g1] at e
    cases e
    exact f4 _ f1
   ·rw [ZC] at e
    cases e
    exact nS
end
section
variable {P:Program}{w:World}{K:PySem.W.Frag}{mg:Str→Option Value}{base:Heap}{t:jL}
def xi (C:Cs)(H:Hp)(A:Ad)(cas:List Addr):Option VW→V→Prop
 |none,v=>v= .bX
 |some W,v=>v= .ref A.w∧Rep C H A cas W
def Gh (A:Ad)(cas:List Addr):Option VW→Addr→Prop
 |none,_=>False
 |some _,b=>A.mut cas b
theorem xi.other {C:Cs}{H:Hp}{A:Ad}{cas:List Addr}{s:Option VW}{v:V}(h:xi C H A cas s v){F:Addr}{xs:List V}(hF:H F=some (.lst xs))(nm:¬Gh A cas s F)(o:HO):xi C (L2.upd H F o) A cas s v:=by
 cases s with
 |none=>exact h
 |some W=>exact ⟨h.1,h.2.other hF nm o⟩
def Rt (K:PySem.W.Frag)(C:Cs):Sp:=fun vs H Q _=>∃ (n:Nat)(s:Option VW)(A:Ad)(cas:List Addr)(wv:V)(p:Int)(ns:List Int)(nm:Addr),
 vs= [wv,.int p,.ref nm] ∧n < 400∧D0 n s∧xi C H A cas s wv∧H nm=some (.lst (ns.map V.int))∧¬Gh A cas s nm∧VbcnagNeutral.asked1 (lB (p,ns))=true∧
 ∀ (H':Hp)(ta ra:Addr)(wv':V)(A':Ad)(Ci:List Addr),H' ta=some (.tup [wv',.ref ra])→H' ra=some (.lst ((dk s (p,ns)).2.map V.int))→xi C H' A' Ci (dk s (p,ns)).1 wv'→(∀b o,H b=some o→¬Gh A cas s b→H' b=some o)→
  (∀b,Gh A' Ci (dk s (p,ns)).1 b→Gh A cas s b∨H b=none)→H ra=none→Q (.ref ta) H'
def VJ (K:PySem.W.Frag):Sp:=fun vs H Q _=>∃ (a:Addr)(l:List Int),vs= [.ref a] ∧cK K H a (l.map V.int)∧PyVbcnag.answers_asked l=true∧
 ∀H' p,aj H H'→H' p=some (.lst ((PyVbcnag.answers l).map V.int))→H p=none→Q (.ref p) H'
def aqF (C:Cs)(H0:Hp)(a G:Addr)(cs:List (Int×List Int)):Nat→L2.St→Hp→Prop:=fun i σ Hk=>∃ (A:Ad)(cas:List Addr)(wv:V)(v3 v4 v5:Option V),
 σ= [some (.ref a),some wv,some (.ref G),v3,v4,v5] ∧D0 i (gp none (cs.take i))∧xi C Hk A cas (gp none (cs.take i)) wv∧Hk G=some (.lst ((dO none (cs.take i)).map V.int))∧(∀b o,H0 b=some o→b≠G→Hk b=some o)∧∀b,Gh A cas (gp none (cs.take i)) b→H0 b=none
theorem Km (Gi:Txt K mg t→bB P w K mg base fe 40 t.lH t.zW zV (Rt K (cs t)))(T:Txt K mg t):bB P w K mg base fe 41 t.f7 t.kg qy (VJ K):=by
 refine T.wX.ok gD (fun vs H Q E h=> ?_) (fun d4 A0 outer s H vs Q E hr h=> ?_)
 ·obtain ⟨a,l,rfl,_⟩:=h
  rfl
 ·obtain ⟨a,l,rfl,hS,Kn,k⟩:=h
  obtain ⟨cl,hl,hlen,aqG,ags,hsz⟩:=Im Kn
  subst hl
  refine ⟨_,ae (aW (i:=1) gD.nd rfl (Or.inl rfl) eS)
   (ae (aW (i:=2) gD.nd rfl (Or.inl rfl) (a3 af))
   (ae (zw PassesOwn.never rfl (qg (aB (Bc T) (hr.mono (by decide)) (by rfl) T.rq T.lN.kp T.rB .nil aU (aa (pv 0) af))) (Jc rfl (lV (eU (i:=3) gD.nd rfl (Or.inl rfl)) (lV (eU (i:=4) gD.nd rfl (Or.inl rfl)) Ej))) (ae (aW (i:=5) gD.nd rfl (Or.inl rfl) (aB (Gi T) (hr.mono (by decide)) (by rfl) T.PH T.JY.kp T.PJ .nil aU (aa (pv 1) (aa (pv 3) (aa (pv 4) af)))))
   (ae (aW (i:=1) gD.nd rfl (Or.inl rfl) (aF bc (pv 5) ah (fun _ _=>rfl)))
   (ae (aI (ij PySem.F.plainAttrs_list PySem.F.slot_list_append PySem.F.type_list_append lX (pv 2) (aa (a6 aT (by rfl) T.d6 PySem.boot_len (aa (aF bc (pv 5) ah (fun _ _=>rfl)) af)) af)))
   (ak (aI (ij PySem.F.plainAttrs_list PySem.F.slot_list_extend PySem.F.type_list_extend lY (pv 2) (aa (aF bc (pv 5) ah (fun _ _=>rfl)) af))))))))
   (ak (aK (pv 2))))),?_⟩
  refine ⟨(by show 0≤sizeLine;decide),fun G hG=> ?_⟩
  have S1:=aj.ao (o:=HO.lst []) hG
  have G1:L2.upd H G (HO.lst []) G=some (.lst []):=ab
  generalize L2.upd H G (HO.lst [])=H1 at *
  refine ⟨_,rfl,a,cl,rfl,S1.seq hS,hlen,fun H2 p IJ S2 hp hpn hP=>⟨p,rfl,⟨_,cK.of hp⟩,?_⟩⟩
  have VH:=S1.trans S2
  have hpG:p≠G:=dR G1 hpn
  have hPl:=cU.mp hP
  refine zx (K:=K) (a:=p) (xs:=IJ.map V.ref) (aqF (cs t) H2 a G cl) ?_ (fun i σ Hk _ hk=> ?_) (fun i x σ Hk hx hk=> ?_) (fun σ Hk hk=> ?_)
  ·exact ⟨⟨p,p,p,p,p,p,p,p,p⟩,[],.bX,none,none,none,rfl,trivial,rfl,S2 _ _ G1,fun b o e _=>e,fun b h=>h.elim⟩
  ·obtain ⟨A,cas,wv,v3,v4,v5,rfl,hg,nU,VL,CU,hm⟩:=hk
   exact cK.of (CU _ _ hp hpG)
  ·obtain ⟨A,cas,wv,v3,v4,v5,rfl,hg,nU,VL,CU,hm⟩:=hk
   rw [List.getElem?_map] at hx
   obtain ⟨ta,GC,rfl⟩:∃ta,IJ[i]?=some ta∧x=V.ref ta:=by
    cases q:IJ[i]? with
    |none=>rw [q] at hx;cases hx
    |some ta=>rw [q] at hx;exact ⟨ta,rfl,(Option.some.inj hx).symm⟩
   have hil:i < cl.length:=by
    rw [←hPl.1]
    exact (List.getElem?_eq_some_iff.mp GC).1
   have hc:cl[i]?=some cl[i] :=List.getElem?_eq_getElem hil
   obtain ⟨nm,h1,h2,h3⟩:=hPl.2 i ta _ GC hc
   generalize cl[i] =c at *
   have VM:cl.take (i + 1)=cl.take i ++ [c] :=by rw [List.take_add_one,hc];rfl
   have agt:=aqG c (List.mem_of_getElem? hc)
   have n1:nm≠G:=fun q=>by
    rw [q,G1] at h3
    cases h3
   have h1k:=CU _ _ h1 (a8 h1 (S2 _ _ G1) (fun q=>nomatch q))
   have h2k:=CU _ _ h2 n1
   refine ⟨ta,_,rfl,bJ.of h1k,rfl,_,_,rfl,_,_,rfl,rfl,?_⟩
   have nmm:¬Gh A cas (gp none (cl.take i)) nm:=fun q=>by
    have:=hm _ q
    rw [h2] at this
    cases this
   have nmG:¬Gh A cas (gp none (cl.take i)) G:=fun q=>by
    have:=hm _ q
    rw [S2 _ _ G1] at this
    cases this
   refine ⟨_,rfl,_,rfl,_,rfl,i,gp none (cl.take i),A,cas,wv,c.1,c.2,nm,rfl,(by omega),hg,nU,h2k,nmm,agt,fun H' tb ra wv' A' Ci e1 e2 e3 e4 e5 e6=> ?_⟩
   have hw:(dk (gp none (cl.take i)) (c.1,c.2)).1=gp none (cl.take (i + 1)):=by
    rw [VM,vJ]
    rfl
   have ht:dO none (cl.take (i + 1))=dO none (cl.take i) ++ (((dk (gp none (cl.take i)) (c.1,c.2)).2.length:Int)::(dk (gp none (cl.take i)) (c.1,c.2)).2):=by
    rw [VM,kH]
    show _ ++ (_::(_ ++ []))=_
    rw [List.append_nil]
   have hG':=e4 _ _ VL nmG
   have nra:ra≠G:=dR VL e6
   have hG3:(dO none (cl.take (i + 1))).length≤10000000:=by
    refine Nat.le_trans ?_ hsz
    rw [ags,FW]
    have e:=congrArg List.length (show dO none cl=dO none (cl.take (i + 1)) ++ dO (gp none (cl.take (i + 1))) (cl.drop (i + 1)) by rw [←kH,List.take_append_drop])
    rw [List.length_append] at e
    show _≤(dO none cl).length
    omega
   rw [ht,List.length_append,List.length_cons] at hG3
   refine ⟨_,rfl,tb,_,_,_,rfl,rfl,bJ.of e1,rfl,?_⟩
   refine ⟨_,rfl,.inl ⟨rfl,_,cK.of hG'⟩,_,rfl,tb,_,_,_,rfl,rfl,bJ.of e1,rfl,ra,_,rfl,.inl (cK.of e2),G,_,_,rfl,rfl,hG',?_,?_⟩
   ·rw [List.length_map]
    exact Nat.lt_of_le_of_lt (show _≤10000000 by omega) (by decide)
   have e1':L2.upd H' G (HO.lst ((dO none (cl.take i)).map V.int ++ [V.int (((dk (gp none (cl.take i)) (c.1,c.2)).2.map V.int).length:Int)])) tb=some (.tup [wv',.ref ra]):=by
    rw [az (a8 e1 hG' (fun q=>nomatch q))]
    exact e1
   have e2':L2.upd H' G (HO.lst ((dO none (cl.take i)).map V.int ++ [V.int (((dk (gp none (cl.take i)) (c.1,c.2)).2.map V.int).length:Int)])) ra=some (.lst ((dk (gp none (cl.take i)) (c.1,c.2)).2.map V.int)):=by
    rw [az nra]
    exact e2
   refine ⟨_,rfl,.inl ⟨rfl,_,cK.of ab⟩,_,rfl,tb,_,_,_,rfl,rfl,bJ.of e1',rfl,G,ra,_,_,rfl,rfl,ab,e2',?_,?_⟩
   ·simp only [List.length_append,List.length_map,List.length_cons,List.length_nil]
    exact Nat.le_trans (show _≤10000000 by omega) (by decide)
   rw [cJ]
   refine ⟨A',Ci,wv',some (.int c.1),some (.ref nm),some (.ref tb),rfl,?_,?_,?_,fun b o e n=> ?_,fun b hb=> ?_⟩
   ·rw [←hw]
    exact Nu hg _
   ·rw [←hw]
    have nG':¬Gh A' Ci (dk (gp none (cl.take i)) (c.1,c.2)).1 G:=fun q=>by
     rcases e5 G q with z|z
     ·exact nmG z
     ·rw [VL] at z
      cases z
    exact xi.other e3 hG' nG' _
   ·rw [ab,ht,List.map_append,List.append_assoc,List.length_map]
    rfl
   ·rw [az n]
    exact e4 _ _ (CU _ _ e n) fun q=>by
     have:=hm _ q
     rw [e] at this
     cases this
   ·rw [←hw] at hb
    rcases e5 b hb with q|q
    ·exact hm _ q
    ·cases z:H2 b with
     |none=>rfl
     |some o=>
      by_cases bG:b=G
      ·rw [bG,VL] at q
       cases q
      ·rw [CU _ _ z bG] at q
       cases q
  ·obtain ⟨A,cas,wv,v3,v4,v5,rfl,hg,nU,VL,CU,hm⟩:=hk
   rw [List.length_map,hPl.1,List.take_length] at VL
   refine ⟨_,rfl,k Hk G (fun b o e=>CU b o (VH _ _ e) (aH e hG)) ?_ hG⟩
   rw [VL,ags,FW]
   rfl
end
section
variable {P:Program}{w:World}{K:PySem.W.Frag}{mg:Str→Option Value}{base:Heap}{t:jL}
theorem Gj (T:Txt K mg t)(s:Shared)(us:List Value)(hu:us.length=(["calls"] :List Str).length):BindsTo s t.kg ⟨us,[]⟩ ((["calls"] :List Str).zip us):=by
 obtain ⟨oc,od,kV,doc,pm,an,d4,ct,SR,h1,h2⟩:=T.wX.ex
 rw [h1]
 exact match us,hu with| [_],_=> .of_eq rfl
end
end Rl
namespace Rl
open PySem PySem.Spec PyProof.Rows L2
open Vbcnag (Mark Msg Under Offer Lease Client Relay Assigned Written)
theorem lD {a b:Nat}:decide (nV a=nV b)=decide (a=b):=by
 by_cases h:a=b
 ·rw [h,decide_eq_true rfl,decide_eq_true rfl]
 ·rw [decide_eq_false h,decide_eq_false (fun q=>h (by injection q with q;omega))]
section
variable {P:Program}{w:World}{K:PySem.W.Frag}{mg:Str→Option Value}{base:Heap}{t:jL}
def ie (s:Nat)(u:Under):Offer:={server:=s,addr:=u.msg.addr,len:=u.msg.len}
def Ru (C:Cs):Sp:=fun vs H Q _=>∃ (m:Addr)(u:Under)(o:Option Offer)(bv:V)(s:Nat),vs= [.ref m,bv] ∧gN C H m u∧Nv H o bv∧u.msg.server=some s∧Q (.bl (Vbcnag.better (ie s u) o)) H
theorem Gk (T:Txt K mg t):bB P w K mg base fe 1 t.ef t.lh kU (Ru (cs t)):=by
 refine T.o6.ok E2 (fun vs H Q E h=> ?_) (fun d4 A0 outer s H vs Q E hr h=> ?_)
 ·obtain ⟨m,u,o,bv,sv,rfl,_⟩:=h
  rfl
 ·obtain ⟨m,u,o,bv,sv,rfl,⟨dm,pp,mm,xs,hM,hp,hm,xj⟩,hof,zk,k⟩:=h
  rw [zk] at hM
  refine ⟨_,ae (bp (cq (gR (pv 1))) (ak (aK KJ)) aV)
   (ae (bp (aL cV (ai (pv 0) rfl) (aF bc (pv 1) ah (fun _ _=>rfl)) (aQ _)) (ak (aK (jy lW (ai (pv 0) rfl) (aF bc (pv 1) ah (fun _ _=>rfl)) (aQ _)))) aV)
   (ak (aK (jy tI (ai (pv 0) rfl) (aF bc (pv 1) ah (fun _ _=>rfl)) (aQ _))))),?_⟩
  cases o with
  |none=>
   have e:bv= .bX:=hof
   subst e
   exact ⟨_,rfl,_,rfl,bC k⟩
  |some o=>
   obtain ⟨b,rfl,hb⟩:=hof
   refine ⟨_,rfl,_,rfl,bL ?_⟩
   refine ⟨_,rfl,m,_,dm,_,_,rfl,hM,T.au,T.bq,rfl,_,rfl,b,_,_,_,rfl,rfl,bJ.of hb,rfl,rfl,_,rfl,?_⟩
   refine eQ (fun q=> ?_) fun q=> ?_
   ·have h1:u.msg.len=o.len:=bT.mp q
    refine ⟨_,rfl,m,_,dm,_,_,rfl,hM,T.au,T.ba,rfl,_,rfl,b,_,_,_,rfl,rfl,bJ.of hb,rfl,_,_,rfl,rfl,?_⟩
    have e:Vbcnag.better (ie sv u) (some o)=decide ((sv:Int) < (o.server:Int)):=by
     unfold Vbcnag.better ie
     dsimp only
     rw [h1,decide_eq_false (Nat.lt_irrefl _),beq_self_eq_true,Bool.false_or,Bool.true_and]
     exact decide_eq_decide.mpr (by omega)
    rw [e] at k
    exact k
   ·have h1:¬u.msg.len=o.len:=fun z=>q (bT.mpr z)
    refine ⟨_,rfl,m,_,dm,_,_,rfl,hM,T.au,T.bq,rfl,_,rfl,b,_,_,_,rfl,rfl,bJ.of hb,rfl,_,_,rfl,rfl,?_⟩
    have e:Vbcnag.better (ie sv u) (some o)=decide ((o.len:Int) < (u.msg.len:Int)):=by
     unfold Vbcnag.better ie
     dsimp only
     rw [beq_eq_false_iff_ne.mpr h1,Bool.false_and,Bool.or_false]
     exact decide_eq_decide.mpr (by omega)
    rw [e] at k
    exact k
def dY (s:Nat)(u:Under)(c:Client):Client:=if c.phase=1∧Vbcnag.better (ie s u) c.best=true then {c with best:=some (ie s u)} else c
def UA (C:Cs):Sp:=fun vs H Q _=>∃ (A:Ad)(cas:List Addr)(W:VW)(i:Nat)(ca:Addr)(c:Client)(m:Addr)(u:Under)(s:Nat),vs= [.ref ca,.ref m] ∧Rep C H A cas W∧cas[i]?=some ca∧W.clients[i]?=some c∧gN C H m u∧u.msg.server=some s∧
 ∀H',Rep C H' A cas {W with clients:=W.clients.set i (dY s u c)}→ez A cas H H'→Q .bX H'
theorem Bd {α:Type}:∀ {l:List α}{i:Nat}{c:α},l[i]?=some c→l.set i c=l
 | [],_,_,h=>by simp at h
 |x::l,0,c,h=>by
  have e:x=c:=Option.some.inj h
  rw [e]
  rfl
 |x::l,i + 1,c,h=>by
  have hh:l[i]?=some c:=h
  show x::l.set i c=x::l
  rw [Bd hh]
theorem Co (T:Txt K mg t):bB P w K mg base fe 2 t.dF t.jQ jC (UA (cs t)):=by
 refine T.nj.ok BP (fun vs H Q E h=> ?_) (fun d4 A0 outer s H vs Q E hr h=> ?_)
 ·obtain ⟨A,cas,W,i,ca,c,m,u,sv,rfl,_⟩:=h
  rfl
 ·obtain ⟨A,cas,W,i,ca,c,m,u,sv,rfl,R,hi,hc,MA,zk,k⟩:=h
  have CK:=fH T
  obtain ⟨d,pl,be,le,dA,d3⟩:=R.gO hc hi
  have same:dY sv u c=c→Q .bX H:=fun e=>k H (by rw [e,Bd hc];exact R) ez.refl
  obtain ⟨Um,F0,F8⟩:=T.zg
  refine ⟨_,ak (bp (PW.pt (ip (aL cV (ai (pv 0) rfl) (aD (by rfl) F0 F8) (aQ _)) (fJ (oy (aB (Gk T) (hr.mono (by decide)) (by rfl) T.xF T.o6.kp T.xG .nil aU (aa (pv 1) (aa (ai (pv 0) rfl) af))))))) (ak (aP (pv 0) (bZ (aa (ai (pv 1) rfl) (aa (ai (pv 1) rfl) (aa (ai (pv 1) rfl) af)))) rfl)) aV),?_⟩
  refine ⟨_,rfl,ca,_,d,_,_,rfl,dA,T.aq,T.aJ,rfl,rfl,_,rfl,?_⟩
  refine eQ (fun q=> ?_) fun q=> ?_
  ·have h1:c.phase=1:=bT (b:=1)|>.mp q
   refine ⟨_,rfl,_,rfl,ca,_,d,_,_,rfl,dA,T.aq,T.bj,rfl,m,u,c.best,be,sv,rfl,MA,d3.be,zk,?_⟩
   refine ⟨_,rfl,?_⟩
   refine eQ (fun q2=> ?_) fun q2=> ?_
   ·have UB:Vbcnag.better (ie sv u) c.best=true:=q2
    obtain ⟨dm,pp,mm,xs,hM,hp,hm,xj⟩:=MA
    rw [zk] at hM
    refine ⟨_,rfl,m,_,dm,_,_,rfl,hM,T.au,T.ba,rfl,_,rfl,m,_,dm,_,_,rfl,hM,T.au,T.bh,rfl,_,rfl,m,_,dm,_,_,rfl,hM,T.au,T.bq,rfl,(by show 3≤sizeLine;decide),fun b hb=> ?_⟩
    have S1:=aj.ao (o:=HO.tup [nV sv,nV u.msg.addr,nV u.msg.len]) hb
    have QY:L2.upd H b (HO.tup [nV sv,nV u.msg.addr,nV u.msg.len]) b=some (HO.tup [nV sv,nV u.msg.addr,nV u.msg.len]):=ab
    have Gm:=S1 _ _ dA
    refine ⟨_,rfl,ca,_,d,_,rfl,Gm,T.aq,T.bj,lt1000 rfl,?_⟩
    have e:dY sv u c={c with best:=some (ie sv u)}:=if_pos ⟨h1,UB⟩
    rw [e] at k
    refine k _ ((R.same S1).setC CK (c':={c with best:=some (ie sv u)}) hi hc rfl Gm ⟨d3.pl.keep (aj.keep (C:=cs t) S1),⟨b,rfl,QY⟩,d3.le.keep (aj.keep (C:=cs t) S1)⟩) ((aj.ek S1).trans (ez.upd (Ad.il hi)))
   ·exact same (if_neg fun z=>q2 z.2)
  ·have h1:¬c.phase=1:=fun z=>q (bT (b:=1)|>.mpr z)
   exact same (if_neg fun z=>h1 z.1)
end
theorem LS (n:Nat)(l:List Nat):SX (nV n) (l.map nV)=decide (n∈l):=by
 induction l with
 |nil=>rfl
 |cons a l ih=>
  have e:SX (nV n) ((a::l).map nV)=(((a:Int)==(n:Int))||SX (nV n) (l.map nV)):=rfl
  rw [e,ih]
  by_cases h:n=a
  ·subst h
   rw [beq_self_eq_true,Bool.true_or,decide_eq_true (List.mem_cons_self ..)]
  ·rw [beq_eq_false_iff_ne.mpr (fun q=>h (by omega)),Bool.false_or]
   exact decide_eq_decide.mpr ⟨fun q=>List.mem_cons_of_mem _ q,fun q=>(List.mem_cons.mp q).resolve_left h⟩
theorem Rv {W:VW}{i:Nat}{c c':Client}{y:Vbcnag.Done}(nd:(W.clients.map (·.host)).Nodup)(hc:W.clients[i]?=some c)(h1:c'.host=c.host)(h2:y.1.host=c.host):Vbcnag.done {W with clients:=W.clients.set i c'} y=Vbcnag.done W y:=by
 rw [qK nd hc h2,qK (W:={W with clients:=W.clients.set i c'}) (c:=c') (by show ((W.clients.set i c').map (·.host)).Nodup;rw [kl hc h1];exact nd) (ju hc) (by rw [h2,h1])]
 show ({W with clients:=(W.clients.set i c').set i y.1,bag:=_}:VW)=_
 rw [List.set_set]
theorem D6 {W:VW}{i:Nat}{c:Client}(nd:(W.clients.map (·.host)).Nodup)(hc:W.clients[i]?=some c):Vbcnag.done W (c,[])=W:=by
 rw [qK nd hc rfl,Bd hc]
 have e0:Vbcnag.outOf c [] = [] :=by
  unfold Vbcnag.outOf
  split <;>rfl
 show ({W with clients:=W.clients,bag:=W.bag ++ (Vbcnag.outOf c []).take _}:VW)=W
 rw [e0,List.take_nil,List.append_nil]
section
variable {P:Program}{w:World}{K:PySem.W.Frag}{mg:Str→Option Value}{base:Heap}{t:jL}
def agu (C:Cs):Sp:=fun vs H Q _=>∃ (ca:Addr)(c:Client)(m:Addr)(u:Under)(s:Nat),vs= [.ref ca,.ref m] ∧eO C H ca c∧vK c∧gN C H m u∧u.msg.server=some s∧
 ∀H',aj H H'→Q (.bl (Vbcnag.wanted c s u.msg.addr)) H'
theorem Cp (T:Txt K mg t):bB P w K mg base fe 1 t.dG t.jR jD (agu (cs t)):=by
 refine T.nk.ok BQ (fun vs H Q E h=> ?_) (fun d4 A0 outer s H vs Q E hr h=> ?_)
 ·obtain ⟨ca,c,m,u,sv,rfl,_⟩:=h
  rfl
 ·obtain ⟨ca,c,m,u,sv,rfl,⟨d,pl,be,le,dA,d3⟩,cg,⟨dm,pp,mm,xs,hM,hp,hm,xj⟩,zk,k⟩:=h
  rw [zk] at hM
  obtain ⟨vX,ib,ic⟩:=T.hZ
  obtain ⟨Ko,tf,tj⟩:=T.nH
  obtain ⟨Rw,Be,Bf⟩:=T.uR
  obtain ⟨Q6,A2,A3⟩:=T.Al
  refine ⟨_,ae (bp (aL cV (ai (pv 0) rfl) (aD (by rfl) A2 A3) (aQ _)) (ak (aK (Ov (jy cV (ai (pv 1) rfl) (aF bc (ai (pv 0) rfl) ah (fun _ _=>rfl)) (aQ _)) (Ou (jy cV (ai (pv 1) rfl) (aF bc (ai (pv 0) rfl) ah (fun _ _=>rfl)) (aQ _)))))) aV)
   (ak (aK (Ov (jy CP (ai (pv 0) rfl) (bZ (aa (aD (by rfl) Be Bf) (aa (aD (by rfl) tf tj) (aa (aD (by rfl) ib ic) af)))) (by with_unfolding_all rfl)) (Ou (jy cV (ai (pv 1) rfl) (aF bc (ai (pv 0) rfl) ah (fun _ _=>rfl)) (aQ _)))))),?_⟩
  refine ⟨_,rfl,ca,_,d,_,_,rfl,dA,T.aq,T.aJ,rfl,rfl,_,rfl,?_⟩
  refine eQ (fun q=> ?_) fun q=> ?_
  ·have h1:c.phase=2:=bT (b:=2)|>.mp q
   obtain ⟨o,ho⟩:=Option.isSome_iff_exists.mp (cg.ask h1)
   have Gz:=d3.be
   rw [ho] at Gz
   obtain ⟨b,e,hb⟩:=Gz
   subst e
   have hw:Vbcnag.wanted c sv u.msg.addr=(decide (nV sv=nV o.server) && decide (nV u.msg.addr=nV o.addr)):=by
    unfold Vbcnag.wanted
    rw [if_pos h1,ho,lD,lD]
    show (o.server==sv && o.addr==u.msg.addr)=_
    rw [Bool.eq_iff_iff]
    simp only [Bool.and_eq_true,beq_iff_eq,decide_eq_true_eq]
    constructor <;>rintro ⟨h1,h2⟩ <;>exact ⟨h1.symm,h2.symm⟩
   rw [hw] at k
   refine ⟨_,rfl,m,_,dm,_,_,rfl,hM,T.au,T.ba,rfl,_,rfl,ca,_,d,_,_,rfl,dA,T.aq,T.bj,rfl,b,_,_,_,rfl,rfl,bJ.of hb,rfl,rfl,_,rfl,?_⟩
   refine eQ (fun q2=> ?_) fun q2=> ?_
   ·have UB:decide (nV sv=nV o.server)=true:=q2
    rw [UB,Bool.true_and] at k
    refine ⟨_,rfl,m,_,dm,_,_,rfl,hM,T.au,T.bh,rfl,_,rfl,ca,_,d,_,_,rfl,dA,T.aq,T.bj,rfl,b,_,_,_,rfl,rfl,bJ.of hb,rfl,rfl,?_⟩
    exact k H (aj.refl H)
   ·have UB:decide (nV sv=nV o.server)=false:=Bool.eq_false_iff.mpr q2
    rw [UB,Bool.false_and] at k
    exact k H (aj.refl H)
  ·have h1:¬c.phase=2:=fun z=>q (bT (b:=2)|>.mpr z)
   refine ⟨_,rfl,ca,_,d,_,_,rfl,dA,T.aq,T.aJ,rfl,(by show 3≤sizeLine;decide),fun q3 Sw=> ?_⟩
   have S1:=aj.ao (o:=HO.tup [V.int 4,V.int 5,V.int 6]) Sw
   have h3:L2.upd H q3 (HO.tup [V.int 4,V.int 5,V.int 6]) q3=some (.tup [V.int 4,V.int 5,V.int 6]):=ab
   generalize L2.upd H q3 (HO.tup [V.int 4,V.int 5,V.int 6])=H1 at *
   refine ⟨q3,_,rfl,.inr (bJ.of h3),rfl,rfl,_,rfl,?_⟩
   have Zp:SX (nV c.phase) [V.int 4,V.int 5,V.int 6] =decide (c.phase∈ [4,5,6]):=LS c.phase [4,5,6]
   show if SX (nV c.phase) [V.int 4,V.int 5,V.int 6] =true then _ else _
   rw [Zp]
   refine eQ (fun q2=> ?_) fun q2=> ?_
   ·have YR:c.phase=4∨c.phase=5∨c.phase=6:=by simpa using q2
    obtain ⟨l,hl⟩:=Option.isSome_iff_exists.mp (cg.held (by omega))
    have hle:=d3.le
    rw [hl] at hle
    obtain ⟨b,e,hb⟩:=hle
    subst e
    have hw:Vbcnag.wanted c sv u.msg.addr=decide (nV u.msg.addr=nV l.addr):=by
     unfold Vbcnag.wanted
     rw [if_neg h1,if_pos YR,hl,lD]
     show (l.addr==u.msg.addr)=_
     rw [Bool.eq_iff_iff]
     simp only [beq_iff_eq,decide_eq_true_eq]
     exact eq_comm
    rw [hw] at k
    refine ⟨_,rfl,m,_,dm,_,_,rfl,S1 _ _ hM,T.au,T.bh,rfl,_,rfl,ca,_,d,_,_,rfl,S1 _ _ dA,T.aq,T.aO,rfl,b,_,_,_,rfl,rfl,bJ.of (S1 _ _ hb),rfl,rfl,?_⟩
    exact k H1 S1
   ·have YR:¬ (c.phase=4∨c.phase=5∨c.phase=6):=fun z=>q2 (by simpa using z)
    have hw:Vbcnag.wanted c sv u.msg.addr=false:=by
     unfold Vbcnag.wanted
     rw [if_neg h1,if_neg YR]
    rw [hw] at k
    exact k H1 S1
def fc (s:Nat)(u:Under)(c:Client):Lease:={server:=s,addr:=u.msg.addr,half:=c.sent + u.msg.len / 2,late:=c.sent + u.msg.len * 7 / 8,till:=c.sent + u.msg.len}
def kL (now s:Nat)(u:Under)(c:Client):Vbcnag.Done:=if Vbcnag.wanted c s u.msg.addr=true∧now < c.sent + u.msg.len then Vbcnag.settle now (fc s u c) {c with best:=none,lease:=some (fc s u c)} else (c,[])
def Gn (f:Nat→Under→Client→Vbcnag.Done)(p:Under→Prop)(C:Cs):Sp:=fun vs H Q _=>∃ (A:Ad)(cas:List Addr)(W:VW)(i:Nat)(ca:Addr)(c:Client)(m:Addr)(u:Under),vs= [.ref A.w,.ref ca,.ref m] ∧Rep C H A cas W∧W.bag.length≤10000∧cas[i]?=some ca∧W.clients[i]?=some c∧vK c∧gN C H m u∧p u∧
 ∀H',Rep C H' A cas (Vbcnag.done W (f W.now u c))→ez A cas H H'→Q .bX H'
theorem qa (T:Txt K mg t)(sv:Nat):bB P w K mg base fe 6 t.eC t.kE kx (Gn (fun now u c=>kL now sv u c) (fun u=>u.msg.server=some sv) (cs t)):=by
 refine T.sV.ok kX (fun vs H Q E h=> ?_) (fun d4 A0 outer s H vs Q E hr h=> ?_)
 ·obtain ⟨A,cas,W,i,ca,c,m,u,rfl,_⟩:=h
  rfl
 ·obtain ⟨A,cas,W,i,ca,c,m,u,rfl,R,ot,hi,hc,cg,MA,zk,k⟩:=h
  have CK:=fH T
  have CA:=R.gO hc hi
  obtain ⟨d,pl,be,le,dA,d3⟩:=id CA
  obtain ⟨dm,pp,mm,xs,hM,hp,hm,xj⟩:=id MA
  rw [zk] at hM
  have same:∀H1,aj H H1→kL W.now sv u c=(c,[])→Q .bX H1:=fun H1 S e=>k H1 (by show Rep _ _ _ _ (Vbcnag.done W (kL W.now sv u c));rw [e,D6 R.hn hc];exact R.same S) (aj.ek S)
  refine ⟨_,ae (aW (i:=3) kX.nd rfl (Or.inl rfl) (cO eB (ai (pv 1) rfl) (ai (pv 2) rfl)))
   (ak (bp (PW.pt (ip (oy (aB (Cp T) (hr.mono (by decide)) (by rfl) T.uF T.nk.kp T.uG .nil aU (aa (pv 1) (aa (pv 2) af)))) (fJ (aL tI (pv 3) (ai (pv 0) rfl) (aQ _))))) (ae (aW (i:=4) kX.nd rfl (Or.inl rfl) (cO eB (ai (pv 1) rfl) (cO Ek (ai (pv 2) rfl) ah)))
   (ae (aW (i:=5) kX.nd rfl (Or.inl rfl) (cO eB (ai (pv 1) rfl) (cO Ek (cO V9 (ai (pv 2) rfl) ah) ah)))
   (ae (aP (pv 1) eS rfl)
   (ae (aP (pv 1) (bZ (aa (ai (pv 2) rfl) (aa (ai (pv 2) rfl) (aa (pv 4) (aa (pv 5) (aa (pv 3) af)))))) rfl)
   (ak (aI (aB (D1 T) (hr.mono (by decide)) (by rfl) T.z0 T.uA.kp T.z6 .nil aU (aa (pv 0) (aa (pv 1) af))))))))) aV)),?_⟩
  refine ⟨_,rfl,ca,_,d,_,_,rfl,dA,T.aq,T.cw,rfl,_,rfl,m,_,dm,_,_,rfl,hM,T.au,T.bq,rfl,_,_,rfl,rfl,?_⟩
  refine ⟨_,rfl,_,rfl,ca,c,m,u,sv,rfl,CA,cg,MA,zk,fun H1 S1=> ?_⟩
  refine ⟨_,rfl,?_⟩
  refine eQ (fun q=> ?_) fun q=> ?_
  ·have q':Vbcnag.wanted c sv u.msg.addr=true:=q
   refine ⟨_,rfl,_,rfl,A.w,_,_,_,_,rfl,S1 _ _ R.cW,T.aw,T.bb,rfl,_,_,rfl,rfl,_,rfl,?_⟩
   refine eQ (fun q2=> ?_) fun q2=> ?_
   ·have UB:W.now < c.sent + u.msg.len:=by
     have:=of_decide_eq_true q2
     omega
    have Gm:=S1 _ _ dA
    have ow:=S1 _ _ hM
    have R1:=R.same S1
    have e0:kL W.now sv u c=Vbcnag.settle W.now (fc sv u c) {c with best:=none,lease:=some (fc sv u c)}:=if_pos ⟨q',UB⟩
    refine ⟨_,rfl,ca,_,d,_,_,rfl,Gm,T.aq,T.cw,rfl,_,rfl,m,_,dm,_,_,rfl,ow,T.au,T.bq,rfl,_,_,rfl,rfl,⟨by decide,by decide⟩,_,_,rfl,rfl,?_⟩
    refine ⟨_,rfl,ca,_,d,_,_,rfl,Gm,T.aq,T.cw,rfl,_,rfl,m,_,dm,_,_,rfl,ow,T.au,T.bq,rfl,_,_,rfl,rfl,.inr ⟨by decide,by decide⟩,_,_,rfl,rfl,⟨by decide,by decide⟩,_,_,rfl,rfl,?_⟩
    refine ⟨_,rfl,ca,_,d,_,rfl,Gm,T.aq,T.bj,lt1000 rfl,?_⟩
    have nm:m≠ca:=a8 ow Gm (fun z=>CK.cm (by injection z with z;exact z.symm))
    generalize Cq:L2.upd H1 ca _=H2
    have Uq:L2.upd H1 ca (.ins (cs t).C d (tw {c with best:=none} pl .bX le))=H2:=Cq
    have Sy:=(az (o:=HO.ins (cs t).C d (tw {c with best:=none} pl .bX le)) nm).trans ow
    have w9:L2.upd H1 ca (.ins (cs t).C d (tw {c with best:=none} pl .bX le)) ca=some (.ins (cs t).C d (tw {c with best:=none} pl .bX le)):=ab
    have R2:=R1.setC CK (c':={c with best:=none}) hi hc rfl Gm ⟨d3.pl.keep (aj.keep (C:=cs t) S1),rfl,d3.le.keep (aj.keep (C:=cs t) S1)⟩
    have F2:ez A cas H (L2.upd H1 ca (.ins (cs t).C d (tw {c with best:=none} pl .bX le))):=(aj.ek S1).trans (ez.upd (Ad.il hi))
    have nf:¬Fix (cs t) (.ins (cs t).C d (tw c pl be le)):=fun z=>by
     rcases z with z|z
     ·exact CK.cr z
     ·exact CK.cm z
    have aqI:Ir H2 c.place pl:=by
     rw [←Uq]
     exact (d3.pl.keep (aj.keep (C:=cs t) S1)).keep (dZ.upd Gm nf)
    rw [Uq] at Sy w9 R2 F2
    clear Uq Cq
    refine ⟨_,rfl,m,_,dm,_,_,rfl,Sy,T.au,T.ba,rfl,_,rfl,m,_,dm,_,_,rfl,Sy,T.au,T.bh,rfl,_,rfl,_,rfl,_,rfl,(by show 5≤sizeLine;decide),fun b hb=> ?_⟩
    have eH:(c.sent:Int) + (u.msg.len:Int) / 2=((c.sent + u.msg.len / 2:Nat):Int):=by omega
    have eL:(c.sent:Int) + (u.msg.len:Int) * 7 / 8=((c.sent + u.msg.len * 7 / 8:Nat):Int):=by omega
    have eT:(c.sent:Int) + (u.msg.len:Int)=((c.sent + u.msg.len:Nat):Int):=by omega
    generalize Cr:L2.upd H2 b _=H3
    have Mq:L2.upd H2 b (HO.tup [nV sv,nV u.msg.addr,nV (c.sent + u.msg.len / 2),nV (c.sent + u.msg.len * 7 / 8),nV (c.sent + u.msg.len)])=H3:=by
     rw [←Cr]
     show L2.upd H2 b (HO.tup [V.int sv,V.int u.msg.addr,V.int ((c.sent + u.msg.len / 2:Nat):Int),V.int ((c.sent + u.msg.len * 7 / 8:Nat):Int),V.int ((c.sent + u.msg.len:Nat):Int)])=_
     rw [←eH,←eL,←eT]
     rfl
    have S3:aj H2 H3:=by rw [←Mq];exact aj.ao hb
    have hb3:H3 b=some (HO.tup [nV sv,nV u.msg.addr,nV (c.sent + u.msg.len / 2),nV (c.sent + u.msg.len * 7 / 8),nV (c.sent + u.msg.len)]):=by rw [←Mq];exact ab
    clear Mq Cr
    have agv:=S3 _ _ w9
    refine ⟨_,rfl,ca,_,d,_,rfl,agv,T.aq,T.aO,lt1000 rfl,?_⟩
    have R3:=(R2.same S3).setC CK (c':={c with best:=none,lease:=some (fc sv u c)}) hi (ju hc) rfl agv ⟨aqI.keep (aj.keep (C:=cs t) S3),rfl,⟨b,rfl,hb3⟩⟩
    have R4:Rep (cs t) (L2.upd H3 ca (.ins (cs t).C d (tw {c with best:=none,lease:=some (fc sv u c)} pl .bX (.ref b)))) A cas {W with clients:=W.clients.set i {c with best:=none,lease:=some (fc sv u c)} }:=by
     have e:(W.clients.set i {c with best:=none}).set i {c with best:=none,lease:=some (fc sv u c)}=W.clients.set i {c with best:=none,lease:=some (fc sv u c)}:=List.set_set ..
     rw [←e]
     exact R3
    refine ⟨_,rfl,_,rfl,A,cas,{W with clients:=W.clients.set i {c with best:=none,lease:=some (fc sv u c)} },i,ca,{c with best:=none,lease:=some (fc sv u c)},fc sv u c,rfl,R4,ot,hi,ju hc,rfl,fun H5 R5 F5=> ?_⟩
    refine k H5 ?_ (((F2.trans (aj.ek S3)).trans (ez.upd (Ad.il hi))).trans F5)
    show Rep _ _ _ _ (Vbcnag.done W (kL W.now sv u c))
    rw [e0,←Rv (c':={c with best:=none,lease:=some (fc sv u c)}) R.hn hc rfl (nI W.now (fc sv u c) (c:={c with best:=none,lease:=some (fc sv u c)}) rfl).1.host]
    exact R5
   ·have UB:¬W.now < c.sent + u.msg.len:=fun z=>q2 (decide_eq_true (by omega))
    exact same H1 S1 (if_neg fun z=>UB z.2)
  ·exact same H1 S1 (if_neg fun z=>q z.1)
end
theorem IK {now:Nat}{c:Client}{m:Msg}(h:c.phase=0∨m.number≠c.number):Vbcnag.hears now c m=(c,[]):=if_pos h
theorem UC {now s:Nat}{c:Client}{u:Under}(h:¬ (c.phase=0∨u.msg.number≠c.number))(hk:u.msg.kind=2)(hs:u.msg.server=some s):Vbcnag.hears now c u.msg=(dY s u c,[]):=by
 unfold Vbcnag.hears
 rw [if_neg h,hk,hs]
 unfold dY
 show (if c.phase=1∧Vbcnag.better (ie s u) c.best=true then _ else _)=_
 split <;>rfl
theorem UD {now s:Nat}{c:Client}{u:Under}(h:¬ (c.phase=0∨u.msg.number≠c.number))(hk:u.msg.kind=4)(hs:u.msg.server=some s):Vbcnag.hears now c u.msg=kL now s u c:=by
 unfold Vbcnag.hears
 rw [if_neg h,hk,hs]
 rfl
theorem LU {now:Nat}{c:Client}{m:Msg}(h:¬ (c.phase=0∨m.number≠c.number))(hk:m.kind=5):Vbcnag.hears now c m=if c.phase=2∨c.phase=4∨c.phase=5∨c.phase=6 then Vbcnag.seek now 0 c else (c,[]):=by
 unfold Vbcnag.hears
 rw [if_neg h,hk]
 cases m.server <;>rfl
theorem Kp {now:Nat}{c:Client}{m:Msg}(h2:m.kind≠2)(h4:m.kind≠4)(h5:m.kind≠5):Vbcnag.hears now c m=(c,[]):=by
 unfold Vbcnag.hears
 split
 ·rfl
 ·split
  ·rename_i e _
   exact absurd e h2
  ·rename_i e _
   exact absurd e h4
  ·rename_i e
   exact absurd e h5
  ·rfl
section
variable {P:Program}{w:World}{K:PySem.W.Frag}{mg:Str→Option Value}{base:Heap}{t:jL}
theorem UE (T:Txt K mg t):bB P w K mg base fe 7 t.mX t.Fn EZ (Gn (fun now u c=>Vbcnag.hears now c u.msg) (fun u=>u.msg.server.isSome=true) (cs t)):=by
 refine T.JP.ok TB (fun vs H Q E h=> ?_) (fun d4 A0 outer s H vs Q E hr h=> ?_)
 ·obtain ⟨A,cas,W,i,ca,c,m,u,rfl,_⟩:=h
  rfl
 ·obtain ⟨A,cas,W,i,ca,c,m,u,rfl,R,ot,hi,hc,cg,MA,zk,k⟩:=h
  obtain ⟨sv,zk⟩:=Option.isSome_iff_exists.mp zk
  have CK:=fH T
  obtain ⟨d,pl,be,le,dA,d3⟩:=R.gO hc hi
  obtain ⟨dm,pp,mm,xs,hM,hp,hm,xj⟩:=id MA
  have qa:∀T:Txt K mg t,bB P w K mg base fe 6 t.eC t.kE kx (Gn (fun now u c=>kL now sv u c) (fun u=>u.msg.server=some sv) (cs t)):=fun T=>qa T sv
  have same:∀H1,aj H H1→Vbcnag.hears W.now c u.msg=(c,[])→Q .bX H1:=fun H1 S e=>k H1 (by show Rep _ _ _ _ (Vbcnag.done W (Vbcnag.hears W.now c u.msg));rw [e,D6 R.hn hc];exact R.same S) (aj.ek S)
  have Rx:Vbcnag.hears W.now c u.msg=(c,[])→Q .bX H:=same H (aj.refl H)
  obtain ⟨UG,Gp,Gq⟩:=T.FD
  obtain ⟨agw,Ry,Rz⟩:=T.PN
  obtain ⟨vX,ib,ic⟩:=T.hZ
  obtain ⟨Ko,tf,tj⟩:=T.nH
  obtain ⟨Rw,Be,Bf⟩:=T.uR
  obtain ⟨Q6,A2,A3⟩:=T.Al
  obtain ⟨aqJ,UH,UI⟩:=T.Xf
  obtain ⟨Ra,yE,yF⟩:=T.Dr
  refine ⟨_,ae (bp (PW.pt (tE (aL cV (ai (pv 1) rfl) (aD (by rfl) yE yF) (aQ _)) (mG (aL zy (ai (pv 2) rfl) (ai (pv 1) rfl) (aQ _))))) (ak tF) aV)
   (ak (bp (aL cV (ai (pv 2) rfl) (aD (by rfl) Gp Gq) (aQ _)) (ak (aI (aB (Co T) (hr.mono (by decide)) (by rfl) T.uD T.nj.kp T.uE .nil aU (aa (pv 1) (aa (pv 2) af))))) (ak (bp (aL cV (ai (pv 2) rfl) (aD (by rfl) Ry Rz) (aQ _)) (ak (aI (aB (qa T) (hr.mono (by decide)) (by rfl) T.z7 T.sV.kp T.z9 .nil aU (aa (pv 0) (aa (pv 1) (aa (pv 2) af)))))) (ak (bp (PW.pt (ip (aL cV (ai (pv 2) rfl) (aD (by rfl) UH UI) (aQ _)) (fJ (aL CP (ai (pv 1) rfl) (bZ (aa (aD (by rfl) A2 A3) (aa (aD (by rfl) Be Bf) (aa (aD (by rfl) tf tj) (aa (aD (by rfl) ib ic) af))))) (by with_unfolding_all rfl))))) (ak (aI (aB (vU T) (hr.mono (by decide)) (by rfl) T.wM T.sU.kp T.wN .nil aU (aa (pv 0) (aa (pv 1) (aa ah af)))))) aV)))))),?_⟩
  refine ⟨_,rfl,ca,_,d,_,_,rfl,dA,T.aq,T.aJ,rfl,rfl,_,rfl,?_⟩
  refine eQ (fun q=> ?_) fun q=> ?_
  ·have h1:c.phase=0:=bT (b:=0)|>.mp q
   exact bC (Rx (IK (.inl h1)))
  have h1:¬c.phase=0:=fun z=>q (bT (b:=0)|>.mpr z)
  refine ⟨_,rfl,m,_,dm,_,_,rfl,hM,T.au,T.cn,rfl,_,rfl,ca,_,d,_,_,rfl,dA,T.aq,T.bS,rfl,rfl,_,rfl,?_⟩
  rw [lD]
  by_cases h2:¬u.msg.number=c.number
  ·rw [decide_eq_false h2]
   exact bC (Rx (IK (.inr h2)))
  have h2:=Decidable.not_not.mp h2
  rw [decide_eq_true h2]
  refine bL ?_
  have hn:¬ (c.phase=0∨u.msg.number≠c.number):=fun z=>z.elim h1 (fun z=>z h2)
  refine ⟨_,rfl,m,_,dm,_,_,rfl,hM,T.au,T.bP,rfl,rfl,_,rfl,?_⟩
  refine eQ (fun q2=> ?_) fun q2=> ?_
  ·have k2:u.msg.kind=2:=bT (b:=2)|>.mp q2
   refine ⟨_,rfl,_,rfl,A,cas,W,i,ca,c,m,u,sv,rfl,R,hi,hc,MA,zk,fun H1 R1 F1=> ?_⟩
   refine k H1 ?_ F1
   show Rep _ _ _ _ (Vbcnag.done W (Vbcnag.hears W.now c u.msg))
   have VN:(dY sv u c).host=c.host:=by
    unfold dY
    split <;>rfl
   have e0:Vbcnag.outOf (dY sv u c) [] = [] :=by
    unfold Vbcnag.outOf
    split <;>rfl
   rw [UC hn k2 zk,qK (y:=(dY sv u c,[])) R.hn hc VN]
   show Rep _ _ _ _ {W with clients:=W.clients.set i (dY sv u c),bag:=W.bag ++ (Vbcnag.outOf (dY sv u c) []).take _}
   rw [e0,List.take_nil,List.append_nil]
   exact R1
  have k2:u.msg.kind≠2:=fun z=>q2 (bT (b:=2)|>.mpr z)
  refine ⟨_,rfl,m,_,dm,_,_,rfl,hM,T.au,T.bP,rfl,rfl,_,rfl,?_⟩
  refine eQ (fun q4=> ?_) fun q4=> ?_
  ·have k4:u.msg.kind=4:=bT (b:=4)|>.mp q4
   refine ⟨_,rfl,_,rfl,_,rfl,A,cas,W,i,ca,c,m,u,rfl,R,ot,hi,hc,cg,MA,zk,fun H1 R1 F1=> ?_⟩
   refine k H1 ?_ F1
   show Rep _ _ _ _ (Vbcnag.done W (Vbcnag.hears W.now c u.msg))
   rw [UD hn k4 zk]
   exact R1
  have k4:u.msg.kind≠4:=fun z=>q4 (bT (b:=4)|>.mpr z)
  refine ⟨_,rfl,m,_,dm,_,_,rfl,hM,T.au,T.bP,rfl,rfl,_,rfl,?_⟩
  refine eQ (fun q5=> ?_) fun q5=> ?_
  ·have k5:u.msg.kind=5:=bT (b:=5)|>.mp q5
   refine ⟨_,rfl,ca,_,d,_,_,rfl,dA,T.aq,T.aJ,rfl,(by show 4≤sizeLine;decide),fun q3 Sw=> ?_⟩
   have S1:=aj.ao (o:=HO.tup [V.int 2,V.int 4,V.int 5,V.int 6]) Sw
   have h3:L2.upd H q3 (HO.tup [V.int 2,V.int 4,V.int 5,V.int 6]) q3=some (.tup [V.int 2,V.int 4,V.int 5,V.int 6]):=ab
   generalize L2.upd H q3 (HO.tup [V.int 2,V.int 4,V.int 5,V.int 6])=H1 at *
   refine ⟨q3,_,rfl,.inr (bJ.of h3),rfl,rfl,_,rfl,?_⟩
   have Zp:SX (nV c.phase) [V.int 2,V.int 4,V.int 5,V.int 6] =decide (c.phase∈ [2,4,5,6]):=LS c.phase [2,4,5,6]
   show if SX (nV c.phase) [V.int 2,V.int 4,V.int 5,V.int 6] =true then _ else _
   rw [Zp]
   refine eQ (fun q6=> ?_) fun q6=> ?_
   ·have YR:c.phase=2∨c.phase=4∨c.phase=5∨c.phase=6:=by simpa using q6
    refine ⟨_,rfl,_,rfl,A,cas,W,i,ca,c,0,rfl,R.same S1,ot,hi,hc,Nat.zero_le _,fun H2 R2 F2=> ?_⟩
    refine k H2 ?_ ((aj.ek S1).trans F2)
    show Rep _ _ _ _ (Vbcnag.done W (Vbcnag.hears W.now c u.msg))
    rw [LU hn k5,if_pos YR]
    exact R2
   ·have YR:¬ (c.phase=2∨c.phase=4∨c.phase=5∨c.phase=6):=fun z=>q6 (by simpa using z)
    exact same H1 S1 ((LU hn k5).trans (if_neg YR))
  ·have k5:u.msg.kind≠5:=fun z=>q5 (bT (b:=5)|>.mpr z)
   exact Rx (Kp k2 k4 k5)
end
theorem D7 {x y:Written}:dn x.server x.host x.addr=dn y.server y.host y.addr ↔ fh x=fh y:=by
 rw [fI]
 constructor
 ·rintro ⟨h1,h2,h3⟩
  show (_,_,_)=(_,_,_)
  rw [h1,h2,h3]
 ·intro q
  injection q with q1 q
  injection q with q2 q3
  exact ⟨q1,q2,q3⟩
def iI (x:Written):List Written→Nat
 | [] =>x.till
 |y::l=>if y.server=x.server∧y.host=x.host∧y.addr=x.addr then max y.till x.till else iI x l
theorem RA (x:Written):∀l:List Written,(((dD (cC l) (dn x.server x.host x.addr)).getD (nV x.till))=nV x.till∧iI x l=x.till)∨∃n,dD (cC l) (dn x.server x.host x.addr)=some (nV n)∧iI x l=max n x.till
 | [] => .inl ⟨rfl,rfl⟩
 |y::l=>by
  unfold cC iI
  rw [List.map_cons]
  by_cases h:y.server=x.server∧y.host=x.host∧y.addr=x.addr
  ·rw [if_pos h,di (fI.mpr h)]
   exact .inr ⟨y.till,rfl,rfl⟩
  ·rw [if_neg h,dj (fun q=>h (fI.mp q))]
   exact RA x l
theorem LV {x:Written}:∀ {l:List Written},fh x ∉ l.map fh→(cC l).any (fun kv=>decide (kv.1=dn x.server x.host x.addr))=false∧Vbcnag.write x l=l ++ [x] ∧iI x l=x.till
 | [],_=>⟨rfl,rfl,rfl⟩
 |y::l,h=>by
  rw [List.map_cons,List.mem_cons] at h
  have qY:¬ (y.server=x.server∧y.host=x.host∧y.addr=x.addr):=fun q=>h (.inl (by
   obtain ⟨q1,q2,q3⟩:=q
   show (_,_,_)=(_,_,_)
   rw [q1,q2,q3]))
  obtain ⟨h1,h2,h3⟩:=LV (l:=l) fun q=>h (.inr q)
  refine ⟨?_,?_,?_⟩
  ·unfold cC at h1 ⊢
   rw [List.map_cons,List.any_cons,h1,Bool.or_false]
   exact decide_eq_false fun q=>qY (fI.mp q)
  ·unfold Vbcnag.write
   rw [if_neg qY,h2]
   rfl
  ·unfold iI
   rw [if_neg qY,h3]
theorem RB {x:Written}{v:V}:∀ {l:List Written},fh x ∉ l.map fh→(cC l).map (fun kv=>if kv.1=dn x.server x.host x.addr then (kv.1,v) else kv)=cC l
 | [],_=>rfl
 |y::l,h=>by
  rw [List.map_cons,List.mem_cons] at h
  have qY:¬dn y.server y.host y.addr=dn x.server x.host x.addr:=fun q=>h (.inl (D7.mp q).symm)
  have ih:=RB (v:=v) (l:=l) fun q=>h (.inr q)
  unfold cC at ih ⊢
  rw [List.map_cons,List.map_cons,ih,if_neg qY]
theorem YS {x:Written}:∀ {l:List Written},(l.map fh).Nodup→putK (cC l) (dn x.server x.host x.addr) (nV (iI x l))=cC (Vbcnag.write x l):=by
 have agx:∀ {l:List Written},(l.map fh).Nodup→fh x∈l.map fh→(cC l).any (fun kv=>decide (kv.1=dn x.server x.host x.addr))=true∧
   (cC l).map (fun kv=>if kv.1=dn x.server x.host x.addr then (kv.1,nV (iI x l)) else kv)=cC (Vbcnag.write x l):=by
  intro l
  induction l with
  |nil=>intro _ h;cases h
  |cons y l ih=>
   intro nd hm
   rw [List.map_cons,List.nodup_cons] at nd
   by_cases h:y.server=x.server∧y.host=x.host∧y.addr=x.addr
   ·have e:fh x=fh y:=by
     obtain ⟨q1,q2,q3⟩:=h
     show (_,_,_)=(_,_,_)
     rw [q1,q2,q3]
    have hk:dn y.server y.host y.addr=dn x.server x.host x.addr:=fI.mpr h
    constructor
    ·show (decide (dn y.server y.host y.addr=dn x.server x.host x.addr)||_)=true
     rw [decide_eq_true hk,Bool.true_or]
    ·unfold iI Vbcnag.write
     rw [if_pos h,if_pos h]
     have hr:=RB (x:=x) (v:=nV (max y.till x.till)) (l:=l) (by rw [e];exact nd.1)
     unfold cC at hr ⊢
     rw [List.map_cons,List.map_cons,List.map_cons,if_pos hk]
     show _::List.map _ (List.map _ l)=_
     rw [hr]
   ·have e:fh x≠fh y:=fun q=>h (fI.mp (D7.mpr q.symm))
    have hk:¬dn y.server y.host y.addr=dn x.server x.host x.addr:=fun q=>h (fI.mp q)
    have WM:fh x∈l.map fh:=by
     rw [List.map_cons,List.mem_cons] at hm
     exact hm.resolve_left e
    obtain ⟨i1,i2⟩:=ih nd.2 WM
    constructor
    ·show (decide (dn y.server y.host y.addr=dn x.server x.host x.addr)||(cC l).any _)=true
     rw [i1,Bool.or_true]
    ·unfold iI Vbcnag.write
     rw [if_neg h,if_neg h]
     show (if dn y.server y.host y.addr=dn x.server x.host x.addr then _ else _)::(cC l).map _=_::cC (Vbcnag.write x l)
     rw [i2,if_neg hk]
 intro l nd
 unfold putK
 by_cases h:fh x∈l.map fh
 ·obtain ⟨h1,h2⟩:=agx nd h
  rw [if_pos h1,h2]
 ·obtain ⟨h1,h2,h3⟩:=LV h
  rw [if_neg (by rw [h1];exact Bool.false_ne_true),h2,h3]
  unfold cC
  rw [List.map_append]
  rfl
theorem gN.parts {C:Cs}{H:Hp}{m:Addr}{u:Under}(h:gN C H m u):∃d p mk xs,H m=some (.ins C.M d (mfs (.ref p) (nV u.msg.host) (nV u.msg.number) (nV u.msg.kind) (oV u.msg.server) (nV u.msg.addr) (nV u.msg.len) (nV u.msg.hops) (.ref mk)))∧
 H p=some (.tup (dt u.place))∧H mk=some (.tup xs)∧Paired (dy H) u.msg.marks xs:=h
theorem dy.keep {C:Cs}{H H':Hp}(k:dZ C H H'){m:Mark}{v:V}(h:dy H m v):dy H' m v:=by
 obtain ⟨b,e,q⟩:=h
 exact ⟨b,e,k.tup q⟩
theorem bN {C:Cs}{H H':Hp}(k:dZ C H H'){l:List Mark}{xs:List V}(h:Paired (dy H) l xs):Paired (dy H') l xs:=Paired.cN h fun m v f=>f.keep k
section
variable {P:Program}{w:World}{K:PySem.W.Frag}{mg:Str→Option Value}{base:Heap}{t:jL}
def D8 (u:Under)(pl:Vbcnag.Place)(hops:Nat)(mk:List Mark):Under:={place:=pl,msg:={u.msg with hops:=hops,marks:=mk} }
def LW (C:Cs):Sp:=fun vs H Q _=>∃ (A:Ad)(cas:List Addr)(W:VW)(m:Addr)(u:Under)(pa ma:Addr)(pl:Vbcnag.Place)(hops:Nat)(mk:List Mark)(xs:List V),vs= [.ref A.w,.ref m,.ref pa,nV hops,.ref ma] ∧Rep C H A cas W∧W.bag.length≤10000∧gN C H m u∧
 H pa=some (.tup (dt pl))∧H ma=some (.tup xs)∧Paired (dy H) mk xs∧∀H',Rep C H' A cas (Vbcnag.puts W [D8 u pl hops mk]).1→ez A cas H H'→Q .bX H'
theorem xk (T:Txt K mg t):bB P w K mg base fe 3 t.hC t.uj tV (LW (cs t)):=by
 refine T.o7.ok MP (fun vs H Q E h=> ?_) (fun d4 A0 outer s H vs Q E hr h=> ?_)
 ·obtain ⟨A,cas,W,m,u,pa,ma,pl,hops,mk,xs,rfl,_⟩:=h
  rfl
 ·obtain ⟨A,cas,W,m,u,pa,ma,pl,hops,mk,xs,rfl,R,hb,MA,hpa,NN,xj,k⟩:=h
  obtain ⟨dm,pp,mm,ys,hM,_⟩:=MA.parts
  refine ⟨_,ak (aI (aB (AY T) (hr.mono (by decide)) (by rfl) T.Dg T.zX.kp T.Dh .nil aU (aa (pv 0) (aa (kP T.gE (FY T) (hr.mono (by decide)) (by rfl) T.mr T.fG .nil aU (aa (pv 2) (aa (ai (pv 1) rfl) (aa (ai (pv 1) rfl) (aa (ai (pv 1) rfl) (aa (ai (pv 1) rfl) (aa (ai (pv 1) rfl) (aa (ai (pv 1) rfl) (aa (pv 3) (aa (pv 4) af)))))))))) af)))),?_⟩
  refine ⟨_,rfl,_,rfl,_,rfl,m,_,dm,_,_,rfl,hM,T.au,T.bO,rfl,_,rfl,m,_,dm,_,_,rfl,hM,T.au,T.cn,rfl,_,rfl,m,_,dm,_,_,rfl,hM,T.au,T.bP,rfl,_,rfl,m,_,dm,_,_,rfl,hM,T.au,T.ba,rfl,
   _,rfl,m,_,dm,_,_,rfl,hM,T.au,T.bh,rfl,_,rfl,m,_,dm,_,_,rfl,hM,T.au,T.bq,rfl,_,rfl,_,rfl,?_⟩
  intro x dx nx NA Zz
  refine ⟨x,dx,_,_,_,_,_,_,_,_,_,rfl,ab,fun H5 h5 k5=>⟨rfl,?_⟩⟩
  have S5:=aj.made nx NA k5
  refine ⟨A,cas,W,x,D8 u pl hops mk,rfl,R.same S5,hb,⟨dx,pa,ma,xs,h5,S5 _ _ hpa,S5 _ _ NN,bN (aj.keep (C:=cs t) S5) xj⟩,fun H6 R6 F6=> ?_⟩
  exact k H6 R6 ((aj.ek S5).trans F6)
def nP (u:Under)(s kind addr len:Nat):Under:={place:= .down 0,msg:={u.msg with kind:=kind,server:=some s,addr:=addr,len:=len,hops:=0} }
def RC (C:Cs):Sp:=fun vs H Q _=>∃ (A:Ad)(cas:List Addr)(W:VW)(m:Addr)(u:Under)(s kind addr len:Nat),vs= [.ref A.w,.ref m,nV kind,nV addr,nV len] ∧Rep C H A cas W∧W.bag.length≤10000∧gN C H m u∧u.place= .server s∧
 ∀H',Rep C H' A cas (Vbcnag.puts W [nP u s kind addr len]).1→ez A cas H H'→Q .bX H'
theorem qP (T:Txt K mg t):bB P w K mg base fe 3 t.hR t.uk tX (RC (cs t)):=by
 refine T.mw.ok MR (fun vs H Q E h=> ?_) (fun d4 A0 outer s H vs Q E hr h=> ?_)
 ·obtain ⟨A,cas,W,m,u,sv,kind,addr,len,rfl,_⟩:=h
  rfl
 ·obtain ⟨A,cas,W,m,u,sv,kind,addr,len,rfl,R,hb,MA,eD,k⟩:=h
  obtain ⟨dm,pp,mm,ys,hM,hp,hm,xj⟩:=MA.parts
  rw [eD] at hp
  obtain ⟨RD,Bg,Bh⟩:=T.FC
  refine ⟨_,ak (aI (aB (AY T) (hr.mono (by decide)) (by rfl) T.Dg T.zX.kp T.Dh .nil aU (aa (pv 0) (aa (kP T.gE (FY T) (hr.mono (by decide)) (by rfl) T.mr T.fG .nil aU (aa (bZ (aa (aD (by rfl) Bg Bh) (aa ah (aa ah af)))) (aa (ai (pv 1) rfl) (aa (ai (pv 1) rfl) (aa (pv 2) (aa (aF bc (ai (pv 1) rfl) ah (fun _ _=>rfl)) (aa (pv 3) (aa (pv 4) (aa ah (aa (ai (pv 1) rfl) af)))))))))) af)))),?_⟩
  refine ⟨_,rfl,(by show 3≤sizeLine;decide),fun z hz=> ?_⟩
  have S1:=aj.ao (o:=HO.tup [V.int 2,V.int 0,V.int 0]) hz
  have sM:L2.upd H z (HO.tup [V.int 2,V.int 0,V.int 0]) z=some (.tup (dt (.down 0))):=ab
  generalize L2.upd H z (HO.tup [V.int 2,V.int 0,V.int 0])=H1 at *
  have ow:=S1 _ _ hM
  refine ⟨_,rfl,m,_,dm,_,_,rfl,ow,T.au,T.bO,rfl,_,rfl,m,_,dm,_,_,rfl,ow,T.au,T.cn,rfl,_,rfl,_,rfl,m,_,dm,_,_,rfl,ow,T.au,T.aG,rfl,pp,_,_,_,rfl,rfl,bJ.of (S1 _ _ hp),rfl,
   _,rfl,_,rfl,_,rfl,m,_,dm,_,_,rfl,ow,T.au,T.aY,rfl,?_⟩
  intro x dx nx NA Zz
  refine ⟨x,dx,_,_,_,_,_,_,_,_,_,rfl,ab,fun H5 h5 k5=>⟨rfl,?_⟩⟩
  have S5:=aj.made nx NA k5
  have YA:=S1.trans S5
  refine ⟨A,cas,W,x,nP u sv kind addr len,rfl,R.same YA,hb,⟨dx,z,mm,ys,h5,S5 _ _ sM,YA _ _ hm,bN (aj.keep (C:=cs t) YA) xj⟩,fun H6 R6 F6=> ?_⟩
  exact k H6 R6 ((aj.ek YA).trans F6)
def UJ (C:Cs):Sp:=fun vs H Q _=>∃ (A:Ad)(cas:List Addr)(W:VW)(m:Addr)(u:Under)(s len:Nat),vs= [.ref A.w,.ref m,nV len] ∧Rep C H A cas W∧(W.written.map fh).Nodup∧W.written.length < sizeLine∧gN C H m u∧u.place= .server s∧
 ∀H',Rep C H' A cas {W with written:=Vbcnag.write {server:=s,host:=u.msg.host,addr:=u.msg.addr,till:=W.now + len} W.written}→ez A cas H H'→Q .bX H'
theorem Ct (T:Txt K mg t):bB P w K mg base fe 2 t.dI t.jU jF (UJ (cs t)):=by
 refine T.nv.ok lG (fun vs H Q E h=> ?_) (fun d4 A0 outer s H vs Q E hr h=> ?_)
 ·obtain ⟨A,cas,W,m,u,sv,len,rfl,_⟩:=h
  rfl
 ·obtain ⟨A,cas,W,m,u,sv,len,rfl,R,nd,eA,MA,eD,k⟩:=h
  obtain ⟨dm,pp,mm,ys,hM,hp,hm,xj⟩:=MA.parts
  rw [eD] at hp
  have hu:=gF hr
  refine ⟨_,ae (aW (i:=3) lG.nd rfl (Or.inl rfl) (bZ (aa (aF bc (ai (pv 1) rfl) ah (fun _ _=>rfl)) (aa (ai (pv 1) rfl) (aa (ai (pv 1) rfl) af)))))
   (ae (aW (i:=4) lG.nd rfl (Or.inl rfl) (cO eB (ai (pv 0) rfl) (pv 2)))
   (ak (y2 hu (ai (pv 0) rfl) (pv 3) (a6 (CH rfl) (by rfl) T.Hy PyProof.Rows.boot_max (aa (pv 4) (aa (OT hu (ai (pv 0) rfl) (pv 3) (pv 4) ⟨rfl,rfl,rfl,rfl⟩) af))) rfl))),?_⟩
  refine ⟨_,rfl,m,_,dm,_,_,rfl,hM,T.au,T.aG,rfl,pp,_,_,_,rfl,rfl,bJ.of hp,rfl,_,rfl,m,_,dm,_,_,rfl,hM,T.au,T.bO,rfl,_,rfl,m,_,dm,_,_,rfl,hM,T.au,T.bh,rfl,(by show 3≤sizeLine;decide),fun q hq=> ?_⟩
  have S1:=aj.ao (o:=HO.tup [nV sv,nV u.msg.host,nV u.msg.addr]) hq
  have Kj:L2.upd H q (HO.tup [nV sv,nV u.msg.host,nV u.msg.addr]) q=some (.tup ((dn sv u.msg.host u.msg.addr).map kV)):=ab
  generalize L2.upd H q (HO.tup [nV sv,nV u.msg.host,nV u.msg.addr])=H1 at *
  have R1:=R.same S1
  have DG:=gC.t R1.wr Kj
  refine ⟨_,rfl,A.w,_,_,_,_,rfl,R1.cW,T.aw,T.bb,rfl,_,rfl,_,_,rfl,rfl,?_⟩
  have eE:(W.now:Int) + (len:Int)=((W.now + len:Nat):Int):=by omega
  refine ⟨_,rfl,_,rfl,A.w,_,_,_,_,rfl,R1.cW,T.aw,T.cT,rfl,A.wr,rfl,.inr ⟨_,.inl R1.wr⟩,_,rfl,_,rfl,_,DG,?_⟩
  have C4:(cC W.written).length < sizeLine:=by
   unfold cC
   rw [List.length_map]
   exact eA
  have fin:∀v:Int,v=((iI {server:=sv,host:=u.msg.host,addr:=u.msg.addr,till:=W.now + len} W.written:Nat):Int)→Q .bX (L2.upd H1 A.wr (.dT (putK (cC W.written) (dn sv u.msg.host u.msg.addr) (V.int v)))):=fun v hv=>by
   subst hv
   have hp:=YS (x:={server:=sv,host:=u.msg.host,addr:=u.msg.addr,till:=W.now + len}) nd
   have Zq:putK (cC W.written) (dn sv u.msg.host u.msg.addr) (V.int ((iI {server:=sv,host:=u.msg.host,addr:=u.msg.addr,till:=W.now + len} W.written:Nat):Int))=_:=hp
   rw [Zq]
   exact k _ (R1.af7 _) ((aj.ek S1).trans (ez.upd (.inr (.inr (.inr (.inr (.inr (.inr (.inl rfl)))))))))
  obtain ⟨j,hj,he⟩:∃j:Int,(dD (cC W.written) (dn sv u.msg.host u.msg.addr)).getD (V.int ((W.now:Int) + (len:Int)))=V.int j∧(if j >(W.now:Int) + (len:Int) then j else (W.now:Int) + (len:Int))=((iI {server:=sv,host:=u.msg.host,addr:=u.msg.addr,till:=W.now + len} W.written:Nat):Int):=by
   rcases RA {server:=sv,host:=u.msg.host,addr:=u.msg.addr,till:=W.now + len} W.written with ⟨h1,h2⟩|⟨n,h1,h2⟩
   ·refine ⟨(W.now:Int) + (len:Int),?_,?_⟩
    ·have Vp:=h1
     unfold nV at Vp
     dsimp only at Vp
     rw [←eE] at Vp
     exact Vp
    ·rw [h2]
     show (if _ then _ else _)=((W.now + len:Nat):Int)
     split <;>omega
   ·refine ⟨(n:Int),?_,?_⟩
    ·have Vp:dD (cC W.written) (dn sv u.msg.host u.msg.addr)=some (nV n):=h1
     rw [Vp]
     rfl
    ·rw [h2]
     show (if _ then _ else _)=((max n (W.now + len):Nat):Int)
     rw [eE]
     clear h2
     generalize W.now + len=z
     rcases Nat.le_total n z with q|q
     ·rw [Nat.max_eq_right q]
      split <;>omega
     ·rw [Nat.max_eq_left q]
      split <;>omega
  exact ⟨(W.now:Int) + (len:Int),j,congrArg (fun z=> [V.int ((W.now:Int) + (len:Int)),z]) hj,_,rfl,A.w,_,_,_,_,rfl,R1.cW,T.aw,T.cT,rfl,_,rfl,A.wr,_,rfl,zI.t R1.wr Kj C4,fin _ he⟩
end
theorem Rep.keep {C:Cs}{H H':Hp}{A:Ad}{cas:List Addr}{W:VW}(K:C.Ok)(R:Rep C H A cas W)(F:ez A cas H H'):dZ C H H':=by
 intro b o fx hb
 refine F b o hb fun hm=> ?_
 have no:∀ {o':HO},H b=some o'→¬Fix C o'→False:=fun {o'} h n=>n (by rw [hb] at h;cases h;exact fx)
 rcases hm with e|e|e|e|e|e|e|e|e
 ·subst e
  exact no R.cW fun q=>by
   rcases q with q|q
   ·exact K.wr q
   ·exact K.wm q
 ·subst e
  obtain ⟨_,h,_⟩:=R.rl
  exact no h fun q=>q
 ·subst e
  obtain ⟨_,h,_⟩:=R.hd
  exact no h fun q=>q
 ·subst e
  exact no R.cd fun q=>q
 ·subst e
  obtain ⟨_,h,_⟩:=R.rs
  exact no h fun q=>q
 ·subst e
  obtain ⟨_,h,_⟩:=R.ag
  exact no h fun q=>q
 ·subst e
  exact no R.wr fun q=>q
 ·subst e
  obtain ⟨_,h,_⟩:=R.bg
  exact no h fun q=>q
 ·obtain ⟨i,hi⟩:=List.getElem?_of_mem e
  have P:=cU.mp R.ca
  have eA:i < W.clients.length:=by
   rw [←P.1]
   exact (List.getElem?_eq_some_iff.mp hi).1
  obtain ⟨d,pl,be,le,h,_⟩:=P.2 i b _ hi (List.getElem?_eq_getElem eA)
  exact no h fun q=>by
   rcases q with q|q
   ·exact K.cr q
   ·exact K.cm q
def AsO (H:Hp):Option Assigned→V→Prop
 |none,v=>v= .bX
 |some a,v=>∃b,v= .ref b∧H b=some (.tup [nV a.addr,nV a.len])
def tm (W:VW)(s:Nat)(u:Under):Option Assigned→VW×List Under
 |some a=>if a.addr=u.msg.addr then ({W with written:=Vbcnag.write {server:=s,host:=u.msg.host,addr:=a.addr,till:=W.now + a.len} W.written},[nP u s 4 a.addr a.len]) else (W,[nP u s 5 0 0])
 |none=>if u.msg.server.isSome=true then (W,[nP u s 5 0 0]) else (W,[])
section
variable {P:Program}{w:World}{K:PySem.W.Frag}{mg:Str→Option Value}{base:Heap}{t:jL}
def RE (C:Cs):Sp:=fun vs H Q _=>∃ (A:Ad)(cas:List Addr)(W:VW)(m:Addr)(u:Under)(s:Nat)(a:Option Assigned)(av:V),vs= [.ref A.w,.ref m,av] ∧Rep C H A cas W∧W.bag.length≤10000∧(W.written.map fh).Nodup∧W.written.length < sizeLine∧gN C H m u∧u.place= .server s∧AsO H a av∧
 ∀H',Rep C H' A cas (Vbcnag.puts (tm W s u a).1 (tm W s u a).2).1→ez A cas H H'→Q .bX H'
theorem yX (T:Txt K mg t):bB P w K mg base fe 4 t.cH t.hJ gW (RE (cs t)):=by
 refine T.kF.ok yQ (fun vs H Q E h=> ?_) (fun d4 A0 outer s H vs Q E hr h=> ?_)
 ·obtain ⟨A,cas,W,m,u,sv,a,av,rfl,_⟩:=h
  rfl
 ·obtain ⟨A,cas,W,m,u,sv,a,av,rfl,R,hb,nd,eA,MA,eD,ha,k⟩:=h
  obtain ⟨dm,pp,mm,ys,hM,hp,hm,xj⟩:=MA.parts
  have CK:=fH T
  obtain ⟨aqJ,UH,UI⟩:=T.Xf
  obtain ⟨agw,Ry,Rz⟩:=T.PN
  refine ⟨_,ak (bp (cq (gR (pv 2))) (ak (bp (cq (gS (ai (pv 1) rfl))) (ak (aI (aB (qP T) (hr.mono (by decide)) (by rfl) T.pb T.mw.kp T.pd .nil aU (aa (pv 0) (aa (pv 1) (aa (aD (by rfl) UH UI) (aa ah (aa ah af)))))))) aV)) (ak (bp (aL cV (aF bc (pv 2) ah (fun _ _=>rfl)) (ai (pv 1) rfl) (aQ _)) (ae (aI (aB (Ct T) (hr.mono (by decide)) (by rfl) T.uJ T.nv.kp T.uK .nil aU (aa (pv 0) (aa (pv 1) (aa (aF bc (pv 2) ah (fun _ _=>rfl)) af)))))
   (ak (aI (aB (qP T) (hr.mono (by decide)) (by rfl) T.pb T.mw.kp T.pd .nil aU (aa (pv 0) (aa (pv 1) (aa (aD (by rfl) Ry Rz) (aa (aF bc (pv 2) ah (fun _ _=>rfl)) (aa (aF bc (pv 2) ah (fun _ _=>rfl)) af))))))))) (ak (aI (aB (qP T) (hr.mono (by decide)) (by rfl) T.pb T.mw.kp T.pd .nil aU (aa (pv 0) (aa (pv 1) (aa (aD (by rfl) UH UI) (aa ah (aa ah af))))))))))),?_⟩
  cases a with
  |none=>
   have e:av= .bX:=ha
   subst e
   refine ⟨_,rfl,_,rfl,bC ?_⟩
   refine ⟨_,rfl,m,_,dm,_,_,rfl,hM,T.au,T.ba,rfl,_,rfl,?_⟩
   cases hs:u.msg.server with
   |none=>
    have er:tm W sv u none=(W,[]):=if_neg (by rw [hs];exact Bool.false_ne_true)
    rw [er] at k
    exact bL (k H R ez.refl)
   |some x=>
    have er:tm W sv u none=(W,[nP u sv 5 0 0]):=if_pos (by rw [hs];rfl)
    rw [er] at k
    refine bC ?_
    exact ⟨_,rfl,_,rfl,A,cas,W,m,u,sv,5,0,0,rfl,R,hb,MA,eD,fun H1 R1 F1=>k H1 R1 F1⟩
  |some a=>
   obtain ⟨b,rfl,qW⟩:=ha
   refine ⟨_,rfl,_,rfl,bL ?_⟩
   refine ⟨_,rfl,b,_,_,_,rfl,rfl,bJ.of qW,rfl,_,rfl,m,_,dm,_,_,rfl,hM,T.au,T.bh,rfl,rfl,_,rfl,?_⟩
   refine eQ (fun q=> ?_) fun q=> ?_
   ·have h1:a.addr=u.msg.addr:=bT.mp q
    have er:tm W sv u (some a)=({W with written:=Vbcnag.write {server:=sv,host:=u.msg.host,addr:=u.msg.addr,till:=W.now + a.len} W.written},[nP u sv 4 a.addr a.len]):=(if_pos h1).trans (by rw [h1])
    rw [er] at k
    refine ⟨_,rfl,_,rfl,_,rfl,b,_,_,_,rfl,rfl,bJ.of qW,rfl,A,cas,W,m,u,sv,a.len,rfl,R,nd,eA,MA,eD,fun H1 R1 F1=> ?_⟩
    have kk:=R.keep CK F1
    have agy:=kk.tup qW
    exact ⟨_,rfl,_,rfl,_,rfl,b,_,_,_,rfl,rfl,bJ.of agy,rfl,_,rfl,b,_,_,_,rfl,rfl,bJ.of agy,rfl,A,cas,_,m,u,sv,4,a.addr,a.len,rfl,R1,hb,MA.keep kk,eD,fun H2 R2 F2=>k H2 R2 (F1.trans F2)⟩
   ·have h1:¬a.addr=u.msg.addr:=fun z=>q (bT.mpr z)
    have er:tm W sv u (some a)=(W,[nP u sv 5 0 0]):=if_neg h1
    rw [er] at k
    exact ⟨_,rfl,_,rfl,A,cas,W,m,u,sv,5,0,0,rfl,R,hb,MA,eD,fun H1 R1 F1=>k H1 R1 F1⟩
def cQ (W:VW)(u:Under):VW:=(Vbcnag.puts (Vbcnag.handled W u).1 (Vbcnag.handled W u).2).1
def qb (p:VW→Under→Prop)(C:Cs):Sp:=fun vs H Q _=>∃ (A:Ad)(cas:List Addr)(W:VW)(m:Addr)(u:Under),vs= [.ref A.w,.ref m] ∧Rep C H A cas W∧cp W∧W.written.length < sizeLine∧gN C H m u∧js W.relays.length W.servers u∧p W u∧
 ∀H',Rep C H' A cas (cQ W u)→ez A cas H H'→Q .bX H'
theorem LX {H:Hp}(s h r:Nat):∀ {kvs:List (List Key×V)}{l:List Assigned},Paired (gv H) kvs l→AsO H (l.find? fun a=>a.server==s && (a.host==h && a.relay==r)) ((dD kvs (dn s h r)).getD .bX)
 |_,_,.nil=>rfl
 |p::kvs,y::l,.cons a t=>by
  by_cases q:y.server=s∧y.host=h∧y.relay=r
  ·have e:(y.server==s && (y.host==h && y.relay==r))=true:=by
    obtain ⟨q1,q2,q3⟩:=q
    rw [q1,q2,q3,beq_self_eq_true,beq_self_eq_true,beq_self_eq_true]
    rfl
   rw [List.find?_cons,e,di (by rw [a.1];exact fI.mpr q)]
   exact a.2
  ·have e:(y.server==s && (y.host==h && y.relay==r))=false:=by
    rw [Bool.eq_false_iff]
    intro z
    simp only [Bool.and_eq_true,beq_iff_eq] at z
    exact q z
   rw [List.find?_cons,e,dj (by rw [a.1];exact fun z=>q (fI.mp z))]
   exact LX s h r t
theorem D9 {W:VW}{s:Nat}{m:Msg}(h:W.resting.contains s=true∨m.marks= []):Vbcnag.served W s m=(W,[]):=by
 unfold Vbcnag.served
 dsimp only
 split
 ·rfl
 ·rcases h with h|h
  ·rename_i q
   exact absurd h q
  ·rw [h]
   rfl
def yG (W:VW)(s:Nat)(m:Msg)(first:Mark):Option Assigned:=W.assigned.find? fun a=>a.server==s && (a.host==m.host && a.relay==first.relay)
theorem RF {W:VW}{s:Nat}{u:Under}{first:Mark}(h:¬W.resting.contains s=true)(hl:u.msg.marks.getLast?=some first)(hk:u.msg.kind=1):
  Vbcnag.served W s u.msg=(W,match yG W s u.msg first with|some a=> [nP u s 2 a.addr a.len] |none=> []):=by
 unfold Vbcnag.served yG
 dsimp only
 rw [if_neg h,hl,hk]
 dsimp only
 cases W.assigned.find? _ <;>rfl
theorem RG {W:VW}{s:Nat}{u:Under}{first:Mark}(h:¬W.resting.contains s=true)(hl:u.msg.marks.getLast?=some first)(hk:u.msg.kind=3):
  Vbcnag.served W s u.msg=if u.msg.server.any (fun t=>t !=s)=true then (W,[]) else tm W s u (yG W s u.msg first):=by
 unfold Vbcnag.served yG
 dsimp only
 rw [if_neg h,hl,hk]
 dsimp only
 cases W.assigned.find? _ <;>rfl
theorem IL {W:VW}{s:Nat}{u:Under}(h1:u.msg.kind≠1)(h3:u.msg.kind≠3):Vbcnag.served W s u.msg=(W,[]):=by
 unfold Vbcnag.served
 dsimp only
 split
 ·rfl
 ·split
  ·rfl
  ·split
   ·rename_i e _
    exact absurd e h1
   ·rename_i e
    exact absurd e h3
   ·rfl
end
theorem RH {α:Type}{xs:List α}{v:α}(h:xs.getLast?=some v):GL xs (-1)=some v:=by
 have qY:xs≠ [] :=fun q=>by rw [q] at h;cases h
 have hl:0 < xs.length:=List.length_pos_iff.mpr qY
 unfold GL Od
 rw [if_neg (by omega),if_pos (by omega)]
 show xs[((-1:Int) + (xs.length:Int)).toNat]?=some v
 rw [show ((-1:Int) + (xs.length:Int)).toNat=xs.length - 1 by omega,←List.getLast?_eq_getElem?]
 exact h
theorem Paired.last {α β:Type}{F:α→β→Prop}:∀ {l:List α}{m:List β}{a:α},Paired F l m→l.getLast?=some a→∃b,m.getLast?=some b∧F a b
 |_,_,a,.nil,h=>by cases h
 | [x],_,a,.cons f .nil,h=>by
  have e:x=a:=Option.some.inj h
  exact ⟨_,rfl,e ▸ f⟩
 |x::y::l,_,a,.cons f (.cons f' t),h=>by
  have h':(y::l).getLast?=some a:=by
   rw [←h,List.getLast?_cons_cons]
  obtain ⟨c,h1,h2⟩:=Paired.last (.cons f' t) h'
  exact ⟨c,by rw [List.getLast?_cons_cons];exact h1,h2⟩
section
variable {P:Program}{w:World}{K:PySem.W.Frag}{mg:Str→Option Value}{base:Heap}{t:jL}
theorem RI (T:Txt K mg t):bB P w K mg base fe 5 t.jT t.zd za (qb (fun _ u=>∃s,u.place= .server s) (cs t)):=by
 refine T.Fy.ok tW (fun vs H Q E h=> ?_) (fun d4 A0 outer s H vs Q E hr h=> ?_)
 ·obtain ⟨A,cas,W,m,u,rfl,_⟩:=h
  rfl
 ·obtain ⟨A,cas,W,m,u,rfl,R,wg,eA,MA,VO,⟨sv,eD⟩,k⟩:=h
  obtain ⟨dm,pp,mm,ys,hM,hp,hm,xj⟩:=MA.parts
  rw [eD] at hp
  have hu:=gF hr
  have CK:=fH T
  have hb:W.bag.length≤10000:=Nat.le_trans wg.bag wg.cap.2
  have zk:=VO.server sv eD
  have hh:cQ W u=(Vbcnag.puts (Vbcnag.served W sv u.msg).1 (Vbcnag.served W sv u.msg).2).1:=by
   unfold cQ Vbcnag.handled
   rw [eD]
  rw [hh] at k
  have same:∀H1,aj H H1→Vbcnag.served W sv u.msg=(W,[])→Q .bX H1:=fun H1 S e=>by
   rw [e] at k
   exact k H1 (R.same S) (aj.ek S)
  obtain ⟨bs,VG,ZA,hbs⟩:=R.rs
  obtain ⟨bv,hbv⟩:∃b,bs[sv]?=some b:=⟨_,List.getElem?_eq_getElem (by omega)⟩
  have agz:=hbs sv bv hbv
  have Sn:GL (bs.map V.bl) (sv:Int)=some (V.bl bv):=iJ (by rw [List.getElem?_map,hbv];rfl)
  have CS:ys.length=u.msg.marks.length:=(Paired.length xj).symm
  obtain ⟨ZD,NO,NP⟩:=T.wY
  obtain ⟨UG,Gp,Gq⟩:=T.FD
  obtain ⟨agB,RJ,RK⟩:=T.pC
  refine ⟨_,ae (aW (i:=2) tW.nd rfl (Or.inl rfl) (aF bc (ai (pv 1) rfl) ah (fun _ _=>rfl)))
   (ae (bp (PW.pt (tE (oy (aF aM (ai (pv 0) rfl) (pv 2) (fun _ _=>rfl))) (mG (aL cV (a6 aT (by rfl) T.d6 PySem.boot_len (aa (ai (pv 1) rfl) af)) ah (aQ _))))) (ak tF) aV)
   (ae (aW (i:=3) tW.nd rfl (Or.inl rfl) (aF bc (ai (pv 1) rfl) (d8 cG ah) (fun _ _=>rfl)))
   (ae (aW (i:=4) tW.nd rfl (Or.inl rfl) (gT hu (ai (pv 0) rfl) (bZ (aa (pv 2) (aa (ai (pv 1) rfl) (aa (aF bc (pv 3) ah (fun _ _=>rfl)) af)))) ⟨rfl,rfl,rfl,rfl⟩))
   (ak (bp (aL cV (ai (pv 1) rfl) (aD (by rfl) NO NP) (aQ _)) (ak (bp (cq (gS (pv 4))) (ak (aI (aB (qP T) (hr.mono (by decide)) (by rfl) T.pb T.mw.kp T.pd .nil aU (aa (pv 0) (aa (pv 1) (aa (aD (by rfl) Gp Gq) (aa (aF bc (pv 4) ah (fun _ _=>rfl)) (aa (aF bc (pv 4) ah (fun _ _=>rfl)) af)))))))) aV)) (ak (bp (PW.pt (ip (aL cV (ai (pv 1) rfl) (aD (by rfl) RJ RK) (aQ _)) (fJ (PW.pt (tE (cq (gR (ai (pv 1) rfl))) (mG (aL cV (ai (pv 1) rfl) (pv 2) (aQ _)))))))) (ak (aI (aB (yX T) (hr.mono (by decide)) (by rfl) T.o8 T.kF.kp T.o9 .nil aU (aa (pv 0) (aa (pv 1) (aa (pv 4) af)))))) aV))))))),?_⟩
  refine ⟨_,rfl,m,_,dm,_,_,rfl,hM,T.au,T.aG,rfl,pp,_,_,_,rfl,rfl,bJ.of hp,rfl,?_⟩
  refine ⟨_,rfl,A.w,_,_,_,_,rfl,R.cW,T.aw,T.dW,rfl,_,rfl,A.rs,_,_,_,rfl,rfl,cK.of VG,Sn,bv,rfl,?_⟩
  refine eQ (fun q=> ?_) fun q=> ?_
  ·exact bC (same H (aj.refl H) (D9 (.inl (by rw [←agz];exact q))))
  have hnr:¬W.resting.contains sv=true:=by rw [←agz];exact q
  refine ⟨_,rfl,m,_,dm,_,_,rfl,hM,T.au,T.aY,rfl,mm,_,rfl,.inr (bJ.of hm),rfl,_,rfl,?_⟩
  cases Bi:u.msg.marks with
  |nil=>
   rw [Bi] at CS
   rw [show decide (V.int (ys.length:Int)=V.int 0)=true from decide_eq_true (by rw [CS];rfl)]
   exact bC (same H (aj.refl H) (D9 (.inr Bi)))
  |cons SA mks=>
   rw [Bi] at CS
   rw [show decide (V.int (ys.length:Int)=V.int 0)=false from decide_eq_false (fun z=>by
    injection z with z
    rw [CS,List.length_cons] at z
    omega)]
   refine bL ?_
   obtain ⟨first,hfi⟩:∃f,u.msg.marks.getLast?=some f:=by
    rw [Bi]
    exact ⟨_,List.getLast?_cons⟩
   obtain ⟨fv,hfv,fb,rfl,hfb⟩:=Paired.last xj hfi
   refine ⟨_,rfl,m,_,dm,_,_,rfl,hM,T.au,T.aY,rfl,_,rfl,mm,_,_,_,rfl,rfl,bJ.of hm,RH hfv,?_⟩
   obtain ⟨kvs,Rg,hP⟩:=R.ag
   refine ⟨_,rfl,A.w,_,_,_,_,rfl,R.cW,T.aw,T.br,rfl,A.ag,rfl,.inr ⟨_,.inl Rg⟩,_,rfl,_,rfl,m,_,dm,_,_,rfl,hM,T.au,T.bO,rfl,_,rfl,fb,_,_,_,rfl,rfl,bJ.of hfb,rfl,(by show 3≤sizeLine;decide),fun z hz=> ?_⟩
   have S1:=aj.ao (o:=HO.tup [nV sv,nV u.msg.host,nV first.relay]) hz
   have sM:L2.upd H z (HO.tup [nV sv,nV u.msg.host,nV first.relay]) z=some (.tup ((dn sv u.msg.host first.relay).map kV)):=ab
   generalize L2.upd H z (HO.tup [nV sv,nV u.msg.host,nV first.relay])=H1 at *
   have R1:=R.same S1
   have ZE:=MA.keep (aj.keep (C:=cs t) S1)
   have ow:=S1 _ _ hM
   have hP1:Paired (gv H1) kvs W.assigned:=Paired.cN hP fun a b f=>f.keep (aj.keep (C:=cs t) S1)
   have ZF:AsO H1 (yG W sv u.msg first) ((dD kvs (dn sv u.msg.host first.relay)).getD .bX):=LX sv u.msg.host first.relay hP1
   refine ⟨_,gC.t (S1 _ _ Rg) sM,?_⟩
   generalize (dD kvs (dn sv u.msg.host first.relay)).getD .bX=av at *
   refine ⟨_,rfl,m,_,dm,_,_,rfl,ow,T.au,T.bP,rfl,rfl,_,rfl,?_⟩
   refine eQ (fun q1=> ?_) fun q1=> ?_
   ·have k1:u.msg.kind=1:=bT (b:=1)|>.mp q1
    have MF:=RF (u:=u) hnr hfi k1
    cases ha:yG W sv u.msg first with
    |none=>
     rw [ha] at ZF MF
     have e:av= .bX:=ZF
     subst e
     exact ⟨_,rfl,_,rfl,bL (same H1 S1 MF)⟩
    |some a=>
     rw [ha] at ZF MF
     obtain ⟨b,rfl,qW⟩:=ZF
     rw [MF] at k
     refine ⟨_,rfl,_,rfl,bC ?_⟩
     exact ⟨_,rfl,_,rfl,_,rfl,b,_,_,_,rfl,rfl,bJ.of qW,rfl,_,rfl,b,_,_,_,rfl,rfl,bJ.of qW,rfl,A,cas,W,m,u,sv,2,a.addr,a.len,rfl,R1,hb,ZE,eD,fun H2 R2 F2=>k H2 R2 ((aj.ek S1).trans F2)⟩
   have k1:u.msg.kind≠1:=fun z=>q1 (bT (b:=1)|>.mpr z)
   refine ⟨_,rfl,m,_,dm,_,_,rfl,ow,T.au,T.bP,rfl,rfl,_,rfl,?_⟩
   refine eQ (fun q3=> ?_) fun q3=> ?_
   ·have k3:u.msg.kind=3:=bT (b:=3)|>.mp q3
    have MF:=RG (u:=u) hnr hfi k3
    have Sy:=ow
    refine ⟨_,rfl,m,_,dm,_,_,rfl,ow,T.au,T.ba,rfl,_,rfl,?_⟩
    cases hs:u.msg.server with
    |none=>
     rw [if_neg (by rw [hs];exact Bool.false_ne_true)] at MF
     rw [MF] at k
     refine bC (bC ?_)
     exact ⟨_,rfl,_,rfl,_,rfl,A,cas,W,m,u,sv,yG W sv u.msg first,av,rfl,R1,hb,wg.Yy,eA,ZE,eD,ZF,fun H2 R2 F2=>k H2 R2 ((aj.ek S1).trans F2)⟩
    |some x=>
     rw [hs] at Sy
     refine bL ?_
     refine ⟨_,rfl,m,_,dm,_,_,rfl,Sy,T.au,T.ba,rfl,_,rfl,rfl,_,rfl,?_⟩
     refine eQ (fun q4=> ?_) fun q4=> ?_
     ·have h4:x=sv:=bT.mp q4
      rw [if_neg (by rw [hs,h4];show ¬ (sv !=sv)=true;simp)] at MF
      rw [MF] at k
      exact ⟨_,rfl,_,rfl,_,rfl,A,cas,W,m,u,sv,yG W sv u.msg first,av,rfl,R1,hb,wg.Yy,eA,ZE,eD,ZF,fun H2 R2 F2=>k H2 R2 ((aj.ek S1).trans F2)⟩
     ·have h4:¬x=sv:=fun z=>q4 (bT.mpr z)
      rw [if_pos (by rw [hs];show (x !=sv)=true;simpa using h4)] at MF
      exact same H1 S1 MF
   ·have k3:u.msg.kind≠3:=fun z=>q3 (bT (b:=3)|>.mpr z)
    exact same H1 S1 (IL k1 k3)
end
theorem Bj {xs:List V}{k:Nat}(h:k≤xs.length):sS xs (some (k:Int)) none=xs.drop k:=by
 unfold sS
 rw [HT.OG,HT.yZ,Nat.min_eq_left h]
 rw [←List.length_drop,List.take_length]
section
variable {P:Program}{w:World}{K:PySem.W.Frag}{mg:Str→Option Value}{base:Heap}{t:jL}
theorem Gr (T:Txt K mg t):bB P w K mg base fe 4 t.eh t.lj kY (qb (fun _ u=>∃r,u.place= .down r) (cs t)):=by
 refine T.pf.ok gX (fun vs H Q E h=> ?_) (fun d4 A0 outer s H vs Q E hr h=> ?_)
 ·obtain ⟨A,cas,W,m,u,rfl,_⟩:=h
  rfl
 ·obtain ⟨A,cas,W,m,u,rfl,R,wg,eA,MA,VO,⟨rr,eD⟩,k⟩:=h
  obtain ⟨dm,pp,mm,ys,hM,hp,hm,xj⟩:=MA.parts
  rw [eD] at hp
  have hu:=gF hr
  have CK:=fH T
  have hb:W.bag.length≤10000:=Nat.le_trans wg.bag wg.cap.2
  have CS:ys.length=u.msg.marks.length:=(Paired.length xj).symm
  obtain ⟨kvs,LP,Rn,GA⟩:=R.hd
  obtain ⟨RD,Bg,Bh⟩:=T.FC
  obtain ⟨as2,agD,agE⟩:=T.Vs
  refine ⟨_,ae (aW (i:=2) gX.nd rfl (Or.inl rfl) (aF bc (ai (pv 1) rfl) ah (fun _ _=>rfl)))
   (ae (bp (PW.pt (tE (aL cV (a6 aT (by rfl) T.d6 PySem.boot_len (aa (ai (pv 1) rfl) af)) ah (aQ _)) (mG (aL zy (aF bc (aF bc (ai (pv 1) rfl) ah (fun _ _=>rfl)) ah (fun _ _=>rfl)) (pv 2) (aQ _))))) (ak tF) aV)
   (ae (aW (i:=3) gX.nd rfl (Or.inl rfl) (aF bc (ai (pv 1) rfl) ah (fun _ _=>rfl)))
   (ae (bp (cq (EI hu (pv 3) (ai (pv 0) rfl))) (ak (aW (i:=4) gX.nd rfl (Or.inl rfl) (bZ (aa (aD (by rfl) Bg Bh) (aa (EH hu (ai (pv 0) rfl) (pv 3) (fun _ _=>rfl)) (aa ah af)))))) (ak (aW (i:=4) gX.nd rfl (Or.inl rfl) (bZ (aa (aD (by rfl) agD agE) (aa (pv 2) (aa (aF bc (pv 3) ah (fun _ _=>rfl)) af)))))))
   (ak (aI (aB (xk T) (hr.mono (by decide)) (by rfl) T.uH T.o7.kp T.uI .nil aU (aa (pv 0) (aa (pv 1) (aa (pv 4) (aa (ai (pv 1) rfl) (aa (tL Wh (ai (pv 1) rfl) (tK ah) El) af))))))))))),?_⟩
  refine ⟨_,rfl,m,_,dm,_,_,rfl,hM,T.au,T.aG,rfl,pp,_,_,_,rfl,rfl,bJ.of hp,rfl,?_⟩
  refine ⟨_,rfl,m,_,dm,_,_,rfl,hM,T.au,T.aY,rfl,mm,_,rfl,.inr (bJ.of hm),rfl,_,rfl,?_⟩
  cases Bi:u.msg.marks with
  |nil=>
   have hh:cQ W u=W:=by
    unfold cQ Vbcnag.handled
    rw [eD,Bi]
    rfl
   rw [hh] at k
   rw [Bi] at CS
   rw [show decide (V.int (ys.length:Int)=V.int 0)=true from decide_eq_true (by rw [CS];rfl)]
   exact bC (k H R ez.refl)
  |cons SA mks=>
   rw [Bi] at CS xj
   rw [show decide (V.int (ys.length:Int)=V.int 0)=false from decide_eq_false (fun z=>by
    injection z with z
    rw [CS,List.length_cons] at z
    omega)]
   refine bL ?_
   cases xj with
   |cons f0 ft=>
    rename_i v0 RL
    obtain ⟨fb,rfl,hfb⟩:=f0
    refine ⟨_,rfl,m,_,dm,_,_,rfl,hM,T.au,T.aY,rfl,mm,_,_,_,rfl,rfl,bJ.of hm,iJ (j:=0) rfl,fb,_,_,_,rfl,rfl,bJ.of hfb,rfl,_,rfl,rfl,_,rfl,?_⟩
    rw [lD]
    by_cases RM:¬SA.relay=rr
    ·have hh:cQ W u=W:=by
      unfold cQ Vbcnag.handled
      rw [eD,Bi]
      dsimp only
      rw [if_pos RM]
      rfl
     rw [hh] at k
     rw [decide_eq_false RM]
     exact bC (k H R ez.refl)
    have RM:=Decidable.not_not.mp RM
    rw [decide_eq_true RM]
    refine bL ?_
    refine ⟨_,rfl,m,_,dm,_,_,rfl,hM,T.au,T.aY,rfl,mm,_,_,_,rfl,rfl,bJ.of hm,iJ (j:=0) rfl,?_⟩
    have sR:H fb=some (.tup ((w8 SA.relay SA.circuit).map kV)):=hfb
    have DG:=gC.t LP sR
    rw [GA SA] at DG
    refine ⟨_,rfl,_,rfl,A.w,_,_,_,_,rfl,R.cW,T.aw,T.bV,rfl,A.hd,_,rfl,DG,_,rfl,?_⟩
    have whole:¬ (HT.ig (V.ref fb::RL).length 0 (some 1)=0∧HT.ig (V.ref fb::RL).length (V.ref fb::RL).length none=(V.ref fb::RL).length):=fun z=>by
     have z1:HT.ig (V.ref fb::RL).length 0 (some ((1:Nat):Int))=0:=z.1
     rw [HT.yZ,List.length_cons] at z1
     omega
    have fin:∀ (H1:Hp)(z:Addr)(pl:Vbcnag.Place),aj H H1→H1 z=some (.tup (dt pl))→cQ W u=(Vbcnag.puts W [D8 u pl u.msg.hops mks]).1→∀p,H1 p=none→
      LW (cs t) [.ref A.w,.ref m,.ref z,nV u.msg.hops,.ref p] (L2.upd H1 p (.tup (sS (V.ref fb::RL) (some 1) none))) Q E:=fun H1 z pl S1 hz hh p Nz=>by
     rw [hh] at k
     have ec:sS (V.ref fb::RL) (some 1) none=RL:=Bj (k:=1) (by show 1≤RL.length + 1;omega)
     rw [ec]
     have S2:=S1.trans (aj.ao (o:=HO.tup RL) Nz)
     exact ⟨A,cas,W,m,u,z,p,pl,u.msg.hops,mks,RL,rfl,R.same S2,hb,MA.keep (aj.keep (C:=cs t) S2),aj.ao Nz _ _ hz,ab,bN (aj.keep (C:=cs t) S2) ft,fun H2 R2 F2=>k H2 R2 ((aj.ek S2).trans F2)⟩
    cases SE:Vbcnag.below W SA with
    |none=>
     refine bL ?_
     refine ⟨_,rfl,_,rfl,fb,_,_,_,rfl,rfl,bJ.of hfb,rfl,(by show 3≤sizeLine;decide),fun z hz=> ?_⟩
     have S1:=aj.ao (o:=HO.tup [V.int 3,nV rr,nV SA.circuit]) hz
     have sM:L2.upd H z (HO.tup [V.int 3,nV rr,nV SA.circuit]) z=some (.tup (dt (.circuit rr SA.circuit))):=ab
     generalize L2.upd H z (HO.tup [V.int 3,nV rr,nV SA.circuit])=H1 at *
     have ow:=S1 _ _ hM
     refine ⟨_,rfl,_,rfl,_,rfl,_,rfl,m,_,dm,_,_,rfl,ow,T.au,T.bD,rfl,_,rfl,m,_,dm,_,_,rfl,ow,T.au,T.aY,rfl,_,rfl,mm,_,rfl,bJ.of (S1 _ _ hm),whole,fun p Nz=> ?_⟩
     refine fin H1 z _ S1 sM ?_ p Nz
     unfold cQ Vbcnag.handled
     rw [eD,Bi]
     dsimp only
     rw [if_neg (fun z=>z RM),SE,RM]
     rfl
    |some qq=>
     refine bC ?_
     rw [SE] at DG
     refine ⟨_,rfl,A.w,_,_,_,_,rfl,R.cW,T.aw,T.bV,rfl,_,rfl,A.hd,_,rfl,DG,(by show 3≤sizeLine;decide),fun z hz=> ?_⟩
     have S1:=aj.ao (o:=HO.tup [V.int 2,nV qq,V.int 0]) hz
     have sM:L2.upd H z (HO.tup [V.int 2,nV qq,V.int 0]) z=some (.tup (dt (.down qq))):=ab
     generalize L2.upd H z (HO.tup [V.int 2,nV qq,V.int 0])=H1 at *
     have ow:=S1 _ _ hM
     refine ⟨_,rfl,_,rfl,_,rfl,_,rfl,m,_,dm,_,_,rfl,ow,T.au,T.bD,rfl,_,rfl,m,_,dm,_,_,rfl,ow,T.au,T.aY,rfl,_,rfl,mm,_,rfl,bJ.of (S1 _ _ hm),whole,fun p Nz=> ?_⟩
     refine fin H1 z _ S1 sM ?_ p Nz
     unfold cQ Vbcnag.handled
     rw [eD,Bi]
     dsimp only
     rw [if_neg (fun z=>z RM),SE]
     rfl
theorem IM (T:Txt K mg t):bB P w K mg base fe 8 t.eX t.mY mK (qb (fun _ u=>∃r c,u.place= .circuit r c) (cs t)):=by
 refine T.sW.ok xw (fun vs H Q E h=> ?_) (fun d4 A0 outer s H vs Q E hr h=> ?_)
 ·obtain ⟨A,cas,W,m,u,rfl,_⟩:=h
  rfl
 ·obtain ⟨A,cas,W,m,u,rfl,R,wg,eA,MA,VO,⟨rr,cc,eD⟩,k⟩:=h
  obtain ⟨dm,pp,mm,ys,hM,hp,hm,xj⟩:=MA.parts
  rw [eD] at hp
  have hu:=gF hr
  have CK:=fH T
  have hb:W.bag.length≤10000:=Nat.le_trans wg.bag wg.cap.2
  have zk:u.msg.server.isSome=true:=by
   rcases VO.back with q|q
   ·exact absurd eD (q.2 rr cc)
   ·exact q.1
  refine ⟨_,ae (aW (i:=2) xw.nd rfl (Or.inl rfl) (gT hu (ai (pv 0) rfl) (ai (pv 1) rfl) ⟨rfl,rfl,rfl,rfl⟩))
   (ak (bp (PW.pt (ip (cq (gS (pv 2))) (fJ (aL (OK hr.units) (ai (pv 2) rfl) (bZ (aa (aF bc (ai (pv 1) rfl) ah (fun _ _=>rfl)) (aa (aF bc (ai (pv 1) rfl) ah (fun _ _=>rfl)) af))) (aQ _))))) (ak (aI (aB (UE T) (hr.mono (by decide)) (by rfl) T.Pp T.JP.kp T.Pq .nil aU (aa (pv 0) (aa (pv 2) (aa (pv 1) af)))))) aV)),?_⟩
  rcases R.find u.msg.host with ⟨hc,DG⟩|⟨i,ca,c,d,pl,be,le,hc,BE,hi,dA,nN,d3,DG⟩
  ·have hh:cQ W u=W:=by
    unfold cQ Vbcnag.handled
    rw [eD]
    dsimp only
    rw [hc]
    rfl
   rw [hh] at k
   refine ⟨_,rfl,A.w,_,_,_,_,rfl,R.cW,T.aw,T.aA,rfl,A.cd,rfl,.inl ⟨_,.inl R.cd⟩,_,rfl,m,_,dm,_,_,rfl,hM,T.au,T.bO,rfl,_,DG,?_⟩
   exact ⟨_,rfl,_,rfl,bL (k H R ez.refl)⟩
  ·have hh:cQ W u=if c.place=some {relay:=rr,circuit:=cc} then Vbcnag.done W (Vbcnag.hears W.now c u.msg) else W:=by
    unfold cQ Vbcnag.handled
    rw [eD]
    dsimp only
    rw [hc]
    dsimp only
    split <;>rfl
   rw [hh] at k
   refine ⟨_,rfl,A.w,_,_,_,_,rfl,R.cW,T.aw,T.aA,rfl,A.cd,rfl,.inl ⟨_,.inl R.cd⟩,_,rfl,m,_,dm,_,_,rfl,hM,T.au,T.bO,rfl,_,DG,?_⟩
   refine ⟨_,rfl,_,rfl,bC ?_⟩
   refine ⟨_,rfl,ca,_,d,_,_,rfl,nN,T.aq,T.aX,rfl,_,rfl,m,_,dm,_,_,rfl,hM,T.au,T.aG,rfl,pp,_,_,_,rfl,rfl,bJ.of hp,rfl,_,rfl,m,_,dm,_,_,rfl,hM,T.au,T.aG,rfl,pp,_,_,_,rfl,rfl,bJ.of hp,rfl,(by show 2≤sizeLine;decide),fun z hz=> ?_⟩
   have S1:=aj.ao (o:=HO.tup [nV rr,nV cc]) hz
   obtain ⟨d1,d2⟩:=Gf (K:=K) (d3.pl.keep (aj.keep (C:=cs t) S1))
   obtain ⟨e1,e2⟩:=Gf (K:=K) (H:=L2.upd H z (.tup [nV rr,nV cc])) (p:=some {relay:=rr,circuit:=cc}) (v:= .ref z) ⟨z,rfl,ab⟩
   refine ⟨_,_,d1,e1,d2,e2,_,rfl,?_⟩
   rw [LO]
   generalize L2.upd H z (.tup [nV rr,nV cc])=H1 at *
   by_cases hpc:c.place=some {relay:=rr,circuit:=cc}
   ·rw [if_pos hpc] at k
    rw [hpc,beq_self_eq_true]
    refine bC ?_
    exact ⟨_,rfl,_,rfl,_,rfl,A,cas,W,i,ca,c,m,u,rfl,R.same S1,hb,dA,hi,wg.cl c (List.mem_of_getElem? hi),MA.keep (aj.keep (C:=cs t) S1),zk,fun H2 R2 F2=>k H2 R2 ((aj.ek S1).trans F2)⟩
   ·rw [if_neg hpc] at k
    rw [beq_eq_false_iff_ne.mpr hpc]
    exact bL (k H1 (R.same S1) (aj.ek S1))
end
theorem kn:∀ (l:List Under)(m:Under)(W:VW),(Vbcnag.puts W (l ++ [m])).1=(Vbcnag.puts (Vbcnag.puts W l).1 [m]).1
 | [],_,_=>rfl
 |x::l,m,W=>by
  show (if W.bag.length < W.cap then ((Vbcnag.puts {W with bag:=W.bag ++ [x] } (l ++ [m])).1,x::(Vbcnag.puts {W with bag:=W.bag ++ [x] } (l ++ [m])).2) else Vbcnag.puts W (l ++ [m])).1=
   (Vbcnag.puts (if W.bag.length < W.cap then ((Vbcnag.puts {W with bag:=W.bag ++ [x] } l).1,x::(Vbcnag.puts {W with bag:=W.bag ++ [x] } l).2) else Vbcnag.puts W l).1 [m]).1
  split
  ·exact kn l m _
  ·exact kn l m W
theorem vY {W:VW}(g:cp W)(l:List Under):(Vbcnag.puts W l).1.bag.length≤10000:=by
 rw [gg]
 show (W.bag ++ l.take (W.cap - W.bag.length)).length≤10000
 have h1:=g.bag
 have h2:=g.cap.2
 rw [List.length_append,List.length_take]
 omega
section
variable {P:Program}{w:World}{K:PySem.W.Frag}{mg:Str→Option Value}{base:Heap}{t:jL}
def qc (u:Under)(k:Mark)(n:Nat):List Under:=(List.range n).map fun s=>D8 u (.server s) (u.msg.hops + 1) (k::u.msg.marks)
theorem lE (u:Under)(k:Mark)(n:Nat):qc u k (n + 1)=qc u k n ++ [D8 u (.server n) (u.msg.hops + 1) (k::u.msg.marks)] :=by
 unfold qc
 rw [List.range_succ,List.map_append]
 rfl
theorem Kq (T:Txt K mg t):bB P w K mg base fe 4 t.fW t.qA qp (qb (fun _ u=>∃r c,u.place= .up r c) (cs t)):=by
 refine T.wO.ok ir (fun vs H Q E h=> ?_) (fun d4 A0 outer s H vs Q E hr h=> ?_)
 ·obtain ⟨A,cas,W,m,u,rfl,_⟩:=h
  rfl
 ·obtain ⟨A,cas,W,m,u,rfl,R,wg,eA,MA,VO,⟨rr,cc,eD⟩,k⟩:=h
  obtain ⟨dm,pp,mm,ys,hM,hp,hm,xj⟩:=MA.parts
  rw [eD] at hp
  have hu:=gF hr
  have CK:=fH T
  have hb:W.bag.length≤10000:=Nat.le_trans wg.bag wg.cap.2
  have CS:ys.length=u.msg.marks.length:=(Paired.length xj).symm
  obtain ⟨kvs,LP,Rn,GA⟩:=R.hd
  obtain ⟨hrr,hms⟩:=VO.up rr cc eD
  obtain ⟨ras,d3,YT⟩:=R.rl
  obtain ⟨re,RM⟩:∃x,W.relays[rr]?=some x:=⟨_,List.getElem?_eq_getElem hrr⟩
  obtain ⟨ra,wj,dr,RN⟩:=Paired.at YT RM
  have UK:=nJ RM
  have Sn:GL (ras.map V.ref) (rr:Int)=some (V.ref ra):=iJ (by rw [List.getElem?_map,wj];rfl)
  have hh:cQ W u=if (Vbcnag.below W {relay:=rr,circuit:=cc}).isNone=true∧(u.msg.hops≠0∨u.msg.marks≠ []) then W else if re.limit≤u.msg.hops then W else
    (Vbcnag.puts W (match re.above with|some a=> [D8 u (.up a.relay a.circuit) (u.msg.hops + 1) ({relay:=rr,circuit:=cc}::u.msg.marks)] |none=>qc u {relay:=rr,circuit:=cc} W.servers)).1:=by
   unfold cQ Vbcnag.handled
   rw [eD]
   dsimp only
   rw [UK]
   split
   ·rfl
   ·split
    ·rfl
    ·cases re.above <;>rfl
  rw [hh] at k
  obtain ⟨IP,qd,qe⟩:=T.pB
  obtain ⟨agF,RO,RP⟩:=T.PM
  refine ⟨_,ae (aW (i:=2) ir.nd rfl (Or.inl rfl) (bZ (aa (aF bc (ai (pv 1) rfl) ah (fun _ _=>rfl)) (aa (aF bc (ai (pv 1) rfl) ah (fun _ _=>rfl)) af))))
   (ae (aW (i:=3) ir.nd rfl (Or.inl rfl) (aF aM (ai (pv 0) rfl) (aF bc (pv 2) ah (fun _ _=>rfl)) (fun _ _=>rfl)))
   (ae (bp (PW.pt (ip (cq (wy hu (pv 2) (ai (pv 0) rfl))) (fJ (PW.pt (tE (aL zy (ai (pv 1) rfl) ah (aQ _)) (mG (aL tI (a6 aT (by rfl) T.d6 PySem.boot_len (aa (ai (pv 1) rfl) af)) ah (aQ _)))))))) (ak tF) aV)
   (ae (bp (aL Z7 (ai (pv 1) rfl) (ai (pv 3) rfl) (aQ _)) (ak tF) aV)
   (ae (aW (i:=4) ir.nd rfl (Or.inl rfl) (cO eB (ai (pv 1) rfl) ah))
   (ae (aW (i:=5) ir.nd rfl (Or.inl rfl) (cO KW (bZ (aa (pv 2) af)) (ai (pv 1) rfl)))
   (ak (bp (cq (gR (ai (pv 3) rfl))) (ak (zw PassesOwn.never rfl (Mg (by rfl) T.uZ (aa (ai (pv 0) rfl) af)) (eU (i:=6) ir.nd rfl (Or.inl rfl)) (ak (aI (aB (xk T) (hr.mono (by decide)) (by rfl) T.uH T.o7.kp T.uI .nil aU (aa (pv 0) (aa (pv 1) (aa (bZ (aa (aD (by rfl) qd qe) (aa (pv 6) (aa ah af)))) (aa (pv 4) (aa (pv 5) af)))))))))) (ak (aI (aB (xk T) (hr.mono (by decide)) (by rfl) T.uH T.o7.kp T.uI .nil aU (aa (pv 0) (aa (pv 1) (aa (bZ (aa (aD (by rfl) RO RP) (aa (ai (pv 3) rfl) (aa (ai (pv 3) rfl) af)))) (aa (pv 4) (aa (pv 5) af))))))))))))))),?_⟩
  refine ⟨_,rfl,m,_,dm,_,_,rfl,hM,T.au,T.aG,rfl,pp,_,_,_,rfl,rfl,bJ.of hp,rfl,_,rfl,m,_,dm,_,_,rfl,hM,T.au,T.aG,rfl,pp,_,_,_,rfl,rfl,bJ.of hp,rfl,(by show 2≤sizeLine;decide),fun z hz=> ?_⟩
  have S1:=aj.ao (o:=HO.tup [nV rr,nV cc]) hz
  have sM:L2.upd H z (HO.tup [nV rr,nV cc]) z=some (.tup [nV rr,nV cc]):=ab
  generalize L2.upd H z (HO.tup [nV rr,nV cc])=H1 at *
  have R1:=R.same S1
  have ow:=S1 _ _ hM
  have Zx:=S1 _ _ hm
  have agG:=S1 _ _ RN
  have hzk:H1 z=some (.tup ((w8 rr cc).map kV)):=sM
  have DG:=gC.t (S1 _ _ LP) hzk
  rw [GA {relay:=rr,circuit:=cc}] at DG
  refine ⟨_,rfl,A.w,_,_,_,_,rfl,R1.cW,T.aw,T.bE,rfl,_,rfl,z,_,_,_,rfl,rfl,bJ.of sM,rfl,A.rl,_,_,_,rfl,rfl,cK.of (S1 _ _ d3),Sn,?_⟩
  refine ⟨_,rfl,_,rfl,A.w,_,_,_,_,rfl,R1.cW,T.aw,T.bV,rfl,A.hd,_,rfl,DG,_,rfl,?_⟩
  cases SE:Vbcnag.below W {relay:=rr,circuit:=cc} with
  |some q=>
   refine bL ?_
   have hn:¬ ((Vbcnag.below W {relay:=rr,circuit:=cc}).isNone=true∧(u.msg.hops≠0∨u.msg.marks≠ [])):=fun z=>by
    rw [SE] at z
    exact Bool.false_ne_true z.1
   rw [if_neg hn] at k
   refine ⟨_,rfl,m,_,dm,_,_,rfl,ow,T.au,T.bD,rfl,_,rfl,ra,_,dr,_,_,rfl,agG,T.cj,T.eN,rfl,_,_,rfl,rfl,_,rfl,?_⟩
   refine eQ (fun q1=> ?_) fun q1=> ?_
   ·have h1:re.limit≤u.msg.hops:=by
     have:=of_decide_eq_true q1
     omega
    rw [if_pos h1] at k
    exact k H1 R1 (aj.ek S1)
   have h1:¬re.limit≤u.msg.hops:=fun z=>q1 (decide_eq_true (by omega))
   rw [if_neg h1] at k
   refine ⟨_,rfl,m,_,dm,_,_,rfl,ow,T.au,T.bD,rfl,_,_,rfl,rfl,?_⟩
   refine ⟨_,rfl,(by show 1≤sizeLine;decide),fun z2 RQ=> ?_⟩
   have S2:=aj.ao (o:=HO.tup [V.ref z]) RQ
   have YQ:L2.upd H1 z2 (HO.tup [V.ref z]) z2=some (.tup [V.ref z]):=ab
   generalize L2.upd H1 z2 (HO.tup [V.ref z])=H2 at *
   refine ⟨_,rfl,m,_,dm,_,_,rfl,S2 _ _ ow,T.au,T.aY,rfl,z2,mm,_,_,rfl,rfl,bJ.of YQ,bJ.of (S2 _ _ Zx),(fun q=>nomatch q),(by
    have:=VO.marks
    rw [←CS] at this
    show 1 + ys.length≤sizeLine
    exact Nat.le_trans (show _≤33 by omega) (by decide)),fun e=> ?_,fun ne p hp3=> ?_⟩
   ·have S3:=S1.trans S2
    have Oh:=S2
    have NN:H2 z2=some (.tup (V.ref z::ys)):=by rw [e];exact YQ
    generalize z2=ma at *
    generalize H2=H3 at *
    have RR:Paired (dy H3) ({relay:=rr,circuit:=cc}::u.msg.marks) (V.ref z::ys):= .cons ⟨z,rfl,Oh _ _ sM⟩ (bN (aj.keep (C:=cs t) S3) xj)
    have R3:=R.same S3
    have YU:=S3 _ _ hM
    have nQ:=S3 _ _ RN
    have RS:=MA.keep (aj.keep (C:=cs t) S3)
    refine ⟨_,rfl,ra,_,dr,_,_,rfl,nQ,T.cj,T.bf,rfl,_,rfl,?_⟩
    cases qW:re.above with
    |none=>
     rw [qW] at k
     refine bC ?_
     have hs4:=wg.Zw
     refine ⟨_,rfl,A.w,_,_,_,_,rfl,R3.cW,T.aw,T.bR,rfl,(W.servers:Int),rfl,(by omega),(by omega),?_⟩
     refine qh (n:=(W.servers:Int).toNat) (fun i σ Hk=>∃v6,σ= [some (V.ref A.w),some (V.ref m),some (V.ref z),some (V.ref ra),some (nV (u.msg.hops + 1)),some (V.ref ma),v6] ∧Rep (cs t) Hk A cas (Vbcnag.puts W (qc u {relay:=rr,circuit:=cc} i)).1∧ez A cas H3 Hk) ⟨none,rfl,R3,ez.refl⟩ (fun i σ Hk hi hk=> ?_) (fun σ Hk hk=> ?_)
     ·obtain ⟨v6,rfl,Rk,Fk⟩:=hk
      rw [show (0:Int) + (i:Int)=(i:Int) from Int.zero_add _]
      have kk:=R3.keep CK Fk
      refine ⟨_,rfl,_,rfl,_,rfl,(by show 3≤sizeLine;decide),fun q hq=> ?_⟩
      have Sq:=aj.ao (o:=HO.tup [V.int 1,V.int (i:Int),V.int 0]) hq
      have kq:=kk.trans (aj.keep (C:=cs t) Sq)
      exact ⟨_,rfl,_,rfl,A,cas,_,m,u,q,ma,.server i,u.msg.hops + 1,{relay:=rr,circuit:=cc}::u.msg.marks,V.ref z::ys,rfl,Rk.same Sq,vY wg _,RS.keep kq,ab,kq.tup NN,bN kq RR,fun H5 R5 F5=>⟨some (V.int (i:Int)),rfl,(by rw [lE,kn];exact R5),(Fk.trans (aj.ek Sq)).trans F5⟩⟩
     ·obtain ⟨v6,rfl,Rk,Fk⟩:=hk
      rw [Int.toNat_natCast] at Rk
      exact k Hk Rk ((aj.ek S3).trans Fk)
    |some a=>
     rw [qW] at k nQ
     refine bL ?_
     refine ⟨_,rfl,_,rfl,_,rfl,ra,_,dr,_,_,rfl,nQ,T.cj,T.bf,rfl,_,rfl,ra,_,dr,_,_,rfl,nQ,T.cj,T.cf,rfl,(by show 3≤sizeLine;decide),fun q hq=> ?_⟩
     have Sq:=aj.ao (o:=HO.tup [V.int 0,nV a.relay,nV a.circuit]) hq
     exact ⟨_,rfl,_,rfl,A,cas,W,m,u,q,ma,.up a.relay a.circuit,u.msg.hops + 1,{relay:=rr,circuit:=cc}::u.msg.marks,V.ref z::ys,rfl,R3.same Sq,hb,RS.keep (aj.keep (C:=cs t) Sq),ab,Sq _ _ NN,bN (aj.keep (C:=cs t) Sq) RR,fun H5 R5 F5=>k H5 R5 (((aj.ek S3).trans (aj.ek Sq)).trans F5)⟩
   ·have Oh:=S2.trans (aj.ao (o:=HO.tup ([V.ref z] ++ ys)) hp3)
    have S3:=S1.trans Oh
    have NN:L2.upd H2 p (.tup ([V.ref z] ++ ys)) p=some (.tup (V.ref z::ys)):=ab
    generalize L2.upd H2 p (.tup ([V.ref z] ++ ys))=H3 at *
    generalize p=ma at *
    have RR:Paired (dy H3) ({relay:=rr,circuit:=cc}::u.msg.marks) (V.ref z::ys):= .cons ⟨z,rfl,Oh _ _ sM⟩ (bN (aj.keep (C:=cs t) S3) xj)
    have R3:=R.same S3
    have YU:=S3 _ _ hM
    have nQ:=S3 _ _ RN
    have RS:=MA.keep (aj.keep (C:=cs t) S3)
    refine ⟨_,rfl,ra,_,dr,_,_,rfl,nQ,T.cj,T.bf,rfl,_,rfl,?_⟩
    cases qW:re.above with
    |none=>
     rw [qW] at k
     refine bC ?_
     have hs4:=wg.Zw
     refine ⟨_,rfl,A.w,_,_,_,_,rfl,R3.cW,T.aw,T.bR,rfl,(W.servers:Int),rfl,(by omega),(by omega),?_⟩
     refine qh (n:=(W.servers:Int).toNat) (fun i σ Hk=>∃v6,σ= [some (V.ref A.w),some (V.ref m),some (V.ref z),some (V.ref ra),some (nV (u.msg.hops + 1)),some (V.ref ma),v6] ∧Rep (cs t) Hk A cas (Vbcnag.puts W (qc u {relay:=rr,circuit:=cc} i)).1∧ez A cas H3 Hk) ⟨none,rfl,R3,ez.refl⟩ (fun i σ Hk hi hk=> ?_) (fun σ Hk hk=> ?_)
     ·obtain ⟨v6,rfl,Rk,Fk⟩:=hk
      rw [show (0:Int) + (i:Int)=(i:Int) from Int.zero_add _]
      have kk:=R3.keep CK Fk
      refine ⟨_,rfl,_,rfl,_,rfl,(by show 3≤sizeLine;decide),fun q hq=> ?_⟩
      have Sq:=aj.ao (o:=HO.tup [V.int 1,V.int (i:Int),V.int 0]) hq
      have kq:=kk.trans (aj.keep (C:=cs t) Sq)
      exact ⟨_,rfl,_,rfl,A,cas,_,m,u,q,ma,.server i,u.msg.hops + 1,{relay:=rr,circuit:=cc}::u.msg.marks,V.ref z::ys,rfl,Rk.same Sq,vY wg _,RS.keep kq,ab,kq.tup NN,bN kq RR,fun H5 R5 F5=>⟨some (V.int (i:Int)),rfl,(by rw [lE,kn];exact R5),(Fk.trans (aj.ek Sq)).trans F5⟩⟩
     ·obtain ⟨v6,rfl,Rk,Fk⟩:=hk
      rw [Int.toNat_natCast] at Rk
      exact k Hk Rk ((aj.ek S3).trans Fk)
    |some a=>
     rw [qW] at k nQ
     refine bL ?_
     refine ⟨_,rfl,_,rfl,_,rfl,ra,_,dr,_,_,rfl,nQ,T.cj,T.bf,rfl,_,rfl,ra,_,dr,_,_,rfl,nQ,T.cj,T.cf,rfl,(by show 3≤sizeLine;decide),fun q hq=> ?_⟩
     have Sq:=aj.ao (o:=HO.tup [V.int 0,nV a.relay,nV a.circuit]) hq
     exact ⟨_,rfl,_,rfl,A,cas,W,m,u,q,ma,.up a.relay a.circuit,u.msg.hops + 1,{relay:=rr,circuit:=cc}::u.msg.marks,V.ref z::ys,rfl,R3.same Sq,hb,RS.keep (aj.keep (C:=cs t) Sq),ab,Sq _ _ NN,bN (aj.keep (C:=cs t) Sq) RR,fun H5 R5 F5=>k H5 R5 (((aj.ek S3).trans (aj.ek Sq)).trans F5)⟩
  |none=>
   refine bC ?_
   refine ⟨_,rfl,m,_,dm,_,_,rfl,ow,T.au,T.bD,rfl,rfl,_,rfl,?_⟩
   by_cases VN:¬u.msg.hops=0
   ·rw [show decide (nV u.msg.hops=V.int 0)=false from lD.trans (decide_eq_false VN)]
    rw [if_pos ⟨by rw [SE];rfl,.inl VN⟩] at k
    exact bC (bC (k H1 R1 (aj.ek S1)))
   have VN:=Decidable.not_not.mp VN
   rw [show decide (nV u.msg.hops=V.int 0)=true from lD.trans (decide_eq_true VN)]
   refine bL ?_
   refine ⟨_,rfl,m,_,dm,_,_,rfl,ow,T.au,T.aY,rfl,mm,_,rfl,.inr (bJ.of Zx),_,_,rfl,rfl,_,rfl,?_⟩
   refine eQ (fun q0=> ?_) fun q0=> ?_
   ·have h0:u.msg.marks≠ [] :=fun z=>by
     have:=of_decide_eq_true q0
     rw [CS,z] at this
     exact absurd this (by decide)
    rw [if_pos ⟨by rw [SE];rfl,.inr h0⟩] at k
    exact k H1 R1 (aj.ek S1)
   have h0:u.msg.marks= [] :=by
    apply List.eq_nil_of_length_eq_zero
    have:¬ (0:Int) < (ys.length:Int):=fun z=>q0 (decide_eq_true z)
    omega
   have hn:¬ ((Vbcnag.below W {relay:=rr,circuit:=cc}).isNone=true∧(u.msg.hops≠0∨u.msg.marks≠ [])):=fun z=>z.2.elim (fun y=>y VN) (fun y=>y h0)
   rw [if_neg hn] at k
   refine ⟨_,rfl,m,_,dm,_,_,rfl,ow,T.au,T.bD,rfl,_,rfl,ra,_,dr,_,_,rfl,agG,T.cj,T.eN,rfl,_,_,rfl,rfl,_,rfl,?_⟩
   refine eQ (fun q1=> ?_) fun q1=> ?_
   ·have h1:re.limit≤u.msg.hops:=by
     have:=of_decide_eq_true q1
     omega
    rw [if_pos h1] at k
    exact k H1 R1 (aj.ek S1)
   have h1:¬re.limit≤u.msg.hops:=fun z=>q1 (decide_eq_true (by omega))
   rw [if_neg h1] at k
   refine ⟨_,rfl,m,_,dm,_,_,rfl,ow,T.au,T.bD,rfl,_,_,rfl,rfl,?_⟩
   refine ⟨_,rfl,(by show 1≤sizeLine;decide),fun z2 RQ=> ?_⟩
   have S2:=aj.ao (o:=HO.tup [V.ref z]) RQ
   have YQ:L2.upd H1 z2 (HO.tup [V.ref z]) z2=some (.tup [V.ref z]):=ab
   generalize L2.upd H1 z2 (HO.tup [V.ref z])=H2 at *
   refine ⟨_,rfl,m,_,dm,_,_,rfl,S2 _ _ ow,T.au,T.aY,rfl,z2,mm,_,_,rfl,rfl,bJ.of YQ,bJ.of (S2 _ _ Zx),(fun q=>nomatch q),(by
    have:=VO.marks
    rw [←CS] at this
    show 1 + ys.length≤sizeLine
    exact Nat.le_trans (show _≤33 by omega) (by decide)),fun e=> ?_,fun ne p hp3=> ?_⟩
   ·have S3:=S1.trans S2
    have Oh:=S2
    have NN:H2 z2=some (.tup (V.ref z::ys)):=by rw [e];exact YQ
    generalize z2=ma at *
    generalize H2=H3 at *
    have RR:Paired (dy H3) ({relay:=rr,circuit:=cc}::u.msg.marks) (V.ref z::ys):= .cons ⟨z,rfl,Oh _ _ sM⟩ (bN (aj.keep (C:=cs t) S3) xj)
    have R3:=R.same S3
    have YU:=S3 _ _ hM
    have nQ:=S3 _ _ RN
    have RS:=MA.keep (aj.keep (C:=cs t) S3)
    refine ⟨_,rfl,ra,_,dr,_,_,rfl,nQ,T.cj,T.bf,rfl,_,rfl,?_⟩
    cases qW:re.above with
    |none=>
     rw [qW] at k
     refine bC ?_
     have hs4:=wg.Zw
     refine ⟨_,rfl,A.w,_,_,_,_,rfl,R3.cW,T.aw,T.bR,rfl,(W.servers:Int),rfl,(by omega),(by omega),?_⟩
     refine qh (n:=(W.servers:Int).toNat) (fun i σ Hk=>∃v6,σ= [some (V.ref A.w),some (V.ref m),some (V.ref z),some (V.ref ra),some (nV (u.msg.hops + 1)),some (V.ref ma),v6] ∧Rep (cs t) Hk A cas (Vbcnag.puts W (qc u {relay:=rr,circuit:=cc} i)).1∧ez A cas H3 Hk) ⟨none,rfl,R3,ez.refl⟩ (fun i σ Hk hi hk=> ?_) (fun σ Hk hk=> ?_)
     ·obtain ⟨v6,rfl,Rk,Fk⟩:=hk
      rw [show (0:Int) + (i:Int)=(i:Int) from Int.zero_add _]
      have kk:=R3.keep CK Fk
      refine ⟨_,rfl,_,rfl,_,rfl,(by show 3≤sizeLine;decide),fun q hq=> ?_⟩
      have Sq:=aj.ao (o:=HO.tup [V.int 1,V.int (i:Int),V.int 0]) hq
      have kq:=kk.trans (aj.keep (C:=cs t) Sq)
      exact ⟨_,rfl,_,rfl,A,cas,_,m,u,q,ma,.server i,u.msg.hops + 1,{relay:=rr,circuit:=cc}::u.msg.marks,V.ref z::ys,rfl,Rk.same Sq,vY wg _,RS.keep kq,ab,kq.tup NN,bN kq RR,fun H5 R5 F5=>⟨some (V.int (i:Int)),rfl,(by rw [lE,kn];exact R5),(Fk.trans (aj.ek Sq)).trans F5⟩⟩
     ·obtain ⟨v6,rfl,Rk,Fk⟩:=hk
      rw [Int.toNat_natCast] at Rk
      exact k Hk Rk ((aj.ek S3).trans Fk)
    |some a=>
     rw [qW] at k nQ
     refine bL ?_
     refine ⟨_,rfl,_,rfl,_,rfl,ra,_,dr,_,_,rfl,nQ,T.cj,T.bf,rfl,_,rfl,ra,_,dr,_,_,rfl,nQ,T.cj,T.cf,rfl,(by show 3≤sizeLine;decide),fun q hq=> ?_⟩
     have Sq:=aj.ao (o:=HO.tup [V.int 0,nV a.relay,nV a.circuit]) hq
     exact ⟨_,rfl,_,rfl,A,cas,W,m,u,q,ma,.up a.relay a.circuit,u.msg.hops + 1,{relay:=rr,circuit:=cc}::u.msg.marks,V.ref z::ys,rfl,R3.same Sq,hb,RS.keep (aj.keep (C:=cs t) Sq),ab,Sq _ _ NN,bN (aj.keep (C:=cs t) Sq) RR,fun H5 R5 F5=>k H5 R5 (((aj.ek S3).trans (aj.ek Sq)).trans F5)⟩
   ·have Oh:=S2.trans (aj.ao (o:=HO.tup ([V.ref z] ++ ys)) hp3)
    have S3:=S1.trans Oh
    have NN:L2.upd H2 p (.tup ([V.ref z] ++ ys)) p=some (.tup (V.ref z::ys)):=ab
    generalize L2.upd H2 p (.tup ([V.ref z] ++ ys))=H3 at *
    generalize p=ma at *
    have RR:Paired (dy H3) ({relay:=rr,circuit:=cc}::u.msg.marks) (V.ref z::ys):= .cons ⟨z,rfl,Oh _ _ sM⟩ (bN (aj.keep (C:=cs t) S3) xj)
    have R3:=R.same S3
    have YU:=S3 _ _ hM
    have nQ:=S3 _ _ RN
    have RS:=MA.keep (aj.keep (C:=cs t) S3)
    refine ⟨_,rfl,ra,_,dr,_,_,rfl,nQ,T.cj,T.bf,rfl,_,rfl,?_⟩
    cases qW:re.above with
    |none=>
     rw [qW] at k
     refine bC ?_
     have hs4:=wg.Zw
     refine ⟨_,rfl,A.w,_,_,_,_,rfl,R3.cW,T.aw,T.bR,rfl,(W.servers:Int),rfl,(by omega),(by omega),?_⟩
     refine qh (n:=(W.servers:Int).toNat) (fun i σ Hk=>∃v6,σ= [some (V.ref A.w),some (V.ref m),some (V.ref z),some (V.ref ra),some (nV (u.msg.hops + 1)),some (V.ref ma),v6] ∧Rep (cs t) Hk A cas (Vbcnag.puts W (qc u {relay:=rr,circuit:=cc} i)).1∧ez A cas H3 Hk) ⟨none,rfl,R3,ez.refl⟩ (fun i σ Hk hi hk=> ?_) (fun σ Hk hk=> ?_)
     ·obtain ⟨v6,rfl,Rk,Fk⟩:=hk
      rw [show (0:Int) + (i:Int)=(i:Int) from Int.zero_add _]
      have kk:=R3.keep CK Fk
      refine ⟨_,rfl,_,rfl,_,rfl,(by show 3≤sizeLine;decide),fun q hq=> ?_⟩
      have Sq:=aj.ao (o:=HO.tup [V.int 1,V.int (i:Int),V.int 0]) hq
      have kq:=kk.trans (aj.keep (C:=cs t) Sq)
      exact ⟨_,rfl,_,rfl,A,cas,_,m,u,q,ma,.server i,u.msg.hops + 1,{relay:=rr,circuit:=cc}::u.msg.marks,V.ref z::ys,rfl,Rk.same Sq,vY wg _,RS.keep kq,ab,kq.tup NN,bN kq RR,fun H5 R5 F5=>⟨some (V.int (i:Int)),rfl,(by rw [lE,kn];exact R5),(Fk.trans (aj.ek Sq)).trans F5⟩⟩
     ·obtain ⟨v6,rfl,Rk,Fk⟩:=hk
      rw [Int.toNat_natCast] at Rk
      exact k Hk Rk ((aj.ek S3).trans Fk)
    |some a=>
     rw [qW] at k nQ
     refine bL ?_
     refine ⟨_,rfl,_,rfl,_,rfl,ra,_,dr,_,_,rfl,nQ,T.cj,T.bf,rfl,_,rfl,ra,_,dr,_,_,rfl,nQ,T.cj,T.cf,rfl,(by show 3≤sizeLine;decide),fun q hq=> ?_⟩
     have Sq:=aj.ao (o:=HO.tup [V.int 0,nV a.relay,nV a.circuit]) hq
     exact ⟨_,rfl,_,rfl,A,cas,W,m,u,q,ma,.up a.relay a.circuit,u.msg.hops + 1,{relay:=rr,circuit:=cc}::u.msg.marks,V.ref z::ys,rfl,R3.same Sq,hb,RS.keep (aj.keep (C:=cs t) Sq),ab,Sq _ _ NN,bN (aj.keep (C:=cs t) Sq) RR,fun H5 R5 F5=>k H5 R5 (((aj.ek S3).trans (aj.ek Sq)).trans F5)⟩
end
theorem Paired.erase {α β:Type}{F:α→β→Prop}:∀ {l:List α}{m:List β}(i:Nat),Paired F l m→Paired F (l.eraseIdx i) (m.eraseIdx i)
 |_,_,_,.nil=> .nil
 |_,_,0,.cons _ t=>t
 |_,_,i + 1,.cons f t=> .cons f (Paired.erase i t)
theorem LY {k n:Nat}(h:k < n):seqIndex? (k:Int) n=some k:=by
 refine (En (n:=n) (i:=(k:Int)) (j:=k) ?_).1
 unfold Od
 rw [if_pos (by omega),if_pos (by omega),Int.toNat_natCast]
section
variable {P:Program}{w:World}{K:PySem.W.Frag}{mg:Str→Option Value}{base:Heap}{t:jL}
def NQ (C:Cs):Sp:=fun vs H Q _=>∃ (A:Ad)(cas:List Addr)(W:VW)(k:Nat),vs= [.ref A.w,nV k] ∧Rep C H A cas W∧cp W∧W.written.length < sizeLine∧k < W.bag.length∧
 ∀H',Rep C H' A cas (Vbcnag.delivered W k).1→ez A cas H H'→Q .bX H'
theorem sN (T:Txt K mg t):bB P w K mg base fe 9 t.dH t.jS jE (NQ (cs t)):=by
 refine T.j0.ok qZ (fun vs H Q E h=> ?_) (fun d4 A0 outer s H vs Q E hr h=> ?_)
 ·obtain ⟨A,cas,W,kk,rfl,_⟩:=h
  rfl
 ·obtain ⟨A,cas,W,kk,rfl,R,wg,eA,Bk,k⟩:=h
  obtain ⟨bas,ot,we⟩:=R.bg
  have hb:W.bag.length≤10000:=Nat.le_trans wg.bag wg.cap.2
  have ZA:bas.length=W.bag.length:=Paired.length we
  obtain ⟨u,Oi⟩:∃u,W.bag[kk]?=some u:=⟨_,List.getElem?_eq_getElem Bk⟩
  obtain ⟨m,YV,MA⟩:=Paired.at we Oi
  have aqP:(Vbcnag.delivered W kk).1=cQ {W with bag:=W.bag.eraseIdx kk} u:=by
   unfold Vbcnag.delivered cQ
   rw [Oi]
  rw [aqP] at k
  have MG:=wg.msgs u (List.mem_of_getElem? Oi)
  have wg1:=nL wg kk
  have R1:=R.Kg (Paired.erase kk we)
  have k1:dZ (cs t) H (L2.upd H A.bg (.lst ((bas.eraseIdx kk).map V.ref))):=dZ.upd ot (fun q=>q)
  have F1:ez A cas H (L2.upd H A.bg (.lst ((bas.eraseIdx kk).map V.ref))):=ez.upd (.inr (.inr (.inr (.inr (.inr (.inr (.inr (.inl rfl))))))))
  obtain ⟨agF,RO,RP⟩:=T.PM
  obtain ⟨IP,qd,qe⟩:=T.pB
  obtain ⟨RD,Bg,Bh⟩:=T.FC
  refine ⟨_,ae (aW (i:=2) qZ.nd rfl (Or.inl rfl) (ij PySem.F.plainAttrs_list PySem.F.slot_list_pop PySem.F.type_list_pop GQ (ai (pv 0) rfl) (aa (pv 1) af)))
   (ak (bp (aL cV (aF bc (ai (pv 2) rfl) ah (fun _ _=>rfl)) (aD (by rfl) RO RP) (aQ _)) (ak (aI (aB (Kq T) (hr.mono (by decide)) (by rfl) T.Di T.wO.kp T.Dj .nil aU (aa (pv 0) (aa (pv 2) af))))) (ak (bp (aL cV (aF bc (ai (pv 2) rfl) ah (fun _ _=>rfl)) (aD (by rfl) qd qe) (aQ _)) (ak (aI (aB (RI T) (hr.mono (by decide)) (by rfl) T.Lj T.Fy.kp T.Lk .nil aU (aa (pv 0) (aa (pv 2) af))))) (ak (bp (aL cV (aF bc (ai (pv 2) rfl) ah (fun _ _=>rfl)) (aD (by rfl) Bg Bh) (aQ _)) (ak (aI (aB (Gr T) (hr.mono (by decide)) (by rfl) T.xH T.pf.kp T.xI .nil aU (aa (pv 0) (aa (pv 2) af))))) (ak (aI (aB (IM T) (hr.mono (by decide)) (by rfl) T.Aa T.sW.kp T.Ab .nil aU (aa (pv 0) (aa (pv 2) af))))))))))),?_⟩
  refine ⟨_,rfl,A.w,_,_,_,_,rfl,R.cW,T.aw,T.bu,rfl,.inl ⟨rfl,_,cK.of ot⟩,_,rfl,A.bg,_,(kk:Int),kk,V.ref m,rfl,rfl,ot,(by omega),(by omega),LY (by rw [List.length_map,ZA];exact Bk),(by rw [List.getElem?_map,YV];rfl),?_⟩
  rw [qk]
  generalize L2.upd H A.bg (.lst ((bas.eraseIdx kk).map V.ref))=H1 at *
  have ZE:=MA.keep k1
  obtain ⟨dm,pp,mm,ys,hM,hp,hm,xj⟩:=ZE.parts
  have go:∀p:VW→Under→Prop,p {W with bag:=W.bag.eraseIdx kk} u→qb p (cs t) [.ref A.w,.ref m] H1 Q E:=fun p hp=>⟨A,cas,_,m,u,rfl,R1,wg1,eA,ZE,MG,hp,fun H2 R2 F2=>k H2 R2 (F1.trans F2)⟩
  cases eD:u.place with
  |up r c=>
   rw [eD] at hp
   refine ⟨_,rfl,m,_,dm,_,_,rfl,hM,T.au,T.aG,rfl,pp,_,_,_,rfl,rfl,bJ.of hp,rfl,rfl,_,rfl,bC ?_⟩
   exact ⟨_,rfl,_,rfl,go _ ⟨r,c,eD⟩⟩
  |server sv=>
   rw [eD] at hp
   refine ⟨_,rfl,m,_,dm,_,_,rfl,hM,T.au,T.aG,rfl,pp,_,_,_,rfl,rfl,bJ.of hp,rfl,rfl,_,rfl,bL ?_⟩
   refine ⟨_,rfl,m,_,dm,_,_,rfl,hM,T.au,T.aG,rfl,pp,_,_,_,rfl,rfl,bJ.of hp,rfl,rfl,_,rfl,bC ?_⟩
   exact ⟨_,rfl,_,rfl,go _ ⟨sv,eD⟩⟩
  |down r=>
   rw [eD] at hp
   refine ⟨_,rfl,m,_,dm,_,_,rfl,hM,T.au,T.aG,rfl,pp,_,_,_,rfl,rfl,bJ.of hp,rfl,rfl,_,rfl,bL ?_⟩
   refine ⟨_,rfl,m,_,dm,_,_,rfl,hM,T.au,T.aG,rfl,pp,_,_,_,rfl,rfl,bJ.of hp,rfl,rfl,_,rfl,bL ?_⟩
   refine ⟨_,rfl,m,_,dm,_,_,rfl,hM,T.au,T.aG,rfl,pp,_,_,_,rfl,rfl,bJ.of hp,rfl,rfl,_,rfl,bC ?_⟩
   exact ⟨_,rfl,_,rfl,go _ ⟨r,eD⟩⟩
  |circuit r c=>
   rw [eD] at hp
   refine ⟨_,rfl,m,_,dm,_,_,rfl,hM,T.au,T.aG,rfl,pp,_,_,_,rfl,rfl,bJ.of hp,rfl,rfl,_,rfl,bL ?_⟩
   refine ⟨_,rfl,m,_,dm,_,_,rfl,hM,T.au,T.aG,rfl,pp,_,_,_,rfl,rfl,bJ.of hp,rfl,rfl,_,rfl,bL ?_⟩
   refine ⟨_,rfl,m,_,dm,_,_,rfl,hM,T.au,T.aG,rfl,pp,_,_,_,rfl,rfl,bJ.of hp,rfl,rfl,_,rfl,bL ?_⟩
   exact ⟨_,rfl,_,rfl,go _ ⟨r,c,eD⟩⟩
end
end Rl
namespace L2
open PySem PySem.Spec PyProof.Rows
theorem YW {X:Cx}{tg l:Expr}{tl tl':TE}(h:PE X l tl)(h':PE X l tl'):PI X tg l (fun σ H R=>Vb X.K tl σ H R∨Z3 X.K tl' σ H R):=by
 intro pins s σ H R I q
 rcases q with q|q
 ·exact qg h pins s σ H R I q
 ·exact V6 h' pins s σ H R I q
end L2
namespace Rl
open PySem PySem.Spec PyProof.Rows L2
open Vbcnag (Mark Msg Under Offer Lease Client Relay Assigned Written)
def UL (v i:V):V:=if v= .bX then i else v
theorem aj.tup {K:PySem.W.Frag}{H H':Hp}(S:aj H H'){a:Addr}{xs:List V}(h:bJ K H a xs):bJ K H' a xs:=by
 rcases h with (h|⟨o,h⟩)|h
 ·exact .inl (.inl (S _ _ h))
 ·exact .inl (.inr ⟨o,S _ _ h⟩)
 ·exact .inr h
section
variable {P:Program}{w:World}{K:PySem.W.Frag}{mg:Str→Option Value}{base:Heap}{t:jL}
def aqQ:Sp:=fun vs H Q _=>∃ (v i:V),vs= [v,i] ∧Q (UL v i) H
theorem kM (T:Txt K mg t):bB P w K mg base fe 1 t.fX t.qB qt aqQ:=by
 refine T.iH.ok JK (fun vs H Q E h=> ?_) (fun d4 A0 outer s H vs Q E hr h=> ?_)
 ·obtain ⟨v,i,rfl,_⟩:=h
  rfl
 ·obtain ⟨v,i,rfl,k⟩:=h
  unfold UL at k
  refine ⟨_,ak (aK (GH (cq (gR (pv 0))) (pv 1) (pv 0))),?_⟩
  refine ⟨_,rfl,_,rfl,?_⟩
  by_cases h:v= .bX
  ·rw [if_pos h] at k
   rw [decide_eq_true h]
   exact bC ⟨_,rfl,k⟩
  ·rw [if_neg h] at k
   rw [decide_eq_false h]
   exact bL ⟨_,rfl,k⟩
def dC (l:List Mark):List Int:=Vbcnag.nums (l.flatMap fun k=> [k.relay,k.circuit])
theorem Kr (l:List Mark)(a:Mark):dC (l ++ [a])=dC l ++ [(a.relay:Int),(a.circuit:Int)] :=by
 unfold dC Vbcnag.nums
 rw [List.flatMap_append,List.map_append]
 rfl
theorem ko:∀l:List Mark,(dC l).length=2 * l.length
 | [] =>rfl
 |a::l=>by
  show (dC l).length + 2=_
  rw [ko l,List.length_cons]
  omega
def zl (K:PySem.W.Frag):Sp:=fun vs H Q _=>∃ (p:Addr)(xs:List V)(ms:List Mark),vs= [.ref p] ∧(cK K H p xs∨bJ K H p xs)∧Paired (dy H) ms xs∧ms.length≤1000000∧
 ∀H' r,aj H H'→H' r=some (.lst ((Vbcnag.markNums ms).map V.int))→H r=none→Q (.ref r) H'
theorem dP (T:Txt K mg t):bB P w K mg base fe 1 t.cI t.fE fA (zl K):=by
 refine T.jo.ok mL (fun vs H Q E h=> ?_) (fun d4 A0 outer s H vs Q E hr h=> ?_)
 ·obtain ⟨p,xs,ms,rfl,_⟩:=h
  rfl
 ·obtain ⟨p,xs,ms,rfl,hS,hP,hlen,k⟩:=h
  have hl:xs.length=ms.length:=(Paired.length hP).symm
  have hPi:=cU.mp hP
  refine ⟨_,ae (aW (i:=1) mL.nd rfl (Or.inl rfl) (a3 (aa (a6 aT (by rfl) T.d6 PySem.boot_len (aa (pv 0) af)) af)))
   (ae (zw PassesOwn.never rfl (YW (pv 0) (pv 0)) (eU (i:=2) mL.nd rfl (Or.inl rfl)) (ak (aI (ij PySem.F.plainAttrs_list PySem.F.slot_list_extend PySem.F.type_list_extend mJ (pv 1) (aa (pv 2) af)))))
   (ak (aK (pv 1)))),?_⟩
  refine ⟨_,rfl,p,xs,rfl,hS,(by show 1≤sizeLine;decide),fun r yC=> ?_⟩
  have S1:=aj.ao (o:=HO.lst [V.int (xs.length:Int)]) yC
  have Iy:L2.upd H r (HO.lst [V.int (xs.length:Int)]) r=some (.lst (((ms.length:Int)::dC (ms.take 0)).map V.int)):=by rw [ab,hl];rfl
  generalize L2.upd H r (HO.lst [V.int (xs.length:Int)])=H1 at *
  have agI:∃v2,[some (V.ref p),some (V.ref r),(none:Option V)] = [some (V.ref p),some (V.ref r),v2] ∧H1 r=some (.lst (((ms.length:Int)::dC (ms.take 0)).map V.int))∧aj H H1:=⟨none,rfl,Iy,S1⟩
  have step:∀ (i:Nat)(x:V)(Hk:Hp),xs[i]?=some x→Hk r=some (.lst (((ms.length:Int)::dC (ms.take i)).map V.int))→aj H Hk→∃b,x= .ref b∧∃a c:Int,bJ K Hk b [V.int a,V.int c] ∧(((ms.length:Int)::dC (ms.take i)).map V.int).length + 2≤sizeLine∧
    L2.upd Hk r (.lst (((ms.length:Int)::dC (ms.take i)).map V.int ++ [V.int a,V.int c])) r=some (.lst (((ms.length:Int)::dC (ms.take (i + 1))).map V.int))∧aj H (L2.upd Hk r (.lst (((ms.length:Int)::dC (ms.take i)).map V.int ++ [V.int a,V.int c]))):=fun i x Hk hx hk S=>by
   have hi:i < ms.length:=by
    rw [←hl]
    exact (List.getElem?_eq_some_iff.mp hx).1
   obtain ⟨b,e,hb⟩:=hPi.2 i ms[i] x (List.getElem?_eq_getElem hi) hx
   refine ⟨b,e,ms[i].relay,ms[i].circuit,bJ.of (S _ _ hb),?_,?_,fun b o e=> ?_⟩
   ·rw [List.length_map,List.length_cons,ko,List.length_take]
    exact Nat.le_trans (show _≤2000003 by omega) (by decide)
   ·rw [ab,List.take_add_one,List.getElem?_eq_getElem hi]
    show _=some (HO.lst ((_::dC (ms.take i ++ [ms[i]])).map V.int))
    rw [Kr,←List.cons_append,List.map_append]
    rfl
   ·rw [az (aH e yC)]
    exact S b o e
  have fin:∀Hk,Hk r=some (.lst (((ms.length:Int)::dC (ms.take xs.length)).map V.int))→aj H Hk→Q (.ref r) Hk:=fun Hk hk S=>by
   rw [hl,List.take_length] at hk
   exact k Hk r S hk yC
  rcases hS with hS|hS
  ·refine .inl ⟨_,rfl,p,rfl,⟨_,S1.seq hS⟩,?_⟩
   refine zx (K:=K) (a:=p) (xs:=xs) (fun i σ Hk=>∃v2,σ= [some (V.ref p),some (V.ref r),v2] ∧Hk r=some (.lst (((ms.length:Int)::dC (ms.take i)).map V.int))∧aj H Hk) agI (fun i σ Hk _ hk=> ?_) (fun i x σ Hk hx hk=> ?_) (fun σ Hk hk=> ?_)
   ·obtain ⟨v2,_,_,S⟩:=hk
    exact S.seq hS
   ·obtain ⟨v2,rfl,hk,S⟩:=hk
    obtain ⟨b,rfl,a,c,h1,h2,h3,h4⟩:=step i x Hk hx hk S
    exact ⟨_,rfl,.inl ⟨rfl,_,cK.of hk⟩,_,rfl,r,b,_,_,rfl,rfl,hk,h1,h2,⟨_,rfl,h3,h4⟩⟩
   ·obtain ⟨v2,rfl,hk,S⟩:=hk
    exact ⟨_,rfl,fin Hk hk S⟩
  ·refine .inr ⟨_,rfl,p,rfl,⟨_,aj.tup S1 hS⟩,?_⟩
   refine SI (K:=K) (a:=p) (xs:=xs) (fun i σ Hk=>∃v2,σ= [some (V.ref p),some (V.ref r),v2] ∧Hk r=some (.lst (((ms.length:Int)::dC (ms.take i)).map V.int))∧aj H Hk) agI (fun i σ Hk _ hk=> ?_) (fun i x σ Hk hx hk=> ?_) (fun σ Hk hk=> ?_)
   ·obtain ⟨v2,_,_,S⟩:=hk
    exact aj.tup S hS
   ·obtain ⟨v2,rfl,hk,S⟩:=hk
    obtain ⟨b,rfl,a,c,h1,h2,h3,h4⟩:=step i x Hk hx hk S
    exact ⟨_,rfl,.inl ⟨rfl,_,cK.of hk⟩,_,rfl,r,b,_,_,rfl,rfl,hk,h1,h2,⟨_,rfl,h3,h4⟩⟩
   ·obtain ⟨v2,rfl,hk,S⟩:=hk
    exact ⟨_,rfl,fin Hk hk S⟩
end
theorem RT (o:Option Nat):UL (oV o) (V.int (-1))=V.int (Vbcnag.optional o):=by
 cases o with
 |none=>exact if_pos rfl
 |some n=>exact if_neg (fun q=>nomatch q)
theorem aj.own {H Hk:Hp}{r:Addr}{o:HO}(S:aj H Hk)(h:H r=none):aj H (L2.upd Hk r o):=fun b x e=>by
 rw [az (aH e h)]
 exact S b x e
section
variable {P:Program}{w:World}{K:PySem.W.Frag}{mg:Str→Option Value}{base:Heap}{t:jL}
def RU (C:Cs):Sp:=fun vs H Q _=>∃ (m:Addr)(u:Under),vs= [.ref m] ∧gN C H m u∧u.msg.marks.length≤32∧
 ∀H' r,aj H H'→H' r=some (.lst ((Vbcnag.shown u).map V.int))→H r=none→Q (.ref r) H'
theorem place_len (p:Vbcnag.Place):(dt p).length=3:=by cases p <;>rfl
theorem qf (T:Txt K mg t):bB P w K mg base fe 2 t.df t.iT iM (RU (cs t)):=by
 refine T.jm.ok oM (fun vs H Q E h=> ?_) (fun d4 A0 outer s H vs Q E hr h=> ?_)
 ·obtain ⟨m,u,rfl,_⟩:=h
  rfl
 ·obtain ⟨m,u,rfl,MA,CS,k⟩:=h
  obtain ⟨dm,pp,mm,ys,hM,hp,hm,xj⟩:=MA.parts
  have dP:∀T:Txt K mg t,bB P w K mg base fe 1 t.cI t.fE fA (zl K):=fun T=>Rl.dP T
  refine ⟨_,ae (aW (i:=1) oM.nd rfl (Or.inl rfl) (CO Eu (by rfl) T.FE PyProof.Rows.boot_list (aa (ai (pv 0) rfl) af)))
   (ae (aI (ij PySem.F.plainAttrs_list PySem.F.slot_list_extend PySem.F.type_list_extend lY (pv 1) (aa (a3 (aa (ai (pv 0) rfl) (aa (ai (pv 0) rfl) (aa (ai (pv 0) rfl) (aa (aB (kM T) (hr.mono (by decide)) (by rfl) T.kh T.iH.kp T.kj .nil aU (aa (ai (pv 0) rfl) (aa (d8 cG ah) af))) af))))) af)))
   (ae (aI (ij PySem.F.plainAttrs_list PySem.F.slot_list_extend PySem.F.type_list_extend lY (pv 1) (aa (a3 (aa (ai (pv 0) rfl) (aa (ai (pv 0) rfl) (aa (ai (pv 0) rfl) af)))) af)))
   (ae (aI (ij PySem.F.plainAttrs_list PySem.F.slot_list_extend PySem.F.type_list_extend lY (pv 1) (aa (aB (dP T) (hr.mono (by decide)) (by rfl) T.lx T.jo.kp T.ly .nil aU (aa (ai (pv 0) rfl) af)) af)))
   (ak (aK (pv 1)))))),?_⟩
  refine ⟨_,rfl,m,_,dm,_,_,rfl,hM,T.au,T.aG,rfl,pp,_,rfl,.inr (bJ.of hp),fun r yC=> ?_⟩
  have S1:=aj.ao (o:=HO.lst (dt u.place)) yC
  have Iy:L2.upd H r (HO.lst (dt u.place)) r=some (.lst (dt u.place)):=ab
  generalize L2.upd H r (HO.lst (dt u.place))=H1 at *
  have ow:=S1 _ _ hM
  refine ⟨_,rfl,.inl ⟨rfl,_,cK.of Iy⟩,_,rfl,m,_,dm,_,_,rfl,ow,T.au,T.bO,rfl,_,rfl,m,_,dm,_,_,rfl,ow,T.au,T.cn,rfl,_,rfl,m,_,dm,_,_,rfl,ow,T.au,T.bP,rfl,
   _,rfl,m,_,dm,_,_,rfl,ow,T.au,T.ba,rfl,_,rfl,_,_,rfl,(by show 4≤sizeLine;decide),fun z hz=> ?_⟩
  have S2:=aj.ao (o:=HO.lst [nV u.msg.host,nV u.msg.number,nV u.msg.kind,UL (oV u.msg.server) (V.int (-1))]) hz
  have RQ:L2.upd H1 z (HO.lst [nV u.msg.host,nV u.msg.number,nV u.msg.kind,UL (oV u.msg.server) (V.int (-1))]) z=some (.lst [nV u.msg.host,nV u.msg.number,nV u.msg.kind,V.int (Vbcnag.optional u.msg.server)]):=by rw [ab,RT]
  refine ⟨r,z,_,_,rfl,rfl,S2 _ _ Iy,RQ,(by rw [place_len];show 7≤sizeLine;decide),?_⟩
  have S3:=aj.own (r:=r) (o:=HO.lst (dt u.place ++ [nV u.msg.host,nV u.msg.number,nV u.msg.kind,V.int (Vbcnag.optional u.msg.server)])) (S1.trans S2) yC
  generalize Cr:L2.upd _ r (HO.lst (dt u.place ++ [nV u.msg.host,nV u.msg.number,nV u.msg.kind,V.int (Vbcnag.optional u.msg.server)]))=H3
  have hr3:H3 r=some (HO.lst (dt u.place ++ [nV u.msg.host,nV u.msg.number,nV u.msg.kind,V.int (Vbcnag.optional u.msg.server)])):=by rw [←Cr];exact ab
  have S3':aj H H3:=by rw [←Cr];exact S3
  clear S3 Cr
  have YU:=S3' _ _ hM
  refine ⟨_,rfl,.inl ⟨rfl,_,cK.of hr3⟩,_,rfl,m,_,dm,_,_,rfl,YU,T.au,T.bh,rfl,_,rfl,m,_,dm,_,_,rfl,YU,T.au,T.bq,rfl,_,rfl,m,_,dm,_,_,rfl,YU,T.au,T.bD,rfl,(by show 3≤sizeLine;decide),fun z4 ZC=> ?_⟩
  have S4:=aj.ao (o:=HO.lst [nV u.msg.addr,nV u.msg.len,nV u.msg.hops]) ZC
  refine ⟨r,z4,_,_,rfl,rfl,S4 _ _ hr3,ab,(by rw [List.length_append,place_len];show 10≤sizeLine;decide),?_⟩
  have S5:=aj.own (r:=r) (o:=HO.lst (dt u.place ++ [nV u.msg.host,nV u.msg.number,nV u.msg.kind,V.int (Vbcnag.optional u.msg.server)] ++ [nV u.msg.addr,nV u.msg.len,nV u.msg.hops])) (S3'.trans S4) yC
  generalize YX:L2.upd _ r (HO.lst (dt u.place ++ [nV u.msg.host,nV u.msg.number,nV u.msg.kind,V.int (Vbcnag.optional u.msg.server)] ++ [nV u.msg.addr,nV u.msg.len,nV u.msg.hops]))=H5
  have hr5:H5 r=some (HO.lst (dt u.place ++ [nV u.msg.host,nV u.msg.number,nV u.msg.kind,V.int (Vbcnag.optional u.msg.server)] ++ [nV u.msg.addr,nV u.msg.len,nV u.msg.hops])):=by rw [←YX];exact ab
  have S5':aj H H5:=by rw [←YX];exact S5
  clear S5 YX
  have hM5:=S5' _ _ hM
  refine ⟨_,rfl,.inl ⟨rfl,_,cK.of hr5⟩,_,rfl,m,_,dm,_,_,rfl,hM5,T.au,T.aY,rfl,mm,ys,u.msg.marks,rfl,.inr (bJ.of (S5' _ _ hm)),bN (aj.keep (C:=cs t) S5') xj,Nat.le_trans CS (by decide),fun H6 q S6 hq ZG=> ?_⟩
  have hfl:(Vbcnag.markNums u.msg.marks).length=2 * u.msg.marks.length + 1:=by
   show (dC u.msg.marks).length + 1=_
   rw [ko]
  refine ⟨r,q,_,_,rfl,rfl,S6 _ _ hr5,hq,?_,?_⟩
  ·rw [List.length_append,List.length_append,place_len,List.length_map,hfl]
   exact Nat.le_trans (show _≤100 by show 3 + 4 + 3 + _≤100;omega) (by decide)
  ·refine ⟨_,rfl,k _ r (aj.own (S5'.trans S6) yC) ?_ yC⟩
   rw [ab]
   congr 1
   congr 1
   unfold Vbcnag.shown
   cases u.place <;>rw [List.append_assoc,List.append_assoc] <;>rfl
end
def plN:Option Mark→List Int
 |none=> [-1, -1]
 |some p=>Vbcnag.nums [p.relay,p.circuit]
def ofN:Option Offer→List Int
 |none=> [-1,0,0]
 |some o=>Vbcnag.nums [o.server,o.addr,o.len]
def leN:Option Lease→List Int
 |none=> [-1,0,0,0,0]
 |some l=>Vbcnag.nums [l.server,l.addr,l.half,l.late,l.till]
theorem LZ (c:Client):Vbcnag.clientSaid c= [(c.phase:Int),(c.counter:Int),(c.number:Int),(c.sent:Int),(c.tries:Int),Vbcnag.optional c.due] ++ plN c.place ++ ofN c.best ++ leN c.lease:=by
 unfold Vbcnag.clientSaid plN ofN leN
 cases c.place <;>cases c.best <;>cases c.lease <;>rfl
theorem Ks {v:V}{a b:Addr}(h:v= .ref b):UL v (.ref a)= .ref b:=by
 rw [h]
 exact if_neg (fun q=>nomatch q)
theorem agL {K:PySem.W.Frag}{H:Hp}{p:Option Mark}{v:V}{a:Addr}(h:Ir H p v)(ha:bJ K H a [V.int (-1),V.int (-1)]):∃b,UL v (.ref a)= .ref b∧bJ K H b ((plN p).map V.int):=by
 cases p with
 |none=>
  have e:v= .bX:=h
  exact ⟨a,if_pos e,ha⟩
 |some m=>
  obtain ⟨b,e,q⟩:=h
  exact ⟨b,Ks e,bJ.of q⟩
theorem agM {K:PySem.W.Frag}{H:Hp}{p:Option Offer}{v:V}{a:Addr}(h:Nv H p v)(ha:bJ K H a [V.int (-1),V.int 0,V.int 0]):∃b,UL v (.ref a)= .ref b∧bJ K H b ((ofN p).map V.int):=by
 cases p with
 |none=>
  have e:v= .bX:=h
  exact ⟨a,if_pos e,ha⟩
 |some m=>
  obtain ⟨b,e,q⟩:=h
  exact ⟨b,Ks e,bJ.of q⟩
theorem agN {K:PySem.W.Frag}{H:Hp}{p:Option Lease}{v:V}{a:Addr}(h:QV H p v)(ha:bJ K H a [V.int (-1),V.int 0,V.int 0,V.int 0,V.int 0]):∃b,UL v (.ref a)= .ref b∧bJ K H b ((leN p).map V.int):=by
 cases p with
 |none=>
  have e:v= .bX:=h
  exact ⟨a,if_pos e,ha⟩
 |some m=>
  obtain ⟨b,e,q⟩:=h
  exact ⟨b,Ks e,bJ.of q⟩
section
variable {P:Program}{w:World}{K:PySem.W.Frag}{mg:Str→Option Value}{base:Heap}{t:jL}
def RV (C:Cs):Sp:=fun vs H Q _=>∃ (ca:Addr)(c:Client),vs= [.ref ca] ∧eO C H ca c∧
 ∀H' r,aj H H'→H' r=some (.lst ((Vbcnag.clientSaid c).map V.int))→H r=none→Q (.ref r) H'
theorem Cu (T:Txt K mg t):bB P w K mg base fe 2 t.dJ t.jV jG (RV (cs t)):=by
 refine T.ny.ok rf (fun vs H Q E h=> ?_) (fun d4 A0 outer s H vs Q E hr h=> ?_)
 ·obtain ⟨ca,c,rfl,_⟩:=h
  rfl
 ·obtain ⟨ca,c,rfl,⟨d,pl,be,le,dA,d3⟩,k⟩:=h
  refine ⟨_,ae (aW (i:=1) rf.nd rfl (Or.inl rfl) (a3 (aa (ai (pv 0) rfl) (aa (ai (pv 0) rfl) (aa (ai (pv 0) rfl) (aa (ai (pv 0) rfl) (aa (ai (pv 0) rfl) (aa (aB (kM T) (hr.mono (by decide)) (by rfl) T.kh T.iH.kp T.kj .nil aU (aa (ai (pv 0) rfl) (aa (d8 cG ah) af))) af))))))))
   (ae (aI (ij PySem.F.plainAttrs_list PySem.F.slot_list_extend PySem.F.type_list_extend mJ (pv 1) (aa (aB (kM T) (hr.mono (by decide)) (by rfl) T.kh T.iH.kp T.kj .nil aU (aa (ai (pv 0) rfl) (aa (aD (v:= .ref t.f9) (by rfl) T.Ds rfl) af))) af)))
   (ae (aI (ij PySem.F.plainAttrs_list PySem.F.slot_list_extend PySem.F.type_list_extend mJ (pv 1) (aa (aB (kM T) (hr.mono (by decide)) (by rfl) T.kh T.iH.kp T.kj .nil aU (aa (ai (pv 0) rfl) (aa (aD (v:= .ref t.eY) (by rfl) T.Am rfl) af))) af)))
   (ae (aI (ij PySem.F.plainAttrs_list PySem.F.slot_list_extend PySem.F.type_list_extend mJ (pv 1) (aa (aB (kM T) (hr.mono (by decide)) (by rfl) T.kh T.iH.kp T.kj .nil aU (aa (ai (pv 0) rfl) (aa (aD (v:= .ref t.eZ) (by rfl) T.Ao rfl) af))) af)))
   (ak (aK (pv 1)))))),?_⟩
  refine ⟨_,rfl,ca,_,d,_,_,rfl,dA,T.aq,T.aJ,rfl,_,rfl,ca,_,d,_,_,rfl,dA,T.aq,T.bI,rfl,_,rfl,ca,_,d,_,_,rfl,dA,T.aq,T.bS,rfl,_,rfl,ca,_,d,_,_,rfl,dA,T.aq,T.cw,rfl,
   _,rfl,ca,_,d,_,_,rfl,dA,T.aq,T.aZ,rfl,_,rfl,ca,_,d,_,_,rfl,dA,T.aq,T.bx,rfl,_,rfl,_,_,rfl,(by show 6≤sizeLine;decide),fun r yC=> ?_⟩
  generalize YY:L2.upd H r _=H1
  have Iy:H1 r=some (.lst ([(c.phase:Int),(c.counter:Int),(c.number:Int),(c.sent:Int),(c.tries:Int),Vbcnag.optional c.due].map V.int)):=by
   rw [←YY,ab,RT]
   rfl
  have S1:aj H H1:=by rw [←YY];exact aj.ao yC
  clear YY
  obtain ⟨b1,e1,q1⟩:=agL (K:=K) (a:=t.f9) (d3.pl.keep (aj.keep (C:=cs t) S1)) (T.Dt H1)
  refine ⟨_,rfl,.inl ⟨rfl,_,cK.of Iy⟩,_,rfl,ca,_,d,_,_,rfl,S1 _ _ dA,T.aq,T.aX,rfl,_,_,rfl,r,b1,_,_,rfl,congrArg (fun z=> [z]) e1,Iy,q1,?_,?_⟩
  ·cases c.place <;>(show 8≤sizeLine;decide)
  rw [←List.map_append]
  generalize Cq:L2.upd H1 r _=H2
  have NR:H2 r=some (.lst (([(c.phase:Int),(c.counter:Int),(c.number:Int),(c.sent:Int),(c.tries:Int),Vbcnag.optional c.due] ++ plN c.place).map V.int)):=by rw [←Cq];exact ab
  have S2:aj H H2:=by rw [←Cq];exact aj.own S1 yC
  clear Cq
  obtain ⟨b2,e2,q2⟩:=agM (K:=K) (a:=t.eY) (d3.be.keep (aj.keep (C:=cs t) S2)) (T.An H2)
  refine ⟨_,rfl,.inl ⟨rfl,_,cK.of NR⟩,_,rfl,ca,_,d,_,_,rfl,S2 _ _ dA,T.aq,T.bj,rfl,_,_,rfl,r,b2,_,_,rfl,congrArg (fun z=> [z]) e2,NR,q2,?_,?_⟩
  ·cases c.place <;>cases c.best <;>(show 11≤sizeLine;decide)
  rw [←List.map_append]
  generalize Cr:L2.upd H2 r _=H3
  have hr3:H3 r=some (.lst (([(c.phase:Int),(c.counter:Int),(c.number:Int),(c.sent:Int),(c.tries:Int),Vbcnag.optional c.due] ++ plN c.place ++ ofN c.best).map V.int)):=by rw [←Cr];exact ab
  have S3:aj H H3:=by rw [←Cr];exact aj.own S2 yC
  clear Cr
  obtain ⟨b3,e3,q3⟩:=agN (K:=K) (a:=t.eZ) (d3.le.keep (aj.keep (C:=cs t) S3)) (T.Ap H3)
  refine ⟨_,rfl,.inl ⟨rfl,_,cK.of hr3⟩,_,rfl,ca,_,d,_,_,rfl,S3 _ _ dA,T.aq,T.aO,rfl,_,_,rfl,r,b3,_,_,rfl,congrArg (fun z=> [z]) e3,hr3,q3,?_,?_⟩
  ·cases c.place <;>cases c.best <;>cases c.lease <;>(show 16≤sizeLine;decide)
  rw [←List.map_append,←LZ]
  exact ⟨_,rfl,k _ r (aj.own S3 yC) ab yC⟩
end
theorem tp (x:Nat×Nat):∀l:List (Nat×Nat),(Vbcnag.putIn x l).Perm (x::l)
 | [] =>List.Perm.refl _
 |y::l=>by
  unfold Vbcnag.putIn
  split
  ·exact List.Perm.refl _
  ·exact ((tp x l).cons y).trans (List.Perm.swap x y l)
theorem vZ (x:Nat×Nat):∀ {l:List (Nat×Nat)},l.Pairwise (fun a b=>a.1≤b.1)→(Vbcnag.putIn x l).Pairwise (fun a b=>a.1≤b.1)
 | [],_=>List.pairwise_singleton _ _
 |y::l,h=>by
  rw [List.pairwise_cons] at h
  unfold Vbcnag.putIn
  split
  ·rename_i hle
   refine List.pairwise_cons.mpr ⟨fun b hb=> ?_,List.pairwise_cons.mpr h⟩
   rcases List.mem_cons.mp hb with e|e
   ·rw [e];exact hle
   ·exact Nat.le_trans hle (h.1 b e)
  ·rename_i hle
   refine List.pairwise_cons.mpr ⟨fun b hb=> ?_,vZ x h.2⟩
   rcases List.mem_cons.mp ((tp x l).mem_iff.mp hb) with e|e
   ·rw [e];omega
   ·exact h.1 b e
theorem qQ:∀l:List (Nat×Nat),(l.foldr Vbcnag.putIn []).Perm l
 | [] =>List.Perm.refl _
 |x::l=>(tp x _).trans ((qQ l).cons x)
theorem yH:∀l:List (Nat×Nat),(l.foldr Vbcnag.putIn []).Pairwise (fun a b=>a.1≤b.1)
 | [] =>List.Pairwise.nil
 |x::l=>vZ x (yH l)
theorem yI:∀ {l m:List (Nat×Nat)},l.Perm m→l.Pairwise (fun a b=>a.1≤b.1)→m.Pairwise (fun a b=>a.1≤b.1)→(l.map (·.1)).Nodup→l=m
 | [],m,p,_,_,_=>(List.nil_perm.mp p).symm
 |a::l,[],p,_,_,_=>(by have:=p.length_eq;simp at this)
 |a::l,b::m,p,h1,h2,nd=>by
  have hb:b∈a::l:=p.mem_iff.mpr (List.mem_cons_self ..)
  have ha:a∈b::m:=p.mem_iff.mp (List.mem_cons_self ..)
  rw [List.pairwise_cons] at h1 h2
  rw [List.map_cons,List.nodup_cons] at nd
  have e:a=b:=by
   rcases List.mem_cons.mp hb with q|q
   ·exact q.symm
   ·rcases List.mem_cons.mp ha with q'|q'
    ·exact q'
    ·have:=h1.1 b q
     have:=h2.1 a q'
     have e1:a.1=b.1:=by omega
     exact absurd (by rw [e1];exact List.mem_map_of_mem q) nd.1
  subst e
  rw [yI (List.Perm.cons_inv p) h1.2 h2.2 nd.2]
def jw (x:Nat×Nat):Mark:={relay:=x.1,circuit:=x.2}
def lR (W:VW)(s h:Nat):List (Nat×Nat):=(W.written.filter fun x=>x.server==s && x.host==h).map fun x=>(x.addr,x.till)
theorem UM {W:VW}(nd:(W.written.map fh).Nodup)(s h:Nat):((lR W s h).map (·.1)).Nodup:=by
 unfold lR
 rw [List.map_map]
 generalize W.written=l at *
 induction l with
 |nil=>exact List.nodup_nil
 |cons y l ih=>
  rw [List.map_cons,List.nodup_cons] at nd
  rw [List.filter_cons]
  split
  ·rename_i hy
   rw [List.map_cons,List.nodup_cons]
   refine ⟨fun q=>nd.1 ?_,ih nd.2⟩
   obtain ⟨z,hz,e⟩:=List.mem_map.mp q
   obtain ⟨sM,RQ⟩:=List.mem_filter.mp hz
   simp only [Bool.and_eq_true,beq_iff_eq] at hy RQ
   have e':z.addr=y.addr:=e
   refine List.mem_map.mpr ⟨z,sM,?_⟩
   show (z.server,z.host,z.addr)=(y.server,y.host,y.addr)
   rw [e',RQ.1,RQ.2,hy.1,hy.2]
  ·exact ih nd.2
def pairAt (H:Hp)(b:Addr):Int×Int:=match H b with
 |some (.tup [.int a,.int c])=>(a,c)
 |_=>(0,0)
theorem mC {H:Hp}{b:Addr}{a c:Nat}(h:H b=some (.tup [nV a,nV c])):pairAt H b=((a:Int),(c:Int)):=by
 unfold pairAt
 rw [h]
 rfl
section
variable {P:Program}{w:World}{K:PySem.W.Frag}{mg:Str→Option Value}{base:Heap}{t:jL}
def YZ (C:Cs):Sp:=fun vs H Q _=>∃ (A:Ad)(cas:List Addr)(W:VW)(sv ho:Nat),vs= [.ref A.w,nV sv,nV ho] ∧Rep C H A cas W∧(W.written.map fh).Nodup∧W.written.length < sizeLine∧
 ∀ (H':Hp)(r:Addr)(as:List Addr),aj H H'→H' r=some (.lst (as.map V.ref))→Paired (dy H') (((lR W sv ho).foldr Vbcnag.putIn []).map jw) (as.map V.ref)→H r=none→Q (.ref r) H'
theorem Cv (T:Txt K mg t):bB P w K mg base fe 1 t.dM t.jW jH (YZ (cs t)):=by
 refine T.nB.ok iN (fun vs H Q E h=> ?_) (fun d4 A0 outer s H vs Q E hr h=> ?_)
 ·obtain ⟨A,cas,W,sv,ho,rfl,_⟩:=h
  rfl
 ·obtain ⟨A,cas,W,sv,ho,rfl,R,nd,eA,k⟩:=h
  have hu:=gF hr
  refine ⟨_,ak (aK (a6 JA (by rfl) T.pF PyProof.Rows.boot_sorted (aa (EJ (K2 (own:= [("key",3),("end",4)]) rfl iN.nd (MH (ai (pv 0) rfl)) (kr (show EE tY (ay eV) _ _=true by decide +kernel)) (fun _ _ _ _ _=>Tp (n:=2) K rfl rfl (lV (eU (i:=3) iN.nd rfl (Or.inl rfl)) (lV (eU (i:=4) iN.nd rfl (Or.inl rfl)) Ej))) (fun _ _ _ _ _=>EA (PW.pt (ip (aL cV (aF (ER K rfl) (pv 3) ah (fun _ _=>rfl)) (pv 1) (aQ _)) (fJ (aL cV (aF (ER K rfl) (pv 3) ah (fun _ _=>rfl)) (pv 2) (aQ _)))))) (fun _ _ _ _ _=>(bZ (aa (aF (ER K rfl) (pv 3) ah (fun _ _=>rfl)) (aa (pv 4) af)))))) af))),?_⟩
  refine ⟨A.wr,_,R.wr,trivial,fun od=> ?_⟩
  have NL:L2.upd H A.wr (.jn od (.dT (cC W.written))) A.wr=some (.jn od (.dT (cC W.written))):=ab
  have NK:∀b o,b≠A.wr→H b=some o→L2.upd H A.wr (.jn od (.dT (cC W.written))) b=some o:=fun b o n e=>by
   rw [az n]
   exact e
  have back:∀H',aj (L2.upd H A.wr (.jn od (.dT (cC W.written)))) H'→aj H (L2.upd H' A.wr (.dT (cC W.written))):=fun H' S b o e=>by
   by_cases z:b=A.wr
   ·subst z
    rw [R.wr] at e
    rw [←Option.some.inj e]
    exact ab
   ·rw [az z]
    exact S b o (NK b o z e)
  have as6:∀b,L2.upd H A.wr (.jn od (.dT (cC W.written))) b=none→H b=none:=fun b hb=>cP hb
  generalize L2.upd H A.wr (.jn od (.dT (cC W.written)))=H0 at *
  have C4:(cC W.written).length=W.written.length:=List.length_map ..
  refine ⟨_,rfl,A.w,_,_,_,_,rfl,NK _ _ (a8 R.cW R.wr (fun q=>nomatch q)) R.cW,T.aw,T.cT,rfl,A.wr,od,_,rfl,NL,fun D hD=> ?_⟩
  refine JB (n:=W.written.length) (fun i H'=>∃as:List Addr,H' D=some (.lst (as.map V.ref))∧Paired (dy H') ((lR {W with written:=W.written.take i} sv ho).map jw) (as.map V.ref)∧aj H0 H') ⟨[],ab,.nil,aj.ao hD⟩ (fun i H' hi mz=> ?_) (fun H' mz=> ?_) (fun i x H' H2 hi mz hy=> ?_) (fun H' mz=> ?_)
  ·obtain ⟨as,_,_,S⟩:=mz
   exact ⟨S _ _ NL,by rw [C4];exact hi⟩
  ·obtain ⟨as,_,_,S⟩:=mz
   exact ⟨S _ _ NL,by rw [C4];exact Nat.le_refl _⟩
  ·obtain ⟨as,xh,hP,S⟩:=mz
   obtain ⟨T0,ky,v,q,GA,rfl,hT0,rfl,hq⟩:=hy
   have Zn:W.written[i]?=some W.written[i] :=List.getElem?_eq_getElem hi
   have Y0:=GA
   unfold cC at Y0
   rw [List.getElem?_map,Zn] at Y0
   have e:=Option.some.inj Y0
   have e1:dn W.written[i].server W.written[i].host W.written[i].addr=ky:=congrArg Prod.fst e
   have e2:nV W.written[i].till=v:=congrArg Prod.snd e
   subst e1 e2
   generalize hx:W.written[i] =y at *
   have ST:=aj.ao (o:=HO.tup [V.ref q,nV y.till]) hT0
   have hTt:L2.upd H' T0 (HO.tup [V.ref q,nV y.till]) T0=some (.tup [V.ref q,nV y.till]):=ab
   generalize L2.upd H' T0 (HO.tup [V.ref q,nV y.till])=H2 at *
   have hq2:H2 q=some (.tup [nV y.server,nV y.host,nV y.addr]):=ST _ _ hq
   have S2:=S.trans ST
   have ZH:=ST _ _ xh
   have Jy:Paired (dy H2) ((lR {W with written:=W.written.take i} sv ho).map jw) (as.map V.ref):=bN (aj.keep (C:=cs t) ST) hP
   have VM:W.written.take (i + 1)=W.written.take i ++ [y] :=by rw [List.take_add_one,Zn];rfl
   have Vf:¬ (y.server=sv∧y.host=ho)→lR {W with written:=W.written.take (i + 1)} sv ho=lR {W with written:=W.written.take i} sv ho:=fun hn=>by
    unfold lR
    dsimp only
    rw [VM,List.filter_append,List.filter_cons,if_neg (by
     intro z
     simp only [Bool.and_eq_true,beq_iff_eq] at z
     exact hn z),List.filter_nil,List.append_nil]
   refine ⟨T0,_,rfl,bJ.of hTt,rfl,_,_,rfl,_,_,rfl,rfl,rfl,?_⟩
   refine ⟨_,rfl,q,_,_,_,rfl,rfl,bJ.of hq2,rfl,_,rfl,rfl,_,rfl,?_⟩
   refine eQ (fun q1=> ?_) fun q1=> ?_
   ·have h1:y.server=sv:=bT.mp q1
    refine ⟨_,rfl,q,_,_,_,rfl,rfl,bJ.of hq2,rfl,_,rfl,rfl,_,rfl,?_⟩
    refine eQ (fun q2=> ?_) fun q2=> ?_
    ·have h2:y.host=ho:=bT.mp q2
     refine ⟨_,rfl,q,_,_,_,rfl,rfl,bJ.of hq2,rfl,_,rfl,(by show 2≤sizeLine;decide),fun p hp=> ?_⟩
     have Sp:=aj.ao (o:=HO.tup [nV y.addr,nV y.till]) hp
     have hpp:L2.upd H2 p (HO.tup [nV y.addr,nV y.till]) p=some (.tup [nV y.addr,nV y.till]):=ab
     generalize L2.upd H2 p (HO.tup [nV y.addr,nV y.till])=H3 at *
     have Tj:as.length≤i:=by
      have h1:=Paired.length hP
      rw [List.length_map,List.length_map] at h1
      have h2:(lR {W with written:=W.written.take i} sv ho).length≤(W.written.take i).length:=by
       unfold lR
       rw [List.length_map]
       exact List.length_filter_le ..
      rw [List.length_take] at h2
      omega
     refine ⟨_,Sp _ _ ZH,(by rw [List.length_map];omega),as ++ [p],?_,?_,?_⟩
     ·rw [ab,List.map_append]
      rfl
     ·have aqU:lR {W with written:=W.written.take (i + 1)} sv ho=lR {W with written:=W.written.take i} sv ho ++ [(y.addr,y.till)] :=by
       unfold lR
       dsimp only
       rw [VM,List.filter_append,List.filter_cons,if_pos (by rw [h1,h2,beq_self_eq_true,beq_self_eq_true];rfl),List.filter_nil,List.map_append]
       rfl
      rw [aqU,List.map_append,List.map_append]
      have kD:∀ {b:Addr}{xs:List V},H3 b=some (.tup xs)→L2.upd H3 D (.lst (as.map V.ref ++ [V.ref p])) b=some (.tup xs):=fun {b xs} e=>by
       rw [az (a8 e (Sp _ _ ZH) (fun q=>nomatch q))]
       exact e
      refine Paired.yD (Paired.cN Jy fun m v f=> ?_) ⟨p,rfl,kD hpp⟩
      obtain ⟨b,e,hb⟩:=f
      exact ⟨b,e,kD (Sp _ _ hb)⟩
     ·exact aj.own (S2.trans Sp) hD
    ·refine ⟨as,ZH,?_,S2⟩
     rw [Vf fun z=>q2 (bT.mpr z.2)]
     exact Jy
   ·refine ⟨as,ZH,?_,S2⟩
    rw [Vf fun z=>q1 (bT.mpr z.1)]
    exact Jy
  ·obtain ⟨as,xh,hP,S⟩:=mz
   rw [List.take_length] at hP
   have hP:Paired (dy H') ((lR W sv ho).map jw) (as.map V.ref):=hP
   have Sb:=back _ S
   have nD:D≠A.wr:=dR NL hD
   have kW:∀ {b:Addr}{xs:List V},H' b=some (.tup xs)→L2.upd H' A.wr (.dT (cC W.written)) b=some (.tup xs):=fun {b xs} e=>by
    rw [az (a8 e (S _ _ NL) (fun q=>nomatch q))]
    exact e
   have Y1:L2.upd H' A.wr (.dT (cC W.written)) D=some (.lst (as.map V.ref)):=by rw [az nD];exact xh
   have hP3:Paired (dy (L2.upd H' A.wr (.dT (cC W.written)))) ((lR W sv ho).map jw) (as.map V.ref):=Paired.cN hP fun m v ⟨b,e,hb⟩=>⟨b,e,kW hb⟩
   refine ⟨S _ _ NL,?_⟩
   generalize L2.upd H' A.wr (.dT (cC W.written))=H5 at *
   have fact:∀ {l:List (Nat×Nat)}{bs:List Addr},Paired (dy H5) (l.map jw) (bs.map V.ref)→(∀b∈bs,∃a c:Nat,H5 b=some (.tup [nV a,nV c]))∧l=bs.map fun b=>((pairAt H5 b).1.toNat,(pairAt H5 b).2.toNat):=by
    intro l
    induction l with
    |nil=>
     intro bs h
     cases bs with
     |nil=>exact ⟨fun b hb=>(by cases hb),rfl⟩
     |cons b bs=>cases h
    |cons x l ih=>
     intro bs h
     cases bs with
     |nil=>cases h
     |cons b bs=>
      cases h with
      |cons f tl=>
       obtain ⟨b',e,hb⟩:=f
       cases e
       obtain ⟨i1,i2⟩:=ih tl
       refine ⟨fun c hc=> ?_,?_⟩
       ·rcases List.mem_cons.mp hc with z|z
        ·rw [z]
         exact ⟨_,_,hb⟩
        ·exact i1 c z
       ·rw [List.map_cons,←i2,mC hb]
        rfl
   obtain ⟨fa,fb⟩:=fact hP3
   refine ⟨D,as,pairAt H5,rfl,cK.of Y1,fun b hb=> ?_,fun oJ p hp hso hpn=> ?_⟩
   ·obtain ⟨a,c,h⟩:=fa b hb
    rw [mC h]
    exact bJ.of h
   ·have Sp:=aj.ao (o:=HO.lst (oJ.map V.ref)) hpn
    refine k _ p oJ (Sb.trans Sp) ab ?_ (Sb.free hpn)
    have e:(lR W sv ho).foldr Vbcnag.putIn [] =oJ.map fun b=>((pairAt H5 b).1.toNat,(pairAt H5 b).2.toNat):=by
     refine yI ?_ (yH _) ?_ ?_
     ·refine (qQ _).trans ?_
      rw [fb]
      exact (hp.map _).symm
     ·rw [List.pairwise_map]
      refine hso.imp_of_mem fun {a b} ha hb qW=> ?_
      obtain ⟨a1,a2,h1⟩:=fa a (hp.mem_iff.mp ha)
      obtain ⟨b1,b2,h2⟩:=fa b (hp.mem_iff.mp hb)
      rw [mC h1,mC h2] at qW ⊢
      dsimp only at qW ⊢
      omega
     ·exact ((qQ (lR W sv ho)).map (·.1)).nodup_iff.mpr (UM nd sv ho)
    rw [e]
    clear e hso
    have:∀l:List Addr,(∀b∈l,b∈oJ)→Paired (dy (L2.upd H5 p (.lst (oJ.map V.ref)))) ((l.map fun b=>((pairAt H5 b).1.toNat,(pairAt H5 b).2.toNat)).map jw) (l.map V.ref):=by
     intro l
     induction l with
     |nil=>exact fun _=> .nil
     |cons b l ih=>
      intro hm
      obtain ⟨a,c,h⟩:=fa b (hp.mem_iff.mp (hm b (List.mem_cons_self ..)))
      refine .cons ⟨b,rfl,?_⟩ (ih fun x hx=>hm x (List.mem_cons_of_mem _ hx))
      dsimp only [jw]
      rw [mC h]
      exact Sp _ _ h
    exact this oJ fun b hb=>hb
end
section
variable {P:Program}{w:World}{K:PySem.W.Frag}{mg:Str→Option Value}{base:Heap}{t:jL}
def Y2 (C:Cs):Sp:=fun vs H Q _=>∃ (A:Ad)(cas:List Addr)(W:VW)(r c:Nat),vs= [.ref A.w,nV r,nV c] ∧Rep C H A cas W∧cp W∧r < W.relays.length∧
 ∀ (H':Hp)(p:Addr)(as:List Addr),aj H H'→H' p=some (.lst (as.map V.ref))→Paired (dy H') (Vbcnag.pathUp W.relays.length W {relay:=r,circuit:=c}) (as.map V.ref)→H p=none→Q (.ref p) H'
def agP (C:Cs)(H:Hp)(A:Ad)(W:VW)(ras:List Addr)(r c:Nat)(M:Addr):Nat→L2.St→Hp→Prop:=fun m σ Hk=>∃ (kc:Mark)(tl:List Mark)(n:Nat)(ra:Addr)(as:List Addr),
 σ= [some (.ref A.w),some (nV r),some (nV c),some (.ref M),some (.ref ra)] ∧m=kc.relay∧kc.relay < n∧kc.relay < W.relays.length∧tl.length + kc.relay≤64∧ras[kc.relay]?=some ra∧
 Vbcnag.pathUp W.relays.length W {relay:=r,circuit:=c}=Vbcnag.pathUp n W kc ++ tl∧Hk M=some (.lst (as.map V.ref))∧Paired (dy Hk) (kc::tl) (as.map V.ref)∧aj H Hk
theorem Kt (T:Txt K mg t):bB P w K mg base fe 1 t.fY t.qC qu (Y2 (cs t)):=by
 refine T.wQ.ok mM (fun vs H Q E h=> ?_) (fun d4 A0 outer s H vs Q E hr h=> ?_)
 ·obtain ⟨A,cas,W,r,c,rfl,_⟩:=h
  rfl
 ·obtain ⟨A,cas,W,r,c,rfl,R,wg,d3,k⟩:=h
  obtain ⟨ras,NS,YT⟩:=R.rl
  have rel:∀i,i < W.relays.length→∃ (ra dr:Addr)(x:Relay),ras[i]?=some ra∧W.relays[i]?=some x∧H ra=some (.ins (cs t).R dr (rfs (oV (x.above.map (·.relay))) (oV (x.above.map (·.circuit))) (nV x.limit))):=fun i hi=>by
   obtain ⟨x,hx⟩:∃x,W.relays[i]?=some x:=⟨_,List.getElem?_eq_getElem hi⟩
   obtain ⟨ra,wj,dr,RN⟩:=Paired.at YT hx
   exact ⟨ra,dr,x,wj,hx,RN⟩
  have Sn:∀ {i:Nat}{ra:Addr},ras[i]?=some ra→GL (ras.map V.ref) (i:Int)=some (V.ref ra):=fun {i ra} h=>iJ (by rw [List.getElem?_map,h];rfl)
  have ax9:=wg.Ip
  refine ⟨_,ae (aW (i:=3) mM.nd rfl (Or.inl rfl) (a3 (aa (bZ (aa (pv 1) (aa (pv 2) af))) af)))
   (ae (aW (i:=4) mM.nd rfl (Or.inl rfl) (aF aM (ai (pv 0) rfl) (pv 1) (fun _ _=>rfl)))
   (ae (tG PassesOwn.never (cq (gS (ai (pv 4) rfl))) (ae (aI (ij PySem.F.plainAttrs_list PySem.F.slot_list_insert PySem.F.type_list_insert Tq (pv 3) (aa ah (aa (bZ (aa (ai (pv 4) rfl) (aa (ai (pv 4) rfl) af))) af))))
   (ak (aW (i:=4) mM.nd rfl (Or.inl rfl) (aF aM (ai (pv 0) rfl) (ai (pv 4) rfl) (fun _ _=>rfl))))))
   (ak (aK (pv 3))))),?_⟩
  refine ⟨_,rfl,_,rfl,(by show 2≤sizeLine;decide),fun z hz=> ?_⟩
  have S1:=aj.ao (o:=HO.tup [nV r,nV c]) hz
  have sM:L2.upd H z (HO.tup [nV r,nV c]) z=some (.tup [nV r,nV c]):=ab
  generalize L2.upd H z (HO.tup [nV r,nV c])=H1 at *
  refine ⟨(by show 1≤sizeLine;decide),fun M hM=> ?_⟩
  have hM0:H M=none:=S1.free hM
  have S2:=S1.trans (aj.ao (o:=HO.lst [V.ref z]) hM)
  have RQ:=aj.ao (o:=HO.lst [V.ref z]) hM _ _ sM
  have Sy:L2.upd H1 M (HO.lst [V.ref z]) M=some (.lst [V.ref z]):=ab
  generalize L2.upd H1 M (HO.lst [V.ref z])=H2 at *
  obtain ⟨ra,dr,x,wj,hx,RN⟩:=rel r d3
  refine ⟨_,rfl,A.w,_,_,_,_,rfl,S2 _ _ R.cW,T.aw,T.bE,rfl,_,rfl,A.rl,_,_,_,rfl,rfl,cK.of (S2 _ _ NS),Sn wj,?_⟩
  refine ⟨agP (cs t) H A W ras r c M,⟨r,{relay:=r,circuit:=c},[],W.relays.length,ra,[z],rfl,rfl,d3,d3,(by show 0 + r≤64;omega),wj,(List.append_nil _).symm,Sy,.cons ⟨z,rfl,RQ⟩ .nil,S2⟩,?_⟩
  rintro m σ Hk ⟨kc,tl,n,ra,as,rfl,hm,hkn,Rn,Sv,wj,hpa,hMk,hP,Sk⟩
  obtain ⟨ra',dr,x,agQ,hx,RN⟩:=rel kc.relay Rn
  rw [wj] at agQ
  cases agQ
  have NT:=Sk _ _ RN
  have UK:=nJ hx
  obtain ⟨n',rfl⟩:∃n',n=n' + 1:=⟨n - 1,by omega⟩
  refine ⟨_,rfl,ra,_,dr,_,_,rfl,NT,T.cj,T.bf,rfl,_,rfl,?_⟩
  cases qW:x.above with
  |none=>
   refine bL ?_
   refine ⟨_,rfl,k Hk M as Sk hMk ?_ hM0⟩
   have e:Vbcnag.pathUp (n' + 1) W kc= [kc] :=by
    unfold Vbcnag.pathUp
    rw [UK,qW]
   rw [hpa,e]
   exact hP
  |some a=>
   have NT:Hk ra=some (.ins (cs t).R dr (rfs (nV a.relay) (nV a.circuit) (nV x.limit))):=by
    rw [qW] at NT
    exact NT
   have eA:a.relay < kc.relay:=by
    have h0:0 < kc.relay:=by
     rcases Nat.eq_zero_or_pos kc.relay with q|q
     ·obtain ⟨y,hy,hya⟩:=wg.root
      rw [q,hy] at hx
      cases hx
      rw [hya] at qW
      cases qW
     ·exact q
    obtain ⟨m',h1,h2⟩:=wg.tree kc.relay x hx h0
    rw [qW] at h1
    cases h1
    exact h2
   obtain ⟨rb,db,y,hrb,hy,hRB⟩:=rel a.relay (by omega)
   refine bC ⟨fun σ' H'=>∃m',m' < m∧agP (cs t) H A W ras r c M m' σ' H',fun σ' H' h=>h,?_⟩
   refine ⟨_,rfl,.inl ⟨rfl,_,cK.of hMk⟩,_,rfl,ra,_,dr,_,_,rfl,NT,T.cj,T.bf,rfl,_,rfl,ra,_,dr,_,_,rfl,NT,T.cj,T.cf,rfl,(by show 2≤sizeLine;decide),fun q hq=> ?_⟩
   have Sq:=aj.ao (o:=HO.tup [nV a.relay,nV a.circuit]) hq
   have hqq:L2.upd Hk q (HO.tup [nV a.relay,nV a.circuit]) q=some (.tup [nV a.relay,nV a.circuit]):=ab
   generalize L2.upd Hk q (HO.tup [nV a.relay,nV a.circuit])=H5 at *
   have hM5:=Sq _ _ hMk
   have Tj:as.length=tl.length + 1:=by
    have:=Paired.length hP
    rw [List.length_map] at this
    exact this.symm
   refine ⟨M,_,_,rfl,rfl,hM5,(by rw [List.length_map,Tj];exact Nat.lt_of_le_of_lt (show _≤65 by omega) (by decide)),?_⟩
   have S6:=aj.own (o:=HO.lst (V.ref q::as.map V.ref)) (Sk.trans Sq) hM0
   have k6:∀ {b:Addr}{xs:List V},H5 b=some (.tup xs)→L2.upd H5 M (.lst (V.ref q::as.map V.ref)) b=some (.tup xs):=fun {b xs} e=>by
    rw [az (a8 e hM5 (fun q=>nomatch q))]
    exact e
   have hM6:L2.upd H5 M (HO.lst (V.ref q::as.map V.ref)) M=some (.lst ((q::as).map V.ref)):=ab
   have hq6:=k6 hqq
   have hP6:Paired (dy (L2.upd H5 M (HO.lst (V.ref q::as.map V.ref)))) (kc::tl) (as.map V.ref):=Paired.cN hP fun m v ⟨b,e,hb⟩=>⟨b,e,k6 (Sq _ _ hb)⟩
   generalize L2.upd H5 M (HO.lst (V.ref q::as.map V.ref))=H6 at *
   have aqW:H6 ra=some (.ins (cs t).R dr (rfs (nV a.relay) (nV a.circuit) (nV x.limit))):=by
    have:=S6 _ _ RN
    rw [qW] at this
    exact this
   refine ⟨_,rfl,A.w,_,_,_,_,rfl,S6 _ _ R.cW,T.aw,T.bE,rfl,_,rfl,ra,_,dr,_,_,rfl,aqW,T.cj,T.bf,rfl,A.rl,_,_,_,rfl,rfl,cK.of (S6 _ _ NS),Sn hrb,?_⟩
   refine ⟨a.relay,(by omega),a,kc::tl,n',rb,q::as,rfl,rfl,(by omega),(by omega),(by show tl.length + 1 + a.relay≤64;omega),hrb,?_,hM6,.cons ⟨q,rfl,hq6⟩ hP6,S6⟩
   have e:Vbcnag.pathUp (n' + 1) W kc=Vbcnag.pathUp n' W a ++ [kc] :=by
    conv=>lhs;unfold Vbcnag.pathUp
    rw [UK,qW]
   rw [hpa,e,List.append_assoc]
   rfl
end
section
variable {P:Program}{w:World}{K:PySem.W.Frag}{mg:Str→Option Value}{base:Heap}{t:jL}
def Y3 (C:Cs):Sp:=fun vs H Q _=>∃ (A:Ad)(cas:List Addr)(W:VW),vs= [.ref A.w] ∧Rep C H A cas W∧W.bag.length≤W.cap∧Q (.bl (Vbcnag.full W)) H
theorem Bl (T:Txt K mg t):bB P w K mg base fe 1 t.fZ t.qE qw (Y3 (cs t)):=by
 refine T.qJ.ok JN (fun vs H Q E h=> ?_) (fun d4 A0 outer s H vs Q E hr h=> ?_)
 ·obtain ⟨A,cas,W,rfl,_⟩:=h
  rfl
 ·obtain ⟨A,cas,W,rfl,R,hb,k⟩:=h
  obtain ⟨bas,ot,we⟩:=R.bg
  have hlen:=Iu we
  refine ⟨_,ak (aK (jy cV (a6 aT (by rfl) T.d6 PySem.boot_len (aa (ai (pv 0) rfl) af)) (ai (pv 0) rfl) (aQ _))),?_⟩
  refine ⟨_,rfl,A.w,_,_,_,_,rfl,R.cW,T.aw,T.bu,rfl,A.bg,_,rfl,.inl (cK.of ot),_,rfl,A.w,_,_,_,_,rfl,R.cW,T.aw,T.gb,rfl,rfl,?_⟩
  have e:Vbcnag.full W=decide (V.int ((bas.map V.ref).length:Int)=nV W.cap):=by
   unfold Vbcnag.full
   rw [hlen]
   have:decide (V.int (W.bag.length:Int)=nV W.cap)=decide (W.bag.length=W.cap):=lD
   rw [this]
   exact decide_eq_decide.mpr (by omega)
  rw [e] at k
  exact k
abbrev gK:VW→List Int→Prop:=fun W ns=>∃k:Nat,ns= [(k:Int)] ∧k < W.bag.length
theorem nR {W:VW}{k:Nat}(h:k < W.bag.length):Vbcnag.isPlace W (k:Int)=true:=bM.mpr ⟨by omega,by omega⟩
def L0:VW→List Int→VW×List Int:=fun W ns=>Vbcnag.inWorld W (.lose (ns.headD 0))
theorem UN (T:Txt K mg t):bB P w K mg base fe 8 t.iD t.Fs Fc (bw gK L0 K (cs t)):=by
 refine T.JV.ok TH (fun vs H Q E h=> ?_) (fun d4 A0 outer s H vs Q E hr h=> ?_)
 ·obtain ⟨A,cas,W,nm,ns,rfl,_⟩:=h
  rfl
 ·obtain ⟨A,cas,W,nm,ns,rfl,R,wg,hS,qX,⟨kk,rfl,Bk⟩,k⟩:=h
  obtain ⟨bas,ot,we⟩:=R.bg
  have hb:W.bag.length≤10000:=Nat.le_trans wg.bag wg.cap.2
  have ZA:bas.length=W.bag.length:=Paired.length we
  obtain ⟨u,Oi⟩:∃u,W.bag[kk]?=some u:=⟨_,List.getElem?_eq_getElem Bk⟩
  obtain ⟨m,YV,MA⟩:=Paired.at we Oi
  have hf:L0 W [(kk:Int)] =({W with bag:=W.bag.eraseIdx kk},[0]):=by
   show (if Vbcnag.isPlace W (kk:Int)=false then _ else _)=_
   rw [nR Bk,if_neg (by decide)]
   rfl
  rw [hf] at k
  have R1:=R.Kg (Paired.erase kk we)
  have F1:ez A cas H (L2.upd H A.bg (.lst ((bas.eraseIdx kk).map V.ref))):=ez.upd (.inr (.inr (.inr (.inr (.inr (.inr (.inr (.inl rfl))))))))
  refine ⟨_,ae (aI (ij PySem.F.plainAttrs_list PySem.F.slot_list_pop PySem.F.type_list_pop GQ (ai (pv 0) rfl) (aa (aF aM (pv 1) ah (fun _ _=>rfl)) af)))
   (ak (aK (a3 (aa ah af)))),?_⟩
  refine ⟨_,rfl,A.w,_,_,_,_,rfl,R.cW,T.aw,T.bu,rfl,.inl ⟨rfl,_,cK.of ot⟩,_,rfl,nm,_,_,_,rfl,rfl,hS,rfl,A.bg,_,(kk:Int),kk,V.ref m,rfl,rfl,ot,(by omega),(by omega),LY (by rw [List.length_map,ZA];exact Bk),(by rw [List.getElem?_map,YV];rfl),?_⟩
  rw [qk]
  exact ⟨(by show 1≤sizeLine;decide),fun p hp=>k _ cas p (Rep.same R1 (aj.ao hp)) (F1.trans (aj.ek (aj.ao hp))) (fun b h=> .inl h) ab (cP hp)⟩
def zm:VW→List Int→VW×List Int:=fun W ns=>Vbcnag.inWorld W (.double (ns.headD 0))
theorem NU (T:Txt K mg t):bB P w K mg base fe 8 t.eM t.ur ud (bw gK zm K (cs t)):=by
 refine T.Ai.ok MX (fun vs H Q E h=> ?_) (fun d4 A0 outer s H vs Q E hr h=> ?_)
 ·obtain ⟨A,cas,W,nm,ns,rfl,_⟩:=h
  rfl
 ·obtain ⟨A,cas,W,nm,ns,rfl,R,wg,hS,qX,⟨kk,rfl,Bk⟩,k⟩:=h
  obtain ⟨bas,ot,we⟩:=R.bg
  have hb:W.bag.length≤10000:=Nat.le_trans wg.bag wg.cap.2
  obtain ⟨u,Oi⟩:∃u,W.bag[kk]?=some u:=⟨_,List.getElem?_eq_getElem Bk⟩
  obtain ⟨m,YV,MA⟩:=Paired.at we Oi
  have hf:zm W [(kk:Int)] =if Vbcnag.full W=true then (W,[-3]) else ({W with bag:=W.bag ++ [u] },[0]):=by
   show (if Vbcnag.isPlace W (kk:Int)=false then _ else _)=_
   rw [nR Bk,if_neg (by decide)]
   show (if Vbcnag.full W=true then (W,[-3]) else ({W with bag:=W.bag ++ (W.bag[(kk:Int).toNat]?).toList},[0]))=_
   rw [Int.toNat_natCast,Oi]
   rfl
  rw [hf] at k
  refine ⟨_,ae (bp (oy (aB (Bl T) (hr.mono (by decide)) (by rfl) T.wU T.qJ.kp T.wV .nil aU (aa (pv 0) af))) (ak (aK (a3 (aa (d8 cG ah) af)))) aV)
   (ae (aI (aB (AY T) (hr.mono (by decide)) (by rfl) T.Dg T.zX.kp T.Dh .nil aU (aa (pv 0) (aa (aF aM (ai (pv 0) rfl) (aF aM (pv 1) ah (fun _ _=>rfl)) (fun _ _=>rfl)) af))))
   (ak (aK (a3 (aa ah af))))),?_⟩
  refine ⟨_,rfl,A,cas,W,rfl,R,wg.bag,_,rfl,?_⟩
  by_cases NV:Vbcnag.full W=true
  ·rw [if_pos NV] at k
   rw [NV]
   refine bC ?_
   exact ⟨_,rfl,(by show 1≤sizeLine;decide),fun p hp=>k _ cas p (R.same (aj.ao hp)) (aj.ek (aj.ao hp)) (fun b h=> .inl h) ab hp⟩
  ·rw [if_neg NV] at k
   rw [Bool.eq_false_iff.mpr NV]
   refine bL ?_
   have eA:W.bag.length < W.cap:=by
    unfold Vbcnag.full at NV
    simpa using NV
   refine ⟨_,rfl,_,rfl,A.w,_,_,_,_,rfl,R.cW,T.aw,T.bu,rfl,_,rfl,nm,_,_,_,rfl,rfl,hS,rfl,A.bg,_,_,_,rfl,rfl,cK.of ot,iJ (by rw [List.getElem?_map,YV];rfl),A,cas,W,m,u,rfl,R,hb,MA,fun H1 R1 F1=> ?_⟩
   rw [pR,if_pos eA] at R1
   exact ⟨(by show 1≤sizeLine;decide),fun p hp=>k _ cas p (Rep.same R1 (aj.ao hp)) (F1.trans (aj.ek (aj.ao hp))) (fun b h=> .inl h) ab (R1.km F1 hp)⟩
def L1:VW→List Int→VW×List Int:=fun W ns=>Vbcnag.inWorld W (.peek (ns.headD 0))
theorem Ea (u:Under)(h:u.msg.marks.length≤32):(Vbcnag.shown u).length≤100:=by
 have hf:(Vbcnag.markNums u.msg.marks).length=2 * u.msg.marks.length + 1:=by
  show (dC u.msg.marks).length + 1=_
  rw [ko]
 unfold Vbcnag.shown
 cases u.place <;>simp only [List.length_append,List.length_cons,Vbcnag.nums,List.length_map,List.length_nil,hf] <;>omega
theorem UO (T:Txt K mg t):bB P w K mg base fe 8 t.iF t.Fu Ff (bw gK L1 K (cs t)):=by
 refine T.JX.ok TJ (fun vs H Q E h=> ?_) (fun d4 A0 outer s H vs Q E hr h=> ?_)
 ·obtain ⟨A,cas,W,nm,ns,rfl,_⟩:=h
  rfl
 ·obtain ⟨A,cas,W,nm,ns,rfl,R,wg,hS,qX,⟨kk,rfl,Bk⟩,k⟩:=h
  obtain ⟨bas,ot,we⟩:=R.bg
  obtain ⟨u,Oi⟩:∃u,W.bag[kk]?=some u:=⟨_,List.getElem?_eq_getElem Bk⟩
  obtain ⟨m,YV,MA⟩:=Paired.at we Oi
  have MG:=wg.msgs u (List.mem_of_getElem? Oi)
  have hf:L1 W [(kk:Int)] =(W,0::Vbcnag.shown u):=by
   show (if Vbcnag.isPlace W (kk:Int)=false then _ else _)=_
   rw [nR Bk,if_neg (by decide)]
   show (W,0::((W.bag[(kk:Int).toNat]?).map Vbcnag.shown).getD [])=_
   rw [Int.toNat_natCast,Oi]
   rfl
  rw [hf] at k
  refine ⟨_,ak (aK (cO Ex (a3 (aa ah af)) (aB (qf T) (hr.mono (by decide)) (by rfl) T.lJ T.jm.kp T.lK .nil aU (aa (aF aM (ai (pv 0) rfl) (aF aM (pv 1) ah (fun _ _=>rfl)) (fun _ _=>rfl)) af)))),?_⟩
  refine ⟨(by show 1≤sizeLine;decide),fun z hz=> ?_⟩
  have S1:=aj.ao (o:=HO.lst [V.int 0]) hz
  have sM:L2.upd H z (HO.lst [V.int 0]) z=some (.lst [V.int 0]):=ab
  generalize L2.upd H z (HO.lst [V.int 0])=H1 at *
  refine ⟨_,rfl,A.w,_,_,_,_,rfl,S1 _ _ R.cW,T.aw,T.bu,rfl,_,rfl,nm,_,_,_,rfl,rfl,S1.seq hS,rfl,A.bg,_,_,_,rfl,rfl,cK.of (S1 _ _ ot),iJ (by rw [List.getElem?_map,YV];rfl),m,u,rfl,MA.keep (aj.keep (C:=cs t) S1),MG.marks,fun H2 r S2 NR yC=> ?_⟩
  have hsl:=Ea u MG.marks
  refine ⟨z,r,_,_,rfl,rfl,S2 _ _ sM,NR,(by rw [List.length_map];show 1 + _≤sizeLine;exact Nat.le_trans (show _≤101 by omega) (by decide)),fun p hp=> ?_⟩
  have S3:=(S1.trans S2).trans (aj.ao (o:=HO.lst ([V.int 0] ++ (Vbcnag.shown u).map V.int)) hp)
  exact k _ cas p (R.same S3) (aj.ek S3) (fun b h=> .inl h) ab ((S1.trans S2).free hp)
def v7:VW→List Int→VW×List Int:=fun W ns=>Vbcnag.inWorld W (.client (ns.headD 0))
theorem Bm (T:Txt K mg t):bB P w K mg base fe 8 t.bQ t.iU iO (bw g1 v7 K (cs t)):=by
 refine T.lL.ok oN (fun vs H Q E h=> ?_) (fun d4 A0 outer s H vs Q E hr h=> ?_)
 ·obtain ⟨A,cas,W,nm,ns,rfl,_⟩:=h
  rfl
 ·obtain ⟨A,cas,W,nm,ns,rfl,R,wg,hS,qX,⟨h0,rfl,hh⟩,k⟩:=h
  obtain ⟨n,rfl⟩:=A7 hh
  have hu:=gF hr
  refine ⟨_,ae (aW (i:=2) oN.nd rfl (Or.inl rfl) (gT hu (ai (pv 0) rfl) (aF aM (pv 1) ah (fun _ _=>rfl)) ⟨rfl,rfl,rfl,rfl⟩))
   (ae (bp (cq (gR (pv 2))) (ak (aK (a3 (aa (d8 cG ah) af)))) aV)
   (ak (aK (cO Ex (a3 (aa ah af)) (aB (Cu T) (hr.mono (by decide)) (by rfl) T.uL T.ny.kp T.uM .nil aU (aa (pv 2) af)))))),?_⟩
  rcases R.find n with ⟨hc,DG⟩|⟨i,ca,c,d,pl,be,le,hc,BE,hi,dA,nN,d3,DG⟩
  ·have hf:v7 W [(n:Int)] =(W,[-2]):=mB hh hc
   rw [hf] at k
   refine ⟨_,rfl,A.w,_,_,_,_,rfl,R.cW,T.aw,T.aA,rfl,A.cd,rfl,.inl ⟨_,.inl R.cd⟩,_,rfl,nm,_,_,_,rfl,rfl,hS,rfl,_,DG,?_⟩
   refine ⟨_,rfl,_,rfl,bC ?_⟩
   exact ⟨_,rfl,(by show 1≤sizeLine;decide),fun p hp=>k _ cas p (R.same (aj.ao hp)) (aj.ek (aj.ao hp)) (fun b h=> .inl h) ab hp⟩
  ·have hf:v7 W [(n:Int)] =(W,0::Vbcnag.clientSaid c):=gh hh hc
   rw [hf] at k
   refine ⟨_,rfl,A.w,_,_,_,_,rfl,R.cW,T.aw,T.aA,rfl,A.cd,rfl,.inl ⟨_,.inl R.cd⟩,_,rfl,nm,_,_,_,rfl,rfl,hS,rfl,_,DG,?_⟩
   refine ⟨_,rfl,_,rfl,bL ?_⟩
   refine ⟨(by show 1≤sizeLine;decide),fun z hz=> ?_⟩
   have S1:=aj.ao (o:=HO.lst [V.int 0]) hz
   have sM:L2.upd H z (HO.lst [V.int 0]) z=some (.lst [V.int 0]):=ab
   generalize L2.upd H z (HO.lst [V.int 0])=H1 at *
   refine ⟨_,rfl,ca,c,rfl,⟨d,pl,be,le,S1 _ _ nN,d3.keep (aj.keep (C:=cs t) S1)⟩,fun H2 r S2 NR yC=> ?_⟩
   refine ⟨z,r,_,_,rfl,rfl,S2 _ _ sM,NR,?_,fun p hp=> ?_⟩
   ·rw [List.length_map,LZ]
    cases c.place <;>cases c.best <;>cases c.lease <;>(show 17≤sizeLine;decide)
   ·have S3:=(S1.trans S2).trans (aj.ao (o:=HO.lst ([V.int 0] ++ (Vbcnag.clientSaid c).map V.int)) hp)
    exact k _ cas p (R.same S3) (aj.ek S3) (fun b h=> .inl h) ab ((S1.trans S2).free hp)
end
theorem RW (l:List (Nat×Nat)):Vbcnag.pairs l=0::Vbcnag.markNums (l.map jw):=by
 unfold Vbcnag.pairs Vbcnag.markNums
 rw [List.length_map,List.flatMap_map]
 rfl
theorem IQ:∀ (n:Nat)(W:VW)(k:Mark),(Vbcnag.pathUp n W k).length≤n
 |0,_,_=>Nat.le_refl _
 |n + 1,W,k=>by
  unfold Vbcnag.pathUp
  split
  ·show 1≤n + 1
   omega
  ·rename_i a _
   rw [List.length_append]
   exact Nat.succ_le_succ (IQ n W a)
theorem Eb (l:List Mark):(Vbcnag.markNums l).length=2 * l.length + 1:=by
 show (dC l).length + 1=_
 rw [ko]
section
variable {P:Program}{w:World}{K:PySem.W.Frag}{mg:Str→Option Value}{base:Heap}{t:jL}
abbrev Bn:VW→List Int→Prop:=fun W ns=>W.written.length≤500000∧∃s h:Nat,ns= [(s:Int),(h:Int)] ∧(Vbcnag.isServer W (s:Int) && Vbcnag.isHost (h:Int))=true
def v8:VW→List Int→VW×List Int:=fun W ns=>match ns with
 | [s,h] =>Vbcnag.inWorld W (.written s h)
 |_=>(W,[])
theorem yY (T:Txt K mg t):bB P w K mg base fe 8 t.bF t.hU gY (bw Bn v8 K (cs t)):=by
 refine T.kG.ok yR (fun vs H Q E h=> ?_) (fun d4 A0 outer s H vs Q E hr h=> ?_)
 ·obtain ⟨A,cas,W,nm,ns,rfl,_⟩:=h
  rfl
 ·obtain ⟨A,cas,W,nm,ns,rfl,R,wg,hS,qX,⟨C4,sv,ho,rfl,hh⟩,k⟩:=h
  have dP:∀T:Txt K mg t,bB P w K mg base fe 1 t.cI t.fE fA (zl K):=fun T=>Rl.dP T
  have hf:v8 W [(sv:Int),(ho:Int)] =(W,0::Vbcnag.markNums (((lR W sv ho).foldr Vbcnag.putIn []).map jw)):=by
   show (if (Vbcnag.isServer W (sv:Int) && Vbcnag.isHost (ho:Int))=false then _ else _)=_
   rw [hh,if_neg (by decide)]
   rw [←RW]
   rfl
  rw [hf] at k
  have eA:W.written.length < sizeLine:=Nat.lt_of_le_of_lt C4 (by decide)
  refine ⟨_,ak (aK (cO Ex (a3 (aa ah af)) (aB (dP T) (hr.mono (by decide)) (by rfl) T.lx T.jo.kp T.ly .nil aU (aa (aB (Cv T) (hr.mono (by decide)) (by rfl) T.uN T.nB.kp T.uP .nil aU (aa (pv 0) (aa (aF aM (pv 1) ah (fun _ _=>rfl)) (aa (aF aM (pv 1) ah (fun _ _=>rfl)) af)))) af)))),?_⟩
  refine ⟨(by show 1≤sizeLine;decide),fun z hz=> ?_⟩
  have S1:=aj.ao (o:=HO.lst [V.int 0]) hz
  have sM:L2.upd H z (HO.lst [V.int 0]) z=some (.lst [V.int 0]):=ab
  generalize L2.upd H z (HO.lst [V.int 0])=H1 at *
  refine ⟨_,rfl,_,rfl,nm,_,_,_,rfl,rfl,S1.seq hS,rfl,_,rfl,nm,_,_,_,rfl,rfl,S1.seq hS,rfl,A,cas,W,sv,ho,rfl,R.same S1,wg.Yy,eA,fun H2 r as S2 NR Jy yC=> ?_⟩
  have hle:(((lR W sv ho).foldr Vbcnag.putIn []).map jw).length≤500000:=by
   rw [List.length_map,(qQ _).length_eq]
   unfold lR
   rw [List.length_map]
   exact Nat.le_trans (List.length_filter_le ..) C4
  refine ⟨r,_,_,rfl,.inl (cK.of NR),Jy,Nat.le_trans hle (by decide),fun H3 q S3 Sw ZG=> ?_⟩
  refine ⟨z,q,_,_,rfl,rfl,S3 _ _ (S2 _ _ sM),Sw,?_,fun p hp=> ?_⟩
  ·rw [List.length_map,Eb]
   show 1 + _≤sizeLine
   exact Nat.le_trans (show _≤1000002 by omega) (by decide)
  ·have S4:=((S1.trans S2).trans S3).trans (aj.ao (o:=HO.lst ([V.int 0] ++ (Vbcnag.markNums (((lR W sv ho).foldr Vbcnag.putIn []).map jw)).map V.int)) hp)
   exact k _ cas p (R.same S4) (aj.ek S4) (fun b h=> .inl h) ab (((S1.trans S2).trans S3).free hp)
abbrev RX:VW→List Int→Prop:=fun W ns=>∃r c:Nat,ns= [(r:Int),(c:Int)] ∧r < W.relays.length∧(Vbcnag.isRelay W (r:Int) && Vbcnag.isCircuit (c:Int))=true
def L3:VW→List Int→VW×List Int:=fun W ns=>match ns with
 | [r,c] =>Vbcnag.inWorld W (.path r c)
 |_=>(W,[])
theorem Gs (T:Txt K mg t):bB P w K mg base fe 8 t.cA t.lp k0 (bw RX L3 K (cs t)):=by
 refine T.pq.ok Fg (fun vs H Q E h=> ?_) (fun d4 A0 outer s H vs Q E hr h=> ?_)
 ·obtain ⟨A,cas,W,nm,ns,rfl,_⟩:=h
  rfl
 ·obtain ⟨A,cas,W,nm,ns,rfl,R,wg,hS,qX,⟨rr,cc,rfl,d3,hh⟩,k⟩:=h
  have dP:∀T:Txt K mg t,bB P w K mg base fe 1 t.cI t.fE fA (zl K):=fun T=>Rl.dP T
  have hf:L3 W [(rr:Int),(cc:Int)] =(W,0::Vbcnag.markNums (Vbcnag.pathUp W.relays.length W {relay:=rr,circuit:=cc})):=by
   show (if (Vbcnag.isRelay W (rr:Int) && Vbcnag.isCircuit (cc:Int))=false then _ else _)=_
   rw [hh,if_neg (by decide)]
   rfl
  rw [hf] at k
  refine ⟨_,ak (aK (cO Ex (a3 (aa ah af)) (aB (dP T) (hr.mono (by decide)) (by rfl) T.lx T.jo.kp T.ly .nil aU (aa (aB (Kt T) (hr.mono (by decide)) (by rfl) T.Dk T.wQ.kp T.Dl .nil aU (aa (pv 0) (aa (aF aM (pv 1) ah (fun _ _=>rfl)) (aa (aF aM (pv 1) ah (fun _ _=>rfl)) af)))) af)))),?_⟩
  refine ⟨(by show 1≤sizeLine;decide),fun z hz=> ?_⟩
  have S1:=aj.ao (o:=HO.lst [V.int 0]) hz
  have sM:L2.upd H z (HO.lst [V.int 0]) z=some (.lst [V.int 0]):=ab
  generalize L2.upd H z (HO.lst [V.int 0])=H1 at *
  refine ⟨_,rfl,_,rfl,nm,_,_,_,rfl,rfl,S1.seq hS,rfl,_,rfl,nm,_,_,_,rfl,rfl,S1.seq hS,rfl,A,cas,W,rr,cc,rfl,R.same S1,wg,d3,fun H2 r as S2 NR Jy yC=> ?_⟩
  have hle:(Vbcnag.pathUp W.relays.length W {relay:=rr,circuit:=cc}).length≤64:=Nat.le_trans (IQ _ _ _) wg.Ip
  refine ⟨r,_,_,rfl,.inl (cK.of NR),Jy,Nat.le_trans hle (by decide),fun H3 q S3 Sw ZG=> ?_⟩
  refine ⟨z,q,_,_,rfl,rfl,S3 _ _ (S2 _ _ sM),Sw,?_,fun p hp=> ?_⟩
  ·rw [List.length_map,Eb]
   show 1 + _≤sizeLine
   exact Nat.le_trans (show _≤1000002 by omega) (by decide)
  ·have S4:=((S1.trans S2).trans S3).trans (aj.ao (o:=HO.lst ([V.int 0] ++ (Vbcnag.markNums (Vbcnag.pathUp W.relays.length W {relay:=rr,circuit:=cc})).map V.int)) hp)
   exact k _ cas p (R.same S4) (aj.ek S4) (fun b h=> .inl h) ab (((S1.trans S2).trans S3).free hp)
abbrev g0:VW→List Int→Prop:=fun _ ns=>ns= []
def fState:VW→List Int→VW×List Int:=fun W _=>Vbcnag.inWorld W .state
theorem Cw (T:Txt K mg t):bB P w K mg base fe 8 t.cb t.jX jJ (bw g0 fState K (cs t)):=by
 refine T.nE.ok BU (fun vs H Q E h=> ?_) (fun d4 A0 outer s H vs Q E hr h=> ?_)
 ·obtain ⟨A,cas,W,nm,ns,rfl,_⟩:=h
  rfl
 ·obtain ⟨A,cas,W,nm,ns,rfl,R,wg,hS,qX,rfl,k⟩:=h
  obtain ⟨bas,ot,we⟩:=R.bg
  obtain ⟨ras,NS,YT⟩:=R.rl
  have hu:=gF hr
  refine ⟨_,ak (aK (a3 (aa ah (aa (ai (pv 0) rfl) (aa (a6 aT (by rfl) T.d6 PySem.boot_len (aa (ai (pv 0) rfl) af)) (aa (a6 aT (by rfl) T.d6 PySem.boot_len (aa (ai (pv 0) rfl) af)) (aa (a6 C0 (by rfl) T.d6 PySem.boot_len (aa (ai (pv 0) rfl) af)) af))))))),?_⟩
  refine ⟨_,rfl,A.w,_,_,_,_,rfl,R.cW,T.aw,T.bb,rfl,_,rfl,A.w,_,_,_,_,rfl,R.cW,T.aw,T.bu,rfl,A.bg,_,rfl,.inl (cK.of ot),_,rfl,A.w,_,_,_,_,rfl,R.cW,T.aw,T.bE,rfl,A.rl,_,rfl,.inl (cK.of NS),
   _,rfl,A.w,_,_,_,_,rfl,R.cW,T.aw,T.aA,rfl,A.cd,_,rfl,R.cd,(by show 5≤sizeLine;decide),fun p hp=> ?_⟩
  refine k _ cas p (R.same (aj.ao hp)) (aj.ek (aj.ao hp)) (fun b h=> .inl h) ?_ hp
  have e1:=Iu we
  have e2:(ras.map V.ref).length=W.relays.length:=by rw [List.length_map];exact Paired.length YT
  have e3:=nO (cl:=W.clients) R.len
  rw [ab,e1,e2,e3]
  rfl
def RY:VW→List Int→VW×List Int:=fun W _=>Vbcnag.inWorld W .next
theorem IS {W:VW}{M:Int}(h1:M∈(W.clients.filterMap (·.due)).map (fun (n:Nat)=>(n:Int)))(h2:∀z∈(W.clients.filterMap (·.due)).map (fun (n:Nat)=>(n:Int)),M≤z):(match Vbcnag.soonest (Vbcnag.dues W) with|some x=>(x.1:Int)|none=> -1)=M:=by
 obtain ⟨d,hd,rfl⟩:=List.mem_map.mp h1
 obtain ⟨c,hc,tD⟩:=List.mem_filterMap.mp hd
 cases hs:Vbcnag.soonest (Vbcnag.dues W) with
 |none=>
  have:=vM hs
  have m:(d,c.host)∈Vbcnag.dues W:=gu.mpr ⟨c,hc,tD,rfl⟩
  rw [this] at m
  cases m
 |some z=>
  obtain ⟨hm,gm⟩:=gr hs
  obtain ⟨c',UZ,Y4,_⟩:=gu.mp hm
  have a:=gm (d,c.host) (gu.mpr ⟨c,hc,tD,rfl⟩)
  have b:=h2 (z.1:Int) (List.mem_map.mpr ⟨z.1,List.mem_filterMap.mpr ⟨c',UZ,Y4⟩,rfl⟩)
  show (z.1:Int)=d
  unfold gq at a
  dsimp only at a
  omega
theorem Gu (T:Txt K mg t):bB P w K mg base fe 8 t.cB t.lq k7 (bw g0 RY K (cs t)):=by
 refine T.px.ok mR (fun vs H Q E h=> ?_) (fun d4 A0 outer s H vs Q E hr h=> ?_)
 ·obtain ⟨A,cas,W,nm,ns,rfl,_⟩:=h
  rfl
 ·obtain ⟨A,cas,W,nm,ns,rfl,R,wg,hS,qX,rfl,k⟩:=h
  have hu:=gF hr
  have hlen:=wg.vQ
  refine ⟨_,ak (aK (a3 (aa ah (aa (K8 rfl (by rfl) T.xY (EJ (K2 (own:= [("client",2)]) rfl mR.nd (CZ (ai (pv 0) rfl)) (kr (show EE xB (ay fB) _ _=true by decide +kernel)) (fun _ _ _ _ _=>eU (i:=2) mR.nd rfl (Or.inl rfl)) (fun _ _ _ _ _=>EA (cq (gS (mI K rfl (pv 2) rfl)))) (fun _ _ _ _ _=>(mI K rfl (pv 2) rfl)))) (d8 cG ah)) af)))),?_⟩
  refine ⟨A.cd,_,R.cd,trivial,fun od=> ?_⟩
  have tD:L2.upd H A.cd (.jn od (.dK (bH cas W.clients))) A.cd=some (.jn od (.dK (bH cas W.clients))):=ab
  have NK:∀b o,b≠A.cd→H b=some o→L2.upd H A.cd (.jn od (.dK (bH cas W.clients))) b=some o:=fun b o n e=>by
   rw [az n]
   exact e
  have back:∀H',aj (L2.upd H A.cd (.jn od (.dK (bH cas W.clients)))) H'→aj H (L2.upd H' A.cd (.dK (bH cas W.clients))):=fun H' S b o e=>by
   by_cases z:b=A.cd
   ·subst z
    rw [R.cd] at e
    rw [←Option.some.inj e]
    exact ab
   ·rw [az z]
    exact S b o (NK b o z e)
  generalize L2.upd H A.cd (.jn od (.dK (bH cas W.clients)))=H0 at *
  refine ⟨_,rfl,A.w,_,_,_,_,rfl,NK _ _ (a8 R.cW R.cd (fun q=>nomatch q)) R.cW,T.aw,T.aA,rfl,A.cd,od,_,rfl,tD,fun D hD=> ?_⟩
  refine LN (fun i H'=>H' D=some (.lst (((W.clients.take i).filterMap (·.due)).map nV))∧aj H0 H') ⟨ab,aj.ao hD⟩ (fun i H' _ mz=>mz.2 _ _ tD) (fun i ky x H' hx mz=> ?_) (fun H' mz=> ?_)
  ·obtain ⟨xh,S⟩:=mz
   obtain ⟨ca,cl,dA,K0,rfl⟩:=D3 hx
   obtain ⟨d,pl,be,le,nN,d3⟩:=R.gO K0 dA
   have Ri:=S _ _ (NK _ _ (a8 nN R.cd (fun q=>nomatch q)) nN)
   refine ⟨rfl,?_⟩
   refine ⟨_,rfl,ca,_,d,_,_,rfl,Ri,T.aq,T.bx,rfl,_,rfl,?_⟩
   cases hdu:cl.due with
   |none=>
    refine bL ⟨?_,S⟩
    rw [List.take_add_one,K0,List.filterMap_append]
    show _=some (HO.lst ((_ ++ List.filterMap _ [cl]).map nV))
    rw [List.filterMap_cons,hdu,List.filterMap_nil,List.append_nil]
    exact xh
   |some dd=>
    rw [show tw cl pl be le=tw {cl with due:=some dd} pl be le by rw [←hdu]] at Ri
    refine bC ?_
    refine ⟨_,rfl,ca,_,d,_,_,rfl,Ri,T.aq,T.bx,rfl,_,xh,?_,?_,?_⟩
    ·rw [List.length_map]
     refine Nat.lt_of_le_of_lt (List.length_filterMap_le ..) ?_
     rw [List.length_take]
     exact Nat.lt_of_le_of_lt (show _≤64 by omega) (by decide)
    ·rw [ab,List.take_add_one,K0,List.filterMap_append]
     show _=some (HO.lst ((_ ++ List.filterMap _ [cl]).map nV))
     rw [List.filterMap_cons,hdu,List.filterMap_nil,List.map_append]
     rfl
    ·exact aj.own S hD
  ·obtain ⟨xh,S⟩:=mz
   rw [nO R.len,List.take_length] at xh
   have nD:D≠A.cd:=dR tD hD
   have Sb:=back _ S
   refine ⟨S _ _ tD,?_⟩
   have ZH:L2.upd H' A.cd (.dK (bH cas W.clients)) D=some (.lst (((W.clients.filterMap (·.due)).map (fun (n:Nat)=>(n:Int))).map V.int)):=by
    rw [az nD,xh,List.map_map]
    rfl
   generalize L2.upd H' A.cd (.dK (bH cas W.clients))=H5 at *
   refine ⟨_,rfl,D,_,rfl,cK.of ZH,fun aqY=> ?_,fun M ow Sy=> ?_⟩
   ·refine ⟨(by show 2≤sizeLine;decide),fun p hp=> ?_⟩
    have S6:=Sb.trans (aj.ao (o:=HO.lst [V.int 0,V.int (-1)]) hp)
    refine k _ cas p (R.same S6) (aj.ek S6) (fun b h=> .inl h) ?_ (Sb.free hp)
    have hs:Vbcnag.soonest (Vbcnag.dues W)=none:=by
     cases hs:Vbcnag.soonest (Vbcnag.dues W) with
     |none=>rfl
     |some z=>
      obtain ⟨c',UZ,Y4,_⟩:=gu.mp (gr hs).1
      have:(z.1:Int)∈(W.clients.filterMap (·.due)).map (fun (n:Nat)=>(n:Int)):=List.mem_map.mpr ⟨z.1,List.mem_filterMap.mpr ⟨c',UZ,Y4⟩,rfl⟩
      rw [aqY] at this
      cases this
    rw [ab]
    show _=some (HO.lst (List.map V.int [0,match Vbcnag.soonest (Vbcnag.dues W) with|some x=>(x.1:Int)|none=> -1]))
    rw [hs]
    rfl
   ·refine ⟨(by show 2≤sizeLine;decide),fun p hp=> ?_⟩
    have S6:=Sb.trans (aj.ao (o:=HO.lst [V.int 0,V.int M]) hp)
    refine k _ cas p (R.same S6) (aj.ek S6) (fun b h=> .inl h) ?_ (Sb.free hp)
    rw [ab]
    show _=some (HO.lst (List.map V.int [0,match Vbcnag.soonest (Vbcnag.dues W) with|some x=>(x.1:Int)|none=> -1]))
    rw [IS ow Sy]
    rfl
end
theorem NW {W:VW}(g:cp W){k:Nat}(hk:k < W.bag.length):(Vbcnag.delivered W k).1.bag=W.bag.eraseIdx k ++ (Vbcnag.delivered W k).2:=by
 obtain ⟨u,hu⟩:∃u,W.bag[k]?=some u:=⟨_,List.getElem?_eq_getElem hk⟩
 obtain ⟨_,_,_,h4,_⟩:=vR (nL g k) (u:=u) (g.msgs u (List.mem_of_getElem? hu))
 unfold Vbcnag.delivered
 rw [hu]
 dsimp only
 rw [gg]
 show (Vbcnag.handled {W with bag:=W.bag.eraseIdx k} u).1.bag ++ _=_
 rw [h4]
theorem Paired.drop {α β:Type}{F:α→β→Prop}:∀ {l:List α}{m:List β}(n:Nat),Paired F l m→Paired F (l.drop n) (m.drop n)
 |_,_,0,h=>h
 |_,_,_ + 1,.nil=> .nil
 |_,_,n + 1,.cons _ t=>Paired.drop n t
def lS (l:List Under):List Int:=l.flatMap fun u=>((Vbcnag.shown u).length:Int)::Vbcnag.shown u
theorem yJ (l:List Under)(u:Under):lS (l ++ [u])=lS l ++ (((Vbcnag.shown u).length:Int)::Vbcnag.shown u):=by
 unfold lS
 rw [List.flatMap_append]
 show _ ++ (_ ++ [])=_
 rw [List.append_nil]
theorem Bo:∀ {l:List Under},(∀u∈l,u.msg.marks.length≤32)→(lS l).length≤101 * l.length
 | [],_=>Nat.le_refl _
 |u::l,h=>by
  have h1:=Ea u (h u (List.mem_cons_self ..))
  have h2:=Bo (l:=l) fun v hv=>h v (List.mem_cons_of_mem _ hv)
  show ((_::Vbcnag.shown u) ++ lS l).length≤_
  rw [List.length_append,List.length_cons,List.length_cons]
  omega
section
variable {P:Program}{w:World}{K:PySem.W.Frag}{mg:Str→Option Value}{base:Heap}{t:jL}
abbrev Bp:VW→List Int→Prop:=fun W ns=>W.written.length≤500000∧gK W ns
def v9:VW→List Int→VW×List Int:=fun W ns=>Vbcnag.inWorld W (.deliver (ns.headD 0))
theorem Ku (T:Txt K mg t):bB P w K mg base fe 10 t.dU t.qF qx (bw Bp v9 K (cs t)):=by
 refine T.wW.ok kz (fun vs H Q E h=> ?_) (fun d4 A0 outer s H vs Q E hr h=> ?_)
 ·obtain ⟨A,cas,W,nm,ns,rfl,_⟩:=h
  rfl
 ·obtain ⟨A,cas,W,nm,ns,rfl,R,wg,hS,qX,⟨C4,kk,rfl,Bk⟩,k⟩:=h
  obtain ⟨bas,ot,we⟩:=R.bg
  have CK:=fH T
  have hlen:=Iu we
  have eA:W.written.length < sizeLine:=Nat.lt_of_le_of_lt C4 (by decide)
  have hf:v9 W [(kk:Int)] =((Vbcnag.delivered W kk).1,0::((Vbcnag.delivered W kk).2.length:Int)::lS (Vbcnag.delivered W kk).2):=by
   show (if Vbcnag.isPlace W (kk:Int)=false then _ else _)=_
   rw [nR Bk,if_neg (by decide)]
   rfl
  rw [hf] at k
  have Q8:=NW wg Bk
  have ZI:=(ia wg kk).1
  generalize hW':(Vbcnag.delivered W kk).1=W' at *
  generalize hms:(Vbcnag.delivered W kk).2=ms at *
  have hel:(W.bag.eraseIdx kk).length=W.bag.length - 1:=by
   rw [List.length_eraseIdx,if_pos Bk]
  have ayf:W'.bag.length=W.bag.length - 1 + ms.length:=by rw [Q8,List.length_append,hel]
  have S9:W'.bag.length≤10000:=Nat.le_trans ZI.bag ZI.cap.2
  refine ⟨_,ae (aW (i:=2) kz.nd rfl (Or.inl rfl) (cO Jh (a6 aT (by rfl) T.d6 PySem.boot_len (aa (ai (pv 0) rfl) af)) ah))
   (ae (aI (aB (sN T) (hr.mono (by decide)) (by rfl) T.nq T.j0.kp T.nt .nil aU (aa (pv 0) (aa (aF aM (pv 1) ah (fun _ _=>rfl)) af))))
   (ae (aW (i:=3) kz.nd rfl (Or.inl rfl) (a3 (aa ah (aa (cO Jh (a6 aT (by rfl) T.d6 PySem.boot_len (aa (ai (pv 0) rfl) af)) (pv 2)) af))))
   (ae (zw PassesOwn.never rfl (qg (tL Er (ai (pv 0) rfl) (tK (pv 2)) El)) (eU (i:=4) kz.nd rfl (Or.inl rfl)) (ae (aW (i:=5) kz.nd rfl (Or.inl rfl) (aB (qf T) (hr.mono (by decide)) (by rfl) T.lJ T.jm.kp T.lK .nil aU (aa (pv 4) af)))
   (ae (aI (ij PySem.F.plainAttrs_list PySem.F.slot_list_append PySem.F.type_list_append lX (pv 3) (aa (a6 aT (by rfl) T.d6 PySem.boot_len (aa (pv 5) af)) af)))
   (ak (aI (ij PySem.F.plainAttrs_list PySem.F.slot_list_extend PySem.F.type_list_extend lY (pv 3) (aa (pv 5) af)))))))
   (ak (aK (pv 3)))))),?_⟩
  refine ⟨_,rfl,A.w,_,_,_,_,rfl,R.cW,T.aw,T.bu,rfl,A.bg,_,rfl,.inl (cK.of ot),_,_,rfl,rfl,?_⟩
  refine ⟨_,rfl,_,rfl,nm,_,_,_,rfl,rfl,hS,rfl,A,cas,W,kk,rfl,R,wg,eA,Bk,fun H1 R1 F1=> ?_⟩
  rw [hW'] at R1
  obtain ⟨xl,agR,agS⟩:=R1.bg
  have VP:=Iu agS
  refine ⟨_,rfl,A.w,_,_,_,_,rfl,R1.cW,T.aw,T.bu,rfl,A.bg,_,rfl,.inl (cK.of agR),_,rfl,_,_,rfl,rfl,(by show 2≤sizeLine;decide),fun r yC=> ?_⟩
  generalize Cq:L2.upd H1 r _=H2
  have eL:(((bas.map V.ref).length:Int) - 1)=((W.bag.length - 1:Nat):Int):=by
   rw [hlen]
   omega
  have NR:H2 r=some (.lst ((0::(ms.length:Int)::lS (ms.take 0)).map V.int)):=by
   rw [←Cq,ab]
   have e2:(((xl.map V.ref).length:Int) - (((bas.map V.ref).length:Int) - 1))=(ms.length:Int):=by
    rw [VP,hlen]
    omega
   show some (HO.lst [V.int 0,V.int (((xl.map V.ref).length:Int) - (((bas.map V.ref).length:Int) - 1))])=_
   rw [e2]
   rfl
  have S2:aj H1 H2:=by rw [←Cq];exact aj.ao yC
  clear Cq
  have aqZ:H r=none:=R1.km F1 yC
  refine ⟨_,rfl,A.w,_,_,_,_,rfl,S2 _ _ R1.cW,T.aw,T.bu,rfl,_,rfl,_,rfl,A.bg,_,rfl,cK.of (S2 _ _ agR),fun L hL=> ?_⟩
  have ec:sS (xl.map V.ref) (some (((bas.map V.ref).length:Int) - 1)) none=(xl.drop (W.bag.length - 1)).map V.ref:=by
   rw [eL,Bj (by rw [VP];omega),List.map_drop]
  rw [ec]
  have S3:=aj.ao (o:=HO.lst ((xl.drop (W.bag.length - 1)).map V.ref)) hL
  have hL3:L2.upd H2 L (HO.lst ((xl.drop (W.bag.length - 1)).map V.ref)) L=some (.lst ((xl.drop (W.bag.length - 1)).map V.ref)):=ab
  have nLr:L≠r:=dR NR hL
  generalize L2.upd H2 L (HO.lst ((xl.drop (W.bag.length - 1)).map V.ref))=H3 at *
  have Oh:=S2.trans S3
  have hP:Paired (gN (cs t) H1) (xl.drop (W.bag.length - 1)) ms:=by
   have h:=Paired.drop (W.bag.length - 1) agS
   have e:W'.bag.drop (W.bag.length - 1)=ms:=by rw [Q8,←hel,List.drop_left]
   rw [e] at h
   exact h
  have hPi:=cU.mp hP
  have VQ:∀u∈ms,u.msg.marks.length≤32:=fun u hu=>(ZI.msgs u (by rw [Q8];exact List.mem_append_right _ hu)).marks
  have ayh:ms.length≤10000:=by omega
  refine ⟨L,rfl,⟨_,cK.of hL3⟩,?_⟩
  refine zx (K:=K) (a:=L) (xs:=(xl.drop (W.bag.length - 1)).map V.ref) (fun i σ Hk=>∃v4 v5,σ= [some (V.ref A.w),some (V.ref nm),some (V.int (((bas.map V.ref).length:Int) - 1)),some (V.ref r),v4,v5] ∧Hk r=some (.lst ((0::(ms.length:Int)::lS (ms.take i)).map V.int))∧∀b o,H3 b=some o→b≠r→Hk b=some o)
   ⟨none,none,rfl,S3 _ _ NR,fun b o e _=>e⟩ (fun i σ Hk _ hk=> ?_) (fun i x σ Hk hx hk=> ?_) (fun σ Hk hk=> ?_)
  ·obtain ⟨v4,v5,_,_,CU⟩:=hk
   exact cK.of (CU _ _ hL3 nLr)
  ·obtain ⟨v4,v5,rfl,hrk,CU⟩:=hk
   rw [List.getElem?_map] at hx
   obtain ⟨m,hm,rfl⟩:∃m,(xl.drop (W.bag.length - 1))[i]?=some m∧x=V.ref m:=by
    cases q:(xl.drop (W.bag.length - 1))[i]? with
    |none=>rw [q] at hx;cases hx
    |some m=>rw [q] at hx;exact ⟨m,rfl,(Option.some.inj hx).symm⟩
   have hi:i < ms.length:=by
    rw [←hPi.1]
    exact (List.getElem?_eq_some_iff.mp hm).1
   have hu:ms[i]?=some ms[i] :=List.getElem?_eq_getElem hi
   have MA:=hPi.2 i m _ hm hu
   generalize ms[i] =u at *
   have aq0:=VQ u (List.mem_of_getElem? hu)
   have kk1:dZ (cs t) H1 Hk:=fun b o fx e=>CU b o (Oh _ _ e) (fun q=>by
    rw [q,yC] at e
    cases e)
   have VM:ms.take (i + 1)=ms.take i ++ [u] :=by rw [List.take_add_one,hu];rfl
   have Zr:(lS (ms.take (i + 1))).length≤101 * 10000:=by
    refine Nat.le_trans (Bo fun v hv=>VQ v (List.mem_of_mem_take hv)) ?_
    have:(ms.take (i + 1)).length≤ms.length:=by rw [List.length_take];omega
    omega
   rw [VM,yJ,List.length_append,List.length_cons] at Zr
   refine ⟨_,rfl,m,u,rfl,MA.keep kk1,aq0,fun H4 q S4 hq4 ZG=> ?_⟩
   have hr4:=S4 _ _ hrk
   have nqr:q≠r:=dR hrk ZG
   refine ⟨_,rfl,.inl ⟨rfl,_,cK.of hr4⟩,_,rfl,q,_,rfl,.inl (cK.of hq4),r,_,_,rfl,rfl,hr4,?_,?_⟩
   ·rw [List.length_map,List.length_cons,List.length_cons]
    exact Nat.lt_of_le_of_lt (show _≤101 * 10000 + 2 by omega) (by decide)
   refine ⟨_,rfl,.inl ⟨rfl,_,cK.of ab⟩,_,rfl,r,q,_,_,rfl,rfl,ab,(by rw [az nqr];exact hq4),?_,?_⟩
   ·simp only [List.length_append,List.length_map,List.length_cons,List.length_nil]
    exact Nat.le_trans (show _≤101 * 10000 + 2 by omega) (by decide)
   rw [cJ]
   refine ⟨some (V.ref m),some (V.ref q),rfl,?_,fun b o e n=> ?_⟩
   ·rw [ab,VM,yJ,List.length_map]
    show _=some (HO.lst ((0::(ms.length:Int)::(lS (ms.take i) ++ _)).map V.int))
    rw [←List.cons_append,←List.cons_append,List.map_append,List.append_assoc]
    rfl
   ·rw [az n]
    exact S4 _ _ (CU b o e n)
  ·obtain ⟨v4,v5,rfl,hrk,CU⟩:=hk
   have hxl:((xl.drop (W.bag.length - 1)).map V.ref).length=ms.length:=by rw [List.length_map];exact hPi.1
   rw [hxl,List.take_length] at hrk
   have S1k:aj H1 Hk:=fun b o e=>CU b o (Oh _ _ e) (fun q=>by
    rw [q,yC] at e
    cases e)
   exact ⟨_,rfl,k Hk cas r (R1.same S1k) (F1.trans (aj.ek S1k)) (fun b h=> .inl h) hrk aqZ⟩
end
section
variable {P:Program}{w:World}{K:PySem.W.Frag}{mg:Str→Option Value}{base:Heap}{t:jL}
abbrev RZ:VW→List Int→Prop:=fun W ns=>W.written.length≤500000∧∃m:Nat,ns= [(m:Int)] ∧m≤1000
def L4:VW→List Int→VW×List Int:=fun W ns=>Vbcnag.inWorld W (.flow (ns.headD 0))
def agU (C:Cs)(H:Hp)(A:Ad)(cas:List Addr)(W:VW)(nm:Addr)(m:Nat):Nat→L2.St→Hp→Prop:=fun μ σ Hk=>∃ (d:Nat)(V':VW),σ= [some (.ref A.w),some (.ref nm),some (nV d)] ∧μ=m - d∧d≤m∧cp V'∧V'.written.length≤500000 + d∧
 (Vbcnag.flows m W).1=(Vbcnag.flows (m - d) V').1∧(Vbcnag.flows m W).2=(Vbcnag.flows (m - d) V').2 + d∧Rep C Hk A cas V'∧ez A cas H Hk
theorem UP (T:Txt K mg t):bB P w K mg base fe 10 t.iE t.Ft Fd (bw RZ L4 K (cs t)):=by
 refine T.JW.ok Fe (fun vs H Q E h=> ?_) (fun d4 A0 outer s H vs Q E hr h=> ?_)
 ·obtain ⟨A,cas,W,nm,ns,rfl,_⟩:=h
  rfl
 ·obtain ⟨A,cas,W,nm,ns,rfl,R,wg,hS,qX,⟨C4,m,rfl,hm⟩,k⟩:=h
  have hf:L4 W [(m:Int)] =((Vbcnag.flows m W).1,[0,((Vbcnag.flows m W).2:Int)]):=by
   show (if Vbcnag.within (m:Int) 0 1000=false then _ else _)=_
   rw [bM.mpr ⟨by omega,by omega⟩,if_neg (by decide)]
   rfl
  rw [hf] at k
  refine ⟨_,ae (aW (i:=2) Fe.nd rfl (Or.inl rfl) ah)
   (ae (tG PassesOwn.never (PW.pt (ip (aL lW (pv 2) (aF aM (pv 1) ah (fun _ _=>rfl)) (aQ _)) (fJ (aL tI (a6 aT (by rfl) T.d6 PySem.boot_len (aa (ai (pv 0) rfl) af)) ah (aQ _))))) (ae (aI (aB (sN T) (hr.mono (by decide)) (by rfl) T.nq T.j0.kp T.nt .nil aU (aa (pv 0) (aa ah af))))
   (ak (Jd (i:=2) Fe.nd rfl (Or.inl rfl) ah Je))))
   (ak (aK (a3 (aa ah (aa (pv 2) af)))))),?_⟩
  refine ⟨agU (cs t) H A cas W nm m,⟨m,0,W,rfl,rfl,Nat.zero_le _,wg,C4,rfl,rfl,R,ez.refl⟩,?_⟩
  rintro μ σ Hk ⟨d,V',rfl,hμ,hd,ZI,ayl,e1,e2,Rk,Fk⟩
  have Og:cK K Hk nm ([(m:Int)].map V.int):=by
   rcases hS with (h|⟨o,h⟩)|h
   ·exact .inl (.inl (Fk _ _ h qX))
   ·exact .inl (.inr ⟨o,Fk _ _ h qX⟩)
   ·exact .inr h
  obtain ⟨bas,ot,we⟩:=Rk.bg
  have hlen:=Iu we
  have fin:∀ (VR:(Vbcnag.flows (m - d) V')=(V',0)),[V.int 0,nV d].length≤sizeLine∧∀p,Hk p=none→Q (.ref p) (L2.upd Hk p (.lst [V.int 0,nV d])):=fun VR=>by
   refine ⟨(by show 2≤sizeLine;decide),fun p hp=> ?_⟩
   rw [VR] at e1 e2
   rw [e1,e2] at k
   refine k _ cas p (Rk.same (aj.ao hp)) (Fk.trans (aj.ek (aj.ao hp))) (fun b h=> .inl h) ?_ (Rk.km Fk hp)
   rw [ab,Nat.zero_add]
   rfl
  refine ⟨_,rfl,_,rfl,nm,_,_,_,rfl,rfl,Og,rfl,_,_,rfl,rfl,_,rfl,?_⟩
  refine eQ (fun q=> ?_) fun q=> ?_
  ·have hdm:d < m:=by
    have:=of_decide_eq_true q
    omega
   refine ⟨_,rfl,A.w,_,_,_,_,rfl,Rk.cW,T.aw,T.bu,rfl,A.bg,_,rfl,.inl (cK.of ot),_,_,rfl,rfl,_,rfl,?_⟩
   refine eQ (fun q2=> ?_) fun q2=> ?_
   ·have hb0:0 < V'.bag.length:=by
     have:=of_decide_eq_true q2
     rw [hlen] at this
     omega
    refine ⟨fun σ' H'=>∃m',m' < μ∧agU (cs t) H A cas W nm m m' σ' H',fun σ' H' h=>h,?_⟩
    refine ⟨_,rfl,A,cas,V',0,rfl,Rk,ZI,Nat.lt_of_le_of_lt (show _≤501000 by omega) (by decide),hb0,fun H1 R1 F1=> ?_⟩
    obtain ⟨g1,h1⟩:=ia ZI 0
    have hmd:m - d=(m - (d + 1)) + 1:=by omega
    have efl:Vbcnag.flows (m - d) V'=((Vbcnag.flows (m - (d + 1)) (Vbcnag.delivered V' 0).1).1,(Vbcnag.flows (m - (d + 1)) (Vbcnag.delivered V' 0).1).2 + 1):=by
     rw [hmd]
     show (if V'.bag.isEmpty=true then _ else _)=_
     rw [if_neg (by
      intro z
      rw [List.isEmpty_iff] at z
      rw [z] at hb0
      exact absurd hb0 (Nat.lt_irrefl _))]
    rw [efl] at e1 e2
    refine ⟨_,rfl,_,_,rfl,rfl,m - (d + 1),(by omega),d + 1,_,rfl,rfl,hdm,g1,(by omega),e1,?_,R1,Fk.trans F1⟩
    rw [e2]
    dsimp only
    omega
   ·have hb0:V'.bag= [] :=by
     apply List.eq_nil_of_length_eq_zero
     have:¬ (0:Int) < ((bas.map V.ref).length:Int):=fun z=>q2 (decide_eq_true z)
     rw [hlen] at this
     omega
    refine ⟨_,rfl,fin ?_⟩
    obtain ⟨n',hn'⟩:∃n',m - d=n' + 1:=⟨m - d - 1,by omega⟩
    rw [hn']
    show (if V'.bag.isEmpty=true then _ else _)=_
    rw [if_pos (by rw [hb0];rfl)]
  ·have hdm:d=m:=by
    have:¬ (d:Int) < (m:Int):=fun z=>q (decide_eq_true z)
    omega
   refine bL ⟨_,rfl,fin ?_⟩
   rw [hdm,Nat.sub_self]
   rfl
end
theorem Ec:∀ {ms:List Mark}{i:Nat}{m:Mark},ms[i]?=some m→(dC ms)[2 * i]?=some (m.relay:Int)∧(dC ms)[2 * i + 1]?=some (m.circuit:Int)
 | [],_,_,h=>by simp at h
 |x::ms,0,m,h=>by
  have e:x=m:=Option.some.inj h
  subst e
  exact ⟨rfl,rfl⟩
 |x::ms,i + 1,m,h=>by
  have h':ms[i]?=some m:=h
  obtain ⟨h1,h2⟩:=Ec h'
  have e:dC (x::ms)=(x.relay:Int)::(x.circuit:Int)::dC ms:=rfl
  rw [e,show 2 * (i + 1)=2 * i + 1 + 1 by omega]
  exact ⟨h1,h2⟩
theorem sO:∀ms:List Mark,Vbcnag.marksIn (dC ms)=ms
 | [] =>rfl
 |x::ms=>by
  show Vbcnag.mark (x.relay:Int) (x.circuit:Int)::Vbcnag.marksIn (dC ms)=_
  rw [sO ms]
  rfl
theorem rg2 (q:Nat)(h:q≤16):RgC 8 (((8 + 2 * q:Nat)):Int) 2 q:=by
 have all:∀q:Fin 17,Builtin.Range.small 8 (((8 + 2 * q.val:Nat)):Int) 2=true∧Builtin.Range.rangeSize 8 (((8 + 2 * q.val:Nat)):Int) 2=(q.val:Int):=by decide
 obtain ⟨h1,h2⟩:=all ⟨q,by omega⟩
 exact ⟨by decide,by decide,h1,h2⟩
section
variable {P:Program}{w:World}{K:PySem.W.Frag}{mg:Str→Option Value}{base:Heap}{t:jL}
def Bq (r c h n kd a hp:Nat)(sv:Option Nat)(ms:List Mark):List Int:=(r:Int)::(c:Int)::(h:Int)::(n:Int)::(kd:Int)::Vbcnag.optional sv::(a:Int)::(hp:Int)::dC ms
abbrev Kv:VW→List Int→Prop:=fun W ns=>∃ (r c h n kd a hp:Nat)(sv:Option Nat)(ms:List Mark),ns=Bq r c h n kd a hp sv ms∧ms.length≤16∧
 (Vbcnag.isRelay W (r:Int) && (Vbcnag.isCircuit (c:Int) && (Vbcnag.isHost (h:Int) && (decide (1≤(n:Int)) && (Vbcnag.within (kd:Int) 1 5 && (Vbcnag.within (Vbcnag.optional sv) (-1) ((W.servers:Int) - 1) && (Vbcnag.within (a:Int) 0 (Vbcnag.ADDRS - 1) && Vbcnag.within (hp:Int) 0 16)))))))=true∧
 ¬ ((dC ms).length % 2=1∨32 < (dC ms).length∨(dC ms).any (fun x=> !Vbcnag.isCircuit x)=true)
def Br:VW→List Int→VW×List Int:=fun W ns=>match ns with
 |r::c::h::n::k::s::a::p::marks=>Vbcnag.inWorld W (.forge r c h n k s a p marks)
 |_=>(W,[])
def L5 (r c h n kd a hp:Nat)(sv:Option Nat)(ms:List Mark):Under:={place:= .up r c,msg:={host:=h,number:=n,kind:=kd,server:=sv,addr:=a,hops:=hp,marks:=ms} }
theorem R0 (T:Txt K mg t):bB P w K mg base fe 10 t.f6 t.ze zb (bw Kv Br K (cs t)):=by
 refine T.Fz.ok mn (fun vs H Q E h=> ?_) (fun d4 A0 outer s H vs Q E hr h=> ?_)
 ·obtain ⟨A,cas,W,nm,ns,rfl,_⟩:=h
  rfl
 ·obtain ⟨A,cas,W,nm,ns,rfl,R,wg,hS,qX,⟨r,c,h,n,kd,a,hp,sv,ms,rfl,hms,hh1,hh2⟩,k⟩:=h
  have hu:=gF hr
  have CK:=fH T
  have hb:W.bag.length≤10000:=Nat.le_trans wg.bag wg.cap.2
  have zk:(if Vbcnag.optional sv < 0 then none else some (Vbcnag.optional sv).toNat)=sv:=by
   cases sv with
   |none=>rfl
   |some x=>exact if_neg (by show ¬ (x:Int) < 0;omega)
  have hf:Br W (Bq r c h n kd a hp sv ms)=if (Vbcnag.below W {relay:=r,circuit:=c}).isSome=true then (W,[-2]) else if (Vbcnag.clientOf W h).any (fun x=>decide ((n:Int)≤(x.counter:Int)))=false then (W,[-3]) else if Vbcnag.full W=true then (W,[-4]) else ({W with bag:=W.bag ++ [L5 r c h n kd a hp sv ms] },[0]):=by
   show (if _=false then _ else if _ then _ else _)=_
   rw [hh1,if_neg (by decide),if_neg hh2,sO]
   show (if _ then _ else if _ then _ else if _ then _ else (({W with bag:=W.bag ++ [L5 r c h n kd a hp (if Vbcnag.optional sv < 0 then none else some (Vbcnag.optional sv).toNat) ms] }:VW),([0] :List Int)))=_
   rw [zk]
   rfl
  rw [hf] at k
  obtain ⟨kvs,LP,Rn,GA⟩:=R.hd
  have hnl:((Bq r c h n kd a hp sv ms).map V.int).length=8 + 2 * ms.length:=by
   rw [List.length_map]
   show (dC ms).length + 8=_
   rw [ko]
   omega
  have Cy:∀ (i:Nat)(v:Int),(Bq r c h n kd a hp sv ms)[i]?=some v→GL ((Bq r c h n kd a hp sv ms).map V.int) (i:Int)=some (V.int v):=fun i v e=>iJ (by rw [List.getElem?_map,e];rfl)
  have NK:=Cy 0 r rfl
  have at1:=Cy 1 c rfl
  have at2:=Cy 2 h rfl
  have at3:=Cy 3 n rfl
  have at4:=Cy 4 kd rfl
  have at5:=Cy 5 (Vbcnag.optional sv) rfl
  have at6:=Cy 6 a rfl
  have at7:=Cy 7 hp rfl
  have atm:∀ (i:Nat)(m:Mark),ms[i]?=some m→GL ((Bq r c h n kd a hp sv ms).map V.int) (8 + (i:Nat) * 2)=some (nV m.relay)∧GL ((Bq r c h n kd a hp sv ms).map V.int) (8 + (i:Nat) * 2 + 1)=some (nV m.circuit):=fun i m e=>by
   obtain ⟨h1,h2⟩:=Ec e
   have e1:(8:Int) + (i:Nat) * 2=((8 + 2 * i:Nat):Int):=by omega
   have e2:(8:Int) + (i:Nat) * 2 + 1=((8 + (2 * i + 1):Nat):Int):=by omega
   rw [e2,e1]
   have sh:∀j,(Bq r c h n kd a hp sv ms)[8 + j]?=(dC ms)[j]?:=fun j=>by
    rw [Nat.add_comm]
    rfl
   exact ⟨Cy _ _ ((sh _).trans h1),Cy _ _ ((sh _).trans h2)⟩
  generalize hns:(Bq r c h n kd a hp sv ms).map V.int=xs at *
  obtain ⟨agF,RO,RP⟩:=T.PM
  refine ⟨_,ae (aW (i:=2) mn.nd rfl (Or.inl rfl) (bZ (aa (aF aM (pv 1) ah (fun _ _=>rfl)) (aa (aF aM (pv 1) ah (fun _ _=>rfl)) af))))
   (ae (aW (i:=3) mn.nd rfl (Or.inl rfl) (gT hu (ai (pv 0) rfl) (aF aM (pv 1) ah (fun _ _=>rfl)) ⟨rfl,rfl,rfl,rfl⟩))
   (ae (bp (cq (EI hu (pv 2) (ai (pv 0) rfl))) (ak (aK (a3 (aa (d8 cG ah) af)))) aV)
   (ae (bp (PW.pt (tE (cq (gR (pv 3))) (mG (aL tI (aF aM (pv 1) ah (fun _ _=>rfl)) (ai (pv 3) rfl) (aQ _))))) (ak (aK (a3 (aa (d8 cG ah) af)))) aV)
   (ae (bp (oy (aB (Bl T) (hr.mono (by decide)) (by rfl) T.wU T.qJ.kp T.wV .nil aU (aa (pv 0) af))) (ak (aK (a3 (aa (d8 cG ah) af)))) aV)
   (ae (aW (i:=4) mn.nd rfl (Or.inl rfl) (GH (aL cV (aF aM (pv 1) ah (fun _ _=>rfl)) (d8 cG ah) (aQ _)) eS (aF aM (pv 1) ah (fun _ _=>rfl))))
   (ae (zG (i:=5) (own:= [("at",6)]) rfl mn.nd rfl rfl (EC rfl rfl rfl (by decide +kernel)) (Mt (by rfl) T.uZ (aa ah (aa (a6 aT (by rfl) T.d6 PySem.boot_len (aa (pv 1) af)) (aa ah af)))) (kr (show EE Ld (ay mQ) _ _=true by decide +kernel)) (fun _ _ _ _ _=>eU (i:=6) mn.nd rfl (Or.inl rfl)) (fun _ _ _ _ _=>y1) (fun _ _ _ _ _=>(bZ (aa (aF (G9 K rfl) (pv 1) (pv 6) (fun _ _=>rfl)) (aa (aF (G9 K rfl) (pv 1) (cO eB (pv 6) ah) (fun _ _=>rfl)) af)))))
   (ae (aI (aB (AY T) (hr.mono (by decide)) (by rfl) T.Dg T.zX.kp T.Dh .nil aU (aa (pv 0) (aa (kP T.gE (FY T) (hr.mono (by decide)) (by rfl) T.mr T.fG .nil aU (aa (cO KW (bZ (aa (aD (by rfl) RO RP) af)) (pv 2)) (aa (aF aM (pv 1) ah (fun _ _=>rfl)) (aa (aF aM (pv 1) ah (fun _ _=>rfl)) (aa (aF aM (pv 1) ah (fun _ _=>rfl)) (aa (pv 4) (aa (aF aM (pv 1) ah (fun _ _=>rfl)) (aa ah (aa (aF aM (pv 1) ah (fun _ _=>rfl)) (aa (CO BI (by rfl) T.zh PyProof.Rows.boot_tuple (aa (pv 5) af)) af)))))))))) af))))
   (ak (aK (a3 (aa ah af))))))))))),?_⟩
  refine ⟨_,rfl,nm,_,_,_,rfl,rfl,hS,NK,_,rfl,nm,_,_,_,rfl,rfl,hS,at1,(by show 2≤sizeLine;decide),fun z hz=> ?_⟩
  have S1:=aj.ao (o:=HO.tup [nV r,nV c]) hz
  have sM:L2.upd H z (HO.tup [nV r,nV c]) z=some (.tup [nV r,nV c]):=ab
  generalize BB:L2.upd H z (HO.tup [V.int (r:Int),V.int (c:Int)])=H1
  have S1:aj H H1:=by rw [←BB];exact S1
  have sM:H1 z=some (.tup [nV r,nV c]):=by rw [←BB];exact sM
  clear BB
  have R1:=R.same S1
  have C6:=S1.seq hS
  have hzk:H1 z=some (.tup ((w8 r c).map kV)):=sM
  have DG:=gC.t (S1 _ _ LP) hzk
  rw [GA {relay:=r,circuit:=c}] at DG
  have aq3:∃cv:V,(∃o,gC H1 A.cd (V.int (h:Int)) o∧o.getD .bX=cv)∧((Vbcnag.clientOf W h=none∧cv= .bX)∨∃ca cl d pl be le,Vbcnag.clientOf W h=some cl∧cv= .ref ca∧H1 ca=some (.ins (cs t).C d (tw cl pl be le))):=by
   rcases R1.find h with ⟨hc,DG⟩|⟨i,ca,cl,d,pl,be,le,hc,BE,hi,dA,nN,d3,DG⟩
   ·exact ⟨_,⟨_,DG,rfl⟩,.inl ⟨hc,rfl⟩⟩
   ·exact ⟨_,⟨_,DG,rfl⟩,.inr ⟨ca,cl,d,pl,be,le,hc,rfl,nN⟩⟩
  obtain ⟨cv,⟨o,DGc,rfl⟩,hcv⟩:=aq3
  refine ⟨_,rfl,A.w,_,_,_,_,rfl,R1.cW,T.aw,T.aA,rfl,A.cd,rfl,.inl ⟨_,.inl R1.cd⟩,_,rfl,nm,_,_,_,rfl,rfl,C6,at2,_,DGc,?_⟩
  generalize o.getD .bX=cv at *
  refine ⟨_,rfl,_,rfl,A.w,_,_,_,_,rfl,R1.cW,T.aw,T.bV,rfl,A.hd,_,rfl,DG,_,rfl,?_⟩
  have out:∀ (Hk:Hp)(e:Int),aj H Hk→Br W (Bq r c h n kd a hp sv ms)=(W,[e])→∀p,Hk p=none→Q (.ref p) (L2.upd Hk p (.lst [V.int e])):=fun Hk e Sk he p hp=>by
   rw [←hf,he] at k
   have S2:=Sk.trans (aj.ao (o:=HO.lst [V.int e]) hp)
   exact k _ cas p (R.same S2) (aj.ek S2) (fun b h=> .inl h) ab (Sk.free hp)
  cases SE:Vbcnag.below W {relay:=r,circuit:=c} with
  |some q=>
   refine bC ?_
   rw [if_pos (by rw [SE];rfl)] at hf
   exact ⟨_,rfl,(by show 1≤sizeLine;decide),out H1 (-2) S1 hf⟩
  |none=>
   have hbn:¬ (Vbcnag.below W {relay:=r,circuit:=c}).isSome=true:=by rw [SE];exact Bool.false_ne_true
   rw [if_neg hbn] at hf k
   refine bL ?_
   rcases hcv with ⟨hc,rfl⟩|⟨ca,cl,d,pl,be,le,hc,rfl,nN⟩
   ·rw [if_pos (by rw [hc];rfl)] at hf
    exact ⟨_,rfl,_,rfl,bC (bC ⟨_,rfl,(by show 1≤sizeLine;decide),out H1 (-3) S1 hf⟩)⟩
   ·refine ⟨_,rfl,_,rfl,bL ?_⟩
    refine ⟨_,rfl,nm,_,_,_,rfl,rfl,C6,at3,_,rfl,ca,_,d,_,_,rfl,nN,T.aq,T.bI,rfl,_,_,rfl,rfl,_,rfl,?_⟩
    refine eQ (fun q=> ?_) fun q=> ?_
    ·have h1:(Vbcnag.clientOf W h).any (fun x=>decide ((n:Int)≤(x.counter:Int)))=false:=by
      rw [hc]
      show decide ((n:Int)≤(cl.counter:Int))=false
      have:=of_decide_eq_true q
      exact decide_eq_false (by omega)
     rw [if_pos h1] at hf
     exact ⟨_,rfl,(by show 1≤sizeLine;decide),out H1 (-3) S1 hf⟩
    have h1:¬ (Vbcnag.clientOf W h).any (fun x=>decide ((n:Int)≤(x.counter:Int)))=false:=by
     rw [hc]
     show ¬decide ((n:Int)≤(cl.counter:Int))=false
     rw [decide_eq_true (by
      have:¬ (cl.counter:Int) < (n:Int):=fun z=>q (decide_eq_true z)
      omega)]
     decide
    rw [if_neg h1] at hf k
    refine ⟨_,rfl,A,cas,W,rfl,R1,wg.bag,_,rfl,?_⟩
    by_cases NV:Vbcnag.full W=true
    ·rw [if_pos NV] at hf
     rw [NV]
     exact bC ⟨_,rfl,(by show 1≤sizeLine;decide),out H1 (-4) S1 hf⟩
    rw [if_neg NV] at k
    rw [Bool.eq_false_iff.mpr NV]
    refine bL ?_
    have agW:W.bag.length < W.cap:=by
     unfold Vbcnag.full at NV
     simpa using NV
    refine ⟨_,rfl,nm,_,_,_,rfl,rfl,C6,at5,_,rfl,rfl,_,rfl,?_⟩
    cases hq:sv with
    |none=>
     rw [hq] at at5
     refine bC ?_
     refine ⟨_,rfl,nm,xs,rfl,.inl C6,8,_,2,ms.length,rfl,(by rw [hnl];exact rg2 _ hms),fun D hD=> ?_⟩
     refine JB (n:=ms.length) (fun i H'=>∃as:List Addr,H' D=some (.lst (as.map V.ref))∧Paired (dy H') (ms.take i) (as.map V.ref)∧aj H1 H') ⟨[],ab,.nil,aj.ao hD⟩ (fun i H' hi _=>hi) (fun H' _=>Nat.le_refl _) (fun i x H' H2 hi mz hy=> ?_) (fun H' mz=> ?_)
     ·obtain ⟨as,xh,hP,Sk⟩:=mz
      obtain ⟨rfl,rfl⟩:=hy
      have hmi:ms[i]?=some ms[i] :=List.getElem?_eq_getElem hi
      obtain ⟨ta,tb⟩:=atm i ms[i] hmi
      generalize ms[i] =mi at *
      have Og:=Sk.seq C6
      refine ⟨rfl,A6 ?_⟩
      refine ⟨_,rfl,_,rfl,nm,_,_,_,rfl,rfl,Og,ta,_,rfl,_,rfl,_,_,rfl,rfl,nm,_,_,_,rfl,rfl,Og,tb,(by show 2≤sizeLine;decide),fun p hp=> ?_⟩
      have Sp:=aj.ao (o:=HO.tup [nV mi.relay,nV mi.circuit]) hp
      have hpp:L2.upd H2 p (HO.tup [nV mi.relay,nV mi.circuit]) p=some (.tup [nV mi.relay,nV mi.circuit]):=ab
      generalize L2.upd H2 p (HO.tup [nV mi.relay,nV mi.circuit])=H3 at *
      have Y1:=Sp _ _ xh
      have Tj:as.length≤16:=by
       have h1:=Paired.length hP
       rw [List.length_map,List.length_take] at h1
       omega
      refine ⟨_,Y1,(by rw [List.length_map];exact Nat.lt_of_le_of_lt Tj (by decide)),as ++ [p],?_,?_,aj.own (Sk.trans Sp) hD⟩
      ·rw [ab,List.map_append]
       rfl
      ·rw [List.take_add_one,hmi,List.map_append]
       have kD:∀ {b:Addr}{ys:List V},H3 b=some (.tup ys)→L2.upd H3 D (.lst (as.map V.ref ++ [V.ref p])) b=some (.tup ys):=fun {b ys} e=>by
        rw [az (a8 e Y1 (fun q=>nomatch q))]
        exact e
       refine Paired.yD (Paired.cN hP fun m v f=> ?_) ⟨p,rfl,kD hpp⟩
       obtain ⟨b,e,hb⟩:=f
       exact ⟨b,e,kD (Sp _ _ hb)⟩
     ·obtain ⟨as,xh,hP,Sk⟩:=mz
      rw [List.take_length] at hP
      refine ⟨_,rfl,(by show 1≤sizeLine;decide),fun z1 OM=> ?_⟩
      have Sa:=aj.ao (o:=HO.tup [V.int 0]) OM
      have hza:L2.upd H' z1 (HO.tup [V.int 0]) z1=some (.tup [V.int 0]):=ab
      generalize L2.upd H' z1 (HO.tup [V.int 0])=H3 at *
      have S3:=Sk.trans Sa
      refine ⟨_,rfl,z1,z,_,_,rfl,rfl,bJ.of hza,bJ.of (S3 _ _ sM),(fun q=>nomatch q),(by show 3≤sizeLine;decide),(fun e=>nomatch e),fun _ z2 Y5=> ?_⟩
      have Sb:=aj.ao (o:=HO.tup ([V.int 0] ++ [nV r,nV c])) Y5
      have hzb:L2.upd H3 z2 (HO.tup ([V.int 0] ++ [nV r,nV c])) z2=some (.tup (dt (.up r c))):=ab
      generalize L2.upd H3 z2 (HO.tup ([V.int 0] ++ [nV r,nV c]))=H4 at *
      have S4:=S3.trans Sb
      have R8:=S4.seq C6
      have YJ:=Sb _ _ (Sa _ _ xh)
      refine ⟨_,rfl,nm,_,_,_,rfl,rfl,R8,at2,_,rfl,nm,_,_,_,rfl,rfl,R8,at3,_,rfl,nm,_,_,_,rfl,rfl,R8,at4,_,rfl,_,rfl,nm,_,_,_,rfl,rfl,R8,at6,_,rfl,nm,_,_,_,rfl,rfl,R8,at7,_,rfl,D,_,rfl,.inl ⟨cK.of YJ,fun z3 Y6=> ?_⟩⟩
      have Sc:=aj.ao (o:=HO.tup (as.map V.ref)) Y6
      have hzc:L2.upd H4 z3 (HO.tup (as.map V.ref)) z3=some (.tup (as.map V.ref)):=ab
      generalize L2.upd H4 z3 (HO.tup (as.map V.ref))=H5 at *
      intro x dx nx NA Zz
      refine ⟨x,dx,_,_,_,_,_,_,_,_,_,rfl,ab,fun H6 h6 k6=>⟨rfl,?_⟩⟩
      have S6:=aj.made nx NA k6
      have S26:=(Sa.trans Sb).trans (Sc.trans S6)
      have Y7:=(S1.trans Sk).trans S26
      refine ⟨A,cas,W,x,L5 r c h n kd a hp sv ms,rfl,R.same Y7,hb,⟨dx,z2,z3,as.map V.ref,(by show H6 x=some (HO.ins _ _ (mfs _ _ _ _ (oV sv) _ _ _ _));rw [hq];exact h6),S6 _ _ (Sc _ _ hzb),S6 _ _ hzc,bN (aj.keep (C:=cs t) S26) hP⟩,fun H7 R7 F7=> ?_⟩
      rw [pR,if_pos agW] at R7
      exact ⟨(by show 1≤sizeLine;decide),fun p hp=>k _ cas p (Rep.same R7 (aj.ao hp)) (((aj.ek Y7).trans F7).trans (aj.ek (aj.ao hp))) (fun b h=> .inl h) ab (R7.km ((aj.ek Y7).trans F7) hp)⟩
    |some x0=>
     rw [hq] at at5
     rw [show decide (V.int (Vbcnag.optional (some x0))=V.int (-1))=false from decide_eq_false (fun z=>by
      injection z with z
      have z':(x0:Int)= -1:=z
      omega)]
     refine bL ?_
     refine ⟨_,rfl,nm,_,_,_,rfl,rfl,C6,at5,?_⟩
     refine ⟨_,rfl,nm,xs,rfl,.inl C6,8,_,2,ms.length,rfl,(by rw [hnl];exact rg2 _ hms),fun D hD=> ?_⟩
     refine JB (n:=ms.length) (fun i H'=>∃as:List Addr,H' D=some (.lst (as.map V.ref))∧Paired (dy H') (ms.take i) (as.map V.ref)∧aj H1 H') ⟨[],ab,.nil,aj.ao hD⟩ (fun i H' hi _=>hi) (fun H' _=>Nat.le_refl _) (fun i x H' H2 hi mz hy=> ?_) (fun H' mz=> ?_)
     ·obtain ⟨as,xh,hP,Sk⟩:=mz
      obtain ⟨rfl,rfl⟩:=hy
      have hmi:ms[i]?=some ms[i] :=List.getElem?_eq_getElem hi
      obtain ⟨ta,tb⟩:=atm i ms[i] hmi
      generalize ms[i] =mi at *
      have Og:=Sk.seq C6
      refine ⟨rfl,A6 ?_⟩
      refine ⟨_,rfl,_,rfl,nm,_,_,_,rfl,rfl,Og,ta,_,rfl,_,rfl,_,_,rfl,rfl,nm,_,_,_,rfl,rfl,Og,tb,(by show 2≤sizeLine;decide),fun p hp=> ?_⟩
      have Sp:=aj.ao (o:=HO.tup [nV mi.relay,nV mi.circuit]) hp
      have hpp:L2.upd H2 p (HO.tup [nV mi.relay,nV mi.circuit]) p=some (.tup [nV mi.relay,nV mi.circuit]):=ab
      generalize L2.upd H2 p (HO.tup [nV mi.relay,nV mi.circuit])=H3 at *
      have Y1:=Sp _ _ xh
      have Tj:as.length≤16:=by
       have h1:=Paired.length hP
       rw [List.length_map,List.length_take] at h1
       omega
      refine ⟨_,Y1,(by rw [List.length_map];exact Nat.lt_of_le_of_lt Tj (by decide)),as ++ [p],?_,?_,aj.own (Sk.trans Sp) hD⟩
      ·rw [ab,List.map_append]
       rfl
      ·rw [List.take_add_one,hmi,List.map_append]
       have kD:∀ {b:Addr}{ys:List V},H3 b=some (.tup ys)→L2.upd H3 D (.lst (as.map V.ref ++ [V.ref p])) b=some (.tup ys):=fun {b ys} e=>by
        rw [az (a8 e Y1 (fun q=>nomatch q))]
        exact e
       refine Paired.yD (Paired.cN hP fun m v f=> ?_) ⟨p,rfl,kD hpp⟩
       obtain ⟨b,e,hb⟩:=f
       exact ⟨b,e,kD (Sp _ _ hb)⟩
     ·obtain ⟨as,xh,hP,Sk⟩:=mz
      rw [List.take_length] at hP
      refine ⟨_,rfl,(by show 1≤sizeLine;decide),fun z1 OM=> ?_⟩
      have Sa:=aj.ao (o:=HO.tup [V.int 0]) OM
      have hza:L2.upd H' z1 (HO.tup [V.int 0]) z1=some (.tup [V.int 0]):=ab
      generalize L2.upd H' z1 (HO.tup [V.int 0])=H3 at *
      have S3:=Sk.trans Sa
      refine ⟨_,rfl,z1,z,_,_,rfl,rfl,bJ.of hza,bJ.of (S3 _ _ sM),(fun q=>nomatch q),(by show 3≤sizeLine;decide),(fun e=>nomatch e),fun _ z2 Y5=> ?_⟩
      have Sb:=aj.ao (o:=HO.tup ([V.int 0] ++ [nV r,nV c])) Y5
      have hzb:L2.upd H3 z2 (HO.tup ([V.int 0] ++ [nV r,nV c])) z2=some (.tup (dt (.up r c))):=ab
      generalize L2.upd H3 z2 (HO.tup ([V.int 0] ++ [nV r,nV c]))=H4 at *
      have S4:=S3.trans Sb
      have R8:=S4.seq C6
      have YJ:=Sb _ _ (Sa _ _ xh)
      refine ⟨_,rfl,nm,_,_,_,rfl,rfl,R8,at2,_,rfl,nm,_,_,_,rfl,rfl,R8,at3,_,rfl,nm,_,_,_,rfl,rfl,R8,at4,_,rfl,_,rfl,nm,_,_,_,rfl,rfl,R8,at6,_,rfl,nm,_,_,_,rfl,rfl,R8,at7,_,rfl,D,_,rfl,.inl ⟨cK.of YJ,fun z3 Y6=> ?_⟩⟩
      have Sc:=aj.ao (o:=HO.tup (as.map V.ref)) Y6
      have hzc:L2.upd H4 z3 (HO.tup (as.map V.ref)) z3=some (.tup (as.map V.ref)):=ab
      generalize L2.upd H4 z3 (HO.tup (as.map V.ref))=H5 at *
      intro x dx nx NA Zz
      refine ⟨x,dx,_,_,_,_,_,_,_,_,_,rfl,ab,fun H6 h6 k6=>⟨rfl,?_⟩⟩
      have S6:=aj.made nx NA k6
      have S26:=(Sa.trans Sb).trans (Sc.trans S6)
      have Y7:=(S1.trans Sk).trans S26
      refine ⟨A,cas,W,x,L5 r c h n kd a hp sv ms,rfl,R.same Y7,hb,⟨dx,z2,z3,as.map V.ref,(by show H6 x=some (HO.ins _ _ (mfs _ _ _ _ (oV sv) _ _ _ _));rw [hq];exact h6),S6 _ _ (Sc _ _ hzb),S6 _ _ hzc,bN (aj.keep (C:=cs t) S26) hP⟩,fun H7 R7 F7=> ?_⟩
      rw [pR,if_pos agW] at R7
      exact ⟨(by show 1≤sizeLine;decide),fun p hp=>k _ cas p (Rep.same R7 (aj.ao hp)) (((aj.ek Y7).trans F7).trans (aj.ek (aj.ao hp))) (fun b h=> .inl h) ab (R7.km ((aj.ek Y7).trans F7) hp)⟩
end
end Rl
namespace Rl
open PySem PySem.Spec PyProof.Rows L2 PyProof.Rows.KTD
def kN:List (Str×Int×Int):= [("servers",1,4),("cap",1,10000),("time",0,1000000000000000),("circuit",0,4095),("limit",1,16),("host",0,281474976710655),("address",0,4294967295),("len",1,1000000000),("x",0,1),("t",0,20000),("m",0,1000),
 ("number",1,1000000000000000000),("kind",1,5),("hops",0,16),("of a pair",0,4095)]
def gi (k:Str):Bool:=decide (k=("server":Str))||decide (k=("server or none":Str))||decide (k=("relay":Str))||decide (k=("k":Str))
def lF (k:Str)(x:Int):Bool:=match kN.lookup k with
 |some (lo,hi)=>Vbcnag.within x lo hi
 |none=>false
def mE (s:Option VW)(k:Str)(x:Int):Bool:=
 match s with
 |some W=>if k=("server":Str) then Vbcnag.isServer W x else if k=("server or none":Str) then Vbcnag.within x (-1) ((W.servers:Int) - 1) else if k=("relay":Str) then Vbcnag.isRelay W x else if k=("k":Str) then Vbcnag.isPlace W x else lF k x
 |none=>lF k x
def tq (s:Option VW)(k:Str):Prop:=(gi k=true∧s.isSome=true)∨(gi k=false∧(kN.lookup k).isSome=true)
section
variable {P:Program}{w:World}{K:PySem.W.Frag}{mg:Str→Option Value}{base:Heap}{t:jL}
theorem R9 (T:Txt K mg t){k:Str}{lo hi:Int}(h:kN.lookup k=some (lo,hi)):∃kvs b,DMS K t.fg kvs∧datumAt k kvs=some (V.ref b)∧∀H,bJ K H b [V.int lo,V.int hi] :=by
 unfold kN at h
 simp only [List.lookup] at h
 repeat' split at h
 all_goals first|cases h|skip
 all_goals (rename_i e;have e:=eq_of_beq e;subst e)
 ·exact ⟨_,_,T.dB,rfl,T.xP⟩
 ·exact ⟨_,_,T.dB,rfl,T.xQ⟩
 ·exact ⟨_,_,T.dB,rfl,T.xR⟩
 ·exact ⟨_,_,T.dB,rfl,T.xS⟩
 ·exact ⟨_,_,T.dB,rfl,T.xT⟩
 ·exact ⟨_,_,T.dB,rfl,T.xU⟩
 ·exact ⟨_,_,T.dB,rfl,T.xV⟩
 ·exact ⟨_,_,T.dB,rfl,T.xW⟩
 ·exact ⟨_,_,T.dB,rfl,T.xX⟩
 ·exact ⟨_,_,T.dB,rfl,T.uS⟩
 ·exact ⟨_,_,T.dB,rfl,T.uT⟩
 ·exact ⟨_,_,T.dB,rfl,T.uV⟩
 ·exact ⟨_,_,T.dB,rfl,T.uW⟩
 ·exact ⟨_,_,T.dB,rfl,T.uX⟩
 ·exact ⟨_,_,T.dB,rfl,T.uY⟩
theorem qR {x lo hi:Int}:Vbcnag.within x lo (hi - 1)=(decide (lo≤x) && decide (x < hi)):=by
 unfold Vbcnag.within
 rw [show decide (x≤hi - 1)=decide (x < hi) from decide_eq_decide.mpr (by omega)]
theorem wa {a b:Str}:decide (V.str a=V.str b)=decide (a=b):=by
 by_cases h:a=b
 ·rw [h,decide_eq_true rfl,decide_eq_true rfl]
 ·rw [decide_eq_false h,decide_eq_false (fun q=>h (by injection q))]
def NX (C:Cs):Sp:=fun vs H Q _=>∃ (s:Option VW)(A:Ad)(cas:List Addr)(wv:V)(k:Str)(x:Int),vs= [wv,.str k,.int x] ∧xi C H A cas s wv∧tq s k∧Q (.bl (mE s k x)) H
theorem sP (T:Txt K mg t):bB P w K mg base fe 1 t.dN t.jY jK (NX (cs t)):=by
 refine T.j1.ok BV (fun vs H Q E h=> ?_) (fun d4 A0 outer s H vs Q E hr h=> ?_)
 ·obtain ⟨s,A,cas,wv,k,x,rfl,_⟩:=h
  rfl
 ·obtain ⟨st,A,cas,wv,ky,x,rfl,nU,hn,k⟩:=h
  refine ⟨_,ae (bp (aL cV (pv 1) zt (aQ _)) (ak (aK (oA zz lW ah (pv 2) (ai (pv 0) rfl)))) aV)
   (ae (bp (aL cV (pv 1) zt (aQ _)) (ak (aK (oA zz lW (d8 cG ah) (pv 2) (ai (pv 0) rfl)))) aV)
   (ae (bp (aL cV (pv 1) zt (aQ _)) (ak (aK (oA zz lW ah (pv 2) (a6 aT (by rfl) T.d6 PySem.boot_len (aa (ai (pv 0) rfl) af))))) aV)
   (ae (bp (aL cV (pv 1) zt (aQ _)) (ak (aK (oA zz lW ah (pv 2) (a6 aT (by rfl) T.d6 PySem.boot_len (aa (ai (pv 0) rfl) af))))) aV)
   (ak (aK (oA zz zz (aF bc (G7 (aD (v:= .ref t.fg) (by rfl) T.Aq rfl) (pv 1) (fun _ _=>rfl)) ah (fun _ _=>rfl)) (pv 2) (aF bc (G7 (aD (v:= .ref t.fg) (by rfl) T.Aq rfl) (pv 1) (fun _ _=>rfl)) ah (fun _ _=>rfl)))))))),?_⟩
  refine ⟨_,rfl,rfl,_,rfl,?_⟩
  rw [wa]
  by_cases h1:ky=("server":Str)
  ·rcases hn with ⟨_,hs⟩|⟨hs,_⟩
   ·obtain ⟨W,rfl⟩:=Option.isSome_iff_exists.mp hs
    obtain ⟨rfl,R⟩:=nU
    have e:mE (some W) ky x=(decide (0≤x) && decide (x < (W.servers:Int))):=(if_pos h1).trans qR
    rw [e] at k
    rw [decide_eq_true h1]
    refine bC ⟨_,rfl,_,_,rfl,rfl,_,rfl,?_⟩
    by_cases q:(0:Int)≤x
    ·rw [decide_eq_true q,Bool.true_and] at k
     rw [decide_eq_true q]
     exact bC ⟨_,rfl,A.w,_,_,_,_,rfl,R.cW,T.aw,T.bR,rfl,_,_,rfl,rfl,k⟩
    ·rw [decide_eq_false q,Bool.false_and] at k
     rw [decide_eq_false q]
     exact bL k
   ·rw [h1] at hs
    exact absurd hs (by decide +kernel)
  rw [decide_eq_false h1]
  refine bL ?_
  refine ⟨_,rfl,rfl,_,rfl,?_⟩
  rw [wa]
  by_cases h2:ky=("server or none":Str)
  ·rcases hn with ⟨_,hs⟩|⟨hs,_⟩
   ·obtain ⟨W,rfl⟩:=Option.isSome_iff_exists.mp hs
    obtain ⟨rfl,R⟩:=nU
    have e:mE (some W) ky x=(decide (-1≤x) && decide (x < (W.servers:Int))):=((if_neg h1).trans (if_pos h2)).trans qR
    rw [e] at k
    rw [decide_eq_true h2]
    refine bC ⟨_,rfl,_,rfl,_,_,rfl,rfl,_,rfl,?_⟩
    by_cases q:(-1:Int)≤x
    ·rw [decide_eq_true q,Bool.true_and] at k
     rw [decide_eq_true q]
     exact bC ⟨_,rfl,A.w,_,_,_,_,rfl,R.cW,T.aw,T.bR,rfl,_,_,rfl,rfl,k⟩
    ·rw [decide_eq_false q,Bool.false_and] at k
     rw [decide_eq_false q]
     exact bL k
   ·rw [h2] at hs
    exact absurd hs (by decide +kernel)
  rw [decide_eq_false h2]
  refine bL ?_
  refine ⟨_,rfl,rfl,_,rfl,?_⟩
  rw [wa]
  by_cases h3:ky=("relay":Str)
  ·rcases hn with ⟨_,hs⟩|⟨hs,_⟩
   ·obtain ⟨W,rfl⟩:=Option.isSome_iff_exists.mp hs
    obtain ⟨rfl,R⟩:=nU
    obtain ⟨ras,NS,YT⟩:=R.rl
    have el:(ras.map V.ref).length=W.relays.length:=by rw [List.length_map];exact Paired.length YT
    have e:mE (some W) ky x=(decide (0≤x) && decide (x < ((ras.map V.ref).length:Int))):=(((if_neg h1).trans (if_neg h2)).trans (if_pos h3)).trans (by rw [el];exact qR)
    rw [e] at k
    rw [decide_eq_true h3]
    refine bC ⟨_,rfl,_,_,rfl,rfl,_,rfl,?_⟩
    by_cases q:(0:Int)≤x
    ·rw [decide_eq_true q,Bool.true_and] at k
     rw [decide_eq_true q]
     exact bC ⟨_,rfl,A.w,_,_,_,_,rfl,R.cW,T.aw,T.bE,rfl,A.rl,_,rfl,.inl (cK.of NS),_,_,rfl,rfl,k⟩
    ·rw [decide_eq_false q,Bool.false_and] at k
     rw [decide_eq_false q]
     exact bL k
   ·rw [h3] at hs
    exact absurd hs (by decide +kernel)
  rw [decide_eq_false h3]
  refine bL ?_
  refine ⟨_,rfl,rfl,_,rfl,?_⟩
  rw [wa]
  by_cases h4:ky=("k":Str)
  ·rcases hn with ⟨_,hs⟩|⟨hs,_⟩
   ·obtain ⟨W,rfl⟩:=Option.isSome_iff_exists.mp hs
    obtain ⟨rfl,R⟩:=nU
    obtain ⟨bas,ot,we⟩:=R.bg
    have el:=Iu we
    have e:mE (some W) ky x=(decide (0≤x) && decide (x < ((bas.map V.ref).length:Int))):=((((if_neg h1).trans (if_neg h2)).trans (if_neg h3)).trans (if_pos h4)).trans (by rw [el];exact qR)
    rw [e] at k
    rw [decide_eq_true h4]
    refine bC ⟨_,rfl,_,_,rfl,rfl,_,rfl,?_⟩
    by_cases q:(0:Int)≤x
    ·rw [decide_eq_true q,Bool.true_and] at k
     rw [decide_eq_true q]
     exact bC ⟨_,rfl,A.w,_,_,_,_,rfl,R.cW,T.aw,T.bu,rfl,A.bg,_,rfl,.inl (cK.of ot),_,_,rfl,rfl,k⟩
    ·rw [decide_eq_false q,Bool.false_and] at k
     rw [decide_eq_false q]
     exact bL k
   ·rw [h4] at hs
    exact absurd hs (by decide +kernel)
  rw [decide_eq_false h4]
  refine bL ?_
  have hof:gi ky=false:=by
   unfold gi
   rw [decide_eq_false h1,decide_eq_false h2,decide_eq_false h3,decide_eq_false h4]
   rfl
  rcases hn with ⟨hs,_⟩|⟨_,hs⟩
  ·rw [hof] at hs
   cases hs
  obtain ⟨⟨lo,hi⟩,hl⟩:=Option.isSome_iff_exists.mp hs
  obtain ⟨kvs,b,hD,hda,hT⟩:=R9 T hl
  have hir:lF ky x=(decide (lo≤x) && decide (x≤hi)):=by
   unfold lF
   rw [hl]
   rfl
  have e:mE st ky x=(decide (lo≤x) && decide (x≤hi)):=by
   cases st with
   |none=>exact hir
   |some W=>exact ((((if_neg h1).trans (if_neg h2)).trans (if_neg h3)).trans (if_neg h4)).trans hir
  rw [e] at k
  refine ⟨_,rfl,t.fg,kvs,ky,_,rfl,rfl,hD,hda,b,_,_,_,rfl,rfl,hT H,rfl,_,rfl,_,_,rfl,rfl,_,rfl,?_⟩
  by_cases q:lo≤x
  ·rw [decide_eq_true q,Bool.true_and] at k
   rw [decide_eq_true q]
   exact bC ⟨_,rfl,t.fg,kvs,ky,_,rfl,rfl,hD,hda,b,_,_,_,rfl,rfl,hT H,rfl,_,_,rfl,rfl,k⟩
  ·rw [decide_eq_false q,Bool.false_and] at k
   rw [decide_eq_false q]
   exact bL k
end
theorem xi.same {C:Cs}{H H':Hp}{A:Ad}{cas:List Addr}{s:Option VW}{v:V}(h:xi C H A cas s v)(S:aj H H'):xi C H' A cas s v:=by
 cases s with
 |none=>exact h
 |some W=>exact ⟨h.1,h.2.same S⟩
def pairsOk (ms:List Int):Bool:=decide (ms.length % 2=0) && (decide (ms.length≤32) && ms.all Vbcnag.isCircuit)
theorem wb (x:Int):lF ("of a pair":Str) x=Vbcnag.isCircuit x:=by
 unfold lF
 rw [show kN.lookup ("of a pair":Str)=some (0,4095) by decide +kernel]
 rfl
theorem Sd (s:Option VW)(x:Int):mE s ("of a pair":Str) x=Vbcnag.isCircuit x:=by
 cases s with
 |none=>exact wb x
 |some W=>
  unfold mE
  dsimp only
  rw [if_neg (by decide +kernel),if_neg (by decide +kernel),if_neg (by decide +kernel),if_neg (by decide +kernel)]
  exact wb x
theorem NY (s:Option VW):tq s ("of a pair":Str):= .inr ⟨by decide +kernel,by decide +kernel⟩
section
variable {P:Program}{w:World}{K:PySem.W.Frag}{mg:Str→Option Value}{base:Heap}{t:jL}
def Kw (K:PySem.W.Frag)(C:Cs):Sp:=fun vs H Q _=>∃ (s:Option VW)(A:Ad)(cas:List Addr)(wv:V)(p:Addr)(ms:List Int),vs= [wv,.ref p] ∧xi C H A cas s wv∧cK K H p (ms.map V.int)∧
 ∀H',aj H H'→Q (.bl (pairsOk ms)) H'
theorem Gv (T:Txt K mg t):bB P w K mg base fe 2 t.ej t.lr k8 (Kw K (cs t)):=by
 refine T.pz.ok mS (fun vs H Q E h=> ?_) (fun d4 A0 outer s H vs Q E hr h=> ?_)
 ·obtain ⟨s,A,cas,wv,p,ms,rfl,_⟩:=h
  rfl
 ·obtain ⟨st,A,cas,wv,p,ms,rfl,nU,hS,k⟩:=h
  obtain ⟨Se,Bs,Bt⟩:=T.pE
  refine ⟨_,ae (bp (PW.pt (tE (aL zy (cO Oz (a6 aT (by rfl) T.d6 PySem.boot_len (aa (pv 1) af)) ah) ah (aQ _)) (mG (aL tI (a6 aT (by rfl) T.d6 PySem.boot_len (aa (pv 1) af)) (aD (by rfl) Bs Bt) (aQ _))))) (ak (aK KJ)) aV)
   (ak (aK (a6 (Wt rfl) (by rfl) T.Lr PyProof.Rows.boot_all (aa (K2 (own:= [("number",2)]) rfl mS.nd (qg (pv 1)) (kr (show EE xC (ay fC) _ _=true by decide +kernel)) (fun _ _ _ _ _=>eU (i:=2) mS.nd rfl (Or.inl rfl)) (fun _ _ _ _ _=>y1) (fun _ _ _ _ _=>(aB (sP T) (hr.mono (by decide)) (by rfl) T.nF T.j1.kp T.nG .nil aU (aa (pv 0) (aa zt (aa (pv 2) af)))))) af)))),?_⟩
  refine ⟨_,rfl,p,_,rfl,.inl hS,_,_,rfl,rfl,(by show (0:Int) < 2;decide),rfl,_,rfl,?_⟩
  have hl:(ms.map V.int).length=ms.length:=List.length_map ..
  by_cases h1:ms.length % 2=0
  ·rw [show decide (V.int (((ms.map V.int).length:Int) % 2)=V.int 0)=true from decide_eq_true (by
    rw [hl]
    congr 1
    omega)]
   refine bL ?_
   refine ⟨_,rfl,p,_,rfl,.inl hS,_,_,rfl,rfl,_,rfl,?_⟩
   rw [hl]
   by_cases h2:ms.length≤32
   ·rw [decide_eq_false (show ¬ (32:Int) < (ms.length:Int) by omega)]
    refine bL ?_
    have e:pairsOk ms=(ms.map Vbcnag.isCircuit).all id:=by
     unfold pairsOk
     rw [decide_eq_true h1,decide_eq_true h2,Bool.true_and,Bool.true_and,List.all_map]
     rfl
    rw [e] at k
    refine ⟨_,rfl,p,rfl,⟨_,hS⟩,fun D hD=> ?_⟩
    refine ED (K:=K) (a:=p) (xs:=ms.map V.int) (fun i H'=>H' D=some (.lst (((ms.take i).map Vbcnag.isCircuit).map V.bl))∧aj H H') ⟨ab,aj.ao hD⟩ (fun i H' _ mz=>mz.2.seq hS) (fun i x H' hx mz=> ?_) (fun H' mz=> ?_)
    ·obtain ⟨xh,S⟩:=mz
     rw [List.getElem?_map] at hx
     obtain ⟨y,hy,rfl⟩:∃y,ms[i]?=some y∧x=V.int y:=by
      cases q:ms[i]? with
      |none=>rw [q] at hx;cases hx
      |some y=>rw [q] at hx;exact ⟨y,rfl,(Option.some.inj hx).symm⟩
     refine ⟨rfl,A6 ?_⟩
     refine ⟨_,rfl,_,rfl,st,A,cas,wv,("of a pair":Str),y,rfl,nU.same S,NY st,?_⟩
     refine ⟨_,xh,?_,?_,aj.own S hD⟩
     ·rw [List.length_map,List.length_map,List.length_take]
      exact Nat.lt_of_le_of_lt (show _≤32 by omega) (by decide)
     ·rw [ab,List.take_add_one,hy,Sd,List.map_append,List.map_append]
      rfl
    ·obtain ⟨xh,S⟩:=mz
     rw [hl,List.take_length] at xh
     exact ⟨D,_,rfl,cK.of xh,k H' S⟩
   ·rw [decide_eq_true (show (32:Int) < (ms.length:Int) by omega)]
    refine bC ?_
    have e:pairsOk ms=false:=by
     unfold pairsOk
     rw [decide_eq_false h2,Bool.false_and,Bool.and_false]
    rw [e] at k
    exact k H (aj.refl H)
  ·rw [show decide (V.int (((ms.map V.int).length:Int) % 2)=V.int 0)=false from decide_eq_false (fun z=>h1 (by
    injection z with z
    rw [hl] at z
    omega))]
   refine bC (bC ?_)
   have e:pairsOk ms=false:=by
    unfold pairsOk
    rw [decide_eq_false h1,Bool.false_and]
   rw [e] at k
   exact k H (aj.refl H)
def cD (s:Option VW):List Str→List Int→Bool
 |k::ks,x::xs=>mE s k x && cD s ks xs
 |_,_=>true
theorem Bu {s:Option VW}:∀ {ks:List Str}{xs:List Int}{i:Nat}{k:Str}{x:Int},ks[i]?=some k→xs[i]?=some x→cD s (ks.take i) xs=true→mE s k x=true→cD s (ks.take (i + 1)) xs=true
 | [],_,_,_,_,h,_,_,_=>by simp at h
 |a::ks,[],_,_,_,_,h,_,_=>by simp at h
 |a::ks,b::xs,0,k,x,h1,h2,_,h4=>by
  have e1:a=k:=Option.some.inj h1
  have e2:b=x:=Option.some.inj h2
  subst e1 e2
  show (mE s a b && cD s [] xs)=true
  rw [h4]
  cases xs <;>rfl
 |a::ks,b::xs,i + 1,k,x,h1,h2,h3,h4=>by
  have h3':(mE s a b && cD s (ks.take i) xs)=true:=h3
  rw [Bool.and_eq_true] at h3'
  show (mE s a b && cD s (ks.take (i + 1)) xs)=true
  rw [h3'.1,Bu (i:=i) h1 h2 h3'.2 h4]
  rfl
theorem Bv {s:Option VW}:∀ {ks:List Str}{xs:List Int}{i:Nat}{k:Str}{x:Int},ks[i]?=some k→xs[i]?=some x→mE s k x=false→cD s ks xs=false
 | [],_,_,_,_,h,_,_=>by simp at h
 |a::ks,[],_,_,_,_,h,_=>by simp at h
 |a::ks,b::xs,0,k,x,h1,h2,h4=>by
  have e1:a=k:=Option.some.inj h1
  have e2:b=x:=Option.some.inj h2
  subst e1 e2
  show (mE s a b && _)=false
  rw [h4,Bool.false_and]
 |a::ks,b::xs,i + 1,k,x,h1,h2,h4=>by
  show (mE s a b && cD s ks xs)=false
  rw [Bv (i:=i) (ks:=ks) (xs:=xs) h1 h2 h4,Bool.and_false]
def Gw (K:PySem.W.Frag)(t:jL):Sp:=fun vs H Q _=>∃ (s:Option VW)(A:Ad)(cas:List Addr)(wv:V)(pl:Int)(nm:Addr)(ns:List Int)(kvs:List (Int×V))(b:Addr)(names:List Str),vs= [wv,.int pl,.ref nm] ∧xi (cs t) H A cas s wv∧cK K H nm (ns.map V.int)∧
 DM K t.dq kvs∧dD kvs pl=some (.ref b)∧(∀H,bJ K H b (names.map V.str))∧names.length≤ns.length∧(∀k∈names,tq s k)∧
 ∀H',aj H H'→Q (.bl (cD s names ns && pairsOk (ns.drop names.length))) H'
theorem Bw (T:Txt K mg t):bB P w K mg base fe 3 t.dg t.iV iP (Gw K t):=by
 refine T.lM.ok kC (fun vs H Q E h=> ?_) (fun d4 A0 outer s H vs Q E hr h=> ?_)
 ·obtain ⟨s,A,cas,wv,pl,nm,ns,kvs,b,names,rfl,_⟩:=h
  rfl
 ·obtain ⟨st,A,cas,wv,pl,nm,ns,kvs,b,names,rfl,nU,hS,hD,hv,hb,hle,Vf,k⟩:=h
  refine ⟨_,ae (zw PassesOwn.never rfl (Tu (by rfl) T.Lu (aa (EM (aD (v:= .ref t.dq) (by rfl) T.wZ rfl) (pv 1) (fun _ _=>rfl)) (aa (pv 2) af))) (Jc rfl (lV (eU (i:=3) kC.nd rfl (Or.inl rfl)) (lV (eU (i:=4) kC.nd rfl (Or.inl rfl)) Ej))) (ak (bp (Ot (oy (aB (sP T) (hr.mono (by decide)) (by rfl) T.nF T.j1.kp T.nG .nil aU (aa (pv 0) (aa (pv 3) (aa (pv 4) af)))))) (ak (aK KJ)) aV)))
   (ak (aK (aB (Gv T) (hr.mono (by decide)) (by rfl) T.xN T.pz.kp T.xO .nil aU (aa (pv 0) (aa (tL Er (pv 2) (tK (a6 aT (by rfl) T.d6 PySem.boot_len (aa (EM (aD (v:= .ref t.dq) (by rfl) T.wZ rfl) (pv 1) (fun _ _=>rfl)) af))) El) af))))),?_⟩
  refine ⟨_,rfl,t.dq,kvs,pl,_,rfl,rfl,hD,hv,_,rfl,b,nm,_,_,rfl,hb H,hS,?_⟩
  refine Ts (n:=names.length) (fun i σ Hk=>∃v3 v4,σ= [some wv,some (V.int pl),some (V.ref nm),v3,v4] ∧cD st (names.take i) ns=true∧aj H Hk) ⟨none,none,rfl,by cases ns <;>rfl,aj.refl H⟩ (fun i σ Hk hi hk=> ?_) (fun σ Hk hk=> ?_) (fun i x σ Hk H2 hi hk hy=> ?_) (fun σ Hk hk=> ?_)
  ·obtain ⟨v3,v4,_,_,S⟩:=hk
   have h1:names[i]?=some names[i] :=List.getElem?_eq_getElem hi
   have h2:ns[i]?=some ns[i] :=List.getElem?_eq_getElem (by omega)
   exact ⟨_,_,_,_,hb Hk,S.seq hS,(by rw [List.getElem?_map,h1];rfl),(by rw [List.getElem?_map,h2];rfl)⟩
  ·obtain ⟨v3,v4,_,_,S⟩:=hk
   exact ⟨_,_,hb Hk,S.seq hS,.inl (by rw [List.length_map];exact Nat.le_refl _)⟩
  ·obtain ⟨v3,v4,rfl,gm,S⟩:=hk
   obtain ⟨T0,a,c,rfl,hT0,rfl,ha,hc⟩:=hy
   have h1:names[i]?=some names[i] :=List.getElem?_eq_getElem hi
   have h2:ns[i]?=some ns[i] :=List.getElem?_eq_getElem (by omega)
   have ha:=ha _ (hb Hk)
   have hc:=hc _ (S.seq hS)
   rw [List.getElem?_map,h1] at ha
   rw [List.getElem?_map,h2] at hc
   have ea:V.str names[i] =a:=Option.some.inj ha
   have ec:V.int ns[i] =c:=Option.some.inj hc
   subst ea ec
   have hnk:=Vf _ (List.mem_of_getElem? h1)
   generalize names[i] =ky at *
   generalize ns[i] =y at *
   have S2:=S.trans (aj.ao (o:=HO.tup [V.str ky,V.int y]) hT0)
   refine ⟨T0,_,rfl,bJ.of ab,rfl,_,_,rfl,_,_,rfl,rfl,?_⟩
   refine ⟨_,rfl,_,rfl,_,rfl,st,A,cas,wv,ky,y,rfl,nU.same S2,hnk,_,rfl,?_⟩
   cases cx:mE st ky y with
   |true=>
    refine bL ⟨some (V.str ky),some (V.int y),rfl,Bu h1 h2 gm cx,S2⟩
   |false=>
    refine bC ?_
    have e:=Bv (s:=st) h1 h2 cx
    rw [e,Bool.false_and] at k
    exact k _ S2
  ·obtain ⟨v3,v4,rfl,gm,S⟩:=hk
   rw [List.take_length] at gm
   rw [gm,Bool.true_and] at k
   refine ⟨_,rfl,_,rfl,_,rfl,t.dq,kvs,pl,_,rfl,rfl,hD,hv,b,_,rfl,.inr (hb Hk),_,rfl,nm,_,rfl,S.seq hS,fun p hp=> ?_⟩
   have ec:sS (ns.map V.int) (some (((names.map V.str).length:Nat):Int)) none=(ns.drop names.length).map V.int:=by
    rw [Bj (by rw [List.length_map,List.length_map];exact hle),List.map_drop,List.length_map]
   rw [ec]
   have Sp:=aj.ao (o:=HO.lst ((ns.drop names.length).map V.int)) hp
   exact ⟨st,A,cas,wv,p,ns.drop names.length,rfl,(nU.same S).same Sp,cK.of ab,fun H' S'=>k H' ((S.trans Sp).trans S')⟩
end
end Rl
namespace Rl
open PySem PySem.Spec PyProof.Rows L2 PyProof.Rows.KTD
open Vbcnag (Mark Msg Under Offer Lease Client Relay Assigned Written)
section
variable {P:Program}{w:World}{K:PySem.W.Frag}{mg:Str→Option Value}{base:Heap}{t:jL}
def L6 (K:PySem.W.Frag)(t:jL):Addr→Sp→Prop:=fun a sp=>
 (a=t.cz∧sp=bw Kl A9 K (cs t))∨(a=t.iA∧sp=bw Ro D4 K (cs t))∨(a=t.eJ∧sp=bw g1 qL K (cs t))∨(a=t.dS∧sp=bw g1 YL K (cs t))∨(a=t.cR∧sp=bw g1 NH K (cs t))∨
 (a=t.eK∧sp=bw g1 qM K (cs t))∨(a=t.f_assign∧sp=bw Gd qN K (cs t))∨(a=t.cS∧sp=bw xf qO K (cs t))∨(a=t.iB∧sp=bw Rh LM K (cs t))∨(a=t.iC∧sp=bw Rb LK K (cs t))∨
 (a=t.dU∧sp=bw Bp v9 K (cs t))∨(a=t.iD∧sp=bw gK L0 K (cs t))∨(a=t.eM∧sp=bw gK zm K (cs t))∨(a=t.iE∧sp=bw RZ L4 K (cs t))∨(a=t.f6∧sp=bw Kv Br K (cs t))∨
 (a=t.bQ∧sp=bw g1 v7 K (cs t))∨(a=t.bF∧sp=bw Bn v8 K (cs t))∨(a=t.iF∧sp=bw gK L1 K (cs t))∨(a=t.cA∧sp=bw RX L3 K (cs t))∨(a=t.cB∧sp=bw g0 RY K (cs t))∨
 (a=t.cb∧sp=bw g0 fState K (cs t))
theorem gok {X:Cx}(T:Txt K mg t)(hK:X.K=K)(hm:X.mg=mg):GOk X fe 12 (L6 K t):=by
 subst hK hm
 constructor
 intro f sp h
 rcases h with h|h|h|h|h|h|h|h|h|h|h|h|h|h|h|h|h|h|h|h|h <;>obtain ⟨rfl,rfl⟩:=h
 ·exact ⟨_,_,(Gg T).mono (by decide),T.xJ,T.pj.kp⟩
 ·exact ⟨_,_,(Uw T).mono (by decide),T.Pr,T.JQ.kp⟩
 ·exact ⟨_,_,(NG T).mono (by decide),T.Hn,T.Ac.kp⟩
 ·exact ⟨_,_,(Ki T).mono (by decide),T.Dm,T.wR.kp⟩
 ·exact ⟨_,_,(IE T).mono (by decide),T.Ae,T.sX.kp⟩
 ·exact ⟨_,_,(NI T).mono (by decide),T.Ho,T.Af.kp⟩
 ·exact ⟨_,_,(NJ T).mono (by decide),T.Hq,T.Ag.kp⟩
 ·exact ⟨_,_,(IH T).mono (by decide),T.Ah,T.sY.kp⟩
 ·exact ⟨_,_,(Uu T).mono (by decide),T.Px,T.JT.kp⟩
 ·exact ⟨_,_,(Us T).mono (by decide),T.Py,T.JU.kp⟩
 ·exact ⟨_,_,(Ku T).mono (by decide),T.Dn,T.wW.kp⟩
 ·exact ⟨_,_,(UN T).mono (by decide),T.Pz,T.JV.kp⟩
 ·exact ⟨_,_,(NU T).mono (by decide),T.Hr,T.Ai.kp⟩
 ·exact ⟨_,_,(UP T).mono (by decide),T.PD,T.JW.kp⟩
 ·exact ⟨_,_,(R0 T).mono (by decide),T.Ll,T.Fz.kp⟩
 ·exact ⟨_,_,(Bm T).mono (by decide),T.rm,T.lL.kp⟩
 ·exact ⟨_,_,(yY T).mono (by decide),T.pk,T.kG.kp⟩
 ·exact ⟨_,_,(UO T).mono (by decide),T.PF,T.JX.kp⟩
 ·exact ⟨_,_,(Gs T).mono (by decide),T.xK,T.pq.kp⟩
 ·exact ⟨_,_,(Gu T).mono (by decide),T.xM,T.px.kp⟩
 ·exact ⟨_,_,(Cw T).mono (by decide),T.uQ,T.nE.kp⟩
def ag0 (K:PySem.W.Frag)(t:jL):Sp:=fun vs H Q E=>∃ (wv:V)(p:Int)(nm a:Addr)(kvs:List (Int×V))(g:VW→List Int→Prop)(f:VW→List Int→VW×List Int),vs= [wv,.int p,.ref nm] ∧DM K t.gz kvs∧dD kvs p=some (.ref a)∧L6 K t a (bw g f K (cs t))∧bw g f K (cs t) [wv,.ref nm] H Q E
theorem NZ (T:Txt K mg t):bB P w K mg base fe 13 t.hW t.uu ue (ag0 K t):=by
 refine T.Ak.ok MY (fun vs H Q E h=> ?_) (fun d4 A0 outer s H vs Q E hr h=> ?_)
 ·obtain ⟨wv,p,nm,a,kvs,g,f,rfl,_⟩:=h
  rfl
 ·obtain ⟨wv,p,nm,a,kvs,g,f,rfl,hD,hv,hG,Oc⟩:=h
  refine ⟨_,ak (aK (OZ (gok T rfl rfl) (hr.mono (by decide)) aU (EM (aD (v:= .ref t.gz) (by rfl) T.Lp rfl) (pv 1) (fun _ _=>rfl)) (aa (pv 0) (aa (pv 2) af)))),?_⟩
  exact ⟨_,rfl,t.gz,kvs,p,_,rfl,rfl,hD,hv,a,_,rfl,hG,_,rfl,_,rfl,Oc⟩
end
theorem eu {s:Option VW}{k:Str}{lo hi:Int}(h:gi k=false)(hl:kN.lookup k=some (lo,hi))(x:Int):mE s k x=Vbcnag.within x lo hi:=by
 have hir:lF k x=Vbcnag.within x lo hi:=by
  unfold lF
  rw [hl]
 unfold gi at h
 simp only [Bool.or_eq_false_iff,decide_eq_false_iff_not] at h
 obtain ⟨⟨⟨h1,h2⟩,h3⟩,h4⟩:=h
 cases s with
 |none=>exact hir
 |some W=>exact ((((if_neg h1).trans (if_neg h2)).trans (if_neg h3)).trans (if_neg h4)).trans hir
section
variable {s:Option VW}{W:VW}(x:Int)
theorem N0:mE s ("servers":Str) x=Vbcnag.within x 1 4:=eu (by decide +kernel) (by decide +kernel) x
theorem ag1:mE s ("cap":Str) x=Vbcnag.within x 1 10000:=eu (by decide +kernel) (by decide +kernel) x
theorem Y8:mE s ("time":Str) x=Vbcnag.within x 0 Vbcnag.TIMES:=eu (by decide +kernel) (by decide +kernel) x
theorem qS:mE s ("circuit":Str) x=Vbcnag.isCircuit x:=eu (by decide +kernel) (by decide +kernel) x
theorem UQ:mE s ("limit":Str) x=Vbcnag.within x 1 16:=eu (by decide +kernel) (by decide +kernel) x
theorem lT:mE s ("host":Str) x=Vbcnag.isHost x:=eu (by decide +kernel) (by decide +kernel) x
theorem Ed:mE s ("address":Str) x=Vbcnag.within x 0 (Vbcnag.ADDRS - 1):=eu (by decide +kernel) (by decide +kernel) x
theorem ag2:mE s ("len":Str) x=Vbcnag.within x 1 1000000000:=eu (by decide +kernel) (by decide +kernel) x
theorem o_x:mE s ("x":Str) x=Vbcnag.within x 0 1:=eu (by decide +kernel) (by decide +kernel) x
theorem o_t:mE s ("t":Str) x=Vbcnag.within x 0 20000:=eu (by decide +kernel) (by decide +kernel) x
theorem o_m:mE s ("m":Str) x=Vbcnag.within x 0 1000:=eu (by decide +kernel) (by decide +kernel) x
theorem Sf:mE s ("number":Str) x=Vbcnag.within x 1 1000000000000000000:=eu (by decide +kernel) (by decide +kernel) x
theorem Y9:mE s ("kind":Str) x=Vbcnag.within x 1 5:=eu (by decide +kernel) (by decide +kernel) x
theorem Za:mE s ("hops":Str) x=Vbcnag.within x 0 16:=eu (by decide +kernel) (by decide +kernel) x
theorem wd:mE (some W) ("server":Str) x=Vbcnag.isServer W x:=by
 unfold mE
 dsimp only
 rw [if_pos rfl]
theorem aq8:mE (some W) ("server or none":Str) x=Vbcnag.within x (-1) ((W.servers:Int) - 1):=by
 unfold mE
 dsimp only
 rw [if_neg (by decide +kernel),if_pos rfl]
theorem qT:mE (some W) ("relay":Str) x=Vbcnag.isRelay W x:=by
 unfold mE
 dsimp only
 rw [if_neg (by decide +kernel),if_neg (by decide +kernel),if_pos rfl]
theorem o_k:mE (some W) ("k":Str) x=Vbcnag.isPlace W x:=by
 unfold mE
 dsimp only
 rw [if_neg (by decide +kernel),if_neg (by decide +kernel),if_neg (by decide +kernel),if_pos rfl]
end
theorem Bx (s:Option VW){k:Str}(h:(gi k=false∧(kN.lookup k).isSome=true)):tq s k:= .inr h
theorem nameOf (W:VW){k:Str}(h:gi k=true):tq (some W) k:= .inl ⟨h,rfl⟩
theorem IT (W:VW){l:List Str}(h:(l.all fun k=>gi k||(kN.lookup k).isSome)=true):∀k∈l,tq (some W) k:=fun k hk=>by
 have:=List.all_eq_true.mp h k hk
 cases q:gi k with
 |true=>exact nameOf W q
 |false=>
  rw [q,Bool.false_or] at this
  exact Bx _ ⟨q,this⟩
theorem bU {s:Option VW}(xs:List Int):cD s [] xs=true:=by cases xs <;>rfl
theorem aE {s:Option VW}(k:Str)(ks:List Str)(x:Int)(xs:List Int):cD s (k::ks) (x::xs)=(mE s k x && cD s ks xs):=rfl
theorem bz:pairsOk [] =true:=rfl
theorem aS {x lo hi:Int}(h:Vbcnag.within x lo hi=true)(h0:0≤lo):∃n:Nat,x=(n:Int):=⟨x.toNat,by have:=bM.mp h;omega⟩
theorem IU:∀ (n:Nat)(l:List Int),l.length≤2 * n→l.length % 2=0→(∀x∈l,0≤x)→dC (Vbcnag.marksIn l)=l
 |_,[],_,_,_=>rfl
 |_,[x],_,h,_=>by simp at h
 |0,x::y::l,h,_,_=>by simp at h
 |n + 1,x::y::l,h,he,h0=>by
  have h1:=h0 x (List.mem_cons_self ..)
  have h2:=h0 y (List.mem_cons_of_mem _ (List.mem_cons_self ..))
  have ih:=IU n l (by simp only [List.length_cons] at h;omega) (by simp only [List.length_cons] at he;omega) fun z hz=>h0 z (List.mem_cons_of_mem _ (List.mem_cons_of_mem _ hz))
  show ((x.toNat:Nat):Int)::((y.toNat:Nat):Int)::dC (Vbcnag.marksIn l)=_
  rw [ih,Int.toNat_of_nonneg h1,Int.toNat_of_nonneg h2]
section
variable {K:PySem.W.Frag}{mg:Str→Option Value}{t:jL}
structure Plan (K:PySem.W.Frag) (t:jL) (W:VW) (p:Int) (ns:List Int) (names:List Str) (b a:Addr) (g:VW→List Int→Prop) (f:VW→List Int→VW×List Int):Prop where
 num:∃kvs,DM K t.dq kvs∧dD kvs p=some (.ref b)
 at_:∀H,bJ K H b (names.map V.str)
 call:∃kvs,DM K t.gz kvs∧dD kvs p=some (.ref a)
 g_:L6 K t a (bw g f K (cs t))
 len:names.length≤ns.length
 ok:∀k∈names,tq (some W) k
 no:(cD (some W) names ns && pairsOk (ns.drop names.length))=false→dk (some W) (p,ns)=(some W,[-1])
 yes:(cD (some W) names ns && pairsOk (ns.drop names.length))=true→g W ns∧dk (some W) (p,ns)=(some (f W ns).1,(f W ns).2)
theorem VS {W:VW}{c:Vbcnag.Call}{p:Int}{ns:List Int}(hs:dk (some W) (p,ns)=(some (Vbcnag.inWorld W c).1,(Vbcnag.inWorld W c).2))(h:Vbcnag.inWorld W c=(W,[-1])):dk (some W) (p,ns)=(some W,[-1]):=by
 rw [hs,h]
theorem qU {W:VW}{k:Int}(h:Vbcnag.isPlace W k=true):∃n:Nat,k=(n:Int)∧n < W.bag.length:=by
 obtain ⟨h1,h2⟩:=bM.mp h
 exact ⟨k.toNat,by omega,by omega⟩
theorem eP {W:VW}{p:Int}{ns:List Int}{names:List Str}{b a:Addr}{g:VW→List Int→Prop}{f:VW→List Int→VW×List Int}(c:Vbcnag.Call)(gd:Bool)(T:Txt K mg t)(n_:∃kvs,DM K t.dq kvs∧dD kvs p=some (.ref b))(at_:∀H,bJ K H b (names.map V.str))(c_:∃kvs,DM K t.gz kvs∧dD kvs p=some (.ref a))(g_:L6 K t a (bw g f K (cs t)))
  (l_:names.length≤ns.length)(o_:(names.all fun k=>gi k||(kN.lookup k).isSome)=true)(hk:(cD (some W) names ns && pairsOk (ns.drop names.length))=gd)(hs:dk (some W) (p,ns)=(some (Vbcnag.inWorld W c).1,(Vbcnag.inWorld W c).2))
  (hn:gd=false→Vbcnag.inWorld W c=(W,[-1]))(hy:gd=true→g W ns∧Vbcnag.inWorld W c=f W ns):Plan K t W p ns names b a g f:=
 ⟨n_,at_,c_,g_,l_,IT W o_,fun e=>VS hs (hn (hk.symm.trans e)),fun e=>⟨(hy (hk.symm.trans e)).1,by rw [hs,(hy (hk.symm.trans e)).2]⟩⟩
theorem Kx (T:Txt K mg t)(W:VW)(p c l:Int):Plan K t W 1 [p,c,l] ["relay","circuit","limit"] t.iX t.cz Kl A9:=
 eP (.relay p c l) (Vbcnag.isRelay W p && (Vbcnag.isCircuit c && (Vbcnag.within l 1 16))) T ⟨_,T.bA,rfl⟩ T.rF ⟨_,T.cM,rfl⟩ (.inl ⟨rfl,rfl⟩) (Nat.le_refl _) (by decide +kernel) (by
  show (cD _ _ _ && pairsOk [])=_
  rw [bz,aE,aE,aE,bU,qT,qS,UQ,Bool.and_true,Bool.and_true]) rfl (fun e=>if_pos e) fun e=>by
  have q:=e
  rw [Bool.and_eq_true,Bool.and_eq_true] at q
  obtain ⟨q0,q1,q2⟩:=q
  obtain ⟨p',rfl⟩:=aS q0 (by decide)
  obtain ⟨c',rfl⟩:=aS q1 (by decide)
  obtain ⟨l',rfl⟩:=aS q2 (by decide)
  exact ⟨⟨p',c',l',rfl,e⟩,rfl⟩
theorem N1 (T:Txt K mg t)(W:VW)(h r c:Int):Plan K t W 2 [h,r,c] ["host","relay","circuit"] t.iY t.iA Ro D4:=
 eP (.plug h r c) (Vbcnag.isHost h && (Vbcnag.isRelay W r && (Vbcnag.isCircuit c))) T ⟨_,T.bA,rfl⟩ T.rG ⟨_,T.cM,rfl⟩ (.inr (.inl ⟨rfl,rfl⟩)) (Nat.le_refl _) (by decide +kernel) (by
  show (cD _ _ _ && pairsOk [])=_
  rw [bz,aE,aE,aE,bU,lT,qT,qS,Bool.and_true,Bool.and_true]) rfl (fun e=>if_pos e) fun e=>by
  have q:=e
  rw [Bool.and_eq_true,Bool.and_eq_true] at q
  obtain ⟨q0,q1,q2⟩:=q
  obtain ⟨h',rfl⟩:=aS q0 (by decide)
  obtain ⟨r',rfl⟩:=aS q1 (by decide)
  obtain ⟨c',rfl⟩:=aS q2 (by decide)
  exact ⟨⟨h',r',c',rfl,e⟩,rfl⟩
theorem IV (T:Txt K mg t)(W:VW)(h:Int):Plan K t W 3 [h] ["host"] t.iZ t.eJ g1 qL:=
 eP (.unplug h) (Vbcnag.isHost h) T ⟨_,T.bA,rfl⟩ T.rH ⟨_,T.cM,rfl⟩ (.inr (.inr (.inl ⟨rfl,rfl⟩))) (Nat.le_refl _) (by decide +kernel) (by
  show (cD _ _ _ && pairsOk [])=_
  rw [bz,aE,bU,lT,Bool.and_true,Bool.and_true]) rfl (fun e=>if_pos e) fun e=>by
  exact ⟨⟨h,rfl,e⟩,rfl⟩
theorem UR (T:Txt K mg t)(W:VW)(h:Int):Plan K t W 4 [h] ["host"] t.i4 t.dS g1 YL:=
 eP (.on h) (Vbcnag.isHost h) T ⟨_,T.bA,rfl⟩ T.rJ ⟨_,T.cM,rfl⟩ (.inr (.inr (.inr (.inl ⟨rfl,rfl⟩)))) (Nat.le_refl _) (by decide +kernel) (by
  show (cD _ _ _ && pairsOk [])=_
  rw [bz,aE,bU,lT,Bool.and_true,Bool.and_true]) rfl (fun e=>if_pos e) fun e=>by
  exact ⟨⟨h,rfl,e⟩,rfl⟩
theorem Sg (T:Txt K mg t)(W:VW)(h:Int):Plan K t W 5 [h] ["host"] t.i5 t.cR g1 NH:=
 eP (.off h) (Vbcnag.isHost h) T ⟨_,T.bA,rfl⟩ T.rK ⟨_,T.cM,rfl⟩ (.inr (.inr (.inr (.inr (.inl ⟨rfl,rfl⟩))))) (Nat.le_refl _) (by decide +kernel) (by
  show (cD _ _ _ && pairsOk [])=_
  rw [bz,aE,bU,lT,Bool.and_true,Bool.and_true]) rfl (fun e=>if_pos e) fun e=>by
  exact ⟨⟨h,rfl,e⟩,rfl⟩
theorem IW (T:Txt K mg t)(W:VW)(h:Int):Plan K t W 6 [h] ["host"] t.i6 t.eK g1 qM:=
 eP (.forget h) (Vbcnag.isHost h) T ⟨_,T.bA,rfl⟩ T.rL ⟨_,T.cM,rfl⟩ (.inr (.inr (.inr (.inr (.inr (.inl ⟨rfl,rfl⟩)))))) (Nat.le_refl _) (by decide +kernel) (by
  show (cD _ _ _ && pairsOk [])=_
  rw [bz,aE,bU,lT,Bool.and_true,Bool.and_true]) rfl (fun e=>if_pos e) fun e=>by
  exact ⟨⟨h,rfl,e⟩,rfl⟩
theorem IX (T:Txt K mg t)(W:VW)(s h r a l:Int):Plan K t W 7 [s,h,r,a,l] ["server","host","relay","address","len"] t.i7 t.f_assign Gd qN:=
 eP (.assign s h r a l) (Vbcnag.isServer W s && (Vbcnag.isHost h && (Vbcnag.isRelay W r && (Vbcnag.within a 0 (Vbcnag.ADDRS - 1) && (Vbcnag.within l 1 1000000000))))) T ⟨_,T.bA,rfl⟩ T.rM ⟨_,T.cM,rfl⟩ (.inr (.inr (.inr (.inr (.inr (.inr (.inl ⟨rfl,rfl⟩))))))) (Nat.le_refl _) (by decide +kernel) (by
  show (cD _ _ _ && pairsOk [])=_
  rw [bz,aE,aE,aE,aE,aE,bU,wd,lT,qT,Ed,ag2,Bool.and_true,Bool.and_true]) rfl (fun e=>if_pos e) fun e=>by
  have q:=e
  rw [Bool.and_eq_true,Bool.and_eq_true,Bool.and_eq_true,Bool.and_eq_true] at q
  obtain ⟨q0,q1,q2,q3,q4⟩:=q
  obtain ⟨s',rfl⟩:=aS q0 (by decide)
  obtain ⟨h',rfl⟩:=aS q1 (by decide)
  obtain ⟨r',rfl⟩:=aS q2 (by decide)
  obtain ⟨a',rfl⟩:=aS q3 (by decide)
  obtain ⟨l',rfl⟩:=aS q4 (by decide)
  exact ⟨⟨s',h',r',a',l',rfl,e⟩,rfl⟩
theorem Cz (T:Txt K mg t)(W:VW)(s h r:Int):Plan K t W 8 [s,h,r] ["server","host","relay"] t.i8 t.cS xf qO:=
 eP (.withdraw s h r) (Vbcnag.isServer W s && (Vbcnag.isHost h && (Vbcnag.isRelay W r))) T ⟨_,T.bA,rfl⟩ T.rN ⟨_,T.cM,rfl⟩ (.inr (.inr (.inr (.inr (.inr (.inr (.inr (.inl ⟨rfl,rfl⟩)))))))) (Nat.le_refl _) (by decide +kernel) (by
  show (cD _ _ _ && pairsOk [])=_
  rw [bz,aE,aE,aE,bU,wd,lT,qT,Bool.and_true,Bool.and_true]) rfl (fun e=>if_pos e) fun e=>by
  have q:=e
  rw [Bool.and_eq_true,Bool.and_eq_true] at q
  obtain ⟨q0,q1,q2⟩:=q
  obtain ⟨s',rfl⟩:=aS q0 (by decide)
  obtain ⟨h',rfl⟩:=aS q1 (by decide)
  obtain ⟨r',rfl⟩:=aS q2 (by decide)
  exact ⟨⟨s',h',r',rfl,e⟩,rfl⟩
theorem N2 (T:Txt K mg t)(W:VW)(s x:Int):Plan K t W 9 [s,x] ["server","x"] t.i9 t.iB Rh LM:=
 eP (.rest s x) (Vbcnag.isServer W s && (Vbcnag.within x 0 1)) T ⟨_,T.bA,rfl⟩ T.rP ⟨_,T.cM,rfl⟩ (.inr (.inr (.inr (.inr (.inr (.inr (.inr (.inr (.inl ⟨rfl,rfl⟩))))))))) (Nat.le_refl _) (by decide +kernel) (by
  show (cD _ _ _ && pairsOk [])=_
  rw [bz,aE,aE,bU,wd,o_x,Bool.and_true,Bool.and_true]) rfl (fun e=>if_pos e) fun e=>by
  have q:=e
  rw [Bool.and_eq_true] at q
  obtain ⟨q0,q1⟩:=q
  obtain ⟨s',rfl⟩:=aS q0 (by decide)
  obtain ⟨x',rfl⟩:=aS q1 (by decide)
  exact ⟨⟨s',x',rfl,e⟩,rfl⟩
theorem N3 (T:Txt K mg t)(W:VW)(t0:Int):Plan K t W 10 [t0] ["t"] t.ja t.iC Rb LK:=
 eP (.tick t0) (Vbcnag.within t0 0 20000) T ⟨_,T.bA,rfl⟩ T.rQ ⟨_,T.cM,rfl⟩ (.inr (.inr (.inr (.inr (.inr (.inr (.inr (.inr (.inr (.inl ⟨rfl,rfl⟩)))))))))) (Nat.le_refl _) (by decide +kernel) (by
  show (cD _ _ _ && pairsOk [])=_
  rw [bz,aE,bU,o_t,Bool.and_true,Bool.and_true]) rfl (fun e=>if_pos e) fun e=>by
  exact ⟨⟨t0,rfl,e⟩,rfl⟩
theorem Gx (T:Txt K mg t)(W:VW)(hw:W.written.length≤500000)(k:Int):Plan K t W 11 [k] ["k"] t.jb t.dU Bp v9:=
 eP (.deliver k) (Vbcnag.isPlace W k) T ⟨_,T.bA,rfl⟩ T.rR ⟨_,T.cM,rfl⟩ (.inr (.inr (.inr (.inr (.inr (.inr (.inr (.inr (.inr (.inr (.inl ⟨rfl,rfl⟩))))))))))) (Nat.le_refl _) (by decide +kernel) (by
  show (cD _ _ _ && pairsOk [])=_
  rw [bz,aE,bU,o_k,Bool.and_true,Bool.and_true]) rfl (fun e=>if_pos e) fun e=>by
  obtain ⟨k',rfl,hk⟩:=qU e
  exact ⟨⟨hw,k',rfl,hk⟩,rfl⟩
theorem N4 (T:Txt K mg t)(W:VW)(k:Int):Plan K t W 12 [k] ["k"] t.jc t.iD gK L0:=
 eP (.lose k) (Vbcnag.isPlace W k) T ⟨_,T.bA,rfl⟩ T.rS ⟨_,T.cM,rfl⟩ (.inr (.inr (.inr (.inr (.inr (.inr (.inr (.inr (.inr (.inr (.inr (.inl ⟨rfl,rfl⟩)))))))))))) (Nat.le_refl _) (by decide +kernel) (by
  show (cD _ _ _ && pairsOk [])=_
  rw [bz,aE,bU,o_k,Bool.and_true,Bool.and_true]) rfl (fun e=>if_pos e) fun e=>by
  obtain ⟨k',rfl,hk⟩:=qU e
  exact ⟨⟨k',rfl,hk⟩,rfl⟩
theorem IY (T:Txt K mg t)(W:VW)(k:Int):Plan K t W 13 [k] ["k"] t.jd t.eM gK zm:=
 eP (.double k) (Vbcnag.isPlace W k) T ⟨_,T.bA,rfl⟩ T.rT ⟨_,T.cM,rfl⟩ (.inr (.inr (.inr (.inr (.inr (.inr (.inr (.inr (.inr (.inr (.inr (.inr (.inl ⟨rfl,rfl⟩))))))))))))) (Nat.le_refl _) (by decide +kernel) (by
  show (cD _ _ _ && pairsOk [])=_
  rw [bz,aE,bU,o_k,Bool.and_true,Bool.and_true]) rfl (fun e=>if_pos e) fun e=>by
  obtain ⟨k',rfl,hk⟩:=qU e
  exact ⟨⟨k',rfl,hk⟩,rfl⟩
theorem N5 (T:Txt K mg t)(W:VW)(hw:W.written.length≤500000)(m:Int):Plan K t W 14 [m] ["m"] t.je t.iE RZ L4:=
 eP (.flow m) (Vbcnag.within m 0 1000) T ⟨_,T.bA,rfl⟩ T.rV ⟨_,T.cM,rfl⟩ (.inr (.inr (.inr (.inr (.inr (.inr (.inr (.inr (.inr (.inr (.inr (.inr (.inr (.inl ⟨rfl,rfl⟩)))))))))))))) (Nat.le_refl _) (by decide +kernel) (by
  show (cD _ _ _ && pairsOk [])=_
  rw [bz,aE,bU,o_m,Bool.and_true,Bool.and_true]) rfl (fun e=>if_pos e) fun e=>by
  obtain ⟨h1,h2⟩:=bM.mp e
  obtain ⟨m',rfl⟩:∃m':Nat,m=(m':Int):=⟨m.toNat,by omega⟩
  exact ⟨⟨hw,m',rfl,by omega⟩,rfl⟩
theorem IZ (T:Txt K mg t)(W:VW)(h:Int):Plan K t W 16 [h] ["host"] t.jg t.bQ g1 v7:=
 eP (.client h) (Vbcnag.isHost h) T ⟨_,T.bA,rfl⟩ T.rX ⟨_,T.cM,rfl⟩ (.inr (.inr (.inr (.inr (.inr (.inr (.inr (.inr (.inr (.inr (.inr (.inr (.inr (.inr (.inr (.inl ⟨rfl,rfl⟩)))))))))))))))) (Nat.le_refl _) (by decide +kernel) (by
  show (cD _ _ _ && pairsOk [])=_
  rw [bz,aE,bU,lT,Bool.and_true,Bool.and_true]) rfl (fun e=>if_pos e) fun e=>by
  exact ⟨⟨h,rfl,e⟩,rfl⟩
theorem Gy (T:Txt K mg t)(W:VW)(hw:W.written.length≤500000)(s h:Int):Plan K t W 17 [s,h] ["server","host"] t.jh t.bF Bn v8:=
 eP (.written s h) (Vbcnag.isServer W s && (Vbcnag.isHost h)) T ⟨_,T.bA,rfl⟩ T.rY ⟨_,T.cM,rfl⟩ (.inr (.inr (.inr (.inr (.inr (.inr (.inr (.inr (.inr (.inr (.inr (.inr (.inr (.inr (.inr (.inr (.inl ⟨rfl,rfl⟩))))))))))))))))) (Nat.le_refl _) (by decide +kernel) (by
  show (cD _ _ _ && pairsOk [])=_
  rw [bz,aE,aE,bU,wd,lT,Bool.and_true,Bool.and_true]) rfl (fun e=>if_pos e) fun e=>by
  have q:=e
  rw [Bool.and_eq_true] at q
  obtain ⟨q0,q1⟩:=q
  obtain ⟨s',rfl⟩:=aS q0 (by decide)
  obtain ⟨h',rfl⟩:=aS q1 (by decide)
  exact ⟨⟨hw,s',h',rfl,e⟩,rfl⟩
theorem N6 (T:Txt K mg t)(W:VW)(k:Int):Plan K t W 18 [k] ["k"] t.ji t.iF gK L1:=
 eP (.peek k) (Vbcnag.isPlace W k) T ⟨_,T.bA,rfl⟩ T.rZ ⟨_,T.cM,rfl⟩ (.inr (.inr (.inr (.inr (.inr (.inr (.inr (.inr (.inr (.inr (.inr (.inr (.inr (.inr (.inr (.inr (.inr (.inl ⟨rfl,rfl⟩)))))))))))))))))) (Nat.le_refl _) (by decide +kernel) (by
  show (cD _ _ _ && pairsOk [])=_
  rw [bz,aE,bU,o_k,Bool.and_true,Bool.and_true]) rfl (fun e=>if_pos e) fun e=>by
  obtain ⟨k',rfl,hk⟩:=qU e
  exact ⟨⟨k',rfl,hk⟩,rfl⟩
theorem N7 (T:Txt K mg t)(W:VW)(r c:Int):Plan K t W 19 [r,c] ["relay","circuit"] t.jj t.cA RX L3:=
 eP (.path r c) (Vbcnag.isRelay W r && (Vbcnag.isCircuit c)) T ⟨_,T.bA,rfl⟩ T.r6 ⟨_,T.cM,rfl⟩ (.inr (.inr (.inr (.inr (.inr (.inr (.inr (.inr (.inr (.inr (.inr (.inr (.inr (.inr (.inr (.inr (.inr (.inr (.inl ⟨rfl,rfl⟩))))))))))))))))))) (Nat.le_refl _) (by decide +kernel) (by
  show (cD _ _ _ && pairsOk [])=_
  rw [bz,aE,aE,bU,qT,qS,Bool.and_true,Bool.and_true]) rfl (fun e=>if_pos e) fun e=>by
  have q:=e
  rw [Bool.and_eq_true] at q
  obtain ⟨q0,q1⟩:=q
  have eA:=(nM q0).2
  obtain ⟨r',rfl⟩:=aS q0 (by decide)
  obtain ⟨c',rfl⟩:=aS q1 (by decide)
  exact ⟨⟨r',c',rfl,(by rw [Int.toNat_natCast] at eA;exact eA),e⟩,rfl⟩
theorem N8 (T:Txt K mg t)(W:VW):Plan K t W 20 [] [] t.jk t.cB g0 RY:=
 eP (.next) (true) T ⟨_,T.bA,rfl⟩ T.sf ⟨_,T.cM,rfl⟩ (.inr (.inr (.inr (.inr (.inr (.inr (.inr (.inr (.inr (.inr (.inr (.inr (.inr (.inr (.inr (.inr (.inr (.inr (.inr (.inl ⟨rfl,rfl⟩)))))))))))))))))))) (Nat.le_refl _) (by decide +kernel) rfl rfl (fun e=>nomatch e) fun _=>⟨rfl,rfl⟩
theorem Ky (T:Txt K mg t)(W:VW):Plan K t W 21 [] [] t.jl t.cb g0 fState:=
 eP (.state) (true) T ⟨_,T.bA,rfl⟩ T.si ⟨_,T.cM,rfl⟩ (.inr (.inr (.inr (.inr (.inr (.inr (.inr (.inr (.inr (.inr (.inr (.inr (.inr (.inr (.inr (.inr (.inr (.inr (.inr (.inr (⟨rfl,rfl⟩))))))))))))))))))))) (Nat.le_refl _) (by decide +kernel) rfl rfl (fun e=>nomatch e) fun _=>⟨rfl,rfl⟩
end
theorem Ee {l:List Int}:pairsOk l=false ↔ (l.length % 2=1∨32 < l.length∨l.any (fun x=> !Vbcnag.isCircuit x)=true):=by
 unfold pairsOk
 simp only [Bool.and_eq_false_iff,decide_eq_false_iff_not,List.all_eq_false,List.any_eq_true,Bool.not_eq_true',Bool.not_eq_true]
 constructor
 ·rintro (h|h|h)
  ·exact .inl (by omega)
  ·exact .inr (.inl (by omega))
  ·exact .inr (.inr h)
 ·rintro (h|h|h)
  ·exact .inl (by omega)
  ·exact .inr (.inl (by omega))
  ·exact .inr (.inr h)
section
variable {K:PySem.W.Frag}{mg:Str→Option Value}{t:jL}
theorem Kz (T:Txt K mg t)(W:VW)(r c h n k s a p:Int)(marks:List Int)(hn:n≤1000000000000000000):
  Plan K t W 15 (r::c::h::n::k::s::a::p::marks) ["relay","circuit","host","number","kind","server or none","address","hops"] t.jf t.f6 Kv Br:=by
 have key:∀b,(cD (some W) ["relay","circuit","host","number","kind","server or none","address","hops"] (r::c::h::n::k::s::a::p::marks) && pairsOk ((r::c::h::n::k::s::a::p::marks).drop (["relay","circuit","host","number","kind","server or none","address","hops"] :List Str).length))=b→
   ((Vbcnag.isRelay W r && (Vbcnag.isCircuit c && (Vbcnag.isHost h && (decide (1≤n) && (Vbcnag.within k 1 5 && (Vbcnag.within s (-1) ((W.servers:Int) - 1) && (Vbcnag.within a 0 (Vbcnag.ADDRS - 1) && Vbcnag.within p 0 16))))))) && pairsOk marks)=b:=fun b e=>by
  have e':(cD (some W) ["relay","circuit","host","number","kind","server or none","address","hops"] (r::c::h::n::k::s::a::p::marks) && pairsOk marks)=b:=e
  have hnn:Vbcnag.within n 1 1000000000000000000=decide (1≤n):=by
   unfold Vbcnag.within
   rw [decide_eq_true hn,Bool.and_true]
  rw [aE,aE,aE,aE,aE,aE,aE,aE,bU,qT,qS,lT,Sf,Y9,aq8,Ed,Za,hnn,Bool.and_true] at e'
  exact e'
 refine ⟨⟨_,T.bA,rfl⟩,T.rW,⟨_,T.cM,rfl⟩,.inr (.inr (.inr (.inr (.inr (.inr (.inr (.inr (.inr (.inr (.inr (.inr (.inr (.inr (.inl ⟨rfl,rfl⟩)))))))))))))),(by show 8≤marks.length + 8;omega),IT W (by decide +kernel),fun e=> ?_,fun e=> ?_⟩
 ·have e:=key _ e
  refine VS (c:= .forge r c h n k s a p marks) rfl ?_
  rw [Bool.and_eq_false_iff] at e
  by_cases q:(Vbcnag.isRelay W r && (Vbcnag.isCircuit c && (Vbcnag.isHost h && (decide (1≤n) && (Vbcnag.within k 1 5 && (Vbcnag.within s (-1) ((W.servers:Int) - 1) && (Vbcnag.within a 0 (Vbcnag.ADDRS - 1) && Vbcnag.within p 0 16)))))))=false
  ·exact if_pos q
  ·rcases e with e|e
   ·exact absurd e q
   ·exact (if_neg q).trans (if_pos (Ee.mp e))
 ·have e:=key _ e
  rw [Bool.and_eq_true] at e
  obtain ⟨e1,e2⟩:=e
  have US:¬ (marks.length % 2=1∨32 < marks.length∨marks.any (fun x=> !Vbcnag.isCircuit x)=true):=fun z=>by
   rw [Ee.mpr z] at e2
   cases e2
  have hev:marks.length % 2=0:=by
   have:=fun z=>US (.inl z)
   omega
  have h32:marks.length≤32:=by
   have:=fun z=>US (.inr (.inl z))
   omega
  have hci:∀x∈marks,0≤x:=fun x hx=>by
   have hx':Vbcnag.isCircuit x=true:=by
    cases q:Vbcnag.isCircuit x with
    |true=>rfl
    |false=>exact absurd (.inr (.inr (List.any_eq_true.mpr ⟨x,hx,by rw [q];rfl⟩))) US
   exact (bM.mp hx').1
  have hfl:=IU 16 marks (by omega) hev hci
  have q:=e1
  rw [Bool.and_eq_true,Bool.and_eq_true,Bool.and_eq_true,Bool.and_eq_true,Bool.and_eq_true,Bool.and_eq_true,Bool.and_eq_true] at q
  obtain ⟨q1,q2,q3,q4,q5,q6,q7,q8⟩:=q
  have q4:=of_decide_eq_true q4
  refine ⟨?_,rfl⟩
  obtain ⟨r',rfl⟩:=aS q1 (by decide)
  obtain ⟨c',rfl⟩:=aS q2 (by decide)
  obtain ⟨h',rfl⟩:=aS q3 (by decide)
  obtain ⟨n',rfl⟩:∃n':Nat,n=(n':Int):=⟨n.toNat,by omega⟩
  obtain ⟨k',rfl⟩:=aS q5 (by decide)
  obtain ⟨sv,rfl⟩:∃sv:Option Nat,s=Vbcnag.optional sv:=by
   obtain ⟨h1,_⟩:=bM.mp q6
   by_cases z:s= -1
   ·exact ⟨none,z⟩
   ·exact ⟨some s.toNat,by show s=((s.toNat:Nat):Int);omega⟩
  obtain ⟨a',rfl⟩:=aS q7 (by decide)
  obtain ⟨p',rfl⟩:=aS q8 (by decide)
  have CS:(Vbcnag.marksIn marks).length≤16:=pU 16 marks (by omega)
  refine ⟨r',c',h',n',k',a',p',sv,Vbcnag.marksIn marks,?_,CS,e1,?_⟩
  ·unfold Bq
   rw [hfl]
  ·rw [hfl]
   exact US
theorem Sh (T:Txt K mg t)(W:VW)(hw:W.written.length≤500000){p:Int}{ns:List Int}(h:VbcnagNeutral.asked1 (lB (p,ns))=true)(hp:p≠0):∃names b a g f,Plan K t W p ns names b a g f:=by
 refine j2 (P:=fun c=>∀p ns,c= [p::ns] →p≠0→∃names b a g f,Plan K t W p ns names b a g f) ?_ ?_ ?_ ?_ ?_ ?_ ?_ ?_ ?_ ?_ ?_ ?_ ?_ ?_ ?_ ?_ ?_ ?_ ?_ ?_ ?_ ?_ h p ns rfl hp
 ·intro _ _ _ _ _ e hp;cases e;exact absurd rfl hp
 ·intro _ _ _ _ _ e _;cases e;exact ⟨_,_,_,_,_,Kx T W _ _ _⟩
 ·intro _ _ _ _ _ e _;cases e;exact ⟨_,_,_,_,_,N1 T W _ _ _⟩
 ·intro _ _ _ e _;cases e;exact ⟨_,_,_,_,_,IV T W _⟩
 ·intro _ _ _ e _;cases e;exact ⟨_,_,_,_,_,UR T W _⟩
 ·intro _ _ _ e _;cases e;exact ⟨_,_,_,_,_,Sg T W _⟩
 ·intro _ _ _ e _;cases e;exact ⟨_,_,_,_,_,IW T W _⟩
 ·intro _ _ _ _ _ _ _ e _;cases e;exact ⟨_,_,_,_,_,IX T W _ _ _ _ _⟩
 ·intro _ _ _ _ _ e _;cases e;exact ⟨_,_,_,_,_,Cz T W _ _ _⟩
 ·intro _ _ _ _ e _;cases e;exact ⟨_,_,_,_,_,N2 T W _ _⟩
 ·intro _ _ _ e _;cases e;exact ⟨_,_,_,_,_,N3 T W _⟩
 ·intro _ _ _ e _;cases e;exact ⟨_,_,_,_,_,Gx T W hw _⟩
 ·intro _ _ _ e _;cases e;exact ⟨_,_,_,_,_,N4 T W _⟩
 ·intro _ _ _ e _;cases e;exact ⟨_,_,_,_,_,IY T W _⟩
 ·intro _ _ _ e _;cases e;exact ⟨_,_,_,_,_,N5 T W hw _⟩
 ·intro _ _ _ _ _ _ _ _ _ h _ _ e _
  cases e
  have h:(_ && _)=true:=h
  simp only [Bool.and_eq_true] at h
  have hn:=h.1.1.1.1.1.2
  unfold VbcnagNeutral.whole60 at hn
  simp only [Bool.and_eq_true,decide_eq_true_eq] at hn
  exact ⟨_,_,_,_,_,Kz T W _ _ _ _ _ _ _ _ _ hn.2⟩
 ·intro _ _ _ e _;cases e;exact ⟨_,_,_,_,_,IZ T W _⟩
 ·intro _ _ _ _ e _;cases e;exact ⟨_,_,_,_,_,Gy T W hw _ _⟩
 ·intro _ _ _ e _;cases e;exact ⟨_,_,_,_,_,N6 T W _⟩
 ·intro _ _ _ _ e _;cases e;exact ⟨_,_,_,_,_,N7 T W _ _⟩
 ·intro _ _ e _;cases e;exact ⟨_,_,_,_,_,N8 T W⟩
 ·intro _ _ e _;cases e;exact ⟨_,_,_,_,_,Ky T W⟩
theorem N9 {p:Int}{ns:List Int}(h:VbcnagNeutral.asked1 (lB (p,ns))=true)(hp:p≠0):dk none (p,ns)=(none,[-9]):=by
 refine j2 (P:=fun c=>∀p ns,c= [p::ns] →p≠0→dk none (p,ns)=(none,[-9])) ?_ ?_ ?_ ?_ ?_ ?_ ?_ ?_ ?_ ?_ ?_ ?_ ?_ ?_ ?_ ?_ ?_ ?_ ?_ ?_ ?_ ?_ h p ns rfl hp
 ·intro _ _ _ _ _ e hp;cases e;exact absurd rfl hp
 all_goals (intros;rename_i e _;cases e;rfl)
theorem I0 {ns:List Int}(h:VbcnagNeutral.asked1 (lB (0,ns))=true):∃a b c,ns= [a,b,c] :=by
 refine j2 (P:=fun c=>∀ns,c= [0::ns] →∃a b c,ns= [a,b,c]) ?_ ?_ ?_ ?_ ?_ ?_ ?_ ?_ ?_ ?_ ?_ ?_ ?_ ?_ ?_ ?_ ?_ ?_ ?_ ?_ ?_ ?_ h ns rfl
 ·intro _ _ _ _ e;cases e;exact ⟨_,_,_,rfl⟩
 all_goals (intros;rename_i e;injection e with e _;injection e with e _;exact absurd e (by decide))
end
theorem nT (s:Option VW)(a b c:Int):dk s (0,[a,b,c])=if (Vbcnag.within a 1 4 && (Vbcnag.within b 1 10000 && Vbcnag.within c 0 Vbcnag.TIMES))=false then (s,[-1]) else (some (first a.toNat b.toNat c.toNat),[0]):=by
 cases s <;>rfl
section
variable {P:Program}{w:World}{K:PySem.W.Frag}{mg:Str→Option Value}{base:Heap}{t:jL}
theorem Gi (T:Txt K mg t):bB P w K mg base fe 40 t.lH t.zW zV (Rt K (cs t)):=by
 refine T.JY.ok TK (fun vs H Q E h=> ?_) (fun d4 A0 outer s H vs Q E hr h=> ?_)
 ·obtain ⟨n,st,A,cas,wv,p,ns,nm,rfl,_⟩:=h
  rfl
 ·obtain ⟨n,st,A,cas,wv,p,ns,nm,rfl,hn,sg,nU,qX,aq9,Kn,k⟩:=h
  have S0:=aj.refl H
  have out:∀ (Hk:Hp)(e:Int),aj H Hk→dk st (p,ns)=(st,[e])→∀ra,Hk ra=none→∀ta,L2.upd Hk ra (.lst [V.int e]) ta=none→Q (.ref ta) (L2.upd (L2.upd Hk ra (.lst [V.int e])) ta (.tup [wv,.ref ra])):=fun Hk e Sk he ra wj ta GC=>by
   rw [he] at k
   have S1:=aj.ao (o:=HO.lst [V.int e]) wj
   have S2:=aj.ao (o:=HO.tup [wv,.ref ra]) GC
   have S:=(Sk.trans S1).trans S2
   exact k _ ta ra wv A cas ab (S2 _ _ ab) (nU.same S) (fun b o e _=>S b o e) (fun b h=> .inl h) (Sk.free wj)
  obtain ⟨ahN,L7,L8⟩:=T.Lq
  refine ⟨_,ae (bp (PW.pt (ip (cq (gR (pv 0))) (fJ (aL zy (pv 1) (aD (by rfl) L7 L8) (aQ _))))) (ak (aK (bZ (aa eS (aa (a3 (aa (d8 cG ah) af)) af))))) aV)
   (ae (bp (Ot (oy (aB (Bw T) (hr.mono (by decide)) (by rfl) T.rn T.lM.kp T.rp .nil aU (aa (pv 0) (aa (pv 1) (aa (pv 2) af)))))) (ak (aK (bZ (aa (pv 0) (aa (a3 (aa (d8 cG ah) af)) af))))) aV)
   (ae (bp (aL cV (pv 1) (aD (by rfl) L7 L8) (aQ _)) (ak (aK (bZ (aa (kP T.uw (Rq T) (hr.mono (by decide)) (by rfl) T.Lh T.uz .nil aU (aa (aF aM (pv 2) ah (fun _ _=>rfl)) (aa (aF aM (pv 2) ah (fun _ _=>rfl)) (aa (aF aM (pv 2) ah (fun _ _=>rfl)) af)))) (aa (a3 (aa ah af)) af))))) aV)
   (ak (aK (bZ (aa (pv 0) (aa (aB (NZ T) (hr.mono (by decide)) (by rfl) T.Hu T.Ak.kp T.Hv .nil aU (aa (pv 0) (aa (pv 1) (aa (pv 2) af)))) af))))))),?_⟩
  by_cases hp:p=0
  ·subst hp
   obtain ⟨a,b,c,rfl⟩:=I0 Kn
   have sR:∀q,(cD st ["servers","cap","time"] [a,b,c] && pairsOk ([a,b,c].drop (["servers","cap","time"] :List Str).length))=q→(Vbcnag.within a 1 4 && (Vbcnag.within b 1 10000 && Vbcnag.within c 0 Vbcnag.TIMES))=q:=fun q e=>by
    have e':(cD st ["servers","cap","time"] [a,b,c] && pairsOk [])=q:=e
    rw [bz,aE,aE,aE,bU,N0,ag1,Y8,Bool.and_true,Bool.and_true] at e'
    exact e'
   cases st with
   |none=>
    have ev:wv= .bX:=nU
    subst ev
    refine ⟨_,rfl,_,rfl,bC ?_⟩
    refine ⟨_,rfl,rfl,_,rfl,OV rfl ?_⟩
    refine ⟨_,rfl,_,rfl,_,rfl,none,A,cas,_,0,nm,[a,b,c],_,t.gn,["servers","cap","time"],rfl,nU,cK.of qX,T.bA,rfl,T.lO,Nat.le_refl _,fun ky hky=>Bx _ ?_,fun H1 S1=> ?_⟩
    ·have:=List.all_eq_true.mp (show ((["servers","cap","time"] :List Str).all fun k=> !gi k && (kN.lookup k).isSome)=true by decide +kernel) ky hky
     simpa using this
    refine ⟨_,rfl,?_⟩
    cases cx:(cD none ["servers","cap","time"] [a,b,c] && pairsOk ([a,b,c].drop (["servers","cap","time"] :List Str).length)) with
    |false=>
     have e:=sR _ cx
     refine bC ?_
     refine ⟨_,rfl,_,rfl,(by show 1≤sizeLine;decide),fun ra wj=>⟨(by show 2≤sizeLine;decide),fun ta GC=> ?_⟩⟩
     exact out H1 (-1) S1 (by rw [nT,if_pos e]) ra wj ta GC
    |true=>
     have e:=sR _ cx
     rw [nT,if_neg (by rw [e];decide)] at k
     rw [Bool.and_eq_true,Bool.and_eq_true] at e
     obtain ⟨e1,e2,e3⟩:=e
     have e4:=(bM.mp e1).2
     obtain ⟨a',rfl⟩:=aS e1 (by decide)
     obtain ⟨b',rfl⟩:=aS e2 (by decide)
     obtain ⟨c',rfl⟩:=aS e3 (by decide)
     rw [Int.toNat_natCast,Int.toNat_natCast,Int.toNat_natCast] at k
     refine bL ?_
     refine ⟨_,rfl,rfl,_,rfl,bC ?_⟩
     have KA:=cK.of (K:=K) (S1 _ _ qX)
     refine ⟨_,rfl,nm,_,_,_,rfl,rfl,KA,rfl,_,rfl,nm,_,_,_,rfl,rfl,KA,rfl,_,rfl,nm,_,_,_,rfl,rfl,KA,rfl,?_⟩
     intro x dx nx NA Zz
     refine ⟨x,dx,a',b',c',rfl,ab,(by omega),fun H5 A5 hA5 R5 k5 m5=>⟨rfl,?_⟩⟩
     subst hA5
     have S5:=aj.made nx NA k5
     refine ⟨(by show 1≤sizeLine;decide),fun ra wj=>⟨(by show 2≤sizeLine;decide),fun ta GC=> ?_⟩⟩
     have S6:=aj.ao (o:=HO.lst [V.int 0]) wj
     have S7:=aj.ao (o:=HO.tup [V.ref A5.w,.ref ra]) GC
     have S:=(S1.trans S5).trans (S6.trans S7)
     refine k _ ta ra (.ref A5.w) A5 [] ab (S7 _ _ ab) ⟨rfl,R5.same (S6.trans S7)⟩ (fun b o e _=>S b o e) (fun q hq=> .inr ?_) ((S1.trans S5).free wj)
     rcases m5 q hq with z|z
     ·rw [z]
      exact S1.free nx
     ·exact S1.free (cP (cP z))
   |some W=>
    obtain ⟨ev,R⟩:=id nU
    subst ev
    refine ⟨_,rfl,_,rfl,bL ?_⟩
    refine ⟨_,rfl,_,rfl,_,rfl,(some W),A,cas,_,0,nm,[a,b,c],_,t.gn,["servers","cap","time"],rfl,nU,cK.of qX,T.bA,rfl,T.lO,Nat.le_refl _,fun ky hky=>Bx _ ?_,fun H1 S1=> ?_⟩
    ·have:=List.all_eq_true.mp (show ((["servers","cap","time"] :List Str).all fun k=> !gi k && (kN.lookup k).isSome)=true by decide +kernel) ky hky
     simpa using this
    refine ⟨_,rfl,?_⟩
    cases cx:(cD (some W) ["servers","cap","time"] [a,b,c] && pairsOk ([a,b,c].drop (["servers","cap","time"] :List Str).length)) with
    |false=>
     have e:=sR _ cx
     refine bC ?_
     refine ⟨_,rfl,_,rfl,(by show 1≤sizeLine;decide),fun ra wj=>⟨(by show 2≤sizeLine;decide),fun ta GC=> ?_⟩⟩
     exact out H1 (-1) S1 (by rw [nT,if_pos e]) ra wj ta GC
    |true=>
     have e:=sR _ cx
     rw [nT,if_neg (by rw [e];decide)] at k
     rw [Bool.and_eq_true,Bool.and_eq_true] at e
     obtain ⟨e1,e2,e3⟩:=e
     have e4:=(bM.mp e1).2
     obtain ⟨a',rfl⟩:=aS e1 (by decide)
     obtain ⟨b',rfl⟩:=aS e2 (by decide)
     obtain ⟨c',rfl⟩:=aS e3 (by decide)
     rw [Int.toNat_natCast,Int.toNat_natCast,Int.toNat_natCast] at k
     refine bL ?_
     refine ⟨_,rfl,rfl,_,rfl,bC ?_⟩
     have KA:=cK.of (K:=K) (S1 _ _ qX)
     refine ⟨_,rfl,nm,_,_,_,rfl,rfl,KA,rfl,_,rfl,nm,_,_,_,rfl,rfl,KA,rfl,_,rfl,nm,_,_,_,rfl,rfl,KA,rfl,?_⟩
     intro x dx nx NA Zz
     refine ⟨x,dx,a',b',c',rfl,ab,(by omega),fun H5 A5 hA5 R5 k5 m5=>⟨rfl,?_⟩⟩
     subst hA5
     have S5:=aj.made nx NA k5
     refine ⟨(by show 1≤sizeLine;decide),fun ra wj=>⟨(by show 2≤sizeLine;decide),fun ta GC=> ?_⟩⟩
     have S6:=aj.ao (o:=HO.lst [V.int 0]) wj
     have S7:=aj.ao (o:=HO.tup [V.ref A5.w,.ref ra]) GC
     have S:=(S1.trans S5).trans (S6.trans S7)
     refine k _ ta ra (.ref A5.w) A5 [] ab (S7 _ _ ab) ⟨rfl,R5.same (S6.trans S7)⟩ (fun b o e _=>S b o e) (fun q hq=> .inr ?_) ((S1.trans S5).free wj)
     rcases m5 q hq with z|z
     ·rw [z]
      exact S1.free nx
     ·exact S1.free (cP (cP z))
  ·cases st with
   |none=>
    have ev:wv= .bX:=nU
    subst ev
    refine ⟨_,rfl,_,rfl,bC ?_⟩
    refine ⟨_,rfl,rfl,_,rfl,?_⟩
    rw [show decide (V.int p=V.int 0)=false from decide_eq_false (fun z=>hp (by injection z))]
    refine bC ?_
    exact ⟨_,rfl,(by show 1≤sizeLine;decide),fun ra wj=>⟨(by show 2≤sizeLine;decide),fun ta GC=>out H (-9) S0 (N9 Kn hp) ra wj ta GC⟩⟩
   |some W=>
    obtain ⟨ev,R⟩:=id nU
    subst ev
    obtain ⟨wg,NL⟩:=sg
    obtain ⟨names,b,a,g,f,PL⟩:=Sh T W (by omega) Kn hp
    obtain ⟨kvs,hD,hv⟩:=PL.num
    refine ⟨_,rfl,_,rfl,bL ?_⟩
    refine ⟨_,rfl,_,rfl,_,rfl,some W,A,cas,_,p,nm,ns,kvs,b,names,rfl,nU,cK.of qX,hD,hv,PL.at_,PL.len,PL.ok,fun H1 S1=> ?_⟩
    refine ⟨_,rfl,?_⟩
    cases cx:(cD (some W) names ns && pairsOk (ns.drop names.length)) with
    |false=>
     refine bC ?_
     exact ⟨_,rfl,_,rfl,(by show 1≤sizeLine;decide),fun ra wj=>⟨(by show 2≤sizeLine;decide),fun ta GC=>out H1 (-1) S1 (PL.no cx) ra wj ta GC⟩⟩
    |true=>
     obtain ⟨hg,ag3⟩:=PL.yes cx
     obtain ⟨arc,hDC,hvC⟩:=PL.call
     rw [ag3] at k
     refine bL ?_
     refine ⟨_,rfl,rfl,_,rfl,?_⟩
     rw [show decide (V.int p=V.int 0)=false from decide_eq_false (fun z=>hp (by injection z))]
     refine bL ?_
     refine ⟨_,rfl,_,rfl,_,rfl,_,rfl,_,p,nm,a,arc,g,f,rfl,hDC,hvC,PL.g_,A,cas,W,nm,ns,rfl,R.same S1,wg,cK.of (S1 _ _ qX),aq9,hg,fun H2 Ci q R2 F2 hc hq ZG=> ?_⟩
     refine ⟨(by show 2≤sizeLine;decide),fun ta GC=> ?_⟩
     have S3:=aj.ao (o:=HO.tup [V.ref A.w,.ref q]) GC
     refine k _ ta q (.ref A.w) A Ci ab (S3 _ _ hq) ⟨rfl,R2.same S3⟩ (fun b o e nb=>S3 _ _ (F2 _ _ (S1 _ _ e) nb)) (fun b hb=> ?_) (S1.free ZG)
     rcases hb with z|z|z|z|z|z|z|z|z
     ·exact .inl (.inl z)
     ·exact .inl (.inr (.inl z))
     ·exact .inl (.inr (.inr (.inl z)))
     ·exact .inl (.inr (.inr (.inr (.inl z))))
     ·exact .inl (.inr (.inr (.inr (.inr (.inl z)))))
     ·exact .inl (.inr (.inr (.inr (.inr (.inr (.inl z))))))
     ·exact .inl (.inr (.inr (.inr (.inr (.inr (.inr (.inl z)))))))
     ·exact .inl (.inr (.inr (.inr (.inr (.inr (.inr (.inr (.inl z))))))))
     ·rcases hc b z with y|y
      ·exact .inl (.inr (.inr (.inr (.inr (.inr (.inr (.inr (.inr y))))))))
      ·exact .inr (S1.free y)
end
end Rl
namespace Rl
open PySem PySem.W PyProof.Rows
def tu:List Obj→BT→Nat→Option (BT×Nat)
 | [],t,n=>some (t,n)
 |o::l,t,n=>match ((t.ins n o).get n).isSome with
  |true=>tu l (t.ins n o) (n + 1)
  |false=>none
theorem Ef {life:Life}:∀ {l:List Obj}{t t':BT}{n n':Nat},tu l t n=some (t',n')→absHeap t' n' life=⟨(absHeap t n life).objs ++ l.toArray,life⟩
 | [],t,t',n,n',h=>by
  obtain ⟨rfl,rfl⟩:t=t'∧n=n':=by simpa [tu] using h
  simp only [Array.append_empty]
  rfl
 |o::l,t,t',n,n',h=>by
  unfold tu at h
  cases e:((t.ins n o).get n).isSome with
  |false=>rw [e] at h;cases h
  |true=>
   rw [e] at h
   rw [Ef h,absHeap_ins e]
   show Heap.mk (((absHeap t n life).objs.push o) ++ l.toArray) life=_
   congr 1
   rw [List.push_append_toArray]
theorem KC {life:Life}{l:List Obj}{t':BT}{n':Nat}(h:tu l .nil 0=some (t',n')):absHeap t' n' life=⟨l.toArray,life⟩:=by
 rw [Ef h]
 show Heap.mk (((BT.nil.list 0).toArray) ++ l.toArray) life=_
 simp [BT.list]
def UT (st:SharedT→Thread→Option (SharedT×Thread))(n₀:Nat)(ann:Option Value):Nat→SharedT→Thread→Option SharedT
 |0,_,_=>none
 |n + 1,s,t=>match through t with
  |true=>some s
  |false=>match stepOk n₀ ann t with
   |false=>none
   |true=>match st s t with
    |some (s',t')=>UT st n₀ ann n s' t'
    |none=>none
theorem L9 {tb:String→Option Builtin}{p:Program}{w:World}{n₀:Nat}{ann:Option Value}:∀ {n:Nat}{s r:SharedT}{t:Thread},
  UT (stepT (denote tb) p w) n₀ ann n s t=some r→topRun tb p w n₀ ann n s.abs t=some r.abs
 |0,_,_,_,h=>by cases h
 |n + 1,s,r,t,h=>by
  unfold UT at h
  unfold topRun
  cases ht:through t with
  |true=>rw [ht] at h;cases h;rfl
  |false=>
   rw [ht] at h
   cases hk:stepOk n₀ ann t with
   |false=>rw [hk] at h;cases h
   |true=>
    rw [hk] at h
    cases hs:stepT (denote tb) p w s t with
    |none=>rw [hs] at h;cases h
    |some x=>obtain ⟨s₂,t₂⟩:=x;rw [hs] at h;dsimp only;rw [stepT_spec hs];exact L9 h
noncomputable def Si (den:(String→Option Builtin)→Code→Sem PySem.Fin) (stp:(Code→Sem PySem.Fin)→Program→World→SharedT→Thread→Option (SharedT×Thread)) (tb:String→Option Builtin) (nsm:Heap→Addr→Str→Option Value)
  (p:Program) (M:Nat) (w:World) (os:OsState):Option SharedT:=
 match tu (boot_heap w.params).objs.toList .nil 0,(boot_heap w.params).isNs mainGlobals with
 |some (T,n),true=>UT (stp (den tb) p w) n (nsm (boot_heap w.params) mainGlobals "__annotations__") M ⟨T,n,(boot_heap w.params).life,#[],boot_drawn,boot_toks,os⟩ (topStub p)
 |_,_=>none
def other (bo:List Obj)(T:BT)(ls:List Nat)(i:Nat)(K:Frag):Obj:=
 match (match K with
  |_::(b,⟨_,_,.func f,_⟩)::_=>(match Nat.beq b (i + 2) with|true=>some f|false=>none)
  |_=>none) with
 |some f=>{cls:= .none,data:= .func {f with globals:=0,pyModule:= .none,code:= .none} }
 |none=>match ls.any (Nat.beq i) with
  |true=>(T.get i).getD default
  |false=>match bo[i]? with
   |some o=>o
   |none=>{cls:= .none,data:= .fields #[] }
def mix (bo:List Obj)(T:BT)(ls:List Nat):Nat→Nat→Frag→List Obj
 |0,_,_=> []
 |n + 1,i,[] =>other bo T ls i [] ::mix bo T ls n (i + 1) []
 |n + 1,i,(a,o)::K=>match Nat.beq a i with
  |true=>o::mix bo T ls n (i + 1) K
  |false=>other bo T ls i ((a,o)::K)::mix bo T ls n (i + 1) ((a,o)::K)
noncomputable def ou (ls:List Nat) (n:Nat) (K:Params→Frag) (w:World) (T:BT) (d:Drawn) (k:Nat) (os:OsState):Shared:=
 ⟨⟨(mix (boot_heap w.params).objs.toList T ls n 0 (K w.params)).toArray,(boot_heap w.params).life⟩,#[],d,k,os⟩
def By (p:Program)(M:Nat)(ls:List Nat)(n:Nat)(K:Params→Frag)(g:World→World):Prop:=
 (fun (w:World) os=>(Si Fast.tw11892475500146522536 Fast.tw10156331382660048174 Fast.tw14364793385576792824 Fast.tw8920871248978507458 p M (g w) os).map fun s=>(s.tree.list s.n,s.life,s.gens))=
  fun w os=>some (((Si Fast.tw11892475500146522536 Fast.tw10156331382660048174 Fast.tw14364793385576792824 Fast.tw8920871248978507458 p M (g w) os).map fun s=>(mix (boot_heap (g w).params).objs.toList s.tree ls n 0 (K (g w).params),(boot_heap (g w).params).life,(#[] :Array GenState))).getD ([],{},#[]))
theorem UU {p q:Program}{loose:List Str}{Xt:Shared→Bool}{α:Type}{Yf:Shared→α}{Ya:World→α}{N M:Nat}{ls:List Nat}{n:Nat}{K:Params→Frag}(row:String)
  (hb:opening p=plainProg p.main.scope.names)(hN:Nat.ble 600 N=true)(hf:∀s,fenceModules? p s=some s)(le:Nat.ble M N=true)
  (h0:By p M ls n K fun w=>w.withFollow row false)(h1:By p M ls n K fun w=>w.withFollow row true)
  (hY:(fun w T d k os=>Yf (ou ls n K w T d k os))=fun w _ _ _ _=>Ya w)
  (hl:(fun w T d k os=>staticsOk (importedModules p.main.body) (boot_heap w.params) (ou ls n K w T d k os).heap && namesBound p (ou ls n K w T d k os).heap && gensDone (ou ls n K w T d k os) && laidKept (boot_heap w.params) (ou ls n K w T d k os).heap)=fun _ _ _ _ _=>true)
  (hs1:(fun w T d k os=>(fun x=>(x.1,x.2.1,x.2.2.2.1,x.2.2.2.2.1)) (Fast.tw4187177175401517315 q loose (importedModules p.main.body) Xt true (ou ls n K w T d k os)))=fun _ _ _ _ _=>((⟨(Fast.tw3399658132070893891 q).map fun d=>some d.shape,true,[],true,true,true,0⟩:Seen),bltViewBooted,true,((Fast.tw3247288618530077131 q).map fun d=>some d.1.shape,true)))
  (Wb:(fun w T d k os=>(Fast.tw4187177175401517315 q loose (importedModules p.main.body) Xt true (ou ls n K w T d k os)).2.2.1)=fun _ _ _ _ _=>true)
  (Zk:(fun w T d k os=>(fun x=>x.2.2.2.2.2) (Fast.tw4187177175401517315 q loose (importedModules p.main.body) Xt true (ou ls n K w T d k os)))=fun _ _ _ _ _=>((Fast.tw210736558901404530 q (Fast.tw821141287760084731 q loose)).map fun c=>some c.withCmp.plainShape,plainGoodD q loose,((Fast.tw694669760492028198 q).map fun d=>some d.1.shape,true),clsGoodW q loose)):
  LeftO p q loose Xt Yf Ya N true:=fun w=>by
 have hA:∀w,(fun os=>(Si denote stepT treeTable Heap.nsMap p M w os).map fun s=>(s.tree.list s.n,s.life,s.gens))=
   fun os=>some (((Si denote stepT treeTable Heap.nsMap p M w os).map fun s=>(mix (boot_heap w.params).objs.toList s.tree ls n 0 (K w.params),(boot_heap w.params).life,(#[] :Array GenState))).getD ([],{},#[])):=by
  unfold By at h0 h1
  rw [←Fast.te10156331382660048174,←Fast.te11892475500146522536,←Fast.te14364793385576792824,←Fast.te8920871248978507458] at h0 h1
  exact byRow2 row (congrFun h0) (congrFun h1)
 rw [←Fast.te4187177175401517315] at hs1 Wb Zk
 rw [←Fast.te3399658132070893891,←Fast.te3247288618530077131] at hs1
 rw [←Fast.te210736558901404530,←Fast.te821141287760084731,←Fast.te694669760492028198] at Zk
 obtain ⟨⟨h0,gs,d,k,os⟩,e,e'⟩:=Option.map_eq_some_iff.mp (boot_open hb hN hf w)
 simp only [Prod.mk.injEq] at e'
 obtain ⟨rfl,rfl,rfl,rfl⟩:=e'
 have hw:=congrFun (hA w) os
 obtain ⟨s,hs,ZP⟩:=Option.map_eq_some_iff.mp hw
 rw [hs] at ZP
 simp only [Option.map_some,Option.getD_some,Prod.mk.injEq] at ZP
 obtain ⟨i1,i2,i3⟩:=ZP
 have qW:s.abs=ou ls n K w s.tree s.drawn s.toks s.os:=by
  unfold SharedT.abs absHeap ou
  rw [i1,i2,i3]
 unfold Si at hs
 cases hi:tu (boot_heap w.params).objs.toList .nil 0 with
 |none=>rw [hi] at hs;cases hs
 |some x=>
  obtain ⟨T,z⟩:=x
  cases hn:(boot_heap w.params).isNs mainGlobals with
  |false=>rw [hi,hn] at hs;cases hs
  |true=>
   rw [hi,hn] at hs
   have ha:=KC (life:=(boot_heap w.params).life) hi
   have hz:z=(boot_heap w.params).objs.size:=by
    have:=congrArg (fun h=>h.objs.size) ha
    simp only [absHeap_size] at this
    simpa using this
   have r:=L9 hs
   have r:=topRun_mono (N - M) _ _ _ _ r
   rw [Nat.add_sub_cancel' (Nat.le_of_ble_eq_true le)] at r
   have e0:(⟨T,z,(boot_heap w.params).life,#[],boot_drawn,boot_toks,os⟩:SharedT).abs=⟨boot_heap w.params,#[],boot_drawn,boot_toks,os⟩:=by
    unfold SharedT.abs
    dsimp only
    rw [ha]
   rw [e0,hz] at r
   have l1:=congrFun (congrFun (congrFun (congrFun (congrFun hl w) s.tree) s.drawn) s.toks) s.os
   have l2:=congrFun (congrFun (congrFun (congrFun (congrFun hs1 w) s.tree) s.drawn) s.toks) s.os
   have l3:=congrFun (congrFun (congrFun (congrFun (congrFun Wb w) s.tree) s.drawn) s.toks) s.os
   have l4:=congrFun (congrFun (congrFun (congrFun (congrFun Zk w) s.tree) s.drawn) s.toks) s.os
   have l5:=congrFun (congrFun (congrFun (congrFun (congrFun hY w) s.tree) s.drawn) s.toks) s.os
   dsimp only at l1 l2 l3 l4 l5
   rw [←qW] at l1 l2 l3 l4 l5
   have l6:openSeen q loose (importedModules p.main.body) Xt true s.abs=openGood q loose:=by
    obtain ⟨a1,a⟩:=Prod.mk.inj l2
    obtain ⟨a2,a⟩:=Prod.mk.inj a
    obtain ⟨a4,a5⟩:=Prod.mk.inj a
    exact Prod.ext a1 (Prod.ext a2 (Prod.ext l3 (Prod.ext a4 (Prod.ext a5 l4))))
   have t:topFrom treeTable p w N ⟨boot_heap w.params,#[],boot_drawn,boot_toks,os⟩=some s.abs:=by
    simp only [topFrom,hn,r,Array.size_empty,beq_self_eq_true,Bool.and_self,Option.bind_some,l1]
   rw [openEnds,e,Option.bind_some,t,Option.map_some,l6,l5]
end Rl
open PySem PySem.W PyProof.Rows
set_option Elab.async false
set_option linter.all false
set_option maxRecDepth 100000
set_option maxHeartbeats 0
namespace Ja
open Rl
section
local macro_rules| `(tactic|o_headS $_)=> `(tactic|assumption)
theorem hk (h:PySem.Challenge.rw_relayleases_s01_answers.Holds):PySem.Challenge.rw_relayleases_s01_answers.Holds:=by
 w_on;k_headS
end
abbrev pw:=PySem.Challenge.pw_relayleases_s01_answers
def vw:Program:=view pw ((List.range 108).filter fun i=> ![0,23,46,56,66,96,103].contains i)
abbrev lo:List Str:= ["CALLS","RANGES","NUMBERS"]
abbrev Xw:Shared→Bool:=fun s=>xlAt vw [] s && recOk [] s
abbrev ls:List Nat:= [11,12,13,14,15,16,17,18,19,20,21,34,35,36,37,38,39,40,41,42,55,56,57,58,59,60,61,62,63,76,77,78,79,80,81,82,83,84,97,98,486,528]
theorem g0:By pw 4300 ls 574 hk.heap_1 fun w=>w.withFollow "special-get-raises" false:=by unfold By;kernel_rfl
theorem g1:By pw 4300 ls 574 hk.heap_1 fun w=>w.withFollow "special-get-raises" true:=by unfold By;kernel_rfl
def as:List Nat:= [2,3,22,24,25,27,28,29,30,31,32,33,43,45,46,48,49,50,51,52,53,54,64,66,67,69,70,71,72,73,74,75,85,87,88,90,91,92,93,94,95,96,99,101,102,104,105,106,107,109,110,112,113,114,116,117,119,120,121,123,124,126,127,128,130,131,133,134,135,137,138,140,141,142,144,145,147,148,149,151,152,154,155,156,158,159,161,162,163,165,166,168,169,170,172,173,175,176,177,179,180,182,183,184,187,188,189,191,192,194,195,196,198,199,201,202,203,205,206,208,209,210,212,213,215,216,217,219,220,222,223,224,226,227,229,230,231,233,234,236,237,238,240,241,243,244,245,247,248,250,251,252,254,255,257,258,259,261,262,264,265,266,268,269,271,272,273,275,276,278,279,280,282,283,285,286,287,288,289,290,292,293,295,296,297,299,300,302,303,304,306,307,309,310,311,313,314,316,317,318,321,322,323,325,326,328,329,330,333,334,335,337,338,340,341,342,344,345,347,348,349,351,352,354,355,356,358,359,361,362,363,365,366,368,369,370,372,373,375,376,377,379,380,382,383,384,386,387,389,390,391,393,394,396,397,398,400,401,403,404,405,407,408,410,411,412,414,415,417,418,419,421,422,424,425,426,428,429,431,432,433,435,436,438,439,440,443,444,445,447,448,450,451,452,454,455,457,458,459,461,462,464,465,466,468,469,471,472,473,476,477,478,480,481,483,484,485,487,489,490,492,493,494,495,496,497,498,499,500,501,502,503,504,505,506,507,508,509,510,511,512,513,514,515,516,517,518,519,520,521,522,523,524,525,526,527,529,530,531,532,533,534,536,537,539,540,541,544,545,546,548,549,551,552,553,555,556,558,559,560,562,563,565,566,567,569,570,572,573]
theorem g2:(fun w T d k os=>as.map (ou ls 574 hk.heap_1 w T d k os).heap.get?)=fun w _ _ _ _=>(hk.heap_1 w.params).map fun p=>some p.2:=by kernel_rfl
theorem g3:(fun w T d k os=>staticsOk (importedModules pw.main.body) (boot_heap w.params) (ou ls 574 hk.heap_1 w T d k os).heap && namesBound pw (ou ls 574 hk.heap_1 w T d k os).heap && gensDone (ou ls 574 hk.heap_1 w T d k os) && laidKept (boot_heap w.params) (ou ls 574 hk.heap_1 w T d k os).heap)=fun _ _ _ _ _=>true:=by kernel_rfl
theorem g4:(fun w T d k os=>(fun x=>(x.1,x.2.1,x.2.2.2.1,x.2.2.2.2.1)) (Fast.tw4187177175401517315 vw lo (importedModules pw.main.body) Xw true (ou ls 574 hk.heap_1 w T d k os)))=fun _ _ _ _ _=>((⟨(Fast.tw3399658132070893891 vw).map fun d=>some d.shape,true,[],true,true,true,0⟩:Seen),bltViewBooted,true,((Fast.tw3247288618530077131 vw).map fun d=>some d.1.shape,true)):=by kernel_rfl
theorem g5:(fun w T d k os=>(Fast.tw4187177175401517315 vw lo (importedModules pw.main.body) Xw true (ou ls 574 hk.heap_1 w T d k os)).2.2.1)=fun _ _ _ _ _=>true:=by kernel_rfl
theorem g6:(fun w T d k os=>(fun x=>x.2.2.2.2.2) (Fast.tw4187177175401517315 vw lo (importedModules pw.main.body) Xw true (ou ls 574 hk.heap_1 w T d k os)))=fun _ _ _ _ _=>((Fast.tw210736558901404530 vw (Fast.tw821141287760084731 vw lo)).map fun c=>some c.withCmp.plainShape,plainGoodD vw lo,((Fast.tw694669760492028198 vw).map fun d=>some d.1.shape,true),clsGoodW vw lo):=by kernel_rfl
noncomputable abbrev Bk:Hook:=kHook hk.heap_1 as (fun _=>by kernel_rfl)
end Ja
theorem PySem.Challenge.cw_relayleases_s01_answers_holds : PySem.Challenge.rw_relayleases_s01_answers.Holds := by
 refine holds_os (q:=Ja.vw) (loose:=Ja.lo) (Xt:=Ja.Xw) (XP:=XL Ja.vw []) (Yf:=Hook.obs Ja.Bk) (Ya:=Hook.val Ja.Bk) (YP:=Hook.says Ja.Bk) (N:=8656)
  (Rl.UU "special-get-raises" (by kernel_rfl) rfl (fun s=>rfl) rfl Ja.g0 Ja.g1 Ja.g2 Ja.g3 Ja.g4 Ja.g5 Ja.g6)
  (Hook.of Ja.Bk) (Hook.keeps Ja.Bk) (fun s e=>xl_of s (Bool.and_eq_true_iff.mp e).1) XL.keeps (by rfl) (by rfl) (by rfl) (fun s e=>recFacts_of (Bool.and_eq_true_iff.mp e).2) os_shapes (by decide +kernel) (by decide +kernel) ⟨rfl,rfl,rfl,rfl,rfl,by decide +kernel⟩
  ⟨[.list [.int 0,.int 3,.int 1,.int 1,.int 0,.int 0]],by decide +kernel,by decide +kernel⟩ ?_
 k_fillS
 refine L2.Jv (r:=PySem.Challenge.rw_relayleases_s01_answers) (k:=41) (CX:=L2.fe) (ps:= ["calls"]) (sp:=Rl.VJ) (by decide +kernel) rfl rfl ⟨rfl,by decide,by decide⟩ (fun w h Y=>PySem.W.kIn_of Y) ?F ?S (fun _ _ _ _ z=>z)
 case F=>
  intro w mg fa h Y KX G hmg
  have T:∃t,Rl.Txt (L2.KOf KX) mg t:=by
   dsimp only [L2.KOf]
   refine' Rl.Xg KX G ?_ ?_ ?_ ?_ ?_ ?_ ?_ ?_ ?_ ?_ ?_ ?_ ?_ ?_ ?_ ?_ ?_ ?_ ?_ ?_ ?_ ?_ ?_ ?_ ?_ ?_ ?_ ?_ ?_ ?_ ?_ ?_ ?_ ?_ ?_ ?_ ?_ ?_ ?_ ?_ ?_ ?_ ?_ ?_ ?_ ?_ ?_ ?_ ?_ ?_ ?_ ?_ ?_ ?_ ?_ ?_ ?_ ?_ ?_ ?_ ?_ ?_ ?_ ?_ ?_ ?_ ?_ ?_ ?_ ?_ ?_ ?_ ?_ ?_ ?_ ?_ ?_ ?_ ?_ ?_ ?_ ?_ ?_ ?_ ?_ ?_ ?_ ?_ ?_ ?_ ?_ ?_ ?_ ?_ ?_ ?_ ?_ ?_ ?_ ?_ ?_ ?_ ?_ ?_ ?_ ?_ ?_ ?_ ?_ ?_ ?_ ?_ ?_ ?_ ?_ ?_ ?_ ?_ ?_ ?_ ?_ ?_ ?_ ?_ ?_ ?_ ?_ ?_ ?_ ?_ ?_ ?_ ?_ ?_ ?_ ?_ ?_ ?_ ?_ ?_ ?_ ?_ ?_ ?_ ?_ ?_ ?_ ?_ ?_ ?_ ?_ ?_ ?_ ?_ ?_ ?_ ?_ ?_ ?_ ?_ ?_ ?_ ?_ ?_ ?_ ?_ ?_ ?_ ?_ ?_ ?_ ?_ ?_ ?_ ?_ ?_ ?_ ?_ ?_ ?_ ?_ ?_ ?_ ?_ ?_ ?_ ?_ ?_ ?_ ?_ ?_ ?_ ?_ ?_ ?_ ?_ ?_ ?_ ?_ ?_ ?_ ?_ ?_ ?_ ?_ ?_ ?_ ?_ ?_ ?_ ?_ ?_ ?_ ?_ ?_ ?_ ?_ ?_ ?_ ?_ ?_ ?_ ?_ ?_ ?_ ?_ ?_ ?_ ?_ ?_ ?_ ?_ ?_ ?_ ?_ ?_ ?_ ?_ ?_ ?_ ?_ ?_ ?_ ?_ ?_ ?_ ?_ ?_ ?_ ?_ ?_ ?_ ?_ ?_ ?_ ?_ ?_ ?_ ?_ ?_ ?_ ?_ ?_ ?_ ?_ ?_ ?_ ?_ ?_ ?_ ?_ ?_ ?_ ?_ ?_ ?_ ?_ ?_ ?_ ?_ ?_ ?_ ?_ ?_ ?_ ?_ ?_ ?_ ?_ ?_ ?_ ?_ ?_ ?_ ?_ ?_ ?_ ?_ ?_ ?_ ?_ ?_ ?_ ?_ ?_ ?_ ?_ ?_ ?_ ?_ ?_ ?_ ?_ ?_ ?_ ?_ ?_ ?_ ?_ ?_ ?_ ?_ ?_ ?_ ?_ ?_ ?_ ?_ ?_ ?_ ?_ ?_ ?_ ?_ ?_ ?_ ?_ ?_ ?_ ?_ ?_ ?_ ?_ ?_ ?_ ?_ ?_ ?_ ?_ ?_ ?_ ?_ ?_ ?_ ?_ ?_ ?_ ?_ ?_ ?_ ?_ ?_ ?_ ?_ ?_ ?_ ?_ ?_ ?_ ?_ ?_ ?_ ?_ ?_ ?_ ?_ ?_ ?_ ?_ ?_ ?_ ?_ ?_ ?_ ?_ ?_ ?_ ?_ ?_ ?_ ?_ ?_ ?_ ?_ ?_ ?_ ?_ ?_ ?_ ?_ ?_ ?_ ?_ ?_ ?_ ?_ ?_ ?_ ?_ ?_ ?_ ?_ ?_ ?_ ?_ ?_ ?_ ?_ ?_ ?_ ?_ ?_ ?_ ?_ ?_ ?_
   all_goals (try first|k_is|decide)
  obtain ⟨t,T⟩:=T
  have e0:=hmg.symm.trans T.Dq
  cases e0
  exact ⟨t.kg,Rl.Gj T,fun base kb nb=>Rl.Km Rl.Gi T⟩
 case S=>
  intro K H xs a hO Zn Kn hx
  cases hx with
  |cons h1 h2=>
   cases h2
   cases h1 with
   |lst hs ha=>
    have e:=L2.K4 a.1 _ ha
    subst e
    exact ⟨_,a.1,rfl,hs,Kn,fun H' p _ hp _=> .lst (L2.cK.of hp) (L2.K3 _)⟩
