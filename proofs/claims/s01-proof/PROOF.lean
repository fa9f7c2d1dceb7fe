import PyProof.Rows.All
import Wide.All
import OpenK.AllK
import Wide.FinOn
import PyProof.EqAt
import PyProof.EqKinds
import PyProof.TupleCall
import KE.BitLaws
import Open.SpecLaws
import KE.OsHead
import KE.OsGo
import KE.KDictSum
import KE.KSortRegAny
import KE.KSortedAny
import PyWideLaws
import KE.KSortTupG
import PySem.Challenge.RW_relayleases_s01_answers
import PyVbcnag
set_option Elab.async false
set_option linter.all false
set_option maxRecDepth 100000
namespace L2
open PySem PySem.Spec PyProof.Rows
abbrev Key:=Sum Int Str
def yS:Key→Value→Bool
 | .inl k,v=>Value.isInt k v
 | .inr x,v=>Value.isStrOf x v
def aaR (w:World):Key→Int
 | .inl k=>hashInt k
 | .inr x=>hashStr w x
theorem cY:∀ {k:Key}{v:Value},yS k v=true→(∃i t,k=Sum.inl i∧v=Value.int i t)∨(∃x t,k=Sum.inr x∧v=Value.str x t)
 | .inl i,v,h=>by
  obtain ⟨t,e⟩:=Value.isInt_shape (k:=i) (v:=v) h
  exact .inl ⟨i,t,rfl,e⟩
 | .inr x,v,h=>by
  obtain ⟨t,e⟩:=Value.isStrOf_shape (x:=x) (v:=v) h
  exact .inr ⟨x,t,rfl,e⟩
theorem Gx (i:Int)(t:Tok):yS (.inl i) (.int i t)=true:=by simp [yS,Value.isInt]
theorem Gy (x:Str)(t:Tok):yS (.inr x) (.str x t)=true:=by simp [yS,Value.isStrOf]
theorem NV (a b:Int):decide ((Sum.inl a:Key)=Sum.inl b)=(a==b):=by
 by_cases e:a=b
 ·subst e;simp
 ·have h:¬ (Sum.inl a:Key)=Sum.inl b:=fun q=>e (Sum.inl.inj q)
  rw [decide_eq_false h]
  exact (beq_eq_false_iff_ne.mpr e).symm
theorem NW (a b:Str):decide ((Sum.inr a:Key)=Sum.inr b)=decide (a=b):=by
 by_cases e:a=b
 ·subst e;simp
 ·have h:¬ (Sum.inr a:Key)=Sum.inr b:=fun q=>e (Sum.inr.inj q)
  rw [decide_eq_false h,decide_eq_false e]
theorem NX (a:Int)(b:Str):decide ((Sum.inl a:Key)=Sum.inr b)=false:=decide_eq_false (fun q=>nomatch q)
theorem NY (a:Str)(b:Int):decide ((Sum.inr a:Key)=Sum.inl b)=false:=decide_eq_false (fun q=>nomatch q)
def bw (prog:Program)(w:World):PySem.KeyKind prog w Key where
 is:=yS
 hash:=aaR w
 inj:=fun v a b ha hb=>by
  rcases cY ha with ⟨i,t,rfl,rfl⟩|⟨x,t,rfl,rfl⟩
  ·rcases cY hb with ⟨j,u,rfl,e⟩|⟨y,u,rfl,e⟩
   ·injection e with e1 _;rw [e1]
   ·exact nomatch e
  ·rcases cY hb with ⟨j,u,rfl,e⟩|⟨y,u,rfl,e⟩
   ·exact nomatch e
   ·injection e with e1 _;rw [e1]
 byValue:=fun k v h=>by
  rcases cY h with ⟨i,t,rfl,rfl⟩|⟨x,t,rfl,rfl⟩ <;>rfl
 pyHash:=fun hv h=>by
  rcases cY hv with ⟨i,t,rfl,rfl⟩|⟨x,t,rfl,rfl⟩
  ·exact wpAny_pyHash_int h
  ·exact wpAny_pyHash_str h
 eqBool:=fun hu hv h=>by
  rcases cY hu with ⟨i,t,rfl,rfl⟩|⟨x,t,rfl,rfl⟩
  ·rcases cY hv with ⟨j,u,rfl,rfl⟩|⟨y,u,rfl,rfl⟩
   ·rw [NV] at h;exact wpAny_eqBool_int h
   ·rw [NX] at h;exact SeqAt.EqAt.int_str i t y u _ _ _ _ h
  ·rcases cY hv with ⟨j,u,rfl,rfl⟩|⟨y,u,rfl,rfl⟩
   ·rw [NY] at h;exact SeqAt.EqAt.str_int x t j u _ _ _ _ h
   ·rw [NW] at h;exact wpAny_eqBool_str h
 «strs»:=fun k x t v h=>by
  rcases cY h with ⟨i,u,rfl,e⟩|⟨y,u,rfl,e⟩
  ·exact nomatch e
  ·injection e with e1 _
   subst e1
   cases v <;>rfl
theorem uv (prog:Program)(w:World)(i:Int)(t:Tok):(bw prog w).is (.inl i) (.int i t)=true:=Gx i t
theorem Cb (prog:Program)(w:World)(x:Str)(t:Tok):(bw prog w).is (.inr x) (.str x t)=true:=Gy x t
end L2
namespace L2
open PySem PySem.Spec PyProof.Rows
inductive V where
 |bu|bl (b:Bool)|int (i:Int)|str (x:Str)|Cc (b:Array UInt8)|RI (b:UInt64)|ref (a:Addr)|ty (n:String)
 deriving DecidableEq
def RelV:V→Value→Prop
 | .bu,u=>u=Value.none
 | .bl b,u=>u=Value.bool b
 | .int i,u=>∃t,u=Value.int i t
 | .str x,u=>∃t,u=Value.str x t
 | .Cc b,u=>∃t,u=Value.bytes b t
 | .RI b,u=>∃t,u=Value.float b t
 | .ref a,u=>u=Value.ref a
 | .ty n,u=>u=Value.type n
abbrev Vals:List V→List Value→Prop:=Paired RelV
theorem Vals.length {xs:List V}{us:List Value}(r:Vals xs us):xs.length=us.length:=Paired.length r
theorem Vals.get:∀ {xs:List V}{us:List Value}{i:Nat}{x:V},Vals xs us→xs[i]?=some x→∃u,us[i]?=some u∧RelV x u
 |_,_,_,_,.nil,e=>by simp at e
 |_,_,0,_,.cons r _,e=>by simp at e;subst e;exact ⟨_,rfl,r⟩
 |_,_,i + 1,x,.cons _ t,e=>by
  obtain ⟨u,h1,h2⟩:=Vals.get (i:=i) (x:=x) t (by simpa using e)
  exact ⟨u,by simpa using h1,h2⟩
theorem Vals.set {x:V}{u:Value}(r:RelV x u):∀ {xs:List V}{us:List Value}(i:Nat),Vals xs us→Vals (xs.set i x) (us.set i u)
 |_,_,_,.nil=> .nil
 |_,_,0,.cons _ t=> .cons r t
 |_,_,i + 1,.cons q t=> .cons q (Vals.set r i t)
theorem Vals.append:∀ {xs ys:List V}{us ws:List Value},Vals xs us→Vals ys ws→Vals (xs ++ ys) (us ++ ws)
 |_,_,_,_,.nil,s=>s
 |_,_,_,_,.cons r t,s=> .cons r (Vals.append t s)
theorem Vals.take:∀ {xs:List V}{us:List Value}(n:Nat),Vals xs us→Vals (xs.take n) (us.take n)
 |_,_,0,_=> .nil
 |_,_,_ + 1,.nil=> .nil
 |_,_,n + 1,.cons r t=> .cons r (Vals.take n t)
theorem Vals.drop:∀ {xs:List V}{us:List Value}(n:Nat),Vals xs us→Vals (xs.drop n) (us.drop n)
 |_,_,0,r=>r
 |_,_,_ + 1,.nil=> .nil
 |_,_,n + 1,.cons _ t=>Vals.drop n t
def pw:Option V→Option Value→Prop
 |some v,some u=>RelV v u
 |none,none=>True
 |_,_=>False
def KV {κ:Type}:List (κ×V)→List (κ×Value)→Prop:=Paired fun (p:κ×V) (q:κ×Value)=>p.1=q.1∧RelV p.2 q.2
def kV:Key→V
 | .inl i=> .int i
 | .inr x=> .str x
inductive HO where
 |lst (xs:List V)
 |tup (xs:List V)
 |dK (kvs:List (Key×V))|dT (kvs:List (List Key×V))
 |set (S:Int→Bool) (n:Nat)
 |ins (C dx:Addr) (fs:List (Str×V))
 |own (x:Addr)
 |xd (fs:List (Str×V))
 |met (f x:Addr)
 |rng (lo hi:Int)
 |iw (o:Obj) (u:HO)
 |NZ (ps:Array Value)
 |ext (φ:Heap→Prop)
abbrev Hp:=Addr→Option HO
def upd (H:Hp)(a:Addr)(o:HO):Hp:=fun b=>if b=a then some o else H b
theorem ab {H:Hp}{a:Addr}{o:HO}:upd H a o a=some o:=by unfold upd;rw [if_pos rfl]
theorem az {H:Hp}{a b:Addr}{o:HO}(h:b≠a):upd H a o b=H b:=by unfold upd;rw [if_neg h]
theorem bS {H:Hp}{a:Addr}{o u:HO}:upd (upd H a o) a u=upd H a u:=by
 funext b;unfold upd;split <;>rfl
theorem aW {H:Hp}{a b:Addr}{o u:HO}(h:H a=some o)(h':H b=some u)(d:o≠u):a≠b:=by
 intro e;subst e;rw [h] at h';exact d (Option.some.inj h')
theorem aF {H:Hp}{a b:Addr}{o:HO}(h:H a=some o)(h':H b=none):a≠b:=by
 intro e;subst e;rw [h] at h';cases h'
section
variable (P:Program)(w:World)
def df (H:Hp)(h:Heap)(a:Addr):HO→Prop
 | .lst xs=>xs.length≤sizeLine∧∃ (aV:List Value)(n:Nat),Vals xs aV∧h.get? a=some {cls:= .type "list",data:= .seq aV.toArray n}
 | .tup xs=>xs.length≤sizeLine∧∃aV:List Value,Vals xs aV∧IsTup h a aV.toArray
 | .dK kvs=>kvs.length≤sizeLine∧(a==sysModules)=false∧∃vs,KV kvs vs∧h.DictOf (bw P w) a vs
 | .dT kvs=>kvs.length≤sizeLine∧(a==sysModules)=false∧∃xs:List (List Key×Addr×Value),
   Paired (fun (p:List Key×V) (q:List Key×Addr×Value)=>p.1=q.1∧H q.2.1=some (.tup (p.1.map kV))∧RelV p.2 q.2.2) kvs xs∧
   ∃o es ep,h.get? a=some o∧o.ExactDict∧o.data= .dict es ep∧es.toList=xs.map (entryOfKey (tupleKind (bw P w)))∧(xs.map (·.1)).Nodup
 | .set S n=>h.SetOf (intKind P w) a S n
 | .ins C dx fs=>H dx=some (.own a)∧fs.length≤1000∧dx≠a∧h.get? a=some (PySem.W.instObj C dx)∧
   ∃mA,h.Ns1 dx mA∧(∀f,pw (fs.lookup f) (mA f))∧PySem.Within mA (fs.map (·.1))
 | .own _=>∃o,h.get? a=some o
 | .xd fs=>∃mA,h.Ns1 a mA∧∀f,pw (fs.lookup f) (mA f)
 | .rng lo hi=>∃t u v,h.get? a=some {cls:= .type "range",data:= .fields #[.int lo t,.int hi u,.int 1 v] }
 | .iw o u=>h.get? a=some o∧df H h a u
 | .NZ ps=>h.get? a=some {cls:= .none,data:= .fields ps}
 | .met f x=>h.get? a=some (PySem.W.methodObj (.ref f) (.ref x))
 | .ext φ=>φ h∧(∃o,h.get? a=some o)∧∀h1 h2:Heap,φ h1→(∀o,h1.get? a=some o→h2.get? a=some o)→φ h2
def mL (H:Hp)(h:Heap):Prop:=∀a o,H a=some o→df P w H h a o
end
section
variable {P:Program}{w:World}{H H':Hp}{h h':Heap}{a:Addr}{o:HO}
theorem df.lt (x:df P w H h a o):a < h.objs.size:=by
 cases o with
 |lst xs=>obtain ⟨_,_,_,_,e⟩:=x;exact Heap.lt_size e
 |tup xs=>obtain ⟨_,_,_,p⟩:=x;exact p.lt
 |dK kvs=>obtain ⟨_,_,_,_,o,_,_,e,_⟩:=x;exact Heap.lt_size e
 |dT kvs=>obtain ⟨_,_,_,_,o,_,_,e,_⟩:=x;exact Heap.lt_size e
 |set S n=>obtain ⟨o,_,_,_,e,_⟩:=x;exact Heap.lt_size e
 |ins C dx fs=>obtain ⟨_,_,_,e,_⟩:=x;exact Heap.lt_size e
 |own y=>obtain ⟨_,e⟩:=x;exact Heap.lt_size e
 |xd fs=>obtain ⟨_,⟨_,_,_,e,_⟩,_⟩:=x;exact Heap.lt_size e
 |rng lo hi=>obtain ⟨_,_,_,e⟩:=x;exact Heap.lt_size e
 |iw ob u=>obtain ⟨e,_⟩:=x;exact Heap.lt_size e
 |NZ ps=>exact Heap.lt_size (show h.get? a=some _ from x)
 |met f y=>exact Heap.lt_size (show h.get? a=some _ from x)
 |ext φ=>obtain ⟨_,⟨_,e⟩,_⟩:=x;exact Heap.lt_size e
theorem Paired.bV {α β:Type}{F G:α→β→Prop}:∀ {l₁:List α}{l₂:List β},Paired F l₁ l₂→(∀a b,F a b→G a b)→Paired G l₁ l₂
 |_,_,.nil,_=> .nil
 |_,_,.cons r t,f=> .cons (f _ _ r) (Paired.bV t f)
theorem df.ye (x:df P w H h a o)(k:∀b u,(b=a∨H b=some (.own a))→h.get? b=some u→h'.get? b=some u)
  (ho:∀b,H b=some (.own a)→H' b=some (.own a))(ht:∀b xs,H b=some (.tup xs)→H' b=some (.tup xs)):df P w H' h' a o:=by
 induction o with
 |lst xs=>obtain ⟨z,aV,n,r,e⟩:=x;exact ⟨z,aV,n,r,k _ _ (.inl rfl) e⟩
 |tup xs=>obtain ⟨z,aV,r,ob,e,c⟩:=x;exact ⟨z,aV,r,ob,k _ _ (.inl rfl) e,c⟩
 |dK kvs=>obtain ⟨z,y,vs,r,ob,es,ep,e,c⟩:=x;exact ⟨z,y,vs,r,ob,es,ep,k _ _ (.inl rfl) e,c⟩
 |dT kvs=>
  obtain ⟨z,y,xs,r,ob,es,ep,e,c⟩:=x
  exact ⟨z,y,xs,Paired.bV r fun p q z=>⟨z.1,ht _ _ z.2.1,z.2.2⟩,ob,es,ep,k _ _ (.inl rfl) e,c⟩
 |set S n=>obtain ⟨ob,es,ep,t,e,c⟩:=x;exact ⟨ob,es,ep,t,k _ _ (.inl rfl) e,c⟩
 |ins C dx fs=>
  obtain ⟨d,z,ne,e,mA,⟨od,es,ep,e2,c⟩,r⟩:=x
  exact ⟨ho _ d,z,ne,k _ _ (.inl rfl) e,mA,⟨od,es,ep,k _ _ (.inr d) e2,c⟩,r⟩
 |own y=>obtain ⟨ob,e⟩:=x;exact ⟨ob,k _ _ (.inl rfl) e⟩
 |xd fs=>obtain ⟨mA,⟨od,es,ep,e,c⟩,r⟩:=x;exact ⟨mA,⟨od,es,ep,k _ _ (.inl rfl) e,c⟩,r⟩
 |rng lo hi=>obtain ⟨t,u,v,e⟩:=x;exact ⟨t,u,v,k _ _ (.inl rfl) e⟩
 |iw ob u ih=>obtain ⟨e,q⟩:=x;exact ⟨k _ _ (.inl rfl) e,ih q⟩
 |NZ ps=>
  have e:h.get? a=some {cls:= .none,data:= .fields ps}:=x
  show h'.get? a=some {cls:= .none,data:= .fields ps}
  exact k a _ (.inl rfl) e
 |met f y=>
  have e:h.get? a=some (PySem.W.methodObj (.ref f) (.ref y)):=x
  show h'.get? a=some (PySem.W.methodObj (.ref f) (.ref y))
  exact k a _ (.inl rfl) e
 |ext φ=>obtain ⟨p,⟨o,e⟩,st⟩:=x;exact ⟨st _ _ p fun o q=>k _ _ (.inl rfl) q,⟨o,k _ _ (.inl rfl) e⟩,st⟩
theorem mL.lt (x:mL P w H h)(e:H a=some o):a < h.objs.size:=(x a o e).lt
theorem mL.fresh (x:mL P w H h)(e:h.objs.size≤a):H a=none:=by
 cases q:H a with
 |none=>rfl
 |some u=>exact absurd (Nat.lt_of_lt_of_le (x.lt q) e) (Nat.lt_irrefl _)
theorem mL.kept (x:mL P w H h)(k:∀b u,h.get? b=some u→h'.get? b=some u):mL P w H h':=fun a o e=>
 (x a o e).ye (fun b u _ q=>k b u q) (fun _ q=>q) fun _ _ q=>q
theorem mL.laid (x:mL P w H h)(k:∀b u,h.get? b=some u→h'.get? b=some u)(hp:h.objs.size≤a)(new:df P w (upd H a o) h' a o):mL P w (upd H a o) h':=fun b u e=>by
 have hn:=x.fresh hp
 by_cases hb:b=a
 ·subst hb;rw [ab] at e;cases e;exact new
 ·rw [az hb] at e
  exact (x b u e).ye (fun c v _ q=>k c v q) (fun c q=>by rw [az (aF q hn)];exact q) fun c xs q=>by rw [az (aF q hn)];exact q
end
def Rd (H:Hp)(a:Addr)(u:HO):Prop:=H a=some u∨∃o,H a=some (.iw o u)
theorem Rd.ok {P:Program}{w:World}{H:Hp}{h:Heap}{a:Addr}{u:HO}(r:Rd H a u)(x:mL P w H h):df P w H h a u:=by
 rcases r with r|⟨o,r⟩
 ·exact x a u r
 ·obtain ⟨_,q⟩:=x a _ r
  exact q
def Nb:Option HO→Prop
 |some (.lst _)=>True
 |some (.dK _)=>True
 |some (.dT _)=>True
 |some (.set _ _)=>True
 |some (.ins _ _ _)=>True
 |some (.ext _)=>True
 |_=>False
section
variable {P:Program}{w:World}{H:Hp}{h h':Heap}{x e:Addr}{o':HO}
theorem mL.write (ok:mL P w H h)(mu:Nb (H x))(he:e=x∨H e=some (.own x))(k:∀b u,b≠e→h.get? b=some u→h'.get? b=some u)(Q7:∃u,h'.get? e=some u)
  (new:df P w (upd H x o') h' x o'):mL P w (upd H x o') h':=fun b u q=>by
 have RJ:∀c y,H c=some (.own y)→c≠x:=fun c y r z=>by subst z;rw [r] at mu;exact mu
 have aaT:∀c xs,H c=some (.tup xs)→c≠x:=fun c xs r z=>by subst z;rw [r] at mu;exact mu
 by_cases hb:b=x
 ·subst hb;rw [ab] at q;cases q;exact new
 ·rw [az hb] at q
  by_cases B0:b=e
  ·have q':H b=some (.own x):=by
    rcases he with z|z
    ·exact absurd (B0.trans z) hb
    ·rw [B0];exact z
   rw [q] at q';cases q'
   obtain ⟨v,hv⟩:=Q7
   exact ⟨v,by rw [B0];exact hv⟩
  ·refine (ok b u q).ye (fun c v hc r=>k c v ?_ r) (fun c r=>by rw [az (RJ c b r)];exact r) fun c xs r=>by rw [az (aaT c xs r)];exact r
   rcases hc with rfl|hc
   ·exact B0
   ·rintro rfl
    rcases he with z|z
    ·exact RJ c b hc z
    ·rw [hc] at z;cases z;exact hb rfl
end
structure Un (fs ex:List Addr) (H H':Hp) (h h':Heap):Prop where
 keep:∀b o,h.get? b=some o→H b=none→b ∉ fs→b ∉ ex→h'.get? b=some o
 slot:∀b o,h.get? b=some o→H b=none→b∈fs→b ∉ ex→∃sl,h'.get? b=some {o with slots:=sl}
 free:∀b o,h.get? b=some o→H b=none→b ∉ ex→H' b=none
 there:∀b o,h.get? b=some o→b ∉ ex→∃o',h'.get? b=some o'
 vU:∀b xs,H b=some (.tup xs)→H' b=some (.tup xs)
 vV:∀b o u,H b=some (.iw o u)→H' b=some (.iw o u)
 z9:∀b ps,H b=some (.NZ ps)→∃more,H' b=some (.NZ (ps ++ more))
section
variable {fs Q8 ex ex':List Addr}{H H1 H2:Hp}{h h1 h2 h':Heap}{a x e:Addr}{o:HO}
theorem Un.any (u:Un fs ex H H1 h h1){b:Addr}{ob:Obj}(q:h.get? b=some ob)(n:H b=none)(hx:b ∉ ex):∃sl,h1.get? b=some {ob with slots:=sl}:=by
 by_cases hb:b∈fs
 ·exact u.slot b ob q n hb hx
 ·exact ⟨ob.slots,u.keep b ob q n hb hx⟩
theorem Un.kept (k:∀b u,h.get? b=some u→h'.get? b=some u):Un fs ex H H h h':=
 ⟨fun b ob q _ _ _=>k b ob q,fun b ob q _ _ _=>⟨ob.slots,k b ob q⟩,fun _ _ _ n _=>n,fun b ob q _=>⟨ob,k b ob q⟩,fun _ _ q=>q,fun _ _ _ q=>q,fun _ ps q=>⟨#[],by rw [q];simp⟩⟩
theorem Un.refl:Un fs ex H H h h:=Un.kept fun _ _ q=>q
theorem Un.laid (k:∀b u,h.get? b=some u→h'.get? b=some u)(hp:h.objs.size≤a)(hn:H a=none):Un fs ex H (upd H a o) h h' where
 keep:=fun b u q _ _ _=>k b u q
 slot:=fun b u q _ _ _=>⟨u.slots,k b u q⟩
 free:=fun b u q n _=>by rw [az (Nat.ne_of_lt (Nat.lt_of_lt_of_le (Heap.lt_size q) hp))];exact n
 there:=fun b u q _=>⟨u,k b u q⟩
 vU:=fun b xs q=>by rw [az (aF q hn)];exact q
 vV:=fun b u xs q=>by rw [az (aF q hn)];exact q
 z9:=fun b ps q=>⟨#[],by rw [az (aF q hn),q];simp⟩
theorem Un.write (mu:Nb (H x))(he:e=x∨H e=some (.own x))(k:∀b u,b≠e→h.get? b=some u→h'.get? b=some u)(Q7:∃u,h'.get? e=some u):Un fs ex H (upd H x o) h h':=by
 have hx:∀b,H b=none→b≠x:=fun b n z=>by subst z;rw [n] at mu;exact mu
 have hb:∀b,H b=none→b≠e:=fun b n z=>by
  subst z
  rcases he with r|r
  ·exact hx b n r
  ·rw [n] at r;cases r
 have hm:∀b u,H b=some u→¬Nb (some u)→b≠x:=fun b u q nm z=>by subst z;rw [q] at mu;exact nm mu
 refine ⟨fun b u q n _ _=>k b u (hb b n) q,fun b u q n _ _=>⟨u.slots,k b u (hb b n) q⟩,fun b u q n _=>by rw [az (hx b n)];exact n,fun b u q _=> ?_,
  fun b xs q=>by rw [az (hm b _ q fun z=>z)];exact q,fun b u xs q=>by rw [az (hm b _ q fun z=>z)];exact q,fun b ps q=>⟨#[],by rw [az (hm b _ q fun z=>z),q];simp⟩⟩
 by_cases B0:b=e
 ·subst B0;exact Q7
 ·exact ⟨u,k b u B0 q⟩
end
def Z6 (h:Heap)(H:Hp):List Addr:=(List.range h.objs.size).filter fun a=>(H a).isSome
def Aa (h:Heap)(H:Hp):Heap:=PySem.W.hideAll h (Z6 h H)
theorem Gz (h:Heap)(H:Hp):(Aa h H).objs.size=h.objs.size:=PySem.W.hideAll_size _ _
theorem IF {h:Heap}{H:Hp}{b:Addr}{o:Obj}(e:h.get? b=some o)(n:H b=none):(Aa h H).get? b=some o:=
 PySem.W.hideAll_get _ e fun hm=>by
  have q:(H b).isSome=true:=(List.mem_filter.mp hm).2
  rw [n] at q;simp at q
theorem LH {h:Heap}{H:Hp}{b:Addr}{o:Obj}(e:(Aa h H).get? b=some o):h.get? b=some o∧H b=none:=by
 have e':h.get? b=some o:=PySem.W.of_hideAll (Z6 h H) e
 refine ⟨e',?_⟩
 cases q:H b with
 |none=>rfl
 |some x=>
  have hm:b∈Z6 h H:=List.mem_filter.mpr ⟨List.mem_range.mpr (Heap.lt_size e'),by simp [q]⟩
  have z:(Aa h H).get? b=none:=PySem.W.hideAll_none (Z6 h H) hm
  rw [z] at e;cases e
end L2
namespace L2
open PySem PySem.Spec PyProof.Rows
structure Mod (K:PySem.W.Frag) (mg:Str→Option Value) (base:Heap):Prop where
 RK:K.In base
 glob:base.Ns mainGlobals mg
 blt:∃mb,base.Ns builtinsNs mb∧∀x:Str,x≠"__name__"→mb x=bootBuiltins x
 nolimit:base.NoLimit
structure Cx where
 prog:Program
 w:World
 K:PySem.W.Frag
 mg:Str→Option Value
 base:Heap
 A:Around
 N:List Str
 yT:Shared
 N0:Hp
 env:Env
 outer:List Env
 stack:List Env
 ex:List Addr
 fn:Str→Bool
 calm:Bool
 pn:List (Addr×Obj)
 xe:Value→Shared→Prop
def IG (l:List Env):List Addr:=l.filterMap (·.frame)
abbrev Cx.fs (X:Cx):List Addr:=IG X.outer
def Q9 (sc:Scope)(x:Str):Prop:=sc.names.lookup x=some .local∨sc.names.lookup x=some .cell∨sc.names.lookup x=some .free
def Loc (sc:Scope)(x:Str):Prop:=sc.names.lookup x=some .local∨sc.names.lookup x=some .cell
def Look (env:Env)(h:Heap)(m:Str→Option Value)(x:Str)(u:Value):Prop:=
 (env.kindOf x=some .local∧m x=some u)∨((env.kindOf x=some .cell∨env.kindOf x=some .free)∧∃c,env.cells.lookup x=some c∧h.IsCell c (some u))
structure Cx.Ok (X:Cx):Prop where
 mod:Mod X.K X.mg X.base
 kind:X.env.scope.kind= .function
 glob:X.env.globals=mainGlobals
 blt:X.env.builtins=builtinsNs
 above:X.yT.heap.objs.size≤X.env.locals
 inj:∀x y c,X.env.cells.lookup x=some c→X.env.cells.lookup y=some c→x=y
 has:∀x,(X.env.kindOf x=some .cell∨X.env.kindOf x=some .free)→∃c,X.env.cells.lookup x=some c
 RL:∀x c,X.fn x=true→X.env.cells.lookup x=some c→X.yT.heap.objs.size≤c
 hd:X.calm=true→X.A.handled=none
 frames:X.A.frames=some X.stack
 Z7:X.stack=X.outer∨(X.stack=X.env::X.outer∧X.env.frame=some X.env.locals)
 Z8:∀b∈X.ex,b≠X.env.locals∧∀x c,X.env.cells.lookup x=some c→c≠b
 bs:∀b o,X.base.get? b=some o→X.yT.heap.get? b=some o∧X.N0 b=none
 LI:X.base.objs.size≤X.yT.heap.objs.size
 IH:∀b o,X.base.get? b=some o→b ∉ X.ex
 II:∀b∈X.ex,b ∉ X.fs
 vj:X.yT.heap.FunFrames X.base X.outer
 N1:∀b∈X.fs,X.N0 b=none
structure Inv (X:Cx) (pins:List (Addr×Obj)) (σ:List (Option V)) (H:Hp) (s:Shared):Prop where
 ok:X.Ok
 os:s.os=X.yT.os
 bare:AllBare s.gens
 base:Un X.fs X.ex X.N0 H X.yT.heap s.heap
 loc:∃m,s.heap.Ns X.env.locals m∧∀ (i:Nat)(x:Str)(v:V),X.N[i]?=some x→σ[i]?=some (some v)→Q9 X.env.scope x→∃u,RelV v u∧Look X.env s.heap m x u
 cell:∀x c,X.env.cells.lookup x=some c→∃v,s.heap.IsCell c v
 free:H X.env.locals=none
 kI:∀x c,X.env.cells.lookup x=some c→H c=none
 pin:∀p∈X.pn ++ pins,s.heap.get? p.1=some p.2∧H p.1=none∧p.1≠X.env.locals∧p.1 ∉ X.fs∧∀v,p.2.data≠ .cell v
 bF:mL X.prog X.w H s.heap
 len:σ.length=X.N.length
section
variable {X:Cx}{pins:List (Addr×Obj)}{σ:List (Option V)}{H H':Hp}{s:Shared}{h':Heap}
theorem Cx.Ok.aaU (ok:X.Ok){b:Addr}{o:Obj}(e:X.base.get? b=some o):b ∉ X.fs:=fun hb=>by
 have:=(ok.vj.mem hb).1
 rw [e] at this;cases this
theorem Inv.bs (I:Inv X pins σ H s):∀b o,X.base.get? b=some o→s.heap.get? b=some o∧H b=none:=fun b o e=>
 ⟨I.base.keep b o (I.ok.bs b o e).1 (I.ok.bs b o e).2 (I.ok.aaU e) (I.ok.IH b o e),I.base.free b o (I.ok.bs b o e).1 (I.ok.bs b o e).2 (I.ok.IH b o e)⟩
theorem Inv.bk (I:Inv X pins σ H s):∀b o,X.base.get? b=some o→s.heap.get? b=some o:=fun b o e=>(I.bs b o e).1
theorem Inv.mod (I:Inv X pins σ H s):Mod X.K X.mg X.base:=I.ok.mod
theorem Inv.E7 (I:Inv X pins σ H s):X.K.In s.heap:=I.ok.mod.RK.keeps I.bk
theorem Inv.lt (I:Inv X pins σ H s):X.env.locals < s.heap.objs.size:=let ⟨_,hn,_⟩:=I.loc;hn.lt
theorem Inv.sz (I:Inv X pins σ H s):X.yT.heap.objs.size≤s.heap.objs.size:=Nat.le_trans I.ok.above (Nat.le_of_lt I.lt)
theorem Inv.aaV (I:Inv X pins σ H s){a:Addr}(h:s.heap.objs.size≤a):a ∉ X.fs:=fun hb=>by
 obtain ⟨_,o,ho,_⟩:=I.ok.vj.mem hb
 exact absurd (Nat.lt_of_lt_of_le (Heap.lt_size ho) (Nat.le_trans I.sz h)) (Nat.lt_irrefl _)
theorem Inv.N2 (I:Inv X pins σ H s):∀x c,X.env.cells.lookup x=some c→c≠X.env.locals:=fun x c e z=>by
 obtain ⟨v,o,ho,hd⟩:=I.cell x c e
 obtain ⟨m,⟨o',es,ep,yf,RM,_⟩,_⟩:=I.loc
 rw [z,yf] at ho;cases ho;rw [RM] at hd;cases hd
theorem Inv.vj (I:Inv X pins σ H s):s.heap.FunFrames X.base X.outer:=by
 have all:∀ (l:List Env),(∀b∈IG l,b∈X.fs)→X.yT.heap.FunFrames X.base l→s.heap.FunFrames X.base l:=by
  intro l
  induction l with
  |nil=>intro _ _;trivial
  |cons env r ih=>
   intro hs hl
   obtain ⟨hk,⟨L,o,hf,hn,ho,hd⟩,hr⟩:=hl
   have hL:L∈X.fs:=hs L (by unfold IG;rw [List.filterMap_cons,hf];exact List.mem_cons_self)
   obtain ⟨sl,e⟩:=I.base.slot L o ho (I.ok.N1 L hL) hL fun z=>I.ok.II L z hL
   exact ⟨hk,⟨L,_,hf,hn,e,hd⟩,ih (fun b hb=>hs b (by unfold IG;rw [List.filterMap_cons,hf];exact List.mem_cons_of_mem _ hb)) hr⟩
 exact all X.outer (fun _ hb=>hb) I.ok.vj
theorem Inv.stack (I:Inv X pins σ H s):s.heap.FunFrames X.base X.stack:=by
 rcases I.ok.Z7 with e|⟨e,hf⟩
 ·rw [e];exact I.vj
 ·rw [e]
  obtain ⟨m,hn,_⟩:=I.loc
  refine .cons (by rw [I.ok.kind];decide) hf hn ?_ I.vj
  exact Heap.get?_none_of_le (Nat.le_trans I.ok.LI I.ok.above)
theorem Inv.DO (I:Inv X pins σ H s):∀b∈IG X.stack,b∈X.env.locals::X.fs:=fun b hb=>by
 rcases I.ok.Z7 with e|⟨e,hf⟩
 ·rw [e] at hb;exact List.mem_cons_of_mem _ hb
 ·rw [e] at hb
  unfold IG at hb
  rw [List.filterMap_cons,hf] at hb
  exact hb
theorem Inv.E8 (I:Inv X pins σ H s):∀b∈IG X.stack,H b=none:=fun b hb=>by
 rcases List.mem_cons.mp (I.DO b hb) with e|hb
 ·rw [e];exact I.free
 ·obtain ⟨_,o,ho,_⟩:=I.ok.vj.mem hb
  exact I.base.free b o ho (I.ok.N1 b hb) fun z=>I.ok.II b z hb
theorem Inv.step {g':Array GenState}{t':Nat}{d':Drawn}{ch:List Addr}(I:Inv X pins σ H s)
  (yg:∀b∈ch,(b∈X.ex∨X.yT.heap.objs.size≤b)∧b≠X.env.locals∧(∀x c,X.env.cells.lookup x=some c→c≠b)∧∀p∈X.pn ++ pins,p.1≠b)
  (keep:∀b o,b≠X.env.locals→b ∉ X.fs→b ∉ ch→s.heap.get? b=some o→H b=none→h'.get? b=some o)
  (slot:∀b o,b≠X.env.locals→b∈X.fs→b ∉ ch→s.heap.get? b=some o→H b=none→∃sl,h'.get? b=some {o with slots:=sl})(free:∀b o,b ∉ ch→s.heap.get? b=some o→H b=none→H' b=none)
  (there:∀b o,b ∉ ch→s.heap.get? b=some o→∃o',h'.get? b=some o')
  (vU:∀b xs,H b=some (.tup xs)→H' b=some (.tup xs))(vV:∀b o u,H b=some (.iw o u)→H' b=some (.iw o u))(z9:∀b ps,H b=some (.NZ ps)→∃more,H' b=some (.NZ (ps ++ more)))
  (ns:∀m,s.heap.Ns X.env.locals m→h'.Ns X.env.locals m)(bF:mL X.prog X.w H' h')(hg:AllBare g'):
  Inv X pins σ H' {s with heap:=h',gens:=g',drawn:=d',toks:=t'}:=by
 have neL:∀b o,X.yT.heap.get? b=some o→b≠X.env.locals:=fun b o e=>Nat.ne_of_lt (Nat.lt_of_lt_of_le (Heap.lt_size e) I.ok.above)
 have Z9:∀b o,X.yT.heap.get? b=some o→b ∉ X.ex→b ∉ ch:=fun b o e hx hb=>by
  rcases (yg b hb).1 with z|z
  ·exact hx z
  ·exact absurd (Nat.lt_of_lt_of_le (Heap.lt_size e) z) (Nat.lt_irrefl _)
 have cellK:∀x c,X.env.cells.lookup x=some c→∀v,s.heap.IsCell c v→h'.IsCell c v:=fun x c e v ⟨o,ho,hd⟩=>by
  have RN:c ∉ ch:=fun z=>(yg c z).2.2.1 x c e rfl
  by_cases hc:c∈X.fs
  ·obtain ⟨sl,q⟩:=slot c o (I.N2 x c e) hc RN ho (I.kI x c e)
   exact ⟨_,q,hd⟩
  ·exact ⟨o,keep c o (I.N2 x c e) hc RN ho (I.kI x c e),hd⟩
 refine ⟨I.ok,I.os,hg,⟨fun b o e n hb hx=> ?_,fun b o e n hb hx=> ?_,fun b o e n hx=> ?_,fun b o e hx=> ?_,fun b xs e=>vU b xs (I.base.vU b xs e),fun b o xs e=>vV b o xs (I.base.vV b o xs e),fun b ps e=> ?_⟩,?_,fun x c e=> ?_,?_,fun x c e=> ?_,fun p hp=> ?_,bF,I.len⟩
 ·exact keep b o (neL b o e) hb (Z9 b o e hx) (I.base.keep b o e n hb hx) (I.base.free b o e n hx)
 ·obtain ⟨sl,e1⟩:=I.base.slot b o e n hb hx
  obtain ⟨sl',e2⟩:=slot b _ (neL b o e) hb (Z9 b o e hx) e1 (I.base.free b o e n hx)
  exact ⟨sl',e2⟩
 ·obtain ⟨o',e1⟩:=I.base.there b o e hx
  exact free b o' (Z9 b o e hx) e1 (I.base.free b o e n hx)
 ·obtain ⟨o',e1⟩:=I.base.there b o e hx
  exact there b o' (Z9 b o e hx) e1
 ·obtain ⟨m1,e1⟩:=I.base.z9 b ps e
  obtain ⟨m2,e2⟩:=z9 b _ e1
  exact ⟨m1 ++ m2,by rw [e2,Array.append_assoc]⟩
 ·obtain ⟨m,hn,hl⟩:=I.loc
  refine ⟨m,ns m hn,fun i x v e1 e2 e3=> ?_⟩
  obtain ⟨u,r,l⟩:=hl i x v e1 e2 e3
  refine ⟨u,r,?_⟩
  rcases l with l|⟨k,c,e,z⟩
  ·exact .inl l
  ·exact .inr ⟨k,c,e,cellK x c e _ z⟩
 ·obtain ⟨v,z⟩:=I.cell x c e
  exact ⟨v,cellK x c e v z⟩
 ·obtain ⟨m,⟨o,_,_,ho,_⟩,_⟩:=I.loc
  exact free _ o (fun z=>(yg _ z).2.1 rfl) ho I.free
 ·obtain ⟨v,o,ho,hd⟩:=I.cell x c e
  exact free c o (fun z=>(yg c z).2.2.1 x c e rfl) ho (I.kI x c e)
 ·obtain ⟨e,n,ne,nf,d⟩:=I.pin p hp
  have RN:p.1 ∉ ch:=fun z=>(yg p.1 z).2.2.2 p hp rfl
  exact ⟨keep p.1 p.2 ne nf RN e n,free p.1 p.2 RN e n,ne,nf,d⟩
theorem Inv.un {t':Nat}(I:Inv X pins σ H s)(u:Un X.fs [] H H' s.heap h')(bF:mL X.prog X.w H' h'):Inv X pins σ H' {s with heap:=h',toks:=t'}:=by
 obtain ⟨m,⟨o,es,ep,ho,r⟩,_⟩:=id I.loc
 obtain ⟨sl,hL⟩:=u.any ho I.free (by simp)
 exact I.step (g':=s.gens) (d':=s.drawn) (ch:= []) (fun _ z=>nomatch z) (fun b o _ hb _ e n=>u.keep b o e n hb (by simp)) (fun b o _ hb _ e n=>u.slot b o e n hb (by simp)) (fun b o _ e n=>u.free b o e n (by simp)) (fun b o _ e=>u.there b o e (by simp)) u.vU u.vV u.z9 (fun m' hm=>by
  obtain ⟨o',Lr,Iv,yf,r'⟩:=hm
  rw [ho] at yf;cases yf
  exact ⟨_,Lr,Iv,hL,r'⟩) bF I.bare
theorem Inv.call {g':Array GenState}{t':Nat}{d':Drawn}{ch:List Addr}(I:Inv X pins σ H s)(u:Un (IG X.stack) ch H H' s.heap h')(bF:mL X.prog X.w H' h')(hg:AllBare g')
  (yg:∀b∈ch,(b∈X.ex∨X.yT.heap.objs.size≤b)∧b≠X.env.locals∧(∀x c,X.env.cells.lookup x=some c→c≠b)∧∀p∈X.pn ++ pins,p.1≠b):
  Inv X pins σ H' {s with heap:=h',gens:=g',drawn:=d',toks:=t'}:=by
 obtain ⟨m,⟨o,es,ep,ho,r⟩,_⟩:=id I.loc
 obtain ⟨sl,hL⟩:=u.any ho I.free fun z=>(yg _ z).2.1 rfl
 exact I.step (ch:=ch) yg (fun b o hL hb hc e n=>u.keep b o e n (fun z=>(List.mem_cons.mp (I.DO b z)).elim hL hb) hc) (fun b o _ _ hc e n=>u.any e n hc) (fun b o hc e n=>u.free b o e n hc) (fun b o hc e=>u.there b o e hc) u.vU u.vV u.z9 (fun m' hm=>by
  obtain ⟨o',Lr,Iv,yf,r'⟩:=hm
  rw [ho] at yf;cases yf
  exact ⟨_,Lr,Iv,hL,r'⟩) bF hg
theorem Inv.turned {t':Nat}{it:Addr}(I:Inv X pins σ H s)(k:∀b o,b≠it→s.heap.get? b=some o→h'.get? b=some o)(hn:H it=none)(hL:it≠X.env.locals)
  (h1:it∈X.ex∨X.yT.heap.objs.size≤it)(h2:∀x c,X.env.cells.lookup x=some c→c≠it)(h3:∀p∈X.pn ++ pins,p.1≠it):Inv X pins σ H {s with heap:=h',toks:=t'}:=by
 have Nc:∀b u,H b=some u→b≠it:=fun b u e z=>by rw [z,hn] at e;cases e
 refine I.step (g':=s.gens) (d':=s.drawn) (ch:= [it]) (fun b hb=> ?_) (fun b o _ _ hc e _=>k b o (fun z=>hc (by simp [z])) e) (fun b o _ _ hc e _=>⟨o.slots,k b o (fun z=>hc (by simp [z])) e⟩) (fun _ _ _ _ n=>n)
  (fun b o hc e=>⟨o,k b o (fun z=>hc (by simp [z])) e⟩) (fun _ _ e=>e) (fun _ _ _ e=>e) (fun b ps e=>⟨#[],by rw [e];simp⟩) (fun m hm=> ?_) (fun b u e=> ?_) I.bare
 ·have e:b=it:=by simpa using hb
  subst e
  exact ⟨h1,hL,h2,h3⟩
 ·obtain ⟨o,es,ep,ho,r⟩:=hm
  exact ⟨o,es,ep,k _ o (Ne.symm hL) ho,r⟩
 ·refine (I.bF b u e).ye (fun c v hc q=>k c v ?_ q) (fun _ q=>q) fun _ _ q=>q
  rcases hc with z|z
  ·rw [z];exact Nc b u e
  ·exact Nc c _ z
theorem Inv.tok (I:Inv X pins σ H s)(t:Nat):Inv X pins σ H {s with toks:=t}:=I.un (h':=s.heap) (t':=t) Un.refl I.bF
theorem Inv.kept {t':Nat}(I:Inv X pins σ H s)(k:∀b u,s.heap.get? b=some u→h'.get? b=some u):Inv X pins σ H {s with heap:=h',toks:=t'}:=I.un (Un.kept k) (I.bF.kept k)
theorem Inv.laid {a:Addr}{o:HO}{t':Nat}(I:Inv X pins σ H s)(k:∀b u,s.heap.get? b=some u→h'.get? b=some u)(hp:s.heap.objs.size≤a)(new:df X.prog X.w (upd H a o) h' a o):
  Inv X pins σ (upd H a o) {s with heap:=h',toks:=t'}:=I.un (Un.laid k hp (I.bF.fresh hp)) (I.bF.laid k hp new)
theorem Inv.write {x e:Addr}{o:HO}{t':Nat}(I:Inv X pins σ H s)(mu:Nb (H x))(he:e=x∨H e=some (.own x))(k:∀b u,b≠e→s.heap.get? b=some u→h'.get? b=some u)(Q7:∃u,h'.get? e=some u)
  (new:df X.prog X.w (upd H x o) h' x o):Inv X pins σ (upd H x o) {s with heap:=h',toks:=t'}:=I.un (Un.write mu he k Q7) (I.bF.write mu he k Q7 new)
theorem Inv.weak {σ':List (Option V)}(I:Inv X pins σ H s)(hl:σ'.length=σ.length)(w:∀ (i:Nat) v,σ'[i]?=some (some v)→σ[i]?=some (some v)):Inv X pins σ' H s:=
 ⟨I.ok,I.os,I.bare,I.base,let ⟨m,hn,hl'⟩:=I.loc;⟨m,hn,fun i x v e1 e2 e3=>hl' i x v e1 (w i v e2) e3⟩,I.cell,I.free,I.kI,I.pin,I.bF,hl.trans I.len⟩
theorem Inv.E9 {Nd:List (Addr×Obj)}(I:Inv X pins σ H s)(h:∀p∈Nd,s.heap.get? p.1=some p.2∧H p.1=none∧p.1≠X.env.locals∧p.1 ∉ X.fs∧∀v,p.2.data≠ .cell v):Inv X Nd σ H s:=
 ⟨I.ok,I.os,I.bare,I.base,I.loc,I.cell,I.free,I.kI,fun p hp=>(List.mem_append.mp hp).elim (fun z=>I.pin p (List.mem_append_left _ z)) (h p),I.bF,I.len⟩
theorem vW {N:List Str}(hN:N.Nodup){i j:Nat}{x:Str}(a:N[i]?=some x)(b:N[j]?=some x):i=j:=by
 obtain ⟨h1,e1⟩:=List.getElem?_eq_some_iff.mp a
 obtain ⟨h2,e2⟩:=List.getElem?_eq_some_iff.mp b
 exact (List.getElem_inj hN).mp (e1.trans e2.symm)
theorem yU {M:Model}{A:Around}{E:Value→Shared→Prop}{i:Nat}{x:Str}{v:V}{u:Value}{Q:Unit→Shared→Prop}(I:Inv X pins σ H s)(hN:X.N.Nodup)(hi:X.N[i]?=some x)(hx:Loc X.env.scope x)(r:RelV v u)
  (h:∀s',Inv X pins (σ.set i (some v)) H s'→(∃a,Heap.SameBut a s.heap s'.heap∧(a=X.env.locals∨X.env.cells.lookup x=some a))→Q () s')(hf:X.fn x=true∨X.env.scope.names.lookup x=some .local:=by first|exact .inl rfl|exact .inr rfl|assumption):wpAny M A (storeName X.env x u) Q E s:=by
 obtain ⟨m,hn,hl⟩:=id I.loc
 have aaW:(X.env.scope.kind== .class||(X.env.scope.kind== .module && X.env.locals !=X.env.globals))=false:=by rw [I.ok.kind];rfl
 have hiσ:i < σ.length:=by rw [I.len];exact (List.getElem?_eq_some_iff.mp hi).1
 have N2:=I.N2
 have tracked:∀ {a:Addr}{h':Heap},(∃o,s.heap.get? a=some o∧H a=none)→Heap.SameBut a s.heap h'→mL X.prog X.w H h':=fun {a h'} ha hs b ob e=>by
  obtain ⟨_,_,yV⟩:=ha
  refine (I.bF b ob e).ye (fun c w' hc q=>(hs.2 c ?_).trans q) (fun _ q=>q) fun _ _ q=>q
  rintro rfl
  rcases hc with rfl|hc
  ·rw [yV] at e;cases e
  ·rw [yV] at hc;cases hc
 rcases hx with hk|hk
 ·refine wpAny_storeName_local hk hn (fun h' hn' hs=> ?_) aaW
  obtain ⟨oL,_,_,hoL,_⟩:=id hn
  refine h _ ⟨I.ok,I.os,I.bare,⟨fun b o e n hb hx=> ?_,fun b o e n hb hx=> ?_,I.base.free,fun b o e hx=> ?_,I.base.vU,I.base.vV,I.base.z9⟩,⟨_,hn',fun j y v' e1 e2 e3=> ?_⟩,fun y c e=> ?_,I.free,I.kI,fun p hp=> ?_,tracked ⟨oL,hoL,I.free⟩ hs,by simpa using I.len⟩ ⟨_,hs,.inl rfl⟩
  ·exact (hs.2 b (Nat.ne_of_lt (Nat.lt_of_lt_of_le (Heap.lt_size e) I.ok.above))).trans (I.base.keep b o e n hb hx)
  ·obtain ⟨sl,e1⟩:=I.base.slot b o e n hb hx
   exact ⟨sl,(hs.2 b (Nat.ne_of_lt (Nat.lt_of_lt_of_le (Heap.lt_size e) I.ok.above))).trans e1⟩
  ·obtain ⟨o',e1⟩:=I.base.there b o e hx
   exact ⟨o',(hs.2 b (Nat.ne_of_lt (Nat.lt_of_lt_of_le (Heap.lt_size e) I.ok.above))).trans e1⟩
  ·by_cases hj:j=i
   ·subst hj
    rw [hi] at e1;cases e1
    rw [List.getElem?_set_self hiσ] at e2
    cases e2
    exact ⟨u,r,.inl ⟨hk,by simp⟩⟩
   ·rw [List.getElem?_set_ne (Ne.symm hj)] at e2
    obtain ⟨u',r',q⟩:=hl j y v' e1 e2 e3
    refine ⟨u',r',?_⟩
    rcases q with ⟨k,e⟩|⟨k,c,e,z⟩
    ·refine .inl ⟨k,?_⟩
     have:y≠x:=fun e=>hj (vW hN e1 (e ▸ hi))
     simp [this,e]
    ·exact .inr ⟨k,c,e,z.sameBut hs (N2 y c e)⟩
  ·obtain ⟨w',z⟩:=I.cell y c e
   exact ⟨w',z.sameBut hs (N2 y c e)⟩
  ·obtain ⟨e,n,ne,nf,d⟩:=I.pin p hp
   exact ⟨(hs.2 p.1 ne).trans e,n,ne,nf,d⟩
 ·have hfn:X.fn x=true:=by
   rcases hf with z|z
   ·exact z
   ·rw [z] at hk;cases hk
  obtain ⟨c,hc⟩:=I.ok.has x (.inl hk)
  obtain ⟨w',z⟩:=I.cell x c hc
  refine wpAny_storeName_cell I.ok.kind hk hc z (fun h' Nf hs=> ?_)
  obtain ⟨oc,hoc,aaZ⟩:=id z
  refine h {s with heap:=h'} ⟨I.ok,I.os,I.bare,⟨fun b o e n hb hx=> ?_,fun b o e n hb hx=> ?_,I.base.free,fun b o e hx=> ?_,I.base.vU,I.base.vV,I.base.z9⟩,⟨m,hn.sameBut hs (Ne.symm (N2 x c hc)),fun j y v' e1 e2 e3=> ?_⟩,fun y c' e=> ?_,I.free,I.kI,fun p hp=> ?_,tracked ⟨oc,hoc,I.kI x c hc⟩ hs,by simpa using I.len⟩ ⟨c,hs,.inr hc⟩
  ·exact (hs.2 b (Nat.ne_of_lt (Nat.lt_of_lt_of_le (Heap.lt_size e) (I.ok.RL x c hfn hc)))).trans (I.base.keep b o e n hb hx)
  ·obtain ⟨sl,e1⟩:=I.base.slot b o e n hb hx
   exact ⟨sl,(hs.2 b (Nat.ne_of_lt (Nat.lt_of_lt_of_le (Heap.lt_size e) (I.ok.RL x c hfn hc)))).trans e1⟩
  ·obtain ⟨o',e1⟩:=I.base.there b o e hx
   exact ⟨o',(hs.2 b (Nat.ne_of_lt (Nat.lt_of_lt_of_le (Heap.lt_size e) (I.ok.RL x c hfn hc)))).trans e1⟩
  ·by_cases hj:j=i
   ·subst hj
    rw [hi] at e1;cases e1
    rw [List.getElem?_set_self hiσ] at e2
    cases e2
    exact ⟨u,r,.inr ⟨.inl hk,c,hc,Nf⟩⟩
   ·rw [List.getElem?_set_ne (Ne.symm hj)] at e2
    obtain ⟨u',r',q⟩:=hl j y v' e1 e2 e3
    refine ⟨u',r',?_⟩
    rcases q with q|⟨k,c',e,z'⟩
    ·exact .inl q
    ·refine .inr ⟨k,c',e,z'.sameBut hs ?_⟩
     rintro rfl
     exact hj (vW hN e1 (I.ok.inj _ _ _ e hc ▸ hi))
  ·by_cases hcc:c'=c
   ·subst hcc;exact ⟨_,Nf⟩
   ·obtain ⟨w2,z2⟩:=I.cell y c' e
    exact ⟨w2,z2.sameBut hs hcc⟩
  ·obtain ⟨e,n,ne,nf,d⟩:=I.pin p hp
   refine ⟨(hs.2 p.1 ?_).trans e,n,ne,nf,d⟩
   intro q
   rw [q,hoc] at e
   have q':oc=p.2:=Option.some.inj e
   exact d w' (by rw [←q'];exact aaZ)
theorem vX {M:Model}{A:Around}{E:Value→Shared→Prop}{i:Nat}{x:Str}{v:V}{u:Value}{Q:Unit→Shared→Prop}(I:Inv X pins σ H s)(hN:X.N.Nodup)(hi:X.N[i]?=some x)(hx:Loc X.env.scope x)(r:RelV v u)
  (h:∀s',Inv X pins (σ.set i (some v)) H s'→Q () s')(hf:X.fn x=true∨X.env.scope.names.lookup x=some .local:=by first|exact .inl rfl|exact .inr rfl|assumption):wpAny M A (storeName X.env x u) Q E s:=
 yU I hN hi hx r (fun s' I' _=>h s' I') hf
theorem Inv.RO {s':Shared}{ch:List Addr}(I:Inv X pins σ H s)(ho:s'.os=s.os)(u:Un (IG X.stack) ch H H' s.heap s'.heap)(bF:mL X.prog X.w H' s'.heap)(hg:AllBare s'.gens)
  (yg:∀b∈ch,(b∈X.ex∨X.yT.heap.objs.size≤b)∧b≠X.env.locals∧(∀x c,X.env.cells.lookup x=some c→c≠b)∧∀p∈X.pn ++ pins,p.1≠b):Inv X pins σ H' s':=by
 obtain ⟨h',g',d',t',o'⟩:=s'
 have e:o'=s.os:=ho
 subst e
 exact I.call (g':=g') (t':=t') (d':=d') u bF hg yg
end
abbrev XK:=Value→Option Addr→Hp→Prop
abbrev St:=List (Option V)
abbrev VK:=V→Hp→Prop
abbrev TE:=St→Hp→VK→Prop
abbrev TT:=St→Hp→(Bool→Hp→Prop)→Prop
abbrev TA:=St→Hp→(List V→Hp→Prop)→Prop
structure Ends where
 nx:St→Hp→Prop
 rt:VK
 bk:St→Hp→Prop:=fun _ _=>False
 ct:St→Hp→Prop:=fun _ _=>False
abbrev TS:=Ends→St→Hp→Prop
def EP (X:Cx)(pins:List (Addr×Obj))(σ:St)(Q:VK)(u:Value)(s':Shared):Prop:=∃v H',Inv X pins σ H' s'∧RelV v u∧Q v H'
def TP (X:Cx)(pins:List (Addr×Obj))(σ:St)(Q:Bool→Hp→Prop)(b:Bool)(s':Shared):Prop:=∃H',Inv X pins σ H' s'∧Q b H'
def AP (X:Cx)(pins:List (Addr×Obj))(σ:St)(Q:List V→Hp→Prop)(us:List Value)(s':Shared):Prop:=∃vs H',Inv X pins σ H' s'∧Vals vs us∧Q vs H'
def SP (X:Cx)(pins:List (Addr×Obj))(D:Ends)(f:Flow)(s':Shared):Prop:=
 match f with
 | .next=>∃σ' H',Inv X pins σ' H' s'∧D.nx σ' H'
 | .brk=>∃σ' H',Inv X pins σ' H' s'∧D.bk σ' H'
 | .cont=>∃σ' H',Inv X pins σ' H' s'∧D.ct σ' H'
 | .ret u=>∃v σ' H',Inv X pins σ' H' s'∧RelV v u∧D.rt v H'
def PE (X:Cx)(e:Expr)(t:TE):Prop:=
 ∀ (pins:List (Addr×Obj))(s:Shared)(σ:St)(H:Hp)(Q:VK),Inv X pins σ H s→t σ H Q→wpAny (model X.prog X.w) X.A (eval e X.env) (EP X pins σ Q) X.xe s
def PT (X:Cx)(e:Expr)(t:TT):Prop:=
 ∀ (pins:List (Addr×Obj))(s:Shared)(σ:St)(H:Hp)(Q:Bool→Hp→Prop),Inv X pins σ H s→t σ H Q→wpAny (model X.prog X.w) X.A (isTrue e X.env (eval e X.env)) (TP X pins σ Q) X.xe s
def PW (X:Cx)(e:Expr)(t:TT):Prop:=
 ∀ (whole:Sem Value)(pins:List (Addr×Obj))(s:Shared)(σ:St)(H:Hp)(Q:Bool→Hp→Prop),Inv X pins σ H s→t σ H Q→wpAny (model X.prog X.w) X.A (isTrue e X.env whole) (TP X pins σ Q) X.xe s
theorem PW.pt {X:Cx}{e:Expr}{t:TT}(h:PW X e t):PT X e t:=h _
def PA (X:Cx)(es:List Expr)(t:TA):Prop:=
 ∀ (pos:Pos)(pins:List (Addr×Obj))(s:Shared)(σ:St)(H:Hp)(Q:List V→Hp→Prop),Inv X pins σ H s→t σ H Q→wpAny (model X.prog X.w) X.A (spliced (backTo pos (starEach es X.env))) (AP X pins σ Q) X.xe s
def PS (X:Cx)(st:Stmt)(t:TS):Prop:=
 ∀ (pins:List (Addr×Obj))(s:Shared)(σ:St)(H:Hp)(D:Ends),Inv X pins σ H s→t D σ H→wpAny (model X.prog X.w) X.A (exec st X.env) (SP X pins D) X.xe s
def GA (X:Cx)(st:List Stmt)(t:TS):Prop:=
 ∀ (pins:List (Addr×Obj))(s:Shared)(σ:St)(H:Hp)(D:Ends),Inv X pins σ H s→t D σ H→wpAny (model X.prog X.w) X.A (execs st X.env) (SP X pins D) X.xe s
theorem cI {α:Type}{t:Sem α}{Q Q':α→Shared→Prop}{M:Model}{A:Around}{E:Value→Shared→Prop}{s:Shared}(h:wpAny M A t Q E s)(hQ:∀a s,Q a s→Q' a s):wpAny M A t Q' E s:=wpAny_mono h hQ fun _ _ x=>x
end L2
namespace L2
open PySem PySem.Spec PyProof.Rows
section
variable {X:Cx}
def RP (i:Nat):TE:=fun σ H Q=>∃v,σ[i]?=some (some v)∧Q v H
def tC (v:V):TE:=fun _ H Q=>Q v H
theorem N3 {i:Nat}{x:Str}{pos:Pos}(hN:X.N[i]?=some x)(hv:Q9 X.env.scope x)(hd:(x==("__debug__":Str))=false:=by decide)(qI:(x==("__classdict__":Str))=false:=by decide):PE X (.Name x pos) (RP i):=by
 intro pins s σ H Q I h
 obtain ⟨v,e,h⟩:=h
 obtain ⟨m,hn,hl⟩:=I.loc
 obtain ⟨u,r,l⟩:=hl i x v hN e hv
 have fin:EP X pins σ Q u s:=⟨v,H,I,r,h⟩
 rcases l with ⟨hk,hm⟩|⟨hk,c,hc,Fb⟩
 ·exact wpAny_Name (wpAny_loadName_local I.ok.kind hk hn hm fin) hd
 ·rcases hk with hk|hk
  ·exact wpAny_Name (wpAny_loadName_cell I.ok.kind hk hc Fb fin) hd
  ·exact wpAny_Name (wpAny_loadName_free I.ok.kind hk hc Fb fin qI) hd
theorem ah {i j pos}:PE X (.Constant (.int i) j pos) (tC (.int i)):=fun _ _ _ H _ I h=>wpAny_Constant_int ⟨.int i,H,I.tok _,⟨_,rfl⟩,h⟩
theorem Fc {b j pos}:PE X (.Constant (.bool b) j pos) (tC (.bl b)):=fun _ _ _ H _ I h=>Constant_bool ⟨.bl b,H,I,rfl,h⟩
theorem dO {j pos}:PE X (.Constant .none j pos) (tC .bu):=fun _ _ _ H _ I h=>Constant_none ⟨.bu,H,I,rfl,h⟩
theorem vY {x j pos}:PE X (.Constant (.str x) j pos) (tC (.str x)):=fun _ _ _ H _ I h=>Calls.Constant_str ⟨.str x,H,I.tok _,⟨_,rfl⟩,h⟩
def Gl (X:Cx)(x:Str):Prop:=X.env.kindOf x=some .globalImplicit
theorem Ab {E:Value→Shared→Prop}{pins:List (Addr×Obj)}{s:Shared}{σ:St}{H:Hp}{x:Str}{u:Value}{pos:Pos}{Q:Value→Shared→Prop}(I:Inv X pins σ H s)(hg:Gl X x)(hm:X.mg x=some u)(h:Q u s)
  (hd:(x==("__debug__":Str))=false:=by decide):wpAny (model X.prog X.w) X.A (eval (.Name x pos) X.env) Q E s:=
 Calls.Name_function_global I.ok.kind hg (Calls.loadGlobal_global (by rw [I.ok.glob];exact I.mod.glob.keeps I.bk) hm h) hd
theorem tq {E:Value→Shared→Prop}{pins:List (Addr×Obj)}{s:Shared}{σ:St}{H:Hp}{x:Str}{u:Value}{pos:Pos}{Q:Value→Shared→Prop}(I:Inv X pins σ H s)(hg:Gl X x)(hm:X.mg x=none)(hv:bootBuiltins x=some u)(h:Q u s)
  (hn:x≠"__name__":=by decide)(hd:(x==("__debug__":Str))=false:=by decide):wpAny (model X.prog X.w) X.A (eval (.Name x pos) X.env) Q E s:=by
 obtain ⟨mb,h1,h2⟩:=I.mod.blt
 exact Calls.Name_function_global I.ok.kind hg (Calls.loadGlobal_builtin (by rw [I.ok.glob];exact I.mod.glob.keeps I.bk) hm (by rw [I.ok.blt];exact h1.keeps I.bk) ((h2 x hn).trans hv) h) hd
theorem aC {x:Str}{v:V}{u:Value}{pos:Pos}(hg:Gl X x)(hm:X.mg x=some u)(r:RelV v u)(hd:(x==("__debug__":Str))=false:=by decide):PE X (.Name x pos) (tC v):=
 fun _ _ _ H _ I h=>Ab I hg hm ⟨v,H,I,r,h⟩ hd
variable {a b:Expr}{ta tb:TE}{pos:Pos}
def PC (X:Cx)(op:CmpOp)(a b:Expr)(t:TE):Prop:=
 ∀ (pins:List (Addr×Obj))(s:Shared)(σ:St)(H:Hp)(Q:VK),Inv X pins σ H s→t σ H Q→
  wpAny (model X.prog X.w) X.A (eval a X.env) (fun v s₁=>wpAny (model X.prog X.w) X.A (eval b X.env) (fun u s₂=>wpAny (model X.prog X.w) X.A (compareOp op v u) (EP X pins σ Q) X.xe s₂) X.xe s₁) X.xe s
theorem IJ (b:Expr){op:CmpOp}(h:op≠ .In)(h2:op≠ .NotIn):behindInMarks op b=false:=by
 have e1:(op==CmpOp.In)=false:=by cases op <;>first|rfl|exact absurd rfl h
 have e2:(op==CmpOp.NotIn)=false:=by cases op <;>first|rfl|exact absurd rfl h2
 cases b <;>simp [behindInMarks,e1,e2]
def aa0 (ta:TE):TE:=fun σ H Q=>ta σ H fun x H1=>Q (.bl (decide (x= .bu))) H1
def RQ (ta:TE):TE:=fun σ H Q=>ta σ H fun x H1=>Q (.bl (!decide (x= .bu))) H1
theorem RelV.Cd {x:V}{v:Value}(r:RelV x v):(v==Value.none)=decide (x= .bu):=by
 cases x with
 |bu=>cases r;rfl
 |bl _=>cases r;rfl
 |int _=>obtain ⟨t,rfl⟩:=r;rfl
 |str _=>obtain ⟨t,rfl⟩:=r;rfl
 |Cc _=>obtain ⟨t,rfl⟩:=r;rfl
 |RI _=>obtain ⟨t,rfl⟩:=r;rfl
 |ref _=>cases r;rfl
 |ty _=>cases r;rfl
theorem fQ {j pos'}(ha:PE X a ta):PC X .Is a (.Constant .none j pos') (aa0 ta):=by
 intro pins s σ H Q I h
 refine cI (ha pins s σ H _ I h) fun v s1 ⟨x,H1,I1,r1,q1⟩=> ?_
 exact Constant_none (is_none_gen ⟨.bl _,H1,I1,by rw [r1.Cd];rfl,q1⟩)
theorem fR {j pos'}(ha:PE X a ta):PC X .IsNot a (.Constant .none j pos') (RQ ta):=by
 intro pins s σ H Q I h
 refine cI (ha pins s σ H _ I h) fun v s1 ⟨x,H1,I1,r1,q1⟩=> ?_
 exact Constant_none (isnot_none_gen ⟨.bl _,H1,I1,by rw [r1.Cd];rfl,q1⟩)
def tB (t:TE):TT:=fun σ H Q=>t σ H fun x H1=>∃c,x= .bl c∧Q c H1
theorem bD {op:CmpOp}{t:TE}(h:PC X op a b t)(h1:behindInMarks op b=false:=by first|exact IJ _ (by decide) (by decide)|rfl):PT X (.Compare a [op] [b] pos) (tB t):=by
 intro pins s σ H Q I hw
 refine wpAny_isTrue_Compare1 (cI (h pins s σ H _ I hw) fun v s1 h1=>cI h1 fun u s2 h2=>cI h2 fun c s3 ⟨x,H1,I1,r1,q1⟩=> ?_) h1
 obtain ⟨d,rfl,q⟩:=q1
 cases r1
 exact wpAny_truthy_bool ⟨H1,I1,q⟩
theorem mM {e:Expr}{t:TE}(h:PE X e t)(he:∀whole,isTrue e X.env whole=(do let v←whole;standAt e.pos;holding [v] (truthy v)):=by intro _;rfl):PT X e (tB t):=by
 intro pins s σ H Q I hw
 refine isTrue_plain (cI (h pins s σ H _ I hw) fun v s1 ⟨x,H1,I1,r1,q1⟩=> ?_) (he _)
 obtain ⟨d,rfl,q⟩:=q1
 cases r1
 exact wpAny_truthy_bool ⟨H1,I1,q⟩
variable {tA tB':TT}{rest:List Expr}
def aa1 (t u:TT):TT:=fun σ H Q=>t σ H fun c H1=>if c=true then u σ H1 Q else Q false H1
def tOr (t u:TT):TT:=fun σ H Q=>t σ H fun c H1=>if c=true then Q true H1 else u σ H1 Q
def aa2 (t:TT):TT:=fun σ H Q=>t σ H fun c H1=>Q (!c) H1
theorem eF (ha:PT X a tA):PW X (.BoolOp .And [a] pos) tA:=by
 intro wh pins s σ H Q I h
 refine isTrue_and (cI (ha pins s σ H Q I h) fun c s1 e=> ?_)
 cases c with
 |true=>exact isTrue_and_nil e
 |false=>exact e
theorem lr (ha:PT X a tA):PW X (.BoolOp .Or [a] pos) tA:=by
 intro wh pins s σ H Q I h
 refine isTrue_or (cI (ha pins s σ H Q I h) fun c s1 e=> ?_)
 cases c with
 |false=>exact isTrue_or_nil e
 |true=>exact e
theorem gq (ha:PT X a tA)(hb:PW X (.BoolOp .And (b::rest) pos) tB'):PW X (.BoolOp .And (a::b::rest) pos) (aa1 tA tB'):=by
 intro wh pins s σ H Q I h
 refine isTrue_and (cI (ha pins s σ H _ I h) fun c s1 ⟨H1,I1,q1⟩=> ?_)
 cases c with
 |true=>exact hb wh pins s1 σ H1 Q I1 q1
 |false=>exact ⟨H1,I1,q1⟩
theorem qJ (ha:PT X a tA)(hb:PW X (.BoolOp .Or (b::rest) pos) tB'):PW X (.BoolOp .Or (a::b::rest) pos) (tOr tA tB'):=by
 intro wh pins s σ H Q I h
 refine isTrue_or (cI (ha pins s σ H _ I h) fun c s1 ⟨H1,I1,q1⟩=> ?_)
 cases c with
 |true=>exact ⟨H1,I1,q1⟩
 |false=>exact hb wh pins s1 σ H1 Q I1 q1
theorem IK (ha:PT X a tA):PT X (.UnaryOp .Not a pos) (aa2 tA):=by
 intro pins s σ H Q I h
 exact isTrue_not (ha pins s σ H (fun c H1=>Q (!c) H1) I h)
def RR (ta tb:TE):TE:=fun σ H Q=>ta σ H fun x H1=>∃c,x= .bl c∧if c=true then tb σ H1 Q else Q (.bl false) H1
theorem IL {op}{t:TE}(h:PE X a t):PE X (.BoolOp op [a] pos) t:=fun pins s σ H Q I hw=>BoolOp_one (h pins s σ H Q I hw)
theorem IM (ha:PE X a ta)(hb:PE X (.BoolOp .And (b::rest) pos) tb):PE X (.BoolOp .And (a::b::rest) pos) (RR ta tb):=by
 intro pins s σ H Q I h
 refine BoolOp_and (cI (ha pins s σ H _ I h) fun v s1 ⟨x,H1,I1,r1,q1⟩=> ?_)
 obtain ⟨c,rfl,q1⟩:=q1
 cases r1
 refine wpAny_truthy_bool ?_
 cases c with
 |true=>exact hb pins s1 σ H1 Q I1 q1
 |false=>exact ⟨.bl false,H1,I1,rfl,q1⟩
def tIf (t:TT)(ta tb:TE):TE:=fun σ H Q=>t σ H fun c H1=>if c=true then ta σ H1 Q else tb σ H1 Q
theorem Ce {c:Expr}(hc:PT X c tA)(ha:PE X a ta)(hb:PE X b tb):PE X (.IfExp c a b pos) (tIf tA ta tb):=by
 intro pins s σ H Q I h
 refine wpAny_IfExp (cI (hc pins s σ H _ I h) fun d s1 ⟨H1,I1,q1⟩=> ?_)
 cases d with
 |true=>exact ha pins s1 σ H1 Q I1 q1
 |false=>exact hb pins s1 σ H1 Q I1 q1
end
end L2
namespace L2
open PySem PySem.Spec PyProof.Rows
def bT (K:PySem.W.Frag)(H:Hp)(a:Addr)(xs:List V):Prop:=
 Rd H a (.lst xs)∨
  ∃ (o:Obj)(aV:Array Value)(n:Nat),K.lookup a=some o∧o.cls= .type "list"∧o.dict=none∧o.data= .seq aV n∧aV.size≤sizeLine∧Vals xs aV.toList
def bb (K:PySem.W.Frag)(H:Hp)(a:Addr)(xs:List V):Prop:=
 Rd H a (.tup xs)∨
  ∃ (o:Obj)(aV:Array Value)(n:Nat),K.lookup a=some o∧o.cls= .type "tuple"∧o.data= .seq aV n∧aV.size≤sizeLine∧Vals xs aV.toList
def aa3:Value→Option V
 | .none=>some .bu
 | .bool b=>some (.bl b)
 | .int i _=>some (.int i)
 | .str x _=>some (.str x)
 | .bytes b _=>some (.Cc b)
 | .float b _=>some (.RI b)
 | .ref a=>some (.ref a)
 | .type n=>some (.ty n)
 |_=>none
theorem RelV.abs {x:V}{u:Value}(r:RelV x u):aa3 u=some x:=by
 cases x with
 |bu=>cases r;rfl
 |bl _=>cases r;rfl
 |int _=>obtain ⟨t,rfl⟩:=r;rfl
 |str _=>obtain ⟨t,rfl⟩:=r;rfl
 |Cc _=>obtain ⟨t,rfl⟩:=r;rfl
 |RI _=>obtain ⟨t,rfl⟩:=r;rfl
 |ref _=>cases r;rfl
 |ty _=>cases r;rfl
theorem RelV.inj {x y:V}{u:Value}(r:RelV x u)(q:RelV y u):x=y:=Option.some.inj (r.abs.symm.trans q.abs)
theorem Vals.inj:∀ {xs ys:List V}{us:List Value},Vals xs us→Vals ys us→xs=ys
 |_,_,_,.nil,.nil=>rfl
 |_,_,_,.cons r t,.cons r' t'=>by rw [r.inj r',Vals.inj t t']
section
variable {X:Cx}{pins:List (Addr×Obj)}{σ:St}{H:Hp}{s:Shared}{a:Addr}{xs ys:List V}
theorem bT.of {K:PySem.W.Frag}(h:H a=some (.lst xs)):bT K H a xs:= .inl (.inl h)
theorem bb.of {K:PySem.W.Frag}(h:H a=some (.tup xs)):bb K H a xs:= .inl (.inl h)
theorem Inv.list (I:Inv X pins σ H s)(h:bT X.K H a xs):∃aV:List Value,Vals xs aV∧PlainL s.heap a aV.toArray∧xs.length≤sizeLine:=by
 rcases h with h|⟨o,aV,n,hk,hc,hd,hs,hz,r⟩
 ·obtain ⟨z,aV,n,r,e⟩:=h.ok I.bF
  exact ⟨aV,r,⟨_,n,e,rfl,rfl,rfl⟩,z⟩
 ·refine ⟨aV.toList,r,⟨o,n,I.E7 a o hk,hc,hd,by simpa using hs⟩,?_⟩
  have e:=r.length
  simp only [Array.length_toList] at e
  omega
theorem Inv.tuple (I:Inv X pins σ H s)(h:bb X.K H a xs):∃aV:List Value,Vals xs aV∧IsTup s.heap a aV.toArray∧xs.length≤sizeLine:=by
 rcases h with h|⟨o,aV,n,hk,hc,hs,hz,r⟩
 ·obtain ⟨z,aV,r,p⟩:=h.ok I.bF
  exact ⟨aV,r,p,z⟩
 ·refine ⟨aV.toList,r,⟨o,I.E7 a o hk,hc,n,by simpa using hs⟩,?_⟩
  have e:=r.length
  simp only [Array.length_toList] at e
  omega
theorem Inv.Cf (I:Inv X pins σ H s)(h:bT X.K H a xs)(h':bT X.K H a ys):xs=ys:=by
 obtain ⟨aV,r,⟨o,n,e,_,_,d⟩,_⟩:=I.list h
 obtain ⟨its',r',⟨o',n',e',_,_,d'⟩,_⟩:=I.list h'
 rw [e] at e';cases e'
 rw [d] at d'
 injection d' with d1 _
 have:aV=its':=by simpa using congrArg Array.toList d1
 subst this
 exact r.inj r'
theorem Inv.yW (I:Inv X pins σ H s)(h:bb X.K H a xs)(h':bb X.K H a ys):xs=ys:=by
 obtain ⟨aV,r,⟨o,e,_,n,d⟩,_⟩:=I.tuple h
 obtain ⟨its',r',⟨o',e',_,n',d'⟩,_⟩:=I.tuple h'
 rw [e] at e';cases e'
 rw [d] at d'
 injection d' with d1 _
 have:aV=its':=by simpa using congrArg Array.toList d1
 subst this
 exact r.inj r'
end
abbrev Cx.yh (X:Cx)(E:Value→Shared→Prop):Cx:={X with xe:=E}
abbrev Cx.nox (X:Cx):Cx:=X.yh fun _ _=>False
theorem Cx.Ok.yh {X:Cx}(ok:X.Ok)(E:Value→Shared→Prop):(X.yh E).Ok:=
 ⟨ok.mod,ok.kind,ok.glob,ok.blt,ok.above,ok.inj,ok.has,ok.RL,ok.hd,ok.frames,ok.Z7,ok.Z8,ok.bs,ok.LI,ok.IH,ok.II,ok.vj,ok.N1⟩
theorem Cx.Ok.mN {X:Cx}{E:Value→Shared→Prop}(ok:(X.yh E).Ok):X.Ok:=
 ⟨ok.mod,ok.kind,ok.glob,ok.blt,ok.above,ok.inj,ok.has,ok.RL,ok.hd,ok.frames,ok.Z7,ok.Z8,ok.bs,ok.LI,ok.IH,ok.II,ok.vj,ok.N1⟩
section
variable {X:Cx}{pins:List (Addr×Obj)}{σ:St}{H:Hp}{s:Shared}{E:Value→Shared→Prop}
theorem Inv.yh (I:Inv X pins σ H s)(E:Value→Shared→Prop):Inv (X.yh E) pins σ H s:=⟨I.ok.yh E,I.os,I.bare,I.base,I.loc,I.cell,I.free,I.kI,I.pin,I.bF,I.len⟩
theorem Inv.mN (I:Inv (X.yh E) pins σ H s):Inv X pins σ H s:=⟨I.ok.mN,I.os,I.bare,I.base,I.loc,I.cell,I.free,I.kI,I.pin,I.bF,I.len⟩
theorem SP.mN {D:Ends}{f:Flow}{s':Shared}(h:SP (X.yh E) pins D f s'):SP X pins D f s':=by
 cases f with
 |next=>obtain ⟨σ',H',I,q⟩:=h;exact ⟨σ',H',I.mN,q⟩
 |brk=>obtain ⟨σ',H',I,q⟩:=h;exact ⟨σ',H',I.mN,q⟩
 |cont=>obtain ⟨σ',H',I,q⟩:=h;exact ⟨σ',H',I.mN,q⟩
 |ret u=>obtain ⟨v,σ',H',I,r,q⟩:=h;exact ⟨v,σ',H',I.mN,r,q⟩
theorem GA.nox {st:List Stmt}{t:TS}(h:GA X.nox st t):GA X st t:=fun pins s σ H D I hw=>
 wpAny_mono (h pins s σ H D (I.yh _) hw) (fun _ _ q=>q.mN) fun _ _ z=>False.elim z
end
section
variable {X:Cx}{st:Stmt}{rest:List Stmt}{t u:TS}{e:Expr}{te:TE}{pos:Pos}
def RS:TS:=fun D σ H=>D.nx σ H
def aa4 (t u:TS):TS:=fun D σ H=>t {D with nx:=u D} σ H
theorem aR:GA X [] RS:=fun _ _ σ H _ I h=>wpAny_execs_nil ⟨σ,H,I,h⟩
theorem ae (h1:PS X st t)(h2:GA X rest u):GA X (st::rest) (aa4 t u):=by
 intro pins s σ H D I h
 refine wpAny_execs_cons (cI (h1 pins s σ H {D with nx:=u D} I h) fun f s1 q=> ?_)
 cases f with
 |next=>
  obtain ⟨σ',H',I',q⟩:=q
  exact h2 pins s1 σ' H' D I' q
 |ret v=>exact q
 |brk=>exact q
 |cont=>exact q
theorem ak (h1:PS X st t):GA X [st] t:=by
 intro pins s σ H D I h
 refine wpAny_execs_cons (cI (h1 pins s σ H D I h) fun f s1 q=> ?_)
 cases f with
 |next=>exact wpAny_execs_nil q
 |ret v=>exact q
 |brk=>exact q
 |cont=>exact q
theorem Inv.quiet {pins:List (Addr×Obj)}{σ:St}{H:Hp}{s:Shared}(I:Inv X pins σ H s):interactive X.env=false:=by simp [interactive,I.ok.kind]
def RT (te:TE):TS:=fun D σ H=>te σ H fun _ H1=>D.nx σ H1
theorem aG (he:PE X e te)(hs:swapsWith e none pos.line X.env=pure false:=by rfl):PS X (.Expr e pos) (RT te):=by
 intro pins s σ H D I h
 exact wpAny_Expr_any (cI (he pins s σ H _ I h) fun v s1 ⟨x,H1,I1,r1,q1⟩=>⟨σ,H1,I1,q1⟩) I.quiet hs
def aa5 (te:TE):TS:=fun D σ H=>te σ H D.rt
theorem aH (he:PE X e te):PS X (.Return (some e) pos) (aa5 te):=by
 intro pins s σ H D I h
 exact wpAny_Return_some (cI (he pins s σ H _ I h) fun v s1 ⟨x,H1,I1,r1,q1⟩=>⟨x,σ,H1,I1,r1,q1⟩)
def RU:TS:=fun D _ H=>D.rt .bu H
theorem qK:PS X (.Return none pos) RU:=fun _ _ σ H _ I h=>wpAny_Return_none ⟨.bu,σ,H,I,rfl,h⟩
def aa6 (c:TT)(t u:TS):TS:=fun D σ H=>c σ H fun b H1=>if b=true then t D σ H1 else u D σ H1
theorem aZ {c:Expr}{a b:List Stmt}{tc:TT}(hc:PT X c tc)(ha:GA X a t)(hb:GA X b u):PS X (.If c a b pos) (aa6 tc t u):=by
 intro pins s σ H D I h
 refine wpAny_If (cI (hc pins s σ H _ I h) fun d s1 ⟨H1,I1,q1⟩=> ?_)
 cases d with
 |true=>exact ha pins s1 σ H1 D I1 q1
 |false=>exact hb pins s1 σ H1 D I1 q1
end
abbrev TG:=V→St→Hp→(St→Hp→Prop)→Prop
abbrev Ng:=List V→St→Hp→(St→Hp→Prop)→Prop
def PG (X:Cx)(target:Expr)(t:TG):Prop:=
 ∀ (pins:List (Addr×Obj))(s:Shared)(σ:St)(H:Hp)(v:V)(u:Value)(Q:St→Hp→Prop),Inv X pins σ H s→RelV v u→t v σ H Q→
  wpAny (model X.prog X.w) X.A (assign target X.env u) (fun _ s'=>∃σ' H',Inv X pins σ' H' s'∧Q σ' H') X.xe s
def RV (X:Cx)(ts:List Expr)(t:Ng):Prop:=
 ∀ (pins:List (Addr×Obj))(s:Shared)(σ:St)(H:Hp)(vs:List V)(us:List Value)(Q:St→Hp→Prop),Inv X pins σ H s→Vals vs us→t vs σ H Q→
  wpAny (model X.prog X.w) X.A (assignInOrder ((assignEach ts X.env).map (·.2)) us) (fun _ s'=>∃σ' H',Inv X pins σ' H' s'∧Q σ' H') X.xe s
abbrev N4:=V→V→V→Hp→(Hp→Prop)→Prop
def RW (X:Cx)(t:N4):Prop:=
 ∀ (pins:List (Addr×Obj))(s:Shared)(σ:St)(H:Hp)(o i v:V)(ov iv u:Value)(Q:Hp→Prop),Inv X pins σ H s→RelV o ov→RelV i iv→RelV v u→t o i v H Q→
  wpAny (model X.prog X.w) X.A (setItem ov iv u) (fun _ s'=>∃H',Inv X pins σ H' s'∧Q H') X.xe s
abbrev TIp:=V→V→Hp→VK→Prop
def PIp (X:Cx)(op:Operator)(t:TIp):Prop:=
 ∀ (pins:List (Addr×Obj))(s:Shared)(σ:St)(H:Hp)(x y:V)(v u:Value)(Q:VK),Inv X pins σ H s→RelV x v→RelV y u→t x y H Q→
  wpAny (model X.prog X.w) X.A (inplaceOp op v u) (EP X pins σ Q) X.xe s
section
variable {X:Cx}{pos:Pos}
def Fd (i:Nat):TG:=fun v σ H Q=>Q (σ.set i (some v)) H
theorem dP {i:Nat}{x:Str}(hN:X.N.Nodup)(hi:X.N[i]?=some x)(hx:Loc X.env.scope x)(hf:X.fn x=true∨X.env.scope.names.lookup x=some .local:=by first|exact .inl rfl|exact .inr rfl|assumption):PG X (.Name x pos) (Fd i):=by
 intro pins s σ H v u Q I r h
 exact wpAny_assign_Name (vX I hN hi hx r (fun s' I'=>⟨_,H,I',h⟩) hf)
def aa7:Ng:=fun vs σ H Q=>vs= [] ∧Q σ H
def RX (t:TG)(u:Ng):Ng:=fun vs σ H Q=>∃v r,vs=v::r∧t v σ H fun σ' H'=>u r σ' H' Q
theorem Ac:RV X [] aa7:=by
 intro pins s σ H vs us Q I r h
 obtain ⟨e,h⟩:=h
 subst e
 cases r
 exact assignInOrder_nil ⟨σ,H,I,h⟩
theorem kJ {e:Expr}{es:List Expr}{t:TG}{u:Ng}(h1:PG X e t)(h2:RV X es u)
  (hs:(assignEach (e::es) X.env).map (·.2)=assign e X.env::(assignEach es X.env).map (·.2):=by rfl):RV X (e::es) (RX t u):=by
 intro pins s σ H vs us Q I r h
 obtain ⟨v,vr,e1,h⟩:=h
 subst e1
 cases r with
 |cons r rr=>
  rw [hs]
  refine assignInOrder_cons (cI (h1 pins s σ H _ _ _ I r h) fun _ s1 ⟨σ1,H1,I1,q1⟩=> ?_)
  exact h2 pins s1 σ1 H1 _ _ Q I1 rr q1
def RY (K:PySem.W.Frag)(n:Nat)(t:Ng):TG:=fun v σ H Q=>∃a xs,v= .ref a∧bb K H a xs∧xs.length=n∧t xs σ H Q
theorem DP {es:List Expr}{k:Nat}{t:Ng}{n:Nat}(hc:X.calm=true)(h:RV X es t)
  (hn:(assignEach es X.env).length=n:=by rfl)(mx:(assignEach es X.env).findIdx? (·.1)=none:=by rfl):PG X (.Tuple es k pos) (RY X.K n t):=by
 intro pins s σ H v u Q I r hw
 obtain ⟨a,xs,e1,hq,hl,hw⟩:=hw
 subst e1
 cases r
 obtain ⟨aV,rv,ht,hz⟩:=I.tuple hq
 refine assign_Tuple_tuple (I.ok.hd hc) ht (by simp [hn,←hl,rv.length]) mx fun h' hx=> ?_
 have I1:Inv X pins σ H {s with heap:=h'}:=I.kept (t':=s.toks) fun b o e=>hx b o (Nat.ne_of_lt (Heap.lt_size e)) e
 exact h pins _ σ H xs _ Q I1 (by simpa using rv) hw
def aa8 (to ti:TE)(t:N4):TG:=fun v σ H Q=>to σ H fun o H1=>ti σ H1 fun i H2=>t o i v H2 fun H3=>Q σ H3
theorem IP {o i:Expr}{to ti:TE}{t:N4}(ho:PE X o to)(hi:PE X i ti)(hs:RW X t)
  (ha:∀v,assign (.Subscript o i pos) X.env v=(do
   let ov←holding [v] (eval o X.env)
   let iv←holding [v,ov] (eval i X.env)
   standAt pos
   holding [v,ov,iv] (setItem ov iv v)
   release [v,ov,iv] []):=by intro _;rfl):PG X (.Subscript o i pos) (aa8 to ti t):=by
 intro pins s σ H v u Q I r h
 rw [ha]
 refine wpAny_bind (wpAny_holding (cI (ho pins s σ H _ I h) fun ov s1 ⟨x,H1,I1,r1,q1⟩=> ?_))
 refine wpAny_bind (wpAny_holding (cI (hi pins s1 σ H1 _ I1 q1) fun iv s2 ⟨y,H2,I2,r2,q2⟩=> ?_))
 refine wpAny_bind (wpAny_standAt (wpAny_bind (wpAny_holding (cI (hs pins s2 σ H2 x y v ov iv u _ I2 r1 r2 r q2) fun _ s3 ⟨H3,I3,q3⟩=> ?_))))
 exact wpAny_release ⟨σ,H3,I3,q3⟩
def N5 (te:TE)(g:TG):TS:=fun D σ H=>te σ H fun x H1=>g x σ H1 D.nx
theorem IQ {tg e:Expr}{te:TE}{g:TG}(he:PE X e te)(hg:PG X tg g)(hs:swapsWithSole [tg] e pos.line X.env=pure false:=by rfl)(hw:swappedStores [tg] e X.env=pure none:=by rfl)
  (h1:(assignEach [tg] X.env).map (·.2)= [assign tg X.env] :=by rfl):PS X (.Assign [tg] e pos) (N5 te g):=by
 intro pins s σ H D I h
 refine wpAny_Assign_stores (cI (he pins s σ H _ I h) fun v s1 ⟨x,H1,I1,r1,q1⟩=> ?_) hs hw
 rw [h1]
 exact cI (hg pins s1 σ H1 x v _ I1 r1 q1) fun _ s2 q=>q
theorem aS {i:Nat}{x:Str}{e:Expr}{te:TE}{pos':Pos}(hN:X.N.Nodup)(hi:X.N[i]?=some x)(hx:Loc X.env.scope x)(he:PE X e te)(hs:swapsWith e (some (.Name x pos')) pos.line X.env=pure false:=by rfl)(hf:X.fn x=true∨X.env.scope.names.lookup x=some .local:=by first|exact .inl rfl|exact .inr rfl|assumption):
  PS X (.Assign [.Name x pos'] e pos) (N5 te (Fd i)):=by
 intro pins s σ H D I h
 refine wpAny_Assign_Name (cI (he pins s σ H _ I h) fun v s1 ⟨y,H1,I1,r1,q1⟩=> ?_) hs
 exact vX I1 hN hi hx r1 (fun s2 I2=>⟨_,H1,I2,q1⟩) hf
def aa9 (i:Nat)(te:TE)(ti:TIp):TS:=fun D σ H=>∃x,σ[i]?=some (some x)∧te σ H fun y H1=>ti x y H1 fun z H2=>D.nx (σ.set i (some z)) H2
theorem DQ {i:Nat}{x:Str}{e:Expr}{te:TE}{op:Operator}{ti:TIp}{pos':Pos}(hN:X.N.Nodup)(hi:X.N[i]?=some x)(hx:Loc X.env.scope x)(he:PE X e te)(ho:PIp X op ti)(hf:X.fn x=true∨X.env.scope.names.lookup x=some .local:=by first|exact .inl rfl|exact .inr rfl|assumption):
  PS X (.AugAssign (.Name x pos') op e pos) (aa9 i te ti):=by
 intro pins s σ H D I h
 obtain ⟨v,e1,h⟩:=h
 obtain ⟨m,hn,hl⟩:=I.loc
 have vis:Q9 X.env.scope x:=by rcases hx with k|k;exact .inl k;exact .inr (.inl k)
 obtain ⟨u,r,l⟩:=hl i x v hi e1 vis
 refine wpAny_AugAssign_Name ?_
 have go:wpAny (model X.prog X.w) X.A (eval e X.env) (fun w s₂=>wpAny (model X.prog X.w) X.A (inplaceOp op u w) (fun r s₃=>wpAny (model X.prog X.w) X.A (storeName X.env x r) (fun _=>SP X pins D .next) X.xe s₃) X.xe s₂) X.xe s:=by
  refine cI (he pins s σ H _ I h) fun w s1 ⟨y,H1,I1,r1,q1⟩=> ?_
  refine cI (ho pins s1 σ H1 v y u w _ I1 r r1 q1) fun z s2 ⟨zv,H2,I2,r2,q2⟩=> ?_
  exact vX I2 hN hi hx r2 (fun s3 I3=>⟨_,H2,I3,q2⟩) hf
 rcases l with ⟨hk,hm⟩|⟨hk,c,hc,Fb⟩
 ·exact wpAny_loadName_local I.ok.kind hk hn hm go
 ·rcases hk with hk|hk
  ·exact wpAny_loadName_cell I.ok.kind hk hc Fb go
  ·rcases hx with k|k
   ·have:X.env.scope.names.lookup x=some .free:=hk
    rw [k] at this;cases this
   ·have:X.env.scope.names.lookup x=some .free:=hk
    rw [k] at this;cases this
def ipI (f:Int→Int→Int):TIp:=fun x y H Q=>∃i j,x= .int i∧y= .int j∧Q (.int (f i j)) H
theorem DR:PIp X .Add (ipI fun i j=>i + j):=by
 intro pins s σ H x y v u Q I r1 r2 h
 obtain ⟨i,j,e1,e2,q⟩:=h
 subst e1;subst e2
 obtain ⟨t,rfl⟩:=r1
 obtain ⟨t',rfl⟩:=r2
 exact iadd_int ⟨.int _,H,I.tok _,⟨_,rfl⟩,q⟩
end
section
variable {X:Cx}{pos:Pos}
def N6 (c:TT)(tb:TS):TS:=fun D σ H=>∃W:Nat→St→Hp→Prop,(∃m,W m σ H)∧∀m σ H,W m σ H→
 c σ H fun b H1=>if b=true then ∃N:St→Hp→Prop,(∀σ' H',N σ' H'→∃m',m' < m∧W m' σ' H')∧tb {D with nx:=N,ct:=N,bk:=D.nx} σ H1 else D.nx σ H1
theorem qL {c:Expr}{body:List Stmt}{tc:TT}{tb:TS}(hp:PassesOwn (model X.prog X.w) X.A X.env X.xe)(hc:PT X c tc)(hb:GA X body tb):PS X (.While c body [] pos) (N6 tc tb):=by
 intro pins s σ H D I h
 obtain ⟨W,⟨m0,w0⟩,turn⟩:=h
 refine wpAny_While (codeAny_whileLoop (fun n s'=>∃σ' H',Inv X pins σ' H' s'∧W n σ' H') ?_ m0 ⟨σ,H,I,w0⟩)
 rintro n s1 ⟨σ1,H1,I1,w1⟩
 refine wpAny_passesOwn hp (cI (hc pins s1 σ1 H1 _ I1 (turn n σ1 H1 w1)) fun b s2 ⟨H2,I2,q2⟩=> ?_)
 cases b with
 |true=>
  obtain ⟨N,hN,q2⟩:=q2
  rw [if_pos rfl]
  refine wpAny_passesOwn hp (cI (hb pins s2 σ1 H2 _ I2 q2) fun f s3 q3=> ?_)
  cases f with
  |next=>
   obtain ⟨σ3,H3,I3,n3⟩:=q3
   obtain ⟨m',hm,w3⟩:=hN σ3 H3 n3
   exact ⟨m',hm,σ3,H3,I3,w3⟩
  |cont=>
   obtain ⟨σ3,H3,I3,n3⟩:=q3
   obtain ⟨m',hm,w3⟩:=hN σ3 H3 n3
   exact ⟨m',hm,σ3,H3,I3,w3⟩
  |brk=>exact q3
  |ret v=>exact q3
 |false=>
  rw [if_neg Bool.false_ne_true]
  exact wpAny_execs_nil ⟨σ1,H2,I2,q2⟩
end
structure It where
 go:Nat→Hp→Prop
 Iw:Nat→Hp→V→Hp→Prop
 stop:Nat→Hp→Prop
def vk (X:Cx)(pins:List (Addr×Obj))(H:Hp)(b:Addr):Prop:=
 H b=none∧b≠X.env.locals∧b ∉ X.fs∧(b∈X.ex∨X.yT.heap.objs.size≤b)∧(∀x c,X.env.cells.lookup x=some c→c≠b)∧∀p∈X.pn ++ pins,p.1≠b
theorem Inv.GB {X:Cx}{pins:List (Addr×Obj)}{σ:St}{H H':Hp}{s:Shared}{b:Addr}(I:Inv X pins σ H s)(hb:s.heap.objs.size≤b)(hn:H' b=none):vk X pins H' b:=by
 refine ⟨hn,Nat.ne_of_gt (Nat.lt_of_lt_of_le I.lt hb),I.aaV hb,.inr (Nat.le_trans I.sz hb),fun x c e z=> ?_,fun p hp z=> ?_⟩
 ·obtain ⟨v,q⟩:=I.cell x c e
  exact absurd (Nat.lt_of_lt_of_le q.lt (by rw [z];exact hb)) (Nat.lt_irrefl _)
 ·exact absurd (Nat.lt_of_lt_of_le (Heap.lt_size (I.pin p hp).1) (by rw [z];exact hb)) (Nat.lt_irrefl _)
structure Turn (P:Program) (w:World) (K:PySem.W.Frag) (tg:Expr) (J:It) (fp:List Addr) (it:Addr) (tn:Nat→Heap→Prop):Prop where
 mem:it∈fp
 obj:∀i h,tn i h→∀b∈fp,∃o,h.get? b=some o∧∀v,o.data≠ .cell v
 keep:∀i h h',tn i h→(∀b∈fp,∀o,h.get? b=some o→h'.get? b=some o)→tn i h'
 item:∀ (X:Cx),X.prog=P→X.w=w→X.K=K→X.calm=true→∀ (i:Nat)(pins:List (Addr×Obj))(s:Shared)(σ:St)(H:Hp)(E:Value→Shared→Prop),Inv X pins σ H s→(∀b∈fp,vk X pins H b)→tn i s.heap→J.go i H→
  wpAny (model P w) X.A (pyNext (.ref it)) (fun r s1=>∃u,r=some u∧
   wpAny (model P w) X.A (letOwnedTupleGo tg (.ref it) u) (fun _ s2=>∃x H',Inv X pins σ H' s2∧RelV x u∧J.Iw i H x H'∧tn (i + 1) s2.heap∧∀b∈fp,H' b=none) E s1) E s
 done:∀ (X:Cx),X.prog=P→X.w=w→X.K=K→X.calm=true→∀ (i:Nat)(pins:List (Addr×Obj))(s:Shared)(σ:St)(H:Hp)(E:Value→Shared→Prop),Inv X pins σ H s→(∀b∈fp,vk X pins H b)→tn i s.heap→J.stop i H→
  wpAny (model P w) X.A (pyNext (.ref it)) (fun r s1=>r=none∧Inv X pins σ H s1) E s
 self:∀ (A:Around)(i:Nat)(s:Shared)(Q:Value→Shared→Prop)(E:Value→Shared→Prop),tn i s.heap→Q (.ref it) s→wpAny (model P w) A (pyIter (.ref it)) Q E s
abbrev TI:=St→Hp→(It→Hp→Prop)→Prop
def RZ (X:Cx)(pins:List (Addr×Obj))(σ:St)(tg:Expr)(R:It→Hp→Prop)(itv:Value)(s2:Shared):Prop:=
 ∃ (it:Addr)(fp:List Addr)(tn:Nat→Heap→Prop)(J:It)(H':Hp),itv= .ref it∧Inv X pins σ H' s2∧Turn X.prog X.w X.K tg J fp it tn∧tn 0 s2.heap∧(∀b∈fp,vk X pins H' b)∧R J H'
def PI (X:Cx)(tg iter:Expr)(wi:TI):Prop:=
 ∀ (pins:List (Addr×Obj))(s:Shared)(σ:St)(H:Hp)(R:It→Hp→Prop),Inv X pins σ H s→wi σ H R→
  wpAny (model X.prog X.w) X.A (eval iter X.env) (fun v s1=>wpAny (model X.prog X.w) X.A (pyIter v) (RZ X pins σ tg R) X.xe s1) X.xe s
theorem Cg {M:Model}{A:Around}{E:Value→Shared→Prop}{s:Shared}{tg:Expr}{it:Addr}{u:Value}{o:Obj}{n:String}{vs:Array Value}{Q:Unit→Shared→Prop}(ho:s.heap.get? it=some o)(hc:o.cls= .type n)(hd:o.data= .fields vs)
  (hn: ["enumerate","zip","dict_itemiterator","dict_reverseitemiterator","odict_iterator","itertools.zip_longest","itertools.pairwise"].contains n=false)(hQ:Q () s):wpAny M A (letOwnedTupleGo tg (.ref it) u) Q E s:=by
 unfold letOwnedTupleGo
 cases tg <;>first
  |exact wpAny_pure hQ
  |(cases u <;>first
    |exact wpAny_pure hQ
    |(refine wpAny_bind (wpAny_load ho ?_)
      rw [hc,hd]
      show wpAny M A (if (["enumerate","zip","dict_itemiterator","dict_reverseitemiterator","odict_iterator","itertools.zip_longest","itertools.pairwise"].contains n && vs[0]?==some (rawInt _))=true then _ else _) Q E s
      rw [if_neg (by intro h;rw [hn,Bool.false_and] at h;cases h)]
      exact wpAny_pure hQ))
def Nh (K:PySem.W.Frag)(a:Addr):It:=
 ⟨fun i H=>∃xs x,bT K H a xs∧xs[i]?=some x,fun i H x H'=>H'=H∧∀xs,bT K H a xs→xs[i]?=some x,fun i H=>∃xs,bT K H a xs∧xs.length≤i⟩
def R0 (K:PySem.W.Frag)(a:Addr):It:=
 ⟨fun i H=>∃xs x,bb K H a xs∧xs[i]?=some x,fun i H x H'=>H'=H∧∀xs,bb K H a xs→xs[i]?=some x,fun i H=>∃xs,bb K H a xs∧xs.length≤i⟩
def Ra (lo:Int)(n:Nat):It:=⟨fun i _=>i < n,fun i H x H'=>H'=H∧x= .int (lo + i),fun i _=>n≤i⟩
theorem GC {P:Program}{w:World}{K:PySem.W.Frag}{tg:Expr}(a it:Addr):Turn P w K tg (Nh K a) [it] it (fun i h=>h.IsListIter it a i) where
 mem:=by simp
 obj:=fun i h st b hb=>by
  have e:b=it:=by simpa using hb
  subst e
  obtain ⟨o,e,c,d⟩:=st
  exact ⟨o,e,fun v z=>by rw [d] at z;cases z⟩
 keep:=fun i h h' st k=>st.at fun o e=>k it (by simp) o e
 item:=by
  intro X hP hw hK hc i pins s σ H E I hf st hg
  subst hP hw hK
  obtain ⟨xs,x,hq,hx⟩:=hg
  obtain ⟨aV,rv,p,hz⟩:=I.list hq
  obtain ⟨u,hu,ru⟩:=rv.get hx
  obtain ⟨f0,f1,f2,f3,f4,f5⟩:=hf it (by simp)
  refine wpAny_pyNext_list_item st p.isList (x:=u) (by simpa using hu) fun h' yi sb=> ?_
  have I1:Inv X pins σ H {s with heap:=h'}:=I.turned (t':=s.toks) (fun b o hb e=>(sb.2 b hb).trans e) f0 f1 f3 f4 f5
  obtain ⟨o,e,c,d⟩:=id yi
  exact ⟨u,rfl,Cg (s:={s with heap:=h'}) e c d (by decide) ⟨x,H,I1,ru,⟨rfl,fun ys hy=>by rw [I.Cf hy hq];exact hx⟩,yi,fun b hb=>(hf b hb).1⟩⟩
 done:=by
  intro X hP hw hK hc i pins s σ H E I hf st hg
  subst hP hw hK
  obtain ⟨xs,hq,hx⟩:=hg
  obtain ⟨aV,rv,p,hz⟩:=I.list hq
  obtain ⟨f0,f1,f2,f3,f4,f5⟩:=hf it (by simp)
  have hl:=rv.length
  exact wpAny_pyNext_list_end (I.ok.hd hc) st p.isList (by simp;omega) fun h' eb=>⟨rfl,I.turned (t':=s.toks) (fun b o hb e=>eb b o hb e) f0 f1 f3 f4 f5⟩
 self:=fun _ _ _ _ _ st h=>wpAny_pyIter_listiter st h
theorem DS {P:Program}{w:World}{K:PySem.W.Frag}{tg:Expr}(a it:Addr):Turn P w K tg (R0 K a) [it] it (fun i h=>h.IsTupleIter it a i) where
 mem:=by simp
 obj:=fun i h st b hb=>by
  have e:b=it:=by simpa using hb
  subst e
  obtain ⟨o,e,c,d⟩:=st
  exact ⟨o,e,fun v z=>by rw [d] at z;cases z⟩
 keep:=fun i h h' st k=>st.at fun o e=>k it (by simp) o e
 item:=by
  intro X hP hw hK hc i pins s σ H E I hf st hg
  subst hP hw hK
  obtain ⟨xs,x,hq,hx⟩:=hg
  obtain ⟨aV,rv,p,hz⟩:=I.tuple hq
  obtain ⟨u,hu,ru⟩:=rv.get hx
  obtain ⟨f0,f1,f2,f3,f4,f5⟩:=hf it (by simp)
  refine wpAny_pyNext_tuple_item st (show s.heap.IsTuple a aV.toArray from p) (x:=u) (by simpa using hu) fun h' yi sb=> ?_
  have I1:Inv X pins σ H {s with heap:=h'}:=I.turned (t':=s.toks) (fun b o hb e=>(sb.2 b hb).trans e) f0 f1 f3 f4 f5
  obtain ⟨o,e,c,d⟩:=id yi
  exact ⟨u,rfl,Cg (s:={s with heap:=h'}) e c d (by decide) ⟨x,H,I1,ru,⟨rfl,fun ys hy=>by rw [I.yW hy hq];exact hx⟩,yi,fun b hb=>(hf b hb).1⟩⟩
 done:=by
  intro X hP hw hK hc i pins s σ H E I hf st hg
  subst hP hw hK
  obtain ⟨xs,hq,hx⟩:=hg
  obtain ⟨aV,rv,p,hz⟩:=I.tuple hq
  obtain ⟨f0,f1,f2,f3,f4,f5⟩:=hf it (by simp)
  have hl:=rv.length
  exact wpAny_pyNext_tuple_end (I.ok.hd hc) st (show s.heap.IsTuple a aV.toArray from p) (by simp;omega) fun h' eb=>⟨rfl,I.turned (t':=s.toks) (fun b o hb e=>eb b o hb e) f0 f1 f3 f4 f5⟩
 self:=fun _ _ _ _ _ st h=>wpAny_pyIter_tupleiter st h
theorem DT {P:Program}{w:World}{K:PySem.W.Frag}{tg:Expr}(it:Addr)(lo:Int)(n:Nat):Turn P w K tg (Ra lo n) [it] it (fun i h=>IsRangeIter h it (lo + (i:Nat) * 1) ((n:Int) - (i:Nat)) 1) where
 mem:=by simp
 obj:=fun i h st b hb=>by
  have e:b=it:=by simpa using hb
  subst e
  exact ⟨_,st,fun v z=>by
   have z':Data.fields _=Data.cell v:=z
   cases z'⟩
 keep:=fun i h h' st k=>k it (by simp) _ st
 item:=by
  intro X hP hw hK hc i pins s σ H E I hf st hg
  subst hP hw hK
  obtain ⟨f0,f1,f2,f3,f4,f5⟩:=hf it (by simp)
  have W:=Walks.range (prog:=X.prog) (w:=X.w) (I.ok.hd hc) it lo 1 n
  refine W.item i s _ _ hg st fun v h' tk hv yi kk=> ?_
  obtain ⟨t,rfl⟩:=hv
  have I1:Inv X pins σ H {s with heap:=h',toks:=tk}:=I.turned (fun b o hb e=>kk b o (by simpa using hb) e) f0 f1 f3 f4 f5
  refine ⟨_,rfl,Cg (s:={s with heap:=h',toks:=tk}) (n:="range_iterator") yi rfl rfl (by decide) ⟨.int (lo + i),H,I1,⟨t,?_⟩,⟨rfl,rfl⟩,yi,fun b hb=>(hf b hb).1⟩⟩
  rw [Int.mul_one]
 done:=by
  intro X hP hw hK hc i pins s σ H E I hf st hg
  subst hP hw hK
  obtain ⟨f0,f1,f2,f3,f4,f5⟩:=hf it (by simp)
  exact wpAny_pyNext_range_end (I.ok.hd hc) st (by have:n≤i:=hg;omega) fun h' eb=>⟨rfl,I.turned (t':=s.toks) (fun b o hb e=>eb b o hb e) f0 f1 f3 f4 f5⟩
 self:=fun _ _ _ _ _ st h=>wpAny_pyIter_rangeiter st h
end L2
namespace L2
open PySem PySem.Spec PyProof.Rows
section
variable {X:Cx}{tg:Expr}
def Ni (K:PySem.W.Frag)(tl:TE):TI:=fun σ H R=>tl σ H fun x H1=>∃a,x= .ref a∧(∃xs,bT K H1 a xs)∧R (Nh K a) H1
def R8 (K:PySem.W.Frag)(tl:TE):TI:=fun σ H R=>tl σ H fun x H1=>∃a,x= .ref a∧(∃xs,bb K H1 a xs)∧R (R0 K a) H1
theorem oz {l:Expr}{tl:TE}(hl:PE X l tl):PI X tg l (Ni X.K tl):=by
 intro pins s σ H R I h
 refine cI (hl pins s σ H _ I h) fun v s1 ⟨x,H1,I1,r1,q1⟩=> ?_
 obtain ⟨a,e,⟨xs,hq⟩,q⟩:=q1
 subst e
 cases r1
 obtain ⟨aV,rv,p,hz⟩:=I1.list hq
 refine wpAny_pyIter_list p.isList ?_
 refine ⟨s1.heap.objs.size,[s1.heap.objs.size],_,_,H1,rfl,I1.kept (t':=s1.toks) fun b o e=>Heap.get?_push_of_some _ e,GC a _,⟨_,Heap.get?_push_size _ rfl,rfl,rfl⟩,fun b hb=> ?_,q⟩
 have e:b=s1.heap.objs.size:=by simpa using hb
 subst e
 exact I1.GB (Nat.le_refl _) (I1.bF.fresh (Nat.le_refl _))
theorem N7 {l:Expr}{tl:TE}(hl:PE X l tl):PI X tg l (R8 X.K tl):=by
 intro pins s σ H R I h
 refine cI (hl pins s σ H _ I h) fun v s1 ⟨x,H1,I1,r1,q1⟩=> ?_
 obtain ⟨a,e,⟨xs,hq⟩,q⟩:=q1
 subst e
 cases r1
 obtain ⟨aV,rv,p,hz⟩:=I1.tuple hq
 refine wpAny_pyIter_tuple (show s1.heap.IsTuple a aV.toArray from p) ?_
 refine ⟨s1.heap.objs.size,[s1.heap.objs.size],_,_,H1,rfl,I1.kept (t':=s1.toks) fun b o e=>Heap.get?_push_of_some _ e,DS a _,⟨_,Heap.get?_push_size _ rfl,rfl,rfl⟩,fun b hb=> ?_,q⟩
 have e:b=s1.heap.objs.size:=by simpa using hb
 subst e
 exact I1.GB (Nat.le_refl _) (I1.bF.fresh (Nat.le_refl _))
theorem IS {pins:List (Addr×Obj)}{σ:St}{H:Hp}{s:Shared}{R:It→Hp→Prop}{E:Value→Shared→Prop}{lo hi:Int}{t u v:Tok}{tk:Nat}(I:Inv X pins σ H s)(h1: -(2 ^ 62)≤lo)(h2:lo < 2 ^ 62)(h3: -(2 ^ 62)≤hi)(h4:hi < 2 ^ 62)
  (q:R (Ra lo (hi - lo).toNat) H):wpAny (model X.prog X.w) X.A (pyIter (.ref s.heap.objs.size)) (RZ X pins σ tg R) E {s with heap:=s.heap.push {cls:= .type "range",data:= .fields #[.int lo t,.int hi u,.int 1 v] },toks:=tk}:=by
 refine wpAny_pyIter_range (IsRange.new ..) (small_one h1 h2 h3 h4) ?_
 have I1:Inv X pins σ H {s with heap:=s.heap.push {cls:= .type "range",data:= .fields #[.int lo t,.int hi u,.int 1 v] },toks:=tk}:=I.kept fun b o e=>Heap.get?_push_of_some _ e
 refine ⟨(s.heap.push {cls:= .type "range",data:= .fields #[.int lo t,.int hi u,.int 1 v] }).objs.size,[(s.heap.push {cls:= .type "range",data:= .fields #[.int lo t,.int hi u,.int 1 v] }).objs.size],_,_,H,rfl,
  I1.kept (t':=tk) fun b o e=>Heap.get?_push_of_some _ e,DT _ lo (hi - lo).toNat,?_,fun b hb=> ?_,q⟩
 ·have e1:lo + ((0:Nat):Int) * 1=lo:=by simp
  have e2:(((hi - lo).toNat:Nat):Int) - ((0:Nat):Int)=Builtin.Range.rangeSize lo hi 1:=by rw [rangeSize_one];split <;>omega
  show IsRangeIter _ _ (lo + ((0:Nat):Int) * 1) ((((hi - lo).toNat:Nat):Int) - ((0:Nat):Int)) 1
  rw [e1,e2]
  exact Heap.get?_push_size _ rfl
 ·have e:b=(s.heap.push {cls:= .type "range",data:= .fields #[.int lo t,.int hi u,.int 1 v] }).objs.size:=by simpa using hb
  subst e
  exact I1.GB (Nat.le_refl _) (I1.bF.fresh (Nat.le_refl _))
def R9 (ta:TA):TI:=fun σ H R=>ta σ H fun vs H1=>∃j:Int,vs= [.int j] ∧ -(2 ^ 62)≤j∧j < 2 ^ 62∧R (Ra 0 j.toNat) H1
theorem GD {a:Expr}{ta:TA}{p pos:Pos}(hg:Gl X "range")(hm:X.mg "range"=none)(ha:PA X [a] ta)(hs:starEach [a] X.env= [(false,eval a X.env)] :=by rfl):PI X tg (.Call (.Name "range" p) [a] [] pos) (R9 ta):=by
 intro pins s σ H R I h
 refine Call_ (tq I hg hm boot_range (PyProof.Rows.callWith_type1 (cI (ha pos pins s σ H _ I h) fun us s1 ⟨vs,H1,I1,r1,q1⟩=> ?_) hs rfl))
 obtain ⟨j,e,q1,q2,q⟩:=q1
 subst e
 cases r1 with
 |cons r rr=>
  cases rr
  obtain ⟨t,rfl⟩:=r
  exact call_range_1 (IS I1 (by omega) (by omega) q1 q2 (by simpa using q))
def abb (wi:TI)(g:TG)(tb:TS):TS:=fun D σ H=>wi σ H fun J H1=>∃W:Nat→Nat→St→Hp→Prop,(∃m,W 0 m σ H1)∧∀i m σ H,W i m σ H→
 (J.stop i H∧D.nx σ H)∨(J.go i H∧∃N:St→Hp→Prop,(∀σ' H',N σ' H'→∃m',m' < m∧W (i + 1) m' σ' H')∧∀x H',J.Iw i H x H'→g x σ H' fun σ2 H2=>tb {D with nx:=N,ct:=N,bk:=D.nx} σ2 H2)
def vZ (fp:List Addr)(h:Heap):List (Addr×Obj):=fp.filterMap fun b=>(h.get? b).map fun o=>(b,o)
theorem qp {fp:List Addr}{h:Heap}{b:Addr}{o:Obj}(hb:b∈fp)(e:h.get? b=some o):(b,o)∈vZ fp h:=List.mem_filterMap.mpr ⟨b,hb,by rw [e];rfl⟩
theorem GF {fp:List Addr}{h:Heap}{p:Addr×Obj}(hp:p∈vZ fp h):p.1∈fp∧h.get? p.1=some p.2:=by
 obtain ⟨b,hb,e⟩:=List.mem_filterMap.mp hp
 cases q:h.get? b with
 |none=>rw [q] at e;cases e
 |some o=>
  rw [q] at e
  have e':(b,o)=p:=Option.some.inj e
  subst e'
  exact ⟨hb,q⟩
theorem Inv.pinned {pins:List (Addr×Obj)}{σ:St}{H:Hp}{s:Shared}{fp:List Addr}(I:Inv X pins σ H s)(hf:∀b∈fp,vk X pins H b)(ho:∀b∈fp,∃o,s.heap.get? b=some o∧∀v,o.data≠ .cell v):Inv X (pins ++ vZ fp s.heap) σ H s:=
 I.E9 fun p hp=>(List.mem_append.mp hp).elim (fun z=>I.pin p (List.mem_append_right _ z)) fun z=>by
  obtain ⟨hb,e⟩:=GF z
  obtain ⟨f0,f1,f2,_⟩:=hf p.1 hb
  obtain ⟨o,e',d⟩:=ho p.1 hb
  rw [e] at e';cases e'
  exact ⟨e,f0,f1,f2,d⟩
theorem Inv.qM {pins pl:List (Addr×Obj)}{σ:St}{H:Hp}{s:Shared}(I:Inv X (pins ++ pl) σ H s):Inv X pins σ H s:=I.E9 fun p hp=>I.pin p (List.mem_append_right _ (List.mem_append_left _ hp))
theorem v7 {iter:Expr}{body:List Stmt}{wi:TI}{g:TG}{tb:TS}{pos:Pos}(hp:PassesOwn (model X.prog X.w) X.A X.env X.xe)(hc:X.calm=true)(hi:PI X tg iter wi)(hg:PG X tg g)(hb:GA X body tb)
  (hs:∀x,foldedSetIterable iter X.env x=pure x:=by intro _;rfl):PS X (.For tg iter body [] pos) (abb wi g tb):=by
 intro pins s σ H D I h
 refine wpAny_For (cI (hi pins s σ H _ I h) fun v s1 h1=>cI h1 fun itv s2 h2=> ?_) hs
 obtain ⟨it,fp,tn,J,H2,e,I2,T,st2,f2,W,⟨m0,w0⟩,turn⟩:=h2
 subst e
 have stat:∀ {H':Hp},(∀b∈fp,H' b=none)→∀b∈fp,vk X pins H' b:=fun hn b hb=>⟨hn b hb,(f2 b hb).2⟩
 refine codeAny_forLoop_any (fun n s'=>∃i σ' H',Inv X pins σ' H' s'∧tn i s'.heap∧(∀b∈fp,H' b=none)∧W i n σ' H') ?_ m0 ⟨0,σ,H2,I2,st2,fun b hb=>(f2 b hb).1,w0⟩
 rintro n s3 ⟨i,σ3,H3,I3,st3,fr3,w3⟩
 rcases turn i n σ3 H3 w3 with ⟨stop,qn⟩|⟨go,N,hN,step⟩
 ·refine wpAny_passesOwn hp (cI (T.done X rfl rfl rfl hc i pins s3 σ3 H3 X.xe I3 (stat fr3) st3 stop) fun r s4 ⟨hr,I4⟩=> ?_)
  subst hr
  exact wpAny_execs_nil ⟨σ3,H3,I4,qn⟩
 ·refine wpAny_passesOwn hp (cI (T.item X rfl rfl rfl hc i pins s3 σ3 H3 X.xe I3 (stat fr3) st3 go) fun r s4 ⟨u,hr,h4⟩=> ?_)
  subst hr
  refine wpAny_passesOwn hp (cI h4 fun _ s5 ⟨x,H5,I5,r5,y5,Rb,fr5⟩=> ?_)
  have I5':=I5.pinned (stat fr5) (T.obj _ _ Rb)
  refine wpAny_passesOwn hp (cI (hg _ s5 σ3 H5 x u _ I5' r5 (step x H5 y5)) fun _ s6 ⟨σ6,H6,I6,q6⟩=> ?_)
  refine wpAny_passesOwn hp (cI (hb _ s6 σ6 H6 _ I6 q6) fun f s7 q7=> ?_)
  have again:∀ {σ7:St}{H7:Hp},Inv X (pins ++ vZ fp s5.heap) σ7 H7 s7→N σ7 H7→∃m,m < n∧∃i σ' H',Inv X pins σ' H' s7∧tn i s7.heap∧(∀b∈fp,H' b=none)∧W i m σ' H':=fun {σ7 H7} I7 n7=>by
   obtain ⟨m',hm,w7⟩:=hN σ7 H7 n7
   refine ⟨m',hm,i + 1,σ7,H7,I7.qM,T.keep _ _ _ Rb fun b hb o e=>(I7.pin (b,o) (List.mem_append_right _ (List.mem_append_right _ (qp hb e)))).1,fun b hb=> ?_,w7⟩
   obtain ⟨o,e,d⟩:=T.obj _ _ Rb b hb
   exact (I7.pin (b,o) (List.mem_append_right _ (List.mem_append_right _ (qp hb e)))).2.1
  cases f with
  |next=>obtain ⟨σ7,H7,I7,n7⟩:=q7;exact again I7 n7
  |cont=>obtain ⟨σ7,H7,I7,n7⟩:=q7;exact again I7 n7
  |brk=>obtain ⟨σ7,H7,I7,q7⟩:=q7;exact ⟨σ7,H7,I7.qM,q7⟩
  |ret v=>obtain ⟨x7,σ7,H7,I7,r7,q7⟩:=q7;exact ⟨x7,σ7,H7,I7.qM,r7,q7⟩
end
theorem v8 {K:PySem.W.Frag}{a:Addr}{xs:List V}{g:TG}{tb:TS}{D:Ends}{σ:St}{H:Hp}(Pv:Nat→St→Hp→Prop)(h0:Pv 0 σ H)(hl:∀i σ H,i≤xs.length→Pv i σ H→bT K H a xs)
  (hs:∀i x σ H,xs[i]?=some x→Pv i σ H→g x σ H fun σ2 H2=>tb {D with nx:=Pv (i + 1),ct:=Pv (i + 1),bk:=D.nx} σ2 H2)(hd:∀σ H,Pv xs.length σ H→D.nx σ H):
  ∃W:Nat→Nat→St→Hp→Prop,(∃m,W 0 m σ H)∧∀i m σ H,W i m σ H→
   ((Nh K a).stop i H∧D.nx σ H)∨((Nh K a).go i H∧∃N:St→Hp→Prop,(∀σ' H',N σ' H'→∃m',m' < m∧W (i + 1) m' σ' H')∧∀x H',(Nh K a).Iw i H x H'→g x σ H' fun σ2 H2=>tb {D with nx:=N,ct:=N,bk:=D.nx} σ2 H2):=by
 refine ⟨fun i m σ H=>m=xs.length - i∧i≤xs.length∧Pv i σ H,⟨xs.length,by simp,Nat.zero_le _,h0⟩,?_⟩
 rintro i m σ H ⟨rfl,hi,p⟩
 have q:=hl i σ H hi p
 by_cases dy:i < xs.length
 ·refine .inr ⟨⟨xs,xs[i],q,by simp [dy]⟩,Pv (i + 1),fun σ' H' p'=>⟨xs.length - (i + 1),by omega,rfl,dy,p'⟩,fun x H' y=> ?_⟩
  obtain ⟨e,y⟩:=y
  subst e
  exact hs i x σ _ (y xs q) p
 ·have e:i=xs.length:=by omega
  subst e
  exact .inl ⟨⟨xs,q,Nat.le_refl _⟩,hd σ H p⟩
theorem LJ {K:PySem.W.Frag}{a:Addr}{xs:List V}{g:TG}{tb:TS}{D:Ends}{σ:St}{H:Hp}(Pv:Nat→St→Hp→Prop)(h0:Pv 0 σ H)(hl:∀i σ H,i≤xs.length→Pv i σ H→bb K H a xs)
  (hs:∀i x σ H,xs[i]?=some x→Pv i σ H→g x σ H fun σ2 H2=>tb {D with nx:=Pv (i + 1),ct:=Pv (i + 1),bk:=D.nx} σ2 H2)(hd:∀σ H,Pv xs.length σ H→D.nx σ H):
  ∃W:Nat→Nat→St→Hp→Prop,(∃m,W 0 m σ H)∧∀i m σ H,W i m σ H→
   ((R0 K a).stop i H∧D.nx σ H)∨((R0 K a).go i H∧∃N:St→Hp→Prop,(∀σ' H',N σ' H'→∃m',m' < m∧W (i + 1) m' σ' H')∧∀x H',(R0 K a).Iw i H x H'→g x σ H' fun σ2 H2=>tb {D with nx:=N,ct:=N,bk:=D.nx} σ2 H2):=by
 refine ⟨fun i m σ H=>m=xs.length - i∧i≤xs.length∧Pv i σ H,⟨xs.length,by simp,Nat.zero_le _,h0⟩,?_⟩
 rintro i m σ H ⟨rfl,hi,p⟩
 have q:=hl i σ H hi p
 by_cases dy:i < xs.length
 ·refine .inr ⟨⟨xs,xs[i],q,by simp [dy]⟩,Pv (i + 1),fun σ' H' p'=>⟨xs.length - (i + 1),by omega,rfl,dy,p'⟩,fun x H' y=> ?_⟩
  obtain ⟨e,y⟩:=y
  subst e
  exact hs i x σ _ (y xs q) p
 ·have e:i=xs.length:=by omega
  subst e
  exact .inl ⟨⟨xs,q,Nat.le_refl _⟩,hd σ H p⟩
theorem oA {lo:Int}{n:Nat}{g:TG}{tb:TS}{D:Ends}{σ:St}{H:Hp}(Pv:Nat→St→Hp→Prop)(h0:Pv 0 σ H)
  (hs:∀i σ H,i < n→Pv i σ H→g (.int (lo + i)) σ H fun σ2 H2=>tb {D with nx:=Pv (i + 1),ct:=Pv (i + 1),bk:=D.nx} σ2 H2)(hd:∀σ H,Pv n σ H→D.nx σ H):
  ∃W:Nat→Nat→St→Hp→Prop,(∃m,W 0 m σ H)∧∀i m σ H,W i m σ H→
   ((Ra lo n).stop i H∧D.nx σ H)∨((Ra lo n).go i H∧∃N:St→Hp→Prop,(∀σ' H',N σ' H'→∃m',m' < m∧W (i + 1) m' σ' H')∧∀x H',(Ra lo n).Iw i H x H'→g x σ H' fun σ2 H2=>tb {D with nx:=N,ct:=N,bk:=D.nx} σ2 H2):=by
 refine ⟨fun i m σ H=>m=n - i∧i≤n∧Pv i σ H,⟨n,by simp,Nat.zero_le _,h0⟩,?_⟩
 rintro i m σ H ⟨rfl,hi,p⟩
 by_cases dy:i < n
 ·refine .inr ⟨dy,Pv (i + 1),fun σ' H' p'=>⟨n - (i + 1),by omega,rfl,dy,p'⟩,fun x H' y=> ?_⟩
  obtain ⟨e,y⟩:=y
  subst e y
  exact hs i σ _ dy p
 ·have e:i=n:=by omega
  subst e
  exact .inl ⟨Nat.le_refl _,hd σ H p⟩
end L2
namespace L2
open PySem PySem.Spec PyProof.Rows
abbrev R2:=V→V→Hp→VK→Prop
def vm (X:Cx)(f:Value→Value→Sem Value)(r:R2):Prop:=
 ∀ (pins:List (Addr×Obj))(s:Shared)(σ:St)(H:Hp)(x y:V)(v u:Value)(Q:VK),Inv X pins σ H s→RelV x v→RelV y u→r x y H Q→
  wpAny (model X.prog X.w) X.A (f v u) (EP X pins σ Q) X.xe s
def UnR (X:Cx)(f:Value→Sem Value)(r:V→Hp→VK→Prop):Prop:=
 ∀ (pins:List (Addr×Obj))(s:Shared)(σ:St)(H:Hp)(x:V)(v:Value)(Q:VK),Inv X pins σ H s→RelV x v→r x H Q→
  wpAny (model X.prog X.w) X.A (f v) (EP X pins σ Q) X.xe s
def jL (X:Cx)(f:Value)(r:List V→Hp→VK→Prop):Prop:=
 ∀ (pins:List (Addr×Obj))(s:Shared)(σ:St)(H:Hp)(xs:List V)(us:List Value)(Q:VK),Inv X pins σ H s→Vals xs us→r xs H Q→
  wpAny (model X.prog X.w) X.A (call f us) (EP X pins σ Q) X.xe s
def tOp (r:R2)(ta tb:TE):TE:=fun σ H Q=>ta σ H fun x H1=>tb σ H1 fun y H2=>r x y H2 Q
def tUn (r:V→Hp→VK→Prop)(ta:TE):TE:=fun σ H Q=>ta σ H fun x H1=>r x H1 Q
def rI (C:Int→Int→Prop)(g:Int→Int→V):R2:=fun x y H Q=>∃i j,x= .int i∧y= .int j∧C i j∧Q (g i j) H
def Nj (g:Int→Int→V):R2:=fun x y H Q=>∃i j,x= .int i∧y= .int j∧Q (g i j) H
def rU (g:Int→V):V→Hp→VK→Prop:=fun x H Q=>∃i,x= .int i∧Q (g i) H
section
variable {X:Cx}{a b c:Expr}{ta tb tc:TE}{pos:Pos}
theorem N8 (ha:PE X a ta)(hb:PE X b tb){pins:List (Addr×Obj)}{s:Shared}{σ:St}{H:Hp}{R:V→V→Hp→Prop}(I:Inv X pins σ H s)
  (h:ta σ H fun x H1=>tb σ H1 fun y H2=>R x y H2){Q:Value→Shared→Prop}{f:Value→Value→Sem Value}
  (hf:∀v u s2 x y H2,Inv X pins σ H2 s2→RelV x v→RelV y u→R x y H2→wpAny (model X.prog X.w) X.A (f v u) Q X.xe s2):
  wpAny (model X.prog X.w) X.A (eval a X.env) (fun v s₁=>wpAny (model X.prog X.w) X.A (eval b X.env) (fun u s₂=>wpAny (model X.prog X.w) X.A (f v u) Q X.xe s₂) X.xe s₁) X.xe s:=by
 refine cI (ha pins s σ H _ I h) fun v s1 ⟨x,H1,I1,r1,q1⟩=> ?_
 refine cI (hb pins s1 σ H1 _ I1 q1) fun u s2 ⟨y,H2,I2,r2,q2⟩=> ?_
 exact hf v u s2 x y H2 I2 r1 r2 q2
theorem bW {op:Operator}{r:R2}(ho:vm X (binaryOp op) r)(ha:PE X a ta)(hb:PE X b tb):PE X (.BinOp a op b pos) (tOp r ta tb):=by
 intro pins s σ H Q I h
 exact wpAny_BinOp (N8 ha hb I h fun v u s2 x y H2 I2 rx ry q=>ho pins s2 σ H2 x y v u Q I2 rx ry q)
theorem dg {op:UnaryOp}{r:V→Hp→VK→Prop}(ho:UnR X (unaryOp op) r)(ha:PE X a ta):PE X (.UnaryOp op a pos) (tUn r ta):=by
 intro pins s σ H Q I h
 exact UnaryOp_ (cI (ha pins s σ H _ I h) fun v s1 ⟨x,H1,I1,r1,q1⟩=>ho pins s1 σ H1 x v Q I1 r1 q1)
theorem opI {f:Value→Value→Sem Value}{C:Int→Int→Prop}{g:Int→Int→Int}
  (rule:∀ (i j:Int)(t u:Tok)(s:Shared)(Q:Value→Shared→Prop)(E:Value→Shared→Prop),C i j→Q (.int (g i j) s.toks) {s with toks:=s.toks + 1}→wpAny (model X.prog X.w) X.A (f (.int i t) (.int j u)) Q E s):
  vm X f (rI C fun i j=> .int (g i j)):=by
 intro pins s σ H x y v u Q I rx ry h
 obtain ⟨i,j,rfl,rfl,hc,q⟩:=h
 obtain ⟨t,rfl⟩:=rx
 obtain ⟨t',rfl⟩:=ry
 exact rule i j t t' s _ _ hc ⟨.int (g i j),H,I.tok _,⟨_,rfl⟩,q⟩
theorem Sd {f:Value→Value→Sem Value}{g:Int→Int→Int}
  (rule:∀ (i j:Int)(t u:Tok)(s:Shared)(Q:Value→Shared→Prop)(E:Value→Shared→Prop),Q (.int (g i j) s.toks) {s with toks:=s.toks + 1}→wpAny (model X.prog X.w) X.A (f (.int i t) (.int j u)) Q E s):
  vm X f (Nj fun i j=> .int (g i j)):=by
 intro pins s σ H x y v u Q I rx ry h
 obtain ⟨i,j,rfl,rfl,q⟩:=h
 obtain ⟨t,rfl⟩:=rx
 obtain ⟨t',rfl⟩:=ry
 exact rule i j t t' s _ _ ⟨.int (g i j),H,I.tok _,⟨_,rfl⟩,q⟩
theorem LK {f:Value→Value→Sem Value}{g:Int→Int→Bool}
  (rule:∀ (i j:Int)(t u:Tok)(s:Shared)(Q:Value→Shared→Prop)(E:Value→Shared→Prop),Q (.bool (g i j)) s→wpAny (model X.prog X.w) X.A (f (.int i t) (.int j u)) Q E s):
  vm X f (Nj fun i j=> .bl (g i j)):=by
 intro pins s σ H x y v u Q I rx ry h
 obtain ⟨i,j,rfl,rfl,q⟩:=h
 obtain ⟨t,rfl⟩:=rx
 obtain ⟨t',rfl⟩:=ry
 exact rule i j t t' s _ _ ⟨.bl (g i j),H,I,rfl,q⟩
def abe (i j:Int):Prop:=0 < j∧j < 1073741824
def N9 (i j:Int):Prop:=(-(2 ^ 64) < i∧i < 2 ^ 64)∨(-(2 ^ 64) < j∧j < 2 ^ 64)
theorem N9.ok {i j:Int}(h:N9 i j):IntMulOk i j:=by
 rcases h with ⟨h1,h2⟩|⟨h1,h2⟩
 ·exact .of_left (intBits_le_64 h1 h2)
 ·exact .of_right (intBits_le_64 h1 h2)
theorem dz:vm X (binaryOp .Add) (Nj fun i j=> .int (i + j)):=Sd fun _ _ _ _ _ _ _ q=>add_int q
theorem DU:vm X (binaryOp .Sub) (Nj fun i j=> .int (i - j)):=Sd fun _ _ _ _ _ _ _ q=>sub_int q
theorem Oa:vm X (binaryOp .Mult) (rI N9 fun i j=> .int (i * j)):=opI fun _ _ _ _ _ _ _ hc q=>mul_int q hc.ok
theorem Ae:vm X (binaryOp .FloorDiv) (rI abe fun i j=> .int (i / j)):=opI fun i j _ _ _ _ _ hc q=>by
 have h1:(0:Int) < j:=hc.1
 have h2:j < 1073741824:=hc.2
 exact floordiv_int (by omega) (by rw [Int.fdiv_eq_ediv_of_nonneg i (by omega)];exact q) (.inl (PyProof.noPylong_small (by omega)))
theorem IT:vm X (binaryOp .Mod) (rI (fun _ j=>0 < j) fun i j=> .int (i % j)):=opI fun i j _ _ _ _ _ hc q=>by
 have h1:(0:Int) < j:=hc
 exact mod_int' (by omega) (by rw [Int.fmod_eq_emod_of_nonneg i (by omega)];exact q)
theorem unI {f:Value→Sem Value}{g:Int→Int}
  (rule:∀ (i:Int)(t:Tok)(s:Shared)(Q:Value→Shared→Prop)(E:Value→Shared→Prop),Q (.int (g i) s.toks) {s with toks:=s.toks + 1}→wpAny (model X.prog X.w) X.A (f (.int i t)) Q E s):
  UnR X f (rU fun i=> .int (g i)):=by
 intro pins s σ H x v Q I rx h
 obtain ⟨i,rfl,q⟩:=h
 obtain ⟨t,rfl⟩:=rx
 exact rule i t s _ _ ⟨.int (g i),H,I.tok _,⟨_,rfl⟩,q⟩
theorem bP:UnR X (unaryOp .USub) (rU fun i=> .int (-i)):=unI fun _ _ _ _ _ q=>neg_int q
end
def Se:V→V→Bool
 | .bu,.bu=>true| .bu,.int _=>true| .int _,.bu=>true| .bu,.bl _=>true| .bl _,.bu=>true| .bu,.str _=>true| .str _,.bu=>true
 | .int _,.int _=>true| .bl _,.bl _=>true| .str _,.str _=>true| .Cc _,.Cc _=>true
 | .int _,.str _=>true| .str _,.int _=>true| .bl _,.str _=>true| .str _,.bl _=>true
 |_,_=>false
def rEq:R2:=fun x y H Q=>Se x y=true∧Q (.bl (decide (x=y))) H
def rNe:R2:=fun x y H Q=>Se x y=true∧Q (.bl (!decide (x=y))) H
theorem Fe {i j:Int}:decide (V.int i=V.int j)=(i==j):=by
 rw [Bool.eq_iff_iff]
 simp
theorem IU {i j:Bool}:decide (V.bl i=V.bl j)=(i==j):=by
 rw [Bool.eq_iff_iff]
 simp
theorem Ff {i j:Str}:decide (V.str i=V.str j)=(i==j):=by
 rw [Bool.eq_iff_iff]
 simp
theorem Fg {i j:Array UInt8}:decide (V.Cc i=V.Cc j)=(i.toList==j.toList):=by
 rw [Bool.eq_iff_iff]
 cases i
 cases j
 simp
section
variable {X:Cx}{a b c:Expr}{ta tb tc:TE}{pos:Pos}
theorem bN {pins:List (Addr×Obj)}{σ:St}{H:Hp}{s:Shared}{Q:VK}{k k':Bool}(I:Inv X pins σ H s)(q:Q (.bl k) H)(e:k=k'):EP X pins σ Q (.bool k') s:=by
 subst e
 exact ⟨.bl k,H,I,rfl,q⟩
theorem cf:vm X (compareOp .Eq) rEq:=by
 intro pins s σ H x y v u Q I rx ry h
 obtain ⟨hs,q⟩:=h
 cases x with
 |bu=>
  cases rx
  cases y with
  |bu=>cases ry;exact PySem.EqNone.eq_none_none (bN I q (by simp))
  |bl j=>cases ry;exact PySem.EqNone.eq_none_bool (bN I q (by simp))
  |int j=>obtain ⟨t',rfl⟩:=ry;exact PySem.EqNone.eq_none_int (bN I q (by simp))
  |str j=>obtain ⟨t',rfl⟩:=ry;exact PySem.EqNone.eq_none_str (bN I q (by simp))
  |_=>exact absurd (show false=true from hs) Bool.false_ne_true
 |bl i=>
  cases rx
  cases y with
  |bu=>cases ry;exact PySem.EqNone.eq_bool_none (bN I q (by simp))
  |bl j=>cases ry;exact eq_bool (bN I q IU)
  |str j=>obtain ⟨t',rfl⟩:=ry;exact PySem.EqMixed.eq_bool_str (bN I q (by simp))
  |_=>exact absurd (show false=true from hs) Bool.false_ne_true
 |int i=>
  obtain ⟨t,rfl⟩:=rx
  cases y with
  |bu=>cases ry;exact PySem.EqNone.eq_int_none (bN I q (by simp))
  |int j=>obtain ⟨t',rfl⟩:=ry;exact eq_int (bN I q Fe)
  |str j=>obtain ⟨t',rfl⟩:=ry;exact PySem.EqMixed.eq_int_str (bN I q (by simp))
  |_=>exact absurd (show false=true from hs) Bool.false_ne_true
 |str i=>
  obtain ⟨t,rfl⟩:=rx
  cases y with
  |bu=>cases ry;exact PySem.EqNone.eq_str_none (bN I q (by simp))
  |bl j=>cases ry;exact PySem.EqMixed.eq_str_bool (bN I q (by simp))
  |int j=>obtain ⟨t',rfl⟩:=ry;exact PySem.EqMixed.eq_str_int (bN I q (by simp))
  |str j=>obtain ⟨t',rfl⟩:=ry;exact eq_str (bN I q Ff)
  |_=>exact absurd (show false=true from hs) Bool.false_ne_true
 |Cc i=>
  obtain ⟨t,rfl⟩:=rx
  cases y with
  |Cc j=>obtain ⟨t',rfl⟩:=ry;exact PySem.W.eq_bytes (bN I q Fg)
  |_=>exact absurd (show false=true from hs) Bool.false_ne_true
 |_=>cases y <;>exact absurd (show false=true from hs) Bool.false_ne_true
theorem v9:vm X (compareOp .NotEq) rNe:=by
 intro pins s σ H x y v u Q I rx ry h
 obtain ⟨hs,q⟩:=h
 cases x with
 |bu=>
  cases rx
  cases y with
  |bu=>cases ry;exact PySem.EqNone.ne_none_none (bN I q (by simp))
  |bl j=>cases ry;exact PySem.EqNone.ne_none_bool (bN I q (by simp))
  |int j=>obtain ⟨t',rfl⟩:=ry;exact PySem.EqNone.ne_none_int (bN I q (by simp))
  |str j=>obtain ⟨t',rfl⟩:=ry;exact PySem.EqNone.ne_none_str (bN I q (by simp))
  |_=>exact absurd (show false=true from hs) Bool.false_ne_true
 |bl i=>
  cases rx
  cases y with
  |bu=>cases ry;exact PySem.EqNone.ne_bool_none (bN I q (by simp))
  |bl j=>cases ry;exact ne_bool (bN I q (congrArg not IU))
  |str j=>obtain ⟨t',rfl⟩:=ry;exact PySem.EqMixed.ne_bool_str (bN I q (by simp))
  |_=>exact absurd (show false=true from hs) Bool.false_ne_true
 |int i=>
  obtain ⟨t,rfl⟩:=rx
  cases y with
  |bu=>cases ry;exact PySem.EqNone.ne_int_none (bN I q (by simp))
  |int j=>obtain ⟨t',rfl⟩:=ry;exact ne_int (bN I q (congrArg not Fe))
  |str j=>obtain ⟨t',rfl⟩:=ry;exact PySem.EqMixed.ne_int_str (bN I q (by simp))
  |_=>exact absurd (show false=true from hs) Bool.false_ne_true
 |str i=>
  obtain ⟨t,rfl⟩:=rx
  cases y with
  |bu=>cases ry;exact PySem.EqNone.ne_str_none (bN I q (by simp))
  |bl j=>cases ry;exact PySem.EqMixed.ne_str_bool (bN I q (by simp))
  |int j=>obtain ⟨t',rfl⟩:=ry;exact PySem.EqMixed.ne_str_int (bN I q (by simp))
  |str j=>obtain ⟨t',rfl⟩:=ry;exact ne_str (bN I q (congrArg not Ff))
  |_=>exact absurd (show false=true from hs) Bool.false_ne_true
 |Cc i=>
  obtain ⟨t,rfl⟩:=rx
  cases y with
  |Cc j=>obtain ⟨t',rfl⟩:=ry;exact PySem.W.ne_bytes (bN I q (congrArg not Fg))
  |_=>exact absurd (show false=true from hs) Bool.false_ne_true
 |_=>cases y <;>exact absurd (show false=true from hs) Bool.false_ne_true
theorem kK:vm X (compareOp .Lt) (Nj fun i j=> .bl (decide (i < j))):=LK fun _ _ _ _ _ _ _ q=>lt_int q
theorem wa:vm X (compareOp .LtE) (Nj fun i j=> .bl (decide (i≤j))):=LK fun _ _ _ _ _ _ _ q=>le_int q
theorem qN:vm X (compareOp .Gt) (Nj fun i j=> .bl (decide (j < i))):=LK fun _ _ _ _ _ _ _ q=>gt_int q
theorem Sf:vm X (compareOp .GtE) (Nj fun i j=> .bl (decide (j≤i))):=LK fun _ _ _ _ _ _ _ q=>ge_int q
theorem aM (b:Expr){op:CmpOp}(h:op≠ .In:=by decide)(h2:op≠ .NotIn:=by decide):behindInMarks op b=false:=by
 have e1:(op==CmpOp.In)=false:=by cases op <;>first|rfl|exact absurd rfl h
 have e2:(op==CmpOp.NotIn)=false:=by cases op <;>first|rfl|exact absurd rfl h2
 cases b <;>simp [behindInMarks,e1,e2]
theorem iH {op:CmpOp}{r:R2}(ho:vm X (compareOp op) r)(ha:PE X a ta)(hb:PE X b tb)(hm:behindInMarks op b=false):PE X (.Compare a [op] [b] pos) (tOp r ta tb):=by
 intro pins s σ H Q I h
 exact wpAny_Compare1 (N8 ha hb I h fun v u s2 x y H2 I2 rx ry q=>ho pins s2 σ H2 x y v u Q I2 rx ry q) hm
def Sg (t:TE):TT:=fun σ H Q=>t σ H fun x H'=>∃k,x= .bl k∧Q k H'
theorem aI {op:CmpOp}{r:R2}(ho:vm X (compareOp op) r)(ha:PE X a ta)(hb:PE X b tb)(hm:behindInMarks op b=false):PT X (.Compare a [op] [b] pos) (Sg (tOp r ta tb)):=by
 intro pins s σ H Q I h
 refine wpAny_isTrue_Compare1 (cI (ha pins s σ H _ I h) fun v s1 ⟨x,H1,I1,r1,q1⟩=>cI (hb pins s1 σ H1 _ I1 q1) fun u s2 ⟨y,H2,I2,r2,q2⟩=>
  cI (ho pins s2 σ H2 x y v u _ I2 r1 r2 q2) fun c s3 ⟨z,H3,I3,r3,k,e,q3⟩=> ?_) hm
 subst e
 cases r3
 exact wpAny_truthy_bool ⟨H3,I3,q3⟩
def Ob (r r':R2)(ta tb tc:TE):TE:=fun σ H Q=>ta σ H fun x H1=>tb σ H1 fun y H2=>r x y H2 fun z H3=>∃k,z= .bl k∧
 (if k=true then tc σ H3 fun w' H4=>r' y w' H4 Q else Q (.bl false) H3)
theorem mP {op op':CmpOp}{r r':R2}(ho:vm X (compareOp op) r)(yf:vm X (compareOp op') r')(ha:PE X a ta)(hb:PE X b tb)(hc:PE X c tc)
  (hm:lastMarks [op,op'] [b,c] =false:=by with_unfolding_all rfl):PE X (.Compare a [op,op'] [b,c] pos) (Ob r r' ta tb tc):=by
 intro pins s σ H Q I h
 refine Compare_chain (cI (ha pins s σ H _ I h) fun v s1 ⟨x,H1,I1,r1,q1⟩=>chain_link (cI (hb pins s1 σ H1 _ I1 q1) fun u s2 ⟨y,H2,I2,r2,q2⟩=>
  cI (ho pins s2 σ H2 x y v u _ I2 r1 r2 q2) fun d s3 ⟨z,H3,I3,r3,k,e,q3⟩=> ?_)) hm
 subst e
 cases r3
 refine wpAny_truthy_bool ?_
 cases k with
 |false=>exact ite_ff ⟨.bl false,H3,I3,rfl,q3⟩
 |true=>exact ite_tt (chain_last (cI (hc pins s3 σ H3 _ I3 q3) fun w' s4 ⟨z',H4,I4,r4,q4⟩=>yf pins s4 σ H4 y z' u w' Q I4 r2 r4 q4))
theorem wb:(sizeLine:Nat) < 2 ^ 63:=by rw [sizeLine_eq];decide
theorem vals1 {x:V}{us:List Value}(r:Vals [x] us):∃u,us= [u] ∧RelV x u:=by
 cases r with
 |cons r1 r2=>cases r2;exact ⟨_,rfl,r1⟩
theorem vals2 {x y:V}{us:List Value}(r:Vals [x,y] us):∃u w',us= [u,w'] ∧RelV x u∧RelV y w':=by
 cases r with
 |cons r1 r2=>
  cases r2 with
  |cons r3 r4=>cases r4;exact ⟨_,_,rfl,r1,r3⟩
theorem yX (hc:X.calm=true):jL X (.builtin "max") (fun xs H Q=>∃i j,xs= [.int i,.int j] ∧Q (.int (if j >i then j else i)) H):=by
 intro pins s σ H xs us Q I r h
 obtain ⟨i,j,rfl,q⟩:=h
 obtain ⟨u,w',rfl,⟨t,rfl⟩,⟨t',rfl⟩⟩:=vals2 r
 refine max_two_ints (I.ok.hd hc) fun h' tk k=>⟨_,H,I.kept k,?_,q⟩
 by_cases hj:j >i
 ·rw [if_pos hj,if_pos hj];exact ⟨_,rfl⟩
 ·rw [if_neg hj,if_neg hj];exact ⟨_,rfl⟩
theorem yY (hc:X.calm=true):jL X (.builtin "min") (fun xs H Q=>∃i j,xs= [.int i,.int j] ∧Q (.int (if j < i then j else i)) H):=by
 intro pins s σ H xs us Q I r h
 obtain ⟨i,j,rfl,q⟩:=h
 obtain ⟨u,w',rfl,⟨t,rfl⟩,⟨t',rfl⟩⟩:=vals2 r
 refine min_two_ints (I.ok.hd hc) fun h' tk k=>⟨_,H,I.kept k,?_,q⟩
 by_cases hj:j < i
 ·rw [if_pos hj,if_pos hj];exact ⟨_,rfl⟩
 ·rw [if_neg hj,if_neg hj];exact ⟨_,rfl⟩
end
end L2
namespace L2
open PySem PySem.Spec PyProof.Rows
structure GG (h:Heap) (x dx C:Addr) (mA:Str→Option Value):Prop where
 obj:h.get? x=some (PySem.W.instObj C dx)
 ns:h.Ns1 dx mA
 ne:dx≠x
theorem GH {h:Heap}{dx:Addr}{mA:Str→Option Value}(n:h.Ns1 dx mA):∃od,h.get? dx=some od∧∀name,PySem.W.lookIn name od=some (mA name):=by
 obtain ⟨o,es,ep,ho,hd,hk,_,hm⟩:=n
 refine ⟨o,ho,fun name=> ?_⟩
 have e:=hm name
 unfold nsFind findBy at e
 rw [←Array.find?_toList] at e
 unfold PySem.W.lookIn
 rw [hd]
 dsimp only
 split
 ·rename_i y q
  rw [q] at e
  exact congrArg some e
 ·rename_i q
  rw [q] at e
  have a:es.toList.any (·.refKey)=false:=by
   rw [List.any_eq_false]
   intro y hy
   obtain ⟨z,t,qr⟩:=hk y (Array.mem_toList_iff.mp hy)
   simp [DictEntry.refKey,qr]
  have a':¬es.toList.any (·.refKey)=true:=by rw [a];exact Bool.false_ne_true
  rw [if_neg a']
  exact congrArg some e
theorem GG.look {h:Heap}{x dx C:Addr}{mA:Str→Option Value}(I:GG h x dx C mA):∃od,PySem.W.InstAt h x (PySem.W.instObj C dx) C (some od)∧∀name,PySem.W.lookIn name od=some (mA name):=
 let ⟨od,ho,hl⟩:=GH I.ns
 ⟨od,⟨I.obj,rfl,rfl,ho⟩,hl⟩
section
variable {prog:Program}{w:World}{A:Around}{E:Value→Shared→Prop}{s:Shared}{K:PySem.W.Frag}{x dx C f:Addr}{mA:Str→Option Value}{name:Str}{v:Value}
theorem get_map {expr:Bool}{Q:Value→Shared→Prop}(X:K.In s.heap)(I:GG s.heap x dx C mA)(hg:PySem.W.plainGet K C name=true)(hh:PySem.W.hasDictIn K C=true)
  (ha:PySem.W.findIn K (.ref C) name=some none)(hv:mA name=some v)(hv':PySem.W.handedIn v=true)(h:Q v {s with toks:=s.toks + 1}):
  wpAny (model prog w) A (getAttr (.ref x) name expr) Q E s:=by
 obtain ⟨od,J,hl⟩:=I.look
 exact PySem.W.get_value X J (PySem.W.plainGet_of hg).1 (PySem.W.findObj_own hh ha rfl (by rw [hl,hv])) hv' h
theorem LL {ns:List Str}{Q:Unit→Shared→Prop}(X:K.In s.heap)(I:GG s.heap x dx C mA)
  (hs:PySem.W.findIn K (.ref C) "__setattr__"=some (some (.builtin "object.__setattr__")))(hp:PySem.W.plainOver K C=true)(ht:PySem.W.takerIn K C name=some none)(hh:PySem.W.hasDictIn K C=true)
  (hw:PySem.Within mA ns)(hsz:ns.length≤sizeLine)
  (h:∀h',GG h' x dx C (fun y=>if y=name then some v else mA y)→Heap.SameBut dx s.heap h'→Q () {s with heap:=h',toks:=s.toks + 2}):
  wpAny (model prog w) A (setAttr (.ref x) name v) Q E s:=by
 obtain ⟨od,J,hl⟩:=I.look
 refine PySem.W.set_plain X J hs (PySem.W.osa_open (s:={s with toks:=s.toks + 1}) (r:=none) X J hp ht fun b=> ?_)
 obtain ⟨cd,hc,RM⟩:=PySem.W.any_some hh
 have hx:s.heap.get? x=some ⟨.ref C,some dx,.plain,#[]⟩:=I.obj
 refine wpAny_bind (wpAny_pure (wpAny_bind (wpAny_bind (wpAny_loadPart hx (wpAny_bind (PySem.W.Looks.here (s:={s with toks:=s.toks + 1}) (PySem.W.looks_clsIn X hc) ?_))))))
 rw [RM]
 refine wpAny_pure (a:=some dx) (wpAny_bind (wpAny_pure (wpAny_bind ?_)))
 refine wpAny_nsSet1 (s:={s with toks:=s.toks + 1}) I.ns fun h' hn2 hs2=> ?_
 obtain ⟨oD,esD,epD,hoD,hdD,hcD⟩:=hn2.count (PySem.Within.cons name v hw)
 refine wpAny_bind (wpAny_lookBehind hoD (by rw [hdD];exact pastItsLine_dict (Nat.le_trans hcD (by rw [List.length_cons];omega))) ?_)
 exact wpAny_pure (h _ ⟨(hs2.2 _ (Ne.symm I.ne)).trans I.obj,hn2,I.ne⟩ hs2)
theorem IV {R:Result→Shared→Prop}{vs:List Value}{kw:List (Str×Value)}(X:K.In s.heap)(hm:PySem.W.makesIn K C=true)
  (hi:PySem.W.findIn K (.ref C) "__init__"=some (some (.ref f)))(hf:PySem.W.typeIn K (.ref f)=some (.type "function"))
  (h:codeAny (model prog w) (A.under (.builtin "type.__call__" ⟨.ref C::vs,kw⟩)) (.call (.ref f) ⟨.ref (s.heap.objs.size + 1)::vs,kw⟩) (PySem.W.InitBack (s.heap.objs.size + 1) R)
   {s with heap:=(s.heap.push PySem.W.emptyDict).push (PySem.W.instObj C s.heap.objs.size)}):
  codeAny (model prog w) A (.call (.ref C) ⟨vs,kw⟩) R s:=by
 obtain ⟨hh,g,d,t,os⟩:=s
 exact PySem.W.make_core (PySem.W.makes_of X hm) (PySem.W.looks_findIn X hi) (fun self=>PySem.W.bind_fn X self hf) (.inl rfl) h
end
def mI (f:Str)(v:V):List (Str×V)→List (Str×V)
 | [] => [(f,v)]
 |(g,x)::r=>if g=f then (g,v)::r else (g,x)::mI f v r
theorem uw (f g:Str)(v:V):∀fs:List (Str×V),(mI f v fs).lookup g=if g=f then some v else fs.lookup g
 | [] =>by
  show List.lookup g [(f,v)] =_
  by_cases h:g=f
  ·have hb:(g==f)=true:=beq_iff_eq.mpr h
   simp only [List.lookup,hb,if_pos h]
  ·have hb:(g==f)=false:=beq_eq_false_iff_ne.mpr h
   simp only [List.lookup,hb,if_neg h]
 |(k,x)::r=>by
  have ih:=uw f g v r
  rw [show mI f v ((k,x)::r)=(if k=f then (k,v)::r else (k,x)::mI f v r) from rfl]
  by_cases hk:k=f
  ·rw [if_pos hk]
   by_cases h:g=k
   ·have hb:(g==k)=true:=beq_iff_eq.mpr h
    simp only [List.lookup,hb,if_pos (h.trans hk)]
   ·have hb:(g==k)=false:=beq_eq_false_iff_ne.mpr h
    simp only [List.lookup,hb,if_neg (fun e:g=f=>h (e.trans hk.symm))]
  ·rw [if_neg hk]
   by_cases h:g=k
   ·have hb:(g==k)=true:=beq_iff_eq.mpr h
    simp only [List.lookup,hb,if_neg (fun e:g=f=>hk (h.symm.trans e))]
   ·have hb:(g==k)=false:=beq_eq_false_iff_ne.mpr h
    simp only [List.lookup,hb]
    exact ih
theorem tu (f:Str)(v:V):∀fs:List (Str×V),f∈(mI f v fs).map (·.1)∧∀g,g∈fs.map (·.1)→g∈(mI f v fs).map (·.1)
 | [] =>⟨by simp [mI],fun g h=>by simp at h⟩
 |(k,x)::r=>by
  obtain ⟨i1,i2⟩:=tu f v r
  rw [show mI f v ((k,x)::r)=(if k=f then (k,v)::r else (k,x)::mI f v r) from rfl]
  by_cases hk:k=f
  ·rw [if_pos hk]
   subst hk
   exact ⟨by simp,fun g h=>by simpa using h⟩
  ·rw [if_neg hk]
   refine ⟨?_,fun g h=> ?_⟩
   ·rw [List.map_cons]
    exact List.mem_cons_of_mem _ i1
   ·rw [List.map_cons] at h ⊢
    rcases List.mem_cons.mp h with e|e
    ·exact List.mem_cons.mpr (.inl e)
    ·exact List.mem_cons_of_mem _ (i2 g e)
theorem ux (f:Str)(v:V):∀fs:List (Str×V),(mI f v fs).length≤fs.length + 1
 | [] =>by simp [mI]
 |(k,x)::r=>by
  have ih:=ux f v r
  rw [show mI f v ((k,x)::r)=(if k=f then (k,v)::r else (k,x)::mI f v r) from rfl]
  by_cases hk:k=f
  ·rw [if_pos hk,List.length_cons,List.length_cons];omega
  ·rw [if_neg hk,List.length_cons,List.length_cons];omega
theorem pw.some_of {v:V}{o:Option Value}(r:pw (some v) o):∃u,o=some u∧RelV v u:=by
 cases o with
 |none=>exact (show False from r).elim
 |some u=>exact ⟨u,rfl,r⟩
theorem GI {v:V}{u:Value}(r:RelV v u):PySem.W.handedIn u=true:=by
 cases v with
 |bu=>cases (show u=Value.none from r);rfl
 |bl b=>cases (show u=Value.bool b from r);rfl
 |int i=>obtain ⟨t,e⟩:=(show ∃t,u=Value.int i t from r);cases e;rfl
 |str x=>obtain ⟨t,e⟩:=(show ∃t,u=Value.str x t from r);cases e;rfl
 |Cc b=>obtain ⟨t,e⟩:=(show ∃t,u=Value.bytes b t from r);cases e;rfl
 |RI b=>obtain ⟨t,e⟩:=(show ∃t,u=Value.float b t from r);cases e;rfl
 |ref a=>cases (show u=Value.ref a from r);rfl
 |ty n=>cases (show u=Value.type n from r);rfl
section
variable {P:Program}{w:World}{H H':Hp}{h h':Heap}{a C dx:Addr}{fs Q8:List (Str×V)}
theorem Fh (bF:mL P w H h)(e:H a=some (.ins C dx fs)):∃mA,GG h a dx C mA∧(∀f,pw (fs.lookup f) (mA f))∧PySem.Within mA (fs.map (·.1))∧fs.length≤1000∧H dx=some (.own a):=by
 obtain ⟨d,z,ne,ob,mA,n,r,q⟩:=(show df P w H h a (.ins C dx fs) from bF a _ e)
 exact ⟨mA,⟨ob,n,ne⟩,r,q,z,d⟩
end
structure IW (K:PySem.W.Frag) (C:Addr):Prop where
 pg:PySem.W.plainGet K C Str.empty=true
 hd:PySem.W.hasDictIn K C=true
 po:PySem.W.plainOver K C=true
 sa:PySem.W.findIn K (.ref C) "__setattr__"=some (some (.builtin "object.__setattr__"))
theorem IW.get {K:PySem.W.Frag}{C:Addr}(c:IW K C)(f:Str):PySem.W.plainGet K C f=true:=c.pg
def bc (K:PySem.W.Frag)(C:Addr)(f:Str):Prop:=PySem.W.findIn K (.ref C) f=some none
theorem bc.Sh {K:PySem.W.Frag}{C:Addr}{f:Str}(n:bc K C f):PySem.W.takerIn K C f=some none:=by
 unfold PySem.W.takerIn
 rw [show PySem.W.findIn K (.ref C) f=some none from n]
 rfl
section
variable {X:Cx}{pins:List (Addr×Obj)}{σ:St}{H:Hp}{s:Shared}{a C dx:Addr}{fs:List (Str×V)}{f:Str}{v:V}{A:Around}{E:Value→Shared→Prop}
theorem wd {b:Bool}{Q:Value→Shared→Prop}(I:Inv X pins σ H s)(e:H a=some (.ins C dx fs))(c:IW X.K C)(n:bc X.K C f)(l:fs.lookup f=some v)
  (h:∀u s',Inv X pins σ H s'→RelV v u→Q u s'):wpAny (model X.prog X.w) A (getAttr (.ref a) f b) Q E s:=by
 obtain ⟨mA,O,r,_,_,_⟩:=Fh I.bF e
 obtain ⟨u,hu,ru⟩:=pw.some_of (v:=v) (o:=mA f) (by rw [←l];exact r f)
 exact get_map I.E7 O (c.get f) c.hd n hu (GI ru) (h u _ (I.tok _) ru)
theorem we {y:V}{u:Value}{Q:Unit→Shared→Prop}(I:Inv X pins σ H s)(e:H a=some (.ins C dx fs))(c:IW X.K C)(n:bc X.K C f)(hl:fs.length < 1000)(ry:RelV y u)
  (h:∀s',Inv X pins σ (upd H a (.ins C dx (mI f y fs))) s'→Q () s'):wpAny (model X.prog X.w) A (setAttr (.ref a) f u) Q E s:=by
 obtain ⟨mA,O,r,wi,_,ho⟩:=Fh I.bF e
 have hz:(fs.map (·.1)).length≤sizeLine:=by rw [List.length_map,sizeLine_eq];omega
 refine LL I.E7 O c.sa c.po n.Sh c.hd wi hz fun h' O' sb=>h _ ?_
 have hd:∃o,h'.get? dx=some o:=let ⟨o,_,_,e',_⟩:=O'.ns;⟨o,e'⟩
 refine I.write (x:=a) (e:=dx) (by rw [e];exact True.intro) (.inr ho) (fun b q hb z=>(sb.2 b hb).trans z) hd ?_
 refine ⟨by rw [az O.ne];exact ho,?_,O.ne,O'.obj,_,O'.ns,fun g=> ?_,fun g hg=> ?_⟩
 ·have:=ux f y fs;omega
 ·show pw ((mI f y fs).lookup g) (if g=f then some u else mA g)
  rw [uw]
  by_cases q:g=f
  ·rw [if_pos q,if_pos q];exact ry
  ·rw [if_neg q,if_neg q];exact r g
 ·by_cases q:g=f
  ·rw [q];exact (tu f y fs).1
  ·refine (tu f y fs).2 g (wi g fun z=>hg ?_)
   show (if g=f then some u else mA g)=none
   rw [if_neg q];exact z
theorem Inv.made (I:Inv X pins σ H s):Inv X pins σ (upd (upd H s.heap.objs.size (.own (s.heap.objs.size + 1))) (s.heap.objs.size + 1) (.ins C s.heap.objs.size []))
  {s with heap:=(s.heap.push PySem.W.emptyDict).push (PySem.W.instObj C s.heap.objs.size)}:=by
 have e1:(s.heap.push PySem.W.emptyDict).get? s.heap.objs.size=some PySem.W.emptyDict:=Heap.get?_push_size s.heap rfl
 have e2:((s.heap.push PySem.W.emptyDict).push (PySem.W.instObj C s.heap.objs.size)).get? (s.heap.objs.size + 1)=some (PySem.W.instObj C s.heap.objs.size):=by
  have:=Heap.get?_push_size (s.heap.push PySem.W.emptyDict) (o:=PySem.W.instObj C s.heap.objs.size) rfl
  rwa [Heap.size_push] at this
 have e3:(s.heap.push PySem.W.emptyDict).Ns s.heap.objs.size (fun _=>none):=⟨PySem.W.emptyDict,#[],_,e1,rfl,(fun e he=>absurd he (by simp)),fun _=>rfl⟩
 have I1:=I.laid (a:=s.heap.objs.size) (o:= .own (s.heap.objs.size + 1)) (h':=s.heap.push PySem.W.emptyDict) (t':=s.toks) (fun b u q=>Heap.get?_push_of_some _ q) (Nat.le_refl _) ⟨_,e1⟩
 refine I1.laid (a:=s.heap.objs.size + 1) (o:= .ins C s.heap.objs.size []) (t':=s.toks) (fun b u q=>Heap.get?_push_of_some _ q) (Nat.le_of_eq (Heap.size_push _ _)) ?_
 have ne:s.heap.objs.size≠s.heap.objs.size + 1:=Nat.ne_of_lt (Nat.lt_succ_self _)
 refine ⟨by rw [az ne,ab],Nat.zero_le _,ne,e2,fun _=>none,(Heap.Ns1.of_empty e3).at fun o q=>Heap.get?_push_of_some _ q,fun _=>True.intro,fun y hy=>absurd rfl hy⟩
theorem LM {prog:Program}{w:World}{env:Env}{e:Expr}{f:Str}{pos:Pos}{s:Shared}{Q:Value→Shared→Prop}(hb:attributeBase e f env (eval e env)=eval e env)
  (h:wpAny (model prog w) A (eval e env) (fun o s₁=>wpAny (model prog w) A (getAttr o f true) Q E s₁) E s):wpAny (model prog w) A (eval (.Attribute e f pos) env) Q E s:=
 Attribute_any_ h (by rw [arm_eval_Attribute,hb])
end
def Si (K:PySem.W.Frag)(ta:TE)(f:Str):TE:=fun σ H Q=>ta σ H fun x H1=>∃a C dx fs v,x= .ref a∧H1 a=some (.ins C dx fs)∧IW K C∧bc K C f∧fs.lookup f=some v∧Q v H1
def abg (K:PySem.W.Frag)(ta tv:TE)(f:Str):TS:=fun D σ H=>tv σ H fun y H1=>ta σ H1 fun x H2=>∃a C dx fs,x= .ref a∧H2 a=some (.ins C dx fs)∧IW K C∧bc K C f∧fs.length < 1000∧
 D.nx σ (upd H2 a (.ins C dx (mI f y fs)))
def Sj (X:Cx)(op:Operator)(rd:V→V→Hp→VK→Prop):Prop:=
 ∀ (pins:List (Addr×Obj))(s:Shared)(σ:St)(H:Hp)(x y:V)(u v:Value)(Q:VK),Inv X pins σ H s→RelV x u→RelV y v→rd x y H Q→wpAny (model X.prog X.w) X.A (inplaceOp op u v) (EP X pins σ Q) X.xe s
def LN (K:PySem.W.Frag)(ta tv:TE)(rd:V→V→Hp→VK→Prop)(f:Str):TS:=fun D σ H=>ta σ H fun x H1=>∃a C dx fs v,x= .ref a∧H1 a=some (.ins C dx fs)∧IW K C∧bc K C f∧fs.lookup f=some v∧
 tv σ H1 fun y H2=>rd v y H2 fun z H3=>∃dx' Q8,H3 a=some (.ins C dx' Q8)∧Q8.length < 1000∧D.nx σ (upd H3 a (.ins C dx' (mI f z Q8)))
section
variable {X:Cx}{o e value:Expr}{f:Str}{pos pos' wj:Pos}{ta tv:TE}
theorem ai (he:PE X e ta)(hb:attributeBase e f X.env (eval e X.env)=eval e X.env):PE X (.Attribute e f pos) (Si X.K ta f):=by
 intro pins s σ H Q I h
 refine LM hb (cI (he pins s σ H _ I h) fun u s1 ⟨x,H1,I1,rx,a,C,dx,fs,v,ex,ea,c,n,l,q⟩=> ?_)
 subst ex
 obtain rfl:u=Value.ref a:=rx
 exact wd I1 ea c n l fun u' s2 I2 ru=>⟨v,H1,I2,ru,q⟩
theorem aL (ha:PE X o ta)(hv:PE X value tv)(hs:swapsWith value (some (.Attribute o f pos')) pos.line X.env=pure false):PS X (.Assign [.Attribute o f pos'] value pos) (abg X.K ta tv f):=by
 intro pins s σ H D I h
 refine plainObj_wpAny_Assign_Attribute (cI (hv pins s σ H _ I h) fun u s1 ⟨y,H1,I1,ry,q⟩=>cI (ha pins s1 σ H1 _ I1 q) fun ov s2 ⟨x,H2,I2,rx,a,C,dx,fs,ex,ea,c,n,l,q2⟩=> ?_) hs
 subst ex
 obtain rfl:ov=Value.ref a:=rx
 exact we I2 ea c n l ry fun s3 I3=>⟨σ,_,I3,q2⟩
theorem GJ {op:Operator}{rd:V→V→Hp→VK→Prop}(ha:PE X o ta)(hv:PE X value tv)(hop:Sj X op rd):PS X (.AugAssign (.Attribute o f wj) op value pos) (LN X.K ta tv rd f):=by
 intro pins s σ H D I h
 refine wpAny_AugAssign_AttributeAny (cI (ha pins s σ H _ I h) fun ov s1 ⟨x,H1,I1,rx,a,C,dx,fs,v,ex,ea,c,n,l,q⟩=> ?_)
 subst ex
 obtain rfl:ov=Value.ref a:=rx
 refine wd I1 ea c n l fun u s2 I2 ru=>cI (hv pins s2 σ H1 _ I2 q) fun w3 s3 ⟨y,H2,I3,ry,q3⟩=>cI (hop pins s3 σ H2 v y u w3 _ I3 ru ry q3) fun w4 s4 ⟨z,H3,I4,rz,dx',Q8,ea',l',q4⟩=> ?_
 exact we I4 ea' c n l' rz fun s5 I5=>⟨σ,_,I5,q4⟩
def abi:V→V→Hp→VK→Prop:=fun x y H Q=>∃i j,x= .int i∧y= .int j∧Q (.int (i + j)) H
theorem Oc:Sj X .Add abi:=by
 rintro pins s σ H x y u v Q I rx ry ⟨i,j,rfl,rfl,q⟩
 obtain ⟨t,rfl⟩:=(show ∃t,u=Value.int i t from rx)
 obtain ⟨t',rfl⟩:=(show ∃t',v=Value.int j t' from ry)
 exact PyProof.Rows.iadd_int ⟨.int (i + j),H,I.tok _,⟨_,rfl⟩,q⟩
end
section
variable {X:Cx}{pins:List (Addr×Obj)}{σ:St}{H:Hp}{s:Shared}{A:Around}{E:Value→Shared→Prop}{Q:Value→Shared→Prop}{c:Value}{b:Bool}
end
end L2
namespace L2
open PySem PySem.Spec PyProof.Rows
structure fN (k:Nat) (A:Around):Prop where
 hd:A.handled=none
 dp:A.depth + 3 * k + 5 < recursionLimit
 un:A.units + 16 * k + 200 < cLine
theorem fN.mono {j k:Nat}{A:Around}(r:fN k A)(h:j≤k):fN j A:=⟨r.hd,by have:=r.dp;omega,by have:=r.un;omega⟩
theorem fN.deeper {k:Nat}{A:Around}(r:fN (k + 1) A)(env:Env):fN k (A.deeper env):=
 ⟨r.hd,by have:=r.dp;show A.depth + 1 + 3 * k + 5 < _;omega,by have:=r.un;show A.units + 3 + 16 * k + 200 < _;omega⟩
theorem DV {A:Around}{C:Addr}{us:List Value}{kw:List (Str×Value)}:(A.under (.builtin "type.__call__" ⟨.ref C::us,kw⟩)).depth=A.depth + 1:=by
 first|rfl|simp [Around.under,Code.weight,Code.isCreation,Code.isGuard,Code.isCaller,Code.frames,Code.isFrame,guardIds]
theorem DW {A:Around}{C:Addr}{us:List Value}{kw:List (Str×Value)}:(A.under (.builtin "type.__call__" ⟨.ref C::us,kw⟩)).units=A.units + 1:=by
 first|rfl|simp [Around.under,Code.cUnits,Code.frames,Code.isFrame]
theorem fN.make {k:Nat}{A:Around}(r:fN (k + 1) A)(C:Addr)(us:List Value)(kw:List (Str×Value)):fN k (A.under (.builtin "type.__call__" ⟨.ref C::us,kw⟩)):=
 ⟨r.hd,by have:=r.dp;rw [DV];omega,by have:=r.un;rw [DW];omega⟩
theorem fN.depth {k:Nat}{A:Around}(r:fN k A):A.depth < recursionLimit:=by have:=r.dp;omega
theorem fN.units {k:Nat}{A:Around}(r:fN k A):A.units + 64 < cLine:=by have:=r.un;omega
def LO:TA:=fun _ H Q=>Q [] H
def Fi (ta:TE)(tr:TA):TA:=fun σ H Q=>ta σ H fun x H1=>tr σ H1 fun xs H2=>Q (x::xs) H2
section
variable {X:Cx}{e:Expr}{es:List Expr}{te:TE}{t:TA}{pos:Pos}
theorem af:PA X [] LO:=fun _ _ _ _ H Q I h=>Calls.spliced_nil ⟨[],H,I,.nil,h⟩
theorem aa (ha:PE X e te)(hr:PA X es t)(hs:starEach (e::es) X.env=(false,eval e X.env)::starEach es X.env:=by rfl):PA X (e::es) (Fi te t):=by
 intro pos pins s σ H Q I h
 rw [hs]
 show wpAny _ _ (spliced ((false,eval e X.env)::backTo pos (starEach es X.env))) _ _ s
 refine Calls.spliced_cons (cI (ha pins s σ H _ I h) fun u s1 ⟨x,H1,I1,r1,q1⟩=> ?_)
 exact cI (hr pos pins s1 σ H1 _ I1 q1) fun us s2 ⟨xs,H2,I2,r2,q2⟩=>⟨x::xs,H2,I2,.cons r1 r2,q2⟩
def abj (t:TA):TE:=fun σ H Q=>t σ H fun xs H1=>xs.length≤sizeLine∧∀p,H1 p=none→Q (.ref p) (upd H1 p (.tup xs))
def abk (t:TA):TE:=fun σ H Q=>t σ H fun xs H1=>xs.length≤sizeLine∧∀p,H1 p=none→Q (.ref p) (upd H1 p (.lst xs))
theorem bx {x1}(h:PA X es t):PE X (.Tuple es x1 pos) (abj t):=by
 intro pins s σ H Q I hq
 refine wpAny_Tuple_spliced (cI (h pos pins s σ H _ I hq) fun us s1 ⟨xs,H1,I1,r,z,q⟩=>⟨by rw [←r.length];exact z,?_⟩)
 have hf:H1 s1.heap.objs.size=none:=I1.bF.fresh (Nat.le_refl _)
 refine ⟨.ref s1.heap.objs.size,upd H1 s1.heap.objs.size (.tup xs),I1.laid (t':=s1.toks) (fun b u e=>Heap.get?_push_of_some _ e) (Nat.le_refl _) ?_,rfl,q _ hf⟩
 exact ⟨z,us,r,⟨_,Heap.get?_push_size _ rfl,rfl,_,rfl⟩⟩
theorem aT (h:PA X es t):PE X (.List es pos) (abk t):=by
 intro pins s σ H Q I hq
 refine wpAny_List_spliced (cI (h pos pins s σ H _ I hq) fun us s1 ⟨xs,H1,I1,r,z,q⟩=>⟨by rw [←r.length];exact z,?_⟩)
 have hf:H1 s1.heap.objs.size=none:=I1.bF.fresh (Nat.le_refl _)
 refine ⟨.ref s1.heap.objs.size,upd H1 s1.heap.objs.size (.lst xs),I1.laid (t':=s1.toks) (fun b u e=>Heap.get?_push_of_some _ e) (Nat.le_refl _) ?_,rfl,q _ hf⟩
 exact ⟨z,us,0,r,Heap.get?_push_size _ rfl⟩
end
abbrev Sp:=List V→Hp→VK→XK→Prop
abbrev DX:=List Env→Hp→Shared→XK→Value→Shared→Prop
structure DY (P:Program) (w:World) (K:PySem.W.Frag) (mg:Str→Option Value) (base:Heap) (A:Around) (outer:List Env) (s:Shared) (H:Hp):Prop where
 frames:A.frames=some outer
 mod:Mod K mg base
 bs:∀b o,base.get? b=some o→s.heap.get? b=some o∧H b=none
 LI:base.objs.size≤s.heap.objs.size
 vj:s.heap.FunFrames base outer
 N1:∀b∈IG outer,H b=none
 bF:mL P w H s.heap
 bare:AllBare s.gens
def CE (outer:List Env)(P:Program)(w:World)(H:Hp)(s:Shared)(Q:VK)(u:Value)(s':Shared):Prop:=
 ∃v H',s'.os=s.os∧AllBare s'.gens∧Un (IG outer) [] H H' s.heap s'.heap∧mL P w H' s'.heap∧RelV v u∧Q v H'
def CR (CX:DX)(outer:List Env)(P:Program)(w:World)(H:Hp)(s:Shared)(Q:VK)(E:XK)(r:Result)(s':Shared):Prop:=
 match r with
 | .ok (.ret u)=>CE outer P w H s Q u s'
 | .ok _=>False
 | .error e=>CX outer H s E e s'
structure a7 (P:Program) (w:World) (K:PySem.W.Frag) (mg:Str→Option Value) (base:Heap) (CX:DX) (k:Nat) (f:Addr) (fd:FuncData) (ps:List Str) (sp:Sp):Prop where
 len:∀vs H Q E,sp vs H Q E→vs.length=ps.length
 run:∀ (A:Around)(outer:List Env)(s:Shared)(H:Hp)(args:Args)(us:List Value)(vs:List V)(Q:VK)(E:XK),fN k A→DY P w K mg base A outer s H→BindsTo s fd args (ps.zip us)→Vals vs us→sp vs H Q E→
  codeAny (model P w) A (.call (.ref f) args) (CR CX outer P w H s Q E) s
theorem a7.mono {P:Program}{w:World}{K:PySem.W.Frag}{mg:Str→Option Value}{base:Heap}{CX:DX}{j k:Nat}{f:Addr}{fd:FuncData}{ps:List Str}{sp:Sp}(F:a7 P w K mg base CX j f fd ps sp)(h:j≤k):
  a7 P w K mg base CX k f fd ps sp:=⟨F.len,fun A outer s H args us vs Q E hr=>F.run A outer s H args us vs Q E (hr.mono h)⟩
theorem DY.make {P:Program}{w:World}{K:PySem.W.Frag}{mg:Str→Option Value}{base:Heap}{A:Around}{outer:List Env}{s:Shared}{H:Hp}(e:DY P w K mg base A outer s H)(C:Addr)(us:List Value)(kw:List (Str×Value)):
  DY P w K mg base (A.under (.builtin "type.__call__" ⟨.ref C::us,kw⟩)) outer s H:=⟨by first|exact e.frames|(simpa [Around.under,Code.envs,Code.isFrame,pushEnvs] using e.frames),e.mod,e.bs,e.LI,e.vj,e.N1,e.bF,e.bare⟩
section
variable {X:Cx}{pins:List (Addr×Obj)}{σ:St}{H:Hp}{s s':Shared}
theorem Inv.Sl (I:Inv X pins σ H s):DY X.prog X.w X.K X.mg X.base X.A X.stack s H:=
 ⟨I.ok.frames,I.ok.mod,I.bs,Nat.le_trans I.ok.LI I.sz,I.stack,I.E8,I.bF,I.bare⟩
theorem Inv.after {Q:VK}{u:Value}(I:Inv X pins σ H s)(h:CE X.stack X.prog X.w H s Q u s'):EP X pins σ Q u s':=by
 obtain ⟨v,H',os,bare,un,bF,r,q⟩:=h
 obtain ⟨hh,g,d,t,os'⟩:=s'
 obtain rfl:os'=s.os:=os
 exact ⟨v,H',I.call (h':=hh) (g':=g) (d':=d) (t':=t) (ch:= []) un bF bare (fun b z=>absurd z (by simp)),r,q⟩
end
def Sm (sp:Sp)(DZ:List V)(E:XK)(t:TA):TE:=fun σ H Q=>t σ H fun vs H1=>sp (vs ++ DZ) H1 Q E
def Sn (C:Addr)(sp:Sp)(DZ:List V)(E:XK)(t:TA):TE:=fun σ H Q=>t σ H fun vs H1=>∀x dx,H1 x=none→H1 dx=none→dx≠x→
 sp (.ref x::(vs ++ DZ)) (upd (upd H1 dx (.own x)) x (.ins C dx [])) (fun v H2=>v= .bu∧Q (.ref x) H2) E
def Binds (K:PySem.W.Frag)(fd:FuncData)(ps:List Str)(ds:List Value):Prop:=
 ∀ (s:Shared)(us:List Value),K.In s.heap→(us ++ ds).length=ps.length→BindsTo s fd ⟨us,[]⟩ (ps.zip (us ++ ds))
theorem Binds.all {K:PySem.W.Frag}{fd:FuncData}{ps:List Str}(h:∀us:List Value,us.length=ps.length→bindArgs fd ⟨us,[]⟩=pure (ps.zip us)):Binds K fd ps [] :=fun s us _ hl=>by
 rw [List.append_nil] at hl ⊢
 exact .of_eq (h us hl)
def Passes (CX:DX)(X:Cx)(E:XK):Prop:=∀ (pins:List (Addr×Obj))(σ:St)(H:Hp)(s:Shared)(e:Value)(s':Shared),Inv X pins σ H s→CX X.stack H s E e s'→X.xe e s'
section
variable {X:Cx}{CX:DX}{k:Nat}{f C:Addr}{fd:FuncData}{ps:List Str}{sp:Sp}{DZ:List V}{ds:List Value}{E:XK}{x m:Str}{p pos apos:Pos}{e o:Expr}{es:List Expr}{ta:TE}{t:TA}
theorem IX {pins:List (Addr×Obj)}{σ:St}{H:Hp}{s:Shared}{Q:VK}{us:List Value}{vs:List V}(F:a7 X.prog X.w X.K X.mg X.base CX k f fd ps sp)(hr:fN k X.A)(hb:Binds X.K fd ps ds)(hd:Vals DZ ds)(hx:Passes CX X E)
  (I:Inv X pins σ H s)(r:Vals vs us)(h:sp (vs ++ DZ) H Q E):wpAny (model X.prog X.w) X.A (call (.ref f) us) (EP X pins σ Q) X.xe s:=by
 have r2:Vals (vs ++ DZ) (us ++ ds):=r.append hd
 have hl:(us ++ ds).length=ps.length:=by rw [←r2.length];exact F.len _ _ _ _ h
 refine wpAny_call (codeAny_mono (F.run X.A X.stack s H ⟨us,[]⟩ (us ++ ds) (vs ++ DZ) Q E hr I.Sl (hb s us I.E7 hl) r2 h) fun r s' hq=> ?_)
 cases r with
 |error e=>exact hx pins σ H s e s' I hq
 |ok fl=>
  cases fl with
  |ret u=>exact I.after hq
  |next=>exact False.elim hq
  |brk=>exact False.elim hq
  |cont=>exact False.elim hq
theorem aA (F:a7 X.prog X.w X.K X.mg X.base CX k f fd ps sp)(hr:fN k X.A)(hg:Gl X x)(hm:X.mg x=some (.ref f))(hk:PySem.W.keepIn X.K (.ref f)=true)(hb:Binds X.K fd ps ds)(hd:Vals DZ ds)(hx:Passes CX X E)
  (ha:PA X (e::es) t)(Od:(x==("__debug__":Str))=false:=by decide)(he:starEach (e::es) X.env=(false,eval e X.env)::starEach es X.env:=by rfl)(dB:(backTo pos (starEach es X.env)).any (·.1)=false:=by rfl):
  PE X (.Call (.Name x p) (e::es) [] pos) (Sm sp DZ E t):=by
 intro pins s σ H Q I h
 refine wpAny_Call_Name_kw (Ab I hg hm ?_ Od)
 refine PySem.W.callWith_K (h₀:=X.base) I.ok.mod.RK hk (cI (ha pos pins s σ H _ I h) fun us s1 ⟨vs,H1,I1,r,q⟩=>⟨I1.E7,?_⟩) he dB
 exact IX F hr hb hd hx I1 r q
structure Mk (K:PySem.W.Frag) (C f:Addr):Prop where
 makes:PySem.W.makesIn K C=true
 init:PySem.W.findIn K (.ref C) "__init__"=some (some (.ref f))
 fn:PySem.W.isFn K (.ref f)=true
 kp:PySem.W.keepIn K (.ref C)=true
theorem IY {pins:List (Addr×Obj)}{σ:St}{H:Hp}{s:Shared}{Q:VK}{us:List Value}{vs:List V}(M:Mk X.K C f)(F:a7 X.prog X.w X.K X.mg X.base CX k f fd ps sp)(hr:fN (k + 1) X.A)(hb:Binds X.K fd ps ds)(hd:Vals DZ ds)
  (hx:Passes CX X E)(I:Inv X pins σ H s)(r:Vals vs us)
  (h:∀x dx,H x=none→H dx=none→dx≠x→sp (.ref x::(vs ++ DZ)) (upd (upd H dx (.own x)) x (.ins C dx [])) (fun v H2=>v= .bu∧Q (.ref x) H2) E):
  wpAny (model X.prog X.w) X.A (call (.ref C) us) (EP X pins σ Q) X.xe s:=by
 have hq:=h (s.heap.objs.size + 1) s.heap.objs.size (I.bF.fresh (Nat.le_succ _)) (I.bF.fresh (Nat.le_refl _)) (Nat.ne_of_lt (Nat.lt_succ_self _))
 have I2:=Inv.made (C:=C) I
 have r2:Vals (V.ref (s.heap.objs.size + 1)::(vs ++ DZ)) (Value.ref (s.heap.objs.size + 1)::(us ++ ds)):= .cons rfl (r.append hd)
 have hl:(Value.ref (s.heap.objs.size + 1)::us ++ ds).length=ps.length:=by
  have e:=r2.length
  rw [F.len _ _ _ _ hq] at e
  exact e.symm
 refine wpAny_call (IV (f:=f) I.E7 M.makes M.init (beq_iff_eq.mp M.fn) (codeAny_mono (F.run _ X.stack _ _ ⟨Value.ref (s.heap.objs.size + 1)::us,[]⟩ (Value.ref (s.heap.objs.size + 1)::(us ++ ds)) _ _ E (hr.make C us [])
  (I2.Sl.make C us []) (hb _ (Value.ref (s.heap.objs.size + 1)::us) I2.E7 hl) r2 hq) fun r s' Nk=> ?_))
 cases r with
 |error e=>exact hx pins σ _ _ e s' I2 Nk
 |ok fl=>
  cases fl with
  |ret u=>
   obtain ⟨v,H',I3,rv,ev,q3⟩:=I2.after Nk
   subst ev
   exact ⟨rv,⟨V.ref (s.heap.objs.size + 1),H',I3,rfl,q3⟩⟩
  |next=>exact False.elim Nk
  |brk=>exact False.elim Nk
  |cont=>exact False.elim Nk
theorem jM (M:Mk X.K C f)(F:a7 X.prog X.w X.K X.mg X.base CX k f fd ps sp)(hr:fN (k + 1) X.A)(hg:Gl X x)(hm:X.mg x=some (.ref C))(hb:Binds X.K fd ps ds)(hd:Vals DZ ds)(hx:Passes CX X E)
  (ha:PA X (e::es) t)(Od:(x==("__debug__":Str))=false:=by decide)(he:starEach (e::es) X.env=(false,eval e X.env)::starEach es X.env:=by rfl)(dB:(backTo pos (starEach es X.env)).any (·.1)=false:=by rfl):
  PE X (.Call (.Name x p) (e::es) [] pos) (Sn C sp DZ E t):=by
 intro pins s σ H Q I h
 refine wpAny_Call_Name_kw (Ab I hg hm ?_ Od)
 refine PySem.W.callWith_K (h₀:=X.base) I.ok.mod.RK M.kp (cI (ha pos pins s σ H _ I h) fun us s1 ⟨vs,H1,I1,r,q⟩=>⟨I1.E7,?_⟩) he dB
 exact IY M F hr hb hd hx I1 r q
end
def PK (X:Cx)(So:List Keyword)(t:TA):Prop:=
 ∀ (pos:Pos)(pins:List (Addr×Obj))(s:Shared)(σ:St)(H:Hp)(Q:List V→Hp→Prop),Inv X pins σ H s→t σ H Q→wpAny (model X.prog X.w) X.A (evalAll ((backToKw pos (keywordEach So X.env)).map (·.2))) (AP X pins σ Q) X.xe s
section
variable {X:Cx}{CX:DX}{k:Nat}{f C:Addr}{fd:FuncData}{ps ks:List Str}{sp:Sp}{E:XK}{x m:Str}{p pos apos kpos:Pos}{e o:Expr}{es:List Expr}{So:List Keyword}{te ta:TE}{t tk:TA}{nm:Option Str}
theorem Oe:PK X [] LO:=fun _ _ _ _ H Q I h=>wpAny_evalAll_nil ⟨[],H,I,.nil,h⟩
theorem LP (ha:PE X e te)(hr:PK X So t):PK X (⟨nm,e,kpos⟩::So) (Fi te t):=by
 intro pos pins s σ H Q I h
 show wpAny _ _ (evalAll ((do let v←eval e X.env;standAt pos;pure v)::(backToKw pos (keywordEach So X.env)).map (·.2))) _ _ s
 refine wpAny_evalAll_cons (wpAny_bind (cI (ha pins s σ H _ I h) fun u s1 ⟨x,H1,I1,r1,q1⟩=>wpAny_bind (wpAny_standAt (wpAny_pure ?_))))
 exact cI (hr pos pins s1 σ H1 _ I1 q1) fun us s2 ⟨xs,H2,I2,r2,q2⟩=>⟨x::xs,H2,I2,.cons r1 r2,q2⟩
variable {g:List Value→List Value→List Value}{gV:List V→List V→List V}
end
structure aB (N P:List Str) (sc:Scope):Prop where
 kind:sc.kind= .function
 co:sc.isCoroutine=false
 gen:sc.isGenerator=false
 nd:N.Nodup
 pre:N.take P.length=P
 par:∀x∈P,sc.names.lookup x=some .local∨sc.names.lookup x=some .cell
 Of:∀y∈sc.names,y.2≠ .free
theorem yZ {kindOf:Str→Option NameKind}{x:Str}:∀ {binds:List (Str×Value)}{m:Str→Option Value},(∀v,(x,v) ∉ binds)→bindL kindOf binds m x=m x
 | [],_,_=>rfl
 |(n,v)::r,m,h=>by
  unfold bindL
  rw [yZ fun w hw=>h w (List.mem_cons_of_mem _ hw)]
  split
  ·have:x≠n:=by rintro rfl;exact h v List.mem_cons_self
   simp [this]
  ·rfl
theorem y1 {kindOf:Str→Option NameKind}{x:Str}:∀ {binds:List (Str×Value)}{m:Str→Option Value},(∀v,(x,v) ∉ binds)→bindC kindOf binds m x=m x
 | [],_,_=>rfl
 |(n,v)::r,m,h=>by
  unfold bindC
  rw [y1 fun w hw=>h w (List.mem_cons_of_mem _ hw)]
  split
  ·rfl
  ·have:x≠n:=by rintro rfl;exact h v List.mem_cons_self
   simp [this]
theorem y2 {kindOf:Str→Option NameKind}{x:Str}{v:Value}:∀ {P:List Str}{vs:List Value}{i:Nat}{m:Str→Option Value},P.Nodup→P[i]?=some x→vs[i]?=some v→kindOf x=some .local→
  bindL kindOf (P.zip vs) m x=some v
 | [],_,_,_,_,h,_,_=>by simp at h
 |_::_,[],_,_,_,_,h,_=>by simp at h
 |p::P,w::vs,0,m,nd,h1,h2,hk=>by
  simp at h1 h2;subst h1;subst h2
  show bindL kindOf ((p,w)::P.zip vs) m p=_
  unfold bindL
  rw [yZ fun v hv=>(List.nodup_cons.mp nd).1 (List.of_mem_zip hv).1,if_pos hk]
  simp
 |p::P,w::vs,i + 1,m,nd,h1,h2,hk=>by
  show bindL kindOf ((p,w)::P.zip vs) m x=_
  unfold bindL
  exact y2 (i:=i) (List.nodup_cons.mp nd).2 (by simpa using h1) (by simpa using h2) hk
theorem y3 {kindOf:Str→Option NameKind}{x:Str}{v:Value}:∀ {P:List Str}{vs:List Value}{i:Nat}{m:Str→Option Value},P.Nodup→P[i]?=some x→vs[i]?=some v→kindOf x≠some .local→
  bindC kindOf (P.zip vs) m x=some v
 | [],_,_,_,_,h,_,_=>by simp at h
 |_::_,[],_,_,_,_,h,_=>by simp at h
 |p::P,w::vs,0,m,nd,h1,h2,hk=>by
  simp at h1 h2;subst h1;subst h2
  show bindC kindOf ((p,w)::P.zip vs) m p=_
  unfold bindC
  rw [y1 fun v hv=>(List.nodup_cons.mp nd).1 (List.of_mem_zip hv).1,if_neg hk]
  simp
 |p::P,w::vs,i + 1,m,nd,h1,h2,hk=>by
  show bindC kindOf ((p,w)::P.zip vs) m x=_
  unfold bindC
  exact y3 (i:=i) (List.nodup_cons.mp nd).2 (by simpa using h1) (by simpa using h2) hk
def start (N:List Str)(vs:List V):St:=vs.map some ++ List.replicate (N.length - vs.length) none
def GK (CX:DX)(P:Program)(w:World)(K:PySem.W.Frag)(mg:Str→Option Value)(base:Heap)(N:List Str)(qual:Str)(scope:Scope)(f:Addr)(cd:Value)(A:Around)(outer:List Env)(s:Shared)(H:Hp)(E:XK):Cx where
 prog:=P
 w:=w
 K:=K
 mg:=mg
 base:=base
 A:=A.deeper (envOfC qual scope s.heap.objs.size f cd)
 N:=N
 yT:=s
 N0:=H
 env:=envOfC qual scope s.heap.objs.size f cd
 outer:=outer
 stack:=envOfC qual scope s.heap.objs.size f cd::outer
 ex:= []
 calm:=true
 fn:=fun _=>true
 pn:= []
 xe:=fun e s'=>wpAny (model P w) (A.deeper (envOfC qual scope s.heap.objs.size f cd)) (leaving (envOfC qual scope s.heap.objs.size f cd) e) (fun _ s''=>CX outer H s E e s'') (fun e' s''=>CX outer H s E e' s'') s'
theorem Ci {sc:Scope}{n:Nat}{x:Str}(h:sc.names.lookup x=some .cell):∃c,(cellsFrom n sc.names []).lookup x=some c:=by
 have q:=PySem.W.cellsFrom_some sc.names n [] (.inl h)
 exact Option.isSome_iff_exists.mp q
theorem GL {CX:DX}{P:Program}{w:World}{K:PySem.W.Frag}{mg:Str→Option Value}{base:Heap}{N ps:List Str}{qual:Str}{scope:Scope}{f:Addr}{cd:Value}{A:Around}{outer:List Env}{s s1:Shared}{H:Hp}{E:XK}{us:List Value}{vs:List V}
  (S:aB N ps scope)(hd:A.handled=none)(e0:DY P w K mg base A outer s H)(hl:vs.length=ps.length)(r:Vals vs us)
  (x:InCallC s s.heap.objs.size (bindL (envOfC qual scope s.heap.objs.size f cd).kindOf (ps.zip us) fun _=>none) (cellsFrom (s.heap.objs.size + 1) scope.names []) (bindC (envOfC qual scope s.heap.objs.size f cd).kindOf (ps.zip us) fun _=>none) s1):
  Inv (GK CX P w K mg base N qual scope f cd A outer s H E) [] (start N vs) H s1:=by
 have dB:ps.length≤N.length:=by have:=congrArg List.length S.pre;rw [List.length_take] at this;omega
 obtain ⟨h1,tk,rfl,hk⟩:=x.done
 have Rc:∀b:Addr,b ∉ (GK CX P w K mg base N qual scope f cd A outer s H E).ex:=fun b z=>absurd (show b∈([] :List Addr) from z) (by simp)
 refine ⟨⟨e0.mod,S.kind,rfl,rfl,Nat.le_refl _,fun y z c h1 h2=> ?_,fun y hy=> ?_,fun y c _ h=> ?_,fun _=>hd,Around.frames_deeper e0.frames,.inr ⟨rfl,rfl⟩,fun b z=>absurd z (Rc b),e0.bs,e0.LI,fun b _ _=>Rc b,fun b z=>absurd z (Rc b),e0.vj,e0.N1⟩,
  rfl,e0.bare,Un.kept hk,⟨_,x.toInCall.ns,fun i y v h1 h2 h3=> ?_⟩,fun y c h=>⟨_,x.cell y c h⟩,e0.bF.fresh (Nat.le_refl _),fun y c h=> ?_,fun p hp=>absurd (show p∈([] :List (Addr×Obj)) from hp) (by simp),e0.bF.kept hk,?_⟩
 ·exact name_of_addr x.apart (PySem.mem_of_lookup h1) (PySem.mem_of_lookup h2)
 ·have hy:scope.names.lookup y=some .cell∨scope.names.lookup y=some .free:=hy
  rcases hy with hy|hy
  ·exact Ci hy
  ·exact absurd rfl (S.Of _ (PySem.mem_of_lookup hy))
 ·exact Nat.le_of_lt (x.above y c (PySem.mem_of_lookup h))
 ·have hi:i < vs.length:=by
   unfold start at h2
   by_cases hi:i < vs.length
   ·exact hi
   ·rw [List.getElem?_append_right (by simpa using hi)] at h2
    rw [List.getElem?_replicate] at h2
    split at h2 <;>cases h2
  have ha:vs[i]?=some v:=by
   unfold start at h2
   rw [List.getElem?_append_left (by simpa using hi),List.getElem?_map] at h2
   cases e:vs[i]? with
   |none=>rw [e] at h2;cases h2
   |some a=>rw [e] at h2;cases h2;rfl
  obtain ⟨u,hu,rv⟩:=r.get ha
  have hp:ps[i]?=some y:=by
   rw [←S.pre,List.getElem?_take_of_lt (by omega)];exact h1
  have ndP:ps.Nodup:=by rw [←S.pre];exact S.nd.sublist (List.take_sublist _ _)
  refine ⟨u,rv,?_⟩
  rcases S.par y (List.mem_of_getElem? hp) with k|k
  ·exact .inl ⟨k,y2 ndP hp hu k⟩
  ·obtain ⟨c,e⟩:=Ci (n:=s.heap.objs.size + 1) k
   refine .inr ⟨.inl k,c,e,?_⟩
   have q:=x.cell y c e
   rw [y3 ndP hp hu (by show scope.names.lookup y≠_;rw [k];decide)] at q
   exact q
 ·exact e0.bF.fresh (Nat.le_of_lt (x.above y c (PySem.mem_of_lookup h)))
 ·unfold start
  show _=N.length
  rw [List.length_append,List.length_map,List.length_replicate]
  omega
theorem Sr {CX:DX}{P:Program}{w:World}{K:PySem.W.Frag}{mg:Str→Option Value}{base:Heap}{k:Nat}{f:Addr}{name qual:Str}{params:Arguments}{body:List Stmt}{scope:Scope}{dV kV doc pm de ct oc:Value}{an od:Option Addr}
  {LQ:Array (Option Value)}{N ps:List Str}{sp:Sp}(lk:K.lookup f=some ⟨oc,od,.func (PySem.W.fnOf name qual params body scope dV kV doc pm an de ct),LQ⟩)(qI:PySem.W.codeIn K de qual=true)(S:aB N ps scope)
  (len:∀vs H Q E,sp vs H Q E→vs.length=ps.length)
  (IZ:∀ (A:Around)(outer:List Env)(s:Shared)(H:Hp)(vs:List V)(Q:VK)(E:XK),fN k (A.deeper (envOfC qual scope s.heap.objs.size f de))→sp vs H Q E→
   ∃t,GA (GK CX P w K mg base N qual scope f de A outer s H E) body t∧t {nx:=fun _ H'=>Q .bu H',rt:=Q} (start N vs) H):
  a7 P w K mg base CX (k + 1) f (PySem.W.fnOf name qual params body scope dV kV doc pm an de ct) ps sp:=by
 refine ⟨len,fun A outer s H args us vs Q E hr e0 hb r Iy=> ?_⟩
 have hl:=len _ _ _ _ Iy
 have KX:K.In s.heap:=e0.mod.RK.keeps fun b o e=>(e0.bs b o e).1
 have lim:s.heap.NoLimit:=e0.mod.nolimit.keeps fun b o e=>(e0.bs b o e).1
 have Ss:∀y∈ps.zip us,scope.names.lookup y.1=some .local∨(scope.names.lookup y.1=some .cell∧((cellsFrom (s.heap.objs.size + 1) scope.names []).lookup y.1).isSome=true):=fun ⟨n,v⟩ hy=>by
  rcases S.par n (List.of_mem_zip hy).1 with q|q
  ·exact .inl q
  ·exact .inr ⟨q,PySem.W.cellsFrom_some _ _ _ (.inl q)⟩
 refine codeAny_call_function hr.depth (KX _ _ lk) rfl S.co S.gen rfl (PySem.W.codeRec_of KX qI) (hb _ _ _ _ ?_)
 refine wpAny_newFunctionEnv_cells S.kind Ss fun env he s1 x=> ?_
 subst he
 refine ⟨lim.keeps x.toInCall.keep,codeAny_func ?_⟩
 obtain ⟨t,ht,hq⟩:=IZ A outer s H vs Q E (hr.deeper _) Iy
 have I:Inv (GK CX P w K mg base N qual scope f de A outer s H E) [] (start N vs) H s1:=GL S hr.hd e0 hl r x
 refine wpAny_mono (ht [] s1 (start N vs) H _ I hq) (fun fl s' hs=> ?_) fun e s' hs=>hs
 have fin:∀ {σ':St}{H':Hp}{v:V}{u:Value},Inv (GK CX P w K mg base N qual scope f de A outer s H E) [] σ' H' s'→RelV v u→Q v H'→CE outer P w H s Q u s':=
  fun {σ' H' v u} J rv q=>⟨v,H',J.os,J.bare,J.base,J.bF,rv,q⟩
 cases fl with
 |ret u=>
  obtain ⟨v,σ',H',J,rv,q⟩:=hs
  exact fin J rv q
 |next=>
  obtain ⟨σ',H',J,q⟩:=hs
  exact fin (v:=V.bu) (u:=Value.none) J rfl q
 |brk=>
  obtain ⟨_,_,_,q⟩:=hs
  exact False.elim q
 |cont=>
  obtain ⟨_,_,_,q⟩:=hs
  exact False.elim q
end L2
namespace L2
open PySem PySem.Spec PyProof.Rows
section
variable {X:Cx}{x:Str}{p pos:Pos}{e:Expr}{es:List Expr}{t:TA}{id T:String}{r:List V→Hp→VK→Prop}
def tCB (r:List V→Hp→VK→Prop)(t:TA):TE:=fun σ H Q=>t σ H fun vs H1=>r vs H1 Q
theorem aU (hc:jL X (.builtin id) r)(hg:Gl X x)(hm:X.mg x=none)(hv:bootBuiltins x=some (.builtin id))(ha:PA X (e::es) t)(hn:x≠"__name__":=by decide)(Od:(x==("__debug__":Str))=false:=by decide)
  (he:starEach (e::es) X.env=(false,eval e X.env)::starEach es X.env:=by rfl)(dB:(backTo pos (starEach es X.env)).any (·.1)=false:=by rfl):PE X (.Call (.Name x p) (e::es) [] pos) (tCB r t):=by
 intro pins s σ H Q I h
 refine wpAny_Call_Name_kw (tq I hg hm hv ?_ hn Od)
 exact PyProof.Rows.callWith_builtin1 (cI (ha pos pins s σ H _ I h) fun us s1 ⟨vs,H1,I1,r1,q1⟩=>hc pins s1 σ H1 vs us Q I1 r1 q1) he dB
theorem y4 (hc:jL X (.type T) r)(hg:Gl X x)(hm:X.mg x=none)(hv:bootBuiltins x=some (.type T))(ha:PA X (e::es) t)(hn:x≠"__name__":=by decide)(Od:(x==("__debug__":Str))=false:=by decide)
  (he:starEach (e::es) X.env=(false,eval e X.env)::starEach es X.env:=by rfl)(dB:(backTo pos (starEach es X.env)).any (·.1)=false:=by rfl):PE X (.Call (.Name x p) (e::es) [] pos) (tCB r t):=by
 intro pins s σ H Q I h
 refine wpAny_Call_Name_kw (tq I hg hm hv ?_ hn Od)
 exact PyProof.Rows.callWith_type1 (cI (ha pos pins s σ H _ I h) fun us s1 ⟨vs,H1,I1,r1,q1⟩=>hc pins s1 σ H1 vs us Q I1 r1 q1) he dB
end
end L2
namespace HT
open PySem PyProof.Rows
section
open PySem.SeqAt
open PySem.AutoSeq1 (wpAny_loadPart')
open PySem.MeetsSeq PySem.MeetsSeq2 PySem.MeetsSeq3
end
section
variable {prog:Program}{w:World}{A:Around}{E:Value→Shared→Prop}{s:Shared}
theorem LR {t b:Addr}{vs ws:List Value}{Q:Value→Shared→Prop}(ht:IsTup s.heap t vs.toArray)(hb:IsTup s.heap b ws.toArray)(hv:vs≠ [])
  (h1:ws= [] →Q (.ref t) s)(h2:ws≠ [] →Q (.ref s.heap.objs.size) {s with heap:=s.heap.push {cls:= .type "tuple",data:= .seq (vs ++ ws).toArray} })
  (hsz:vs.length + ws.length≤sizeLine):wpAny (model prog w) A (binaryOp .Add (.ref t) (.ref b)) Q E s:=by
 obtain ⟨⟨cls,dd,data,sl⟩,ho,hc,n,hd⟩:=id ht
 obtain ⟨⟨alQ,dd2,data2,sl2⟩,ho2,Su,n2,hd2⟩:=id hb
 simp only at hc hd Su hd2
 subst hc hd Su hd2
 have e:vs.toArray ++ ws.toArray=(vs ++ ws).toArray:=by simp
 by_cases hw:ws= []
 ·exact concat_meets ⟨_,ho,rfl⟩ ⟨_,ho2,rfl⟩ noFill_tuple_add seq_tuple_add PySem.F.slot_tuple_add PySem.F.entry_tuple_add (PySem.F.args_tuple_add_2 _ _)
   (tuple_addW1 t b vs.toArray ws.toArray n n2 dd dd2 sl sl2 (by simpa using hv) (by simp [hw])) ⟨ho,ho2,h1 hw⟩
 ·refine concat_meets ⟨_,ho,rfl⟩ ⟨_,ho2,rfl⟩ noFill_tuple_add seq_tuple_add PySem.F.slot_tuple_add PySem.F.entry_tuple_add (PySem.F.args_tuple_add_2 _ _)
   (tuple_addW2 t b vs.toArray ws.toArray n n2 dd dd2 sl sl2 (by simpa using hv) (by simpa using hw) (by rw [List.size_toArray,List.size_toArray];exact hsz)) ⟨ho,ho2,?_⟩
  rw [e]
  exact h2 hw
def gk (n d:Nat):Option Int→Nat
 |none=>d
 |some v=>if v < 0 then (v + (n:Int)).toNat else min v.toNat n
theorem I0 (n d:Nat):gk n d none=d:=rfl
theorem vA (n d k:Nat):gk n d (some (k:Int))=min k n:=by
 show (if (k:Int) < 0 then ((k:Int) + (n:Int)).toNat else min (k:Int).toNat n)=min k n
 rw [if_neg (by omega),Int.toNat_natCast]
theorem Og (n d:Nat)(hd:d≤n)(o:Option Int):gk n d o≤n:=by
 cases o with
 |none=>exact hd
 |some v=>
  show (if v < 0 then (v + (n:Int)).toNat else min v.toNat n)≤n
  by_cases hv:v < 0
  ·rw [if_pos hv];omega
  ·rw [if_neg hv];exact Nat.min_le_right _ _
theorem Fj (v:Int)(n d:Nat):(if v < 0 then max (v + (n:Int)) 0 else min v (n:Int))=((gk n d (some v):Nat):Int):=by
 show (if v < 0 then max (v + (n:Int)) 0 else min v (n:Int))=(((if v < 0 then (v + (n:Int)).toNat else min v.toNat n):Nat):Int)
 by_cases hv:v < 0
 ·simp only [if_pos hv];omega
 ·simp only [if_neg hv];omega
theorem D0 (lo hi:Option Int)(n:Nat):Builtin.Slice.sliceAdjust lo hi 1 (n:Int)=(((gk n 0 lo:Nat):Int),((gk n n hi:Nat):Int)):=by
 have h1:¬ ((1:Int) < 0):=by omega
 unfold Builtin.Slice.sliceAdjust
 simp only [h1,if_false]
 refine Prod.ext ?_ ?_
 ·cases lo with
  |none=>rfl
  |some v=>exact Fj v n 0
 ·cases hi with
  |none=>rfl
  |some v=>exact Fj v n n
theorem D1 (i j:Nat):Builtin.Slice.slicePlaces (i:Int) (j:Int) 1=j - i:=by
 unfold Builtin.Slice.slicePlaces
 have h1:(1:Int) >0:=by omega
 simp only [h1,if_true,Int.ediv_one]
 split <;>omega
theorem wk {v:Value}{o:Option Int}{Q:Option Int→Shared→Prop}(p:IsPart v o)(h:Q o s):wpAny (model prog w) A (Builtin.Slice.slicePartIndex v) Q E s:=by
 cases p with
 |none=>exact slicePart_none h
 |int i t=>exact slicePart_int h
theorem tw {sl:Addr}{vl vu:Value}{lo hi:Option Int}{n:Nat}{Q:Int×Int×Nat→Shared→Prop}(hs:s.heap.IsSliceOf sl vl vu .none)(pl:IsPart vl lo)(pu:IsPart vu hi)
  (h:Q (((gk n 0 lo:Nat):Int),1,gk n n hi - gk n 0 lo) s):wpAny (model prog w) A (Builtin.Slice.sliceApplied (.ref sl) (pure (n:Int))) Q E s:=by
 obtain ⟨os,Sv,Nl,Rf⟩:=id hs
 unfold Builtin.Slice.sliceApplied Builtin.Slice.sliceFields
 refine wpAny_bind (wpAny_bind (wpAny_field Sv Rf (x:=vl) rfl (wpAny_bind (wpAny_field Sv Rf (x:=vu) rfl (wpAny_bind (wpAny_field Sv Rf (x:= .none) rfl (wpAny_pure ?_)))))))
 refine wpAny_bind (slicePart_none ?_)
 show wpAny _ _ (if ((1:Int)==0)=true then _ else _) _ _ s
 rw [if_neg (by decide)]
 refine wpAny_bind (wk pl (wpAny_bind (wk pu (wpAny_bind (wpAny_pure ?_)))))
 show wpAny _ _ (match Builtin.Slice.sliceAdjust lo hi 1 (n:Int) with|(lo,hi)=>pure (lo,(1:Int),Builtin.Slice.slicePlaces lo hi 1)) _ _ s
 rw [D0 lo hi n]
 show wpAny _ _ (pure (((gk n 0 lo:Nat):Int),(1:Int),Builtin.Slice.slicePlaces ((gk n 0 lo:Nat):Int) ((gk n n hi:Nat):Int) 1)) _ _ s
 rw [D1]
 exact wpAny_pure h
theorem Ja (xs:Array Value)(i k:Nat):((List.range k).filterMap fun (m:Nat)=>xs[((i:Int) + (m:Int) * 1).toNat]?).toArray=((xs.toList.drop i).take k).toArray:=by
 have e:(fun (m:Nat)=>xs[((i:Int) + (m:Int) * 1).toNat]?)=fun m=>xs[i + m]?:=by
  funext m
  have:((i:Int) + (m:Int) * 1).toNat=i + m:=by omega
  rw [this]
 rw [e]
 have:=pick_run xs i k
 rw [List.filterMap_map] at this
 have e2:((fun x=>xs[x]?) ∘ fun x=>i + x)=fun m=>xs[i + m]?:=rfl
 rw [e2] at this
 rw [this]
theorem qO {t sl:Addr}{items:Array Value}{vl vu:Value}{lo hi:Option Int}{Q:Value→Shared→Prop}(ht:IsTup s.heap t items)(hs:s.heap.IsSliceOf sl vl vu .none)(pl:IsPart vl lo)(pu:IsPart vu hi)
  (hw:¬ (gk items.size 0 lo=0∧gk items.size items.size hi=items.size))
  (h:Q (.ref s.heap.objs.size) {s with heap:=s.heap.push {cls:= .type "tuple",data:= .seq ((items.toList.drop (gk items.size 0 lo)).take (gk items.size items.size hi - gk items.size 0 lo)).toArray} })
  (hsz:items.size≤sizeLine):wpAny (model prog w) A (getItem (.ref t) (.ref sl)) Q E s:=by
 have Fl:sizeOk (.seq ((items.toList.drop (gk items.size 0 lo)).take (gk items.size items.size hi - gk items.size 0 lo)).toArray):=by
  show ((items.toList.drop (gk items.size 0 lo)).take (gk items.size items.size hi - gk items.size 0 lo)).toArray.size≤sizeLine
  rw [List.size_toArray,List.length_take,List.length_drop,Array.length_toList]
  omega
 have hj:gk items.size items.size hi≤items.size:=Og _ _ (Nat.le_refl _) hi
 obtain ⟨os,Sv,Nl,Rf⟩:=id hs
 have hTs:s.TypeIs (.ref sl) "slice":=⟨os,Sv,Nl⟩
 unfold getItem
 try with_reducible refine wpAny_holding ?_
 first|refine wpAny_bind (wpAny_pure ?_)|skip
 refine wpAny_bind (wpAny_sequenceKey ht.typeIs (by decide) ?_)
 refine wpAny_bind (wpAny_callSpecial?_slot (name:=Str.ofString "__getitem__") ht.typeIs PyProof.Rows.slot_tuple_getitem
  (wpAny_call_entry PyProof.Rows.slot_tuple_getitem ht.typeIs entry_tuple_getitem ?_ (args_tuple_getitem _ _)))
 show wpAny _ _ (Builtin.Tuple.tupleItemsOf (.ref t) >>=_) _ _ s
 refine wpAny_bind (tupleItemsOf_ ht ?_)
 refine wpAny_bind (wpAny_typeOf hTs ?_)
 rw [if_pos (by decide)]
 refine wpAny_bind (tw hs pl pu ?_)
 have Nm:¬ ((((gk items.size 0 lo:Nat):Int)==0 && (1:Int)==1 && (gk items.size items.size hi - gk items.size 0 lo)==items.size)=true):=by
  intro q
  rw [Bool.and_eq_true,Bool.and_eq_true] at q
  have q1:((gk items.size 0 lo:Nat):Int)=0:=eq_of_beq q.1.1
  have q2:gk items.size items.size hi - gk items.size 0 lo=items.size:=eq_of_beq q.2
  exact hw ⟨by omega,by omega⟩
 show wpAny _ _ (if (((gk items.size 0 lo:Nat):Int)==0 && (1:Int)==1 && (gk items.size items.size hi - gk items.size 0 lo)==items.size)=true then _ else _) _ _ s
 rw [if_neg Nm,Ja]
 first
  |exact wpAny_bind (m:=Builtin.Tuple.tupleExact _) (wpAny_newObj_type (wpAny_pure ⟨_,rfl,wpAny_pure h⟩) Fl)
  |exact wpAny_bind (m:=Builtin.Tuple.tupleExact _) (wpAny_newObj_type (wpAny_bind (wpAny_pure (wpAny_pure ⟨_,rfl,wpAny_pure h⟩))) Fl)
  |exact wpAny_bind (wpAny_bind (m:=Builtin.Tuple.tupleExact _) (wpAny_newObj_type (wpAny_pure (wpAny_pure ⟨_,rfl,wpAny_pure h⟩)) Fl))
  |exact wpAny_bind (wpAny_bind (m:=Builtin.Tuple.tupleExact _) (wpAny_newObj_type (wpAny_pure ⟨_,rfl,wpAny_pure h⟩) Fl))
end
end HT
namespace L2
open PySem PySem.Spec PyProof.Rows
abbrev TO:=St→Hp→(Option Int→Hp→Prop)→Prop
def PO (X:Cx)(e:Option Expr)(t:TO):Prop:=
 ∀ (pins:List (Addr×Obj))(s:Shared)(σ:St)(H:Hp)(Q:Option Int→Hp→Prop),Inv X pins σ H s→t σ H Q→
  wpAny (model X.prog X.w) X.A (evalPart e X.env) (fun u s'=>∃o H',Inv X pins σ H' s'∧IsPart u o∧Q o H') X.xe s
def LS:TO:=fun _ H Q=>Q none H
def Sw (t:TE):TO:=fun σ H Q=>t σ H fun x H1=>∃i,x= .int i∧Q (some i) H1
section
variable {X:Cx}{e:Expr}{te:TE}{lo hi:Option Expr}{tl th:TO}{pos p2:Pos}
theorem Af:PO X none LS:=by
 intro pins s σ H Q I h
 rw [evalPart_none]
 exact wpAny_pure ⟨none,H,I,.none,h⟩
theorem qP (h:PE X e te):PO X (some e) (Sw te):=by
 intro pins s σ H Q I hw
 rw [evalPart_some]
 refine cI (h pins s σ H _ I hw) fun u s1 ⟨x,H1,I1,r1,q1⟩=> ?_
 obtain ⟨i,rfl,q⟩:=q1
 obtain ⟨t,rfl⟩:=r1
 exact ⟨some i,H1,I1,.int i t,q⟩
def SlR (X:Cx)(r:V→Option Int→Option Int→Hp→VK→Prop):Prop:=
 ∀ (pins:List (Addr×Obj))(s:Shared)(σ:St)(H:Hp)(x:V)(v vl vu:Value)(lo hi:Option Int)(sl:Addr)(Q:VK),Inv X pins σ H s→RelV x v→s.heap.IsSliceOf sl vl vu .none→IsPart vl lo→IsPart vu hi→r x lo hi H Q→
  ∃T id,typeLookup (.type T) "__getitem__"=pure (some (.builtin id))∧s.TypeIs v T∧wpAny (model X.prog X.w) X.A (getItem v (.ref sl)) (EP X pins σ Q) X.xe s
def tSl (r:V→Option Int→Option Int→Hp→VK→Prop)(te:TE)(tl th:TO):TE:=fun σ H Q=>te σ H fun x H1=>tl σ H1 fun l H2=>th σ H2 fun u H3=>r x l u H3 Q
theorem qQ {r:V→Option Int→Option Int→Hp→VK→Prop}(hr:SlR X r)(he:PE X e te)(hl:PO X lo tl)(hu:PO X hi th):PE X (.Subscript e (.Slice lo hi none p2) pos) (tSl r te tl th):=by
 intro pins s σ H Q I h
 refine Subscript_ (cI (he pins s σ H _ I h) fun v s1 ⟨x,H1,I1,r1,q1⟩=> ?_)
 refine wpAny_Slice (cI (hl pins s1 σ H1 _ I1 q1) fun vl s2 ⟨l,H2,I2,pl,q2⟩=>cI (hu pins s2 σ H2 _ I2 q2) fun vu s3 ⟨u,H3,I3,pu,q3⟩=> ?_)
 rw [evalPart_none]
 refine wpAny_pure ?_
 have I4:Inv X pins σ H3 {s3 with heap:=s3.heap.push {cls:= .type "slice",data:= .fields #[vl,vu,.none] } }:=I3.kept (t':=s3.toks) fun b ob q=>Heap.get?_push_of_some _ q
 obtain ⟨T,id,hT,ht,hg⟩:=hr pins {s3 with heap:=s3.heap.push {cls:= .type "slice",data:= .fields #[vl,vu,.none] } } σ H3 x v vl vu l u s3.heap.objs.size Q I4 r1 (Heap.IsSliceOf.new ..) pl pu q3
 show wpAny (model X.prog X.w) X.A (subscriptTail e (.Slice lo hi none p2) v (.ref s3.heap.objs.size)) (EP X pins σ Q) X.xe {s3 with heap:=s3.heap.push {cls:= .type "slice",data:= .fields #[vl,vu,.none] } }
 exact tail_any (ops:= [.ref s3.heap.objs.size,v]) ht hT hg (by with_unfolding_all rfl)
def qt (xs:List V)(lo hi:Option Int):List V:=(xs.drop (HT.gk xs.length 0 lo)).take (HT.gk xs.length xs.length hi - HT.gk xs.length 0 lo)
theorem uz (xs:List V)(lo hi:Option Int):(qt xs lo hi).length≤xs.length:=by
 unfold qt
 rw [List.length_take,List.length_drop]
 omega
def abn (K:PySem.W.Frag):V→Option Int→Option Int→Hp→VK→Prop:=fun x lo hi H Q=>∃a xs,x= .ref a∧bb K H a xs∧
 ¬ (HT.gk xs.length 0 lo=0∧HT.gk xs.length xs.length hi=xs.length)∧∀p,H p=none→Q (.ref p) (upd H p (.tup (qt xs lo hi)))
theorem Oh:SlR X (abn X.K):=by
 intro pins s σ H x v vl vu lo hi sl Q I rx hs pl pu h
 obtain ⟨a,xs,rfl,hx,hw,q⟩:=h
 cases rx
 obtain ⟨aV,r,ht,hz⟩:=I.tuple hx
 have hlen:aV.toArray.size=xs.length:=by rw [List.size_toArray];exact r.length.symm
 refine ⟨"tuple",_,PyProof.Rows.slot_tuple_getitem.lookup,ht.typeIs,?_⟩
 refine HT.qO ht hs pl pu (by rw [hlen];exact hw) ?_ (by rw [hlen];exact hz)
 rw [hlen]
 refine ⟨.ref s.heap.objs.size,_,I.laid (t':=s.toks) (o:= .tup (qt xs lo hi)) (fun b ob q=>Heap.get?_push_of_some _ q) (Nat.le_refl _) ?_,rfl,q _ (I.bF.fresh (Nat.le_refl _))⟩
 exact ⟨Nat.le_trans (uz xs lo hi) hz,_,(r.drop (HT.gk xs.length 0 lo)).take (HT.gk xs.length xs.length hi - HT.gk xs.length 0 lo),IsTup.new _ _⟩
def Sx (K:PySem.W.Frag):R2:=fun x y H Q=>∃a b xs ys,x= .ref a∧y= .ref b∧bb K H a xs∧bb K H b ys∧xs≠ [] ∧xs.length + ys.length≤sizeLine∧
 (ys= [] →Q (.ref a) H)∧(ys≠ [] →∀p,H p=none→Q (.ref p) (upd H p (.tup (xs ++ ys))))
theorem Vals.Ag {xs:List V}{us:List Value}(r:Vals xs us):us= [] ↔ xs= [] :=by
 cases r with
 |nil=>simp
 |cons _ _=>simp
theorem Fm:vm X (binaryOp .Add) (Sx X.K):=by
 intro pins s σ H x y v u Q I rx ry h
 obtain ⟨a,b,xs,ys,rfl,rfl,ha,hb,hx,hz,q1,q2⟩:=h
 cases rx
 cases ry
 obtain ⟨aV,r1,p1,_⟩:=I.tuple ha
 obtain ⟨vn,r2,p2,_⟩:=I.tuple hb
 refine HT.LR p1 p2 (fun z=>hx (r1.Ag.mp z)) (fun z=>⟨.ref a,H,I,rfl,q1 (r2.Ag.mp z)⟩) (fun z=> ?_) (by rw [←r1.length,←r2.length];exact hz)
 refine ⟨.ref s.heap.objs.size,_,I.laid (t':=s.toks) (o:= .tup (xs ++ ys)) (fun b ob q=>Heap.get?_push_of_some _ q) (Nat.le_refl _) ?_,rfl,q2 (fun w=>z (r2.Ag.mpr w)) _ (I.bF.fresh (Nat.le_refl _))⟩
 exact ⟨by rw [List.length_append];exact hz,_,r1.append r2,IsTup.new _ _⟩
end
end L2
namespace L2
open PySem PySem.Spec PyProof.Rows
def Iz (n:Nat)(i:Int):Option Nat:=if 0≤i then (if i < n then some i.toNat else none) else if -(n:Int)≤i then some (i + n).toNat else none
def Cj {α:Type}(xs:List α)(i:Int):Option α:=(Iz xs.length i).bind fun j=>xs[j]?
theorem Ah {n:Nat}{i:Int}{j:Nat}(h:Iz n i=some j):seqIndex? i n=some j∧j < n∧ -(n:Int)≤i∧i < n:=by
 unfold Iz at h
 by_cases h0:0≤i
 ·rw [if_pos h0] at h
  by_cases h1:i < n
  ·rw [if_pos h1] at h
   have e:i.toNat=j:=Option.some.inj h
   exact ⟨by rw [seqIndex_of h0 h1,e],by omega,by omega,h1⟩
  ·rw [if_neg h1] at h;cases h
 ·rw [if_neg h0] at h
  by_cases h1: -(n:Int)≤i
  ·rw [if_pos h1] at h
   have e:(i + n).toNat=j:=Option.some.inj h
   exact ⟨by rw [seqIndex_neg (by omega) h1,e],by omega,h1,by omega⟩
  ·rw [if_neg h1] at h;cases h
theorem Fn {α:Type}{xs:List α}{i:Int}{v:α}(h:Cj xs i=some v):∃j,seqIndex? i xs.length=some j∧xs[j]?=some v∧j < xs.length∧ -(xs.length:Int)≤i∧i < xs.length:=by
 unfold Cj at h
 cases e:Iz xs.length i with
 |none=>rw [e] at h;cases h
 |some j=>
  rw [e] at h
  obtain ⟨h1,h2,h3,h4⟩:=Ah e
  exact ⟨j,h1,h,h2,h3,h4⟩
theorem gI {α:Type}{xs:List α}{j:Nat}{v:α}(h:xs[j]?=some v):Cj xs (j:Int)=some v:=by
 have hj:j < xs.length:=(List.getElem?_eq_some_iff.mp h).1
 have e:Iz xs.length (j:Int)=some j:=by
  unfold Iz
  rw [if_pos (by omega),if_pos (by omega)];simp
 unfold Cj;rw [e];exact h
def LU (b:Expr):Prop:=∀o i,subscripted b false o i=operate [o,i] (getItem o i)
def Sy (X:Cx)(r:R2):Prop:=
 ∀ (value slice:Expr)(pins:List (Addr×Obj))(s:Shared)(σ:St)(H:Hp)(x y:V)(v u:Value)(Q:VK),Inv X pins σ H s→RelV x v→RelV y u→r x y H Q→
  subscripted slice false v u=operate [v,u] (getItem v u)→wpAny (model X.prog X.w) X.A (subscriptTail value slice v u) (EP X pins σ Q) X.xe s
def MtR (X:Cx)(id:String)(r:V→List V→Hp→VK→Prop):Prop:=
 ∀ (pins:List (Addr×Obj))(s:Shared)(σ:St)(H:Hp)(x:V)(xs:List V)(v:Value)(us:List Value)(Q:VK),Inv X pins σ H s→RelV x v→Vals xs us→r x xs H Q→
  wpAny (model X.prog X.w) X.A (call (.builtin id) (v::us)) (EP X pins σ Q) X.xe s
section
variable {X:Cx}{a b:Expr}{ta tb:TE}{pos:Pos}
theorem aE {r:R2}(hr:Sy X r)(ha:PE X a ta)(hb:PE X b tb)(hs:LU b):PE X (.Subscript a b pos) (tOp r ta tb):=by
 intro pins s σ H Q I h
 exact Subscript_ (N8 ha hb I h fun v u s2 x y H2 I2 rx ry q=>hr a b pins s2 σ H2 x y v u Q I2 rx ry q (hs _ _))
def SA (K:PySem.W.Frag):R2:=fun x y H Q=>∃p xs i v,x= .ref p∧y= .int i∧bT K H p xs∧Cj xs i=some v∧Q v H
def SE (K:PySem.W.Frag):R2:=fun x y H Q=>∃p xs i v,x= .ref p∧y= .int i∧bb K H p xs∧Cj xs i=some v∧Q v H
theorem aJ:Sy X (SA X.K):=by
 intro value slice pins s σ H x y v u Q I rx ry h hs
 obtain ⟨p,xs,i,z,rfl,rfl,hq,he,q⟩:=h
 cases rx
 obtain ⟨t,rfl⟩:=ry
 obtain ⟨aV,r,pl,hz⟩:=I.list hq
 obtain ⟨j,h1,h2,h3,h4,h5⟩:=Fn he
 obtain ⟨w,ew,Ai⟩:=r.get h2
 have hl:=r.length
 have hn:=wb
 have fin:EP X pins σ Q w s:=⟨z,H,I,Ai,q⟩
 by_cases h0:0≤i
 ·have hj:i.toNat=j:=by
   rw [seqIndex_of h0 h5] at h1
   exact Option.some.inj h1
  exact item_listR pl.isList h0 (by omega) (by rw [hj];simpa using ew) fin hs
 ·have hj:(i + (aV.toArray.size:Int)).toNat=j:=by
   rw [seqIndex_neg (by omega) h4] at h1
   rw [List.size_toArray,←hl]
   exact Option.some.inj h1
  exact subscriptTail_builtinR (x:=w) pl.isList.typeIs slot_list_getitem.lookup
   (wpAny_getItem_list_neg (Q:=fun r s'=>r=w∧EP X pins σ Q r s') pl.isList (by omega) (by rw [List.size_toArray] <;>omega) (by omega) (by rw [hj];simpa using ew) ⟨rfl,fin⟩) hs
theorem aY:Sy X (SE X.K):=by
 intro value slice pins s σ H x y v u Q I rx ry h hs
 obtain ⟨p,xs,i,z,rfl,rfl,hq,he,q⟩:=h
 cases rx
 obtain ⟨t,rfl⟩:=ry
 obtain ⟨aV,r,pl,hz⟩:=I.tuple hq
 obtain ⟨j,h1,h2,h3,h4,h5⟩:=Fn he
 obtain ⟨w,ew,Ai⟩:=r.get h2
 have hl:=r.length
 have hn:=wb
 have fin:EP X pins σ Q w s:=⟨z,H,I,Ai,q⟩
 exact subscriptTail_builtinR (x:=w) pl.typeIs slot_tuple_getitem.lookup
  (getItem_tuple (j:=j) (Q:=fun r s'=>r=w∧EP X pins σ Q r s') pl (by omega) (by omega) (by rw [List.size_toArray,←hl];exact h1) (by simpa using ew) ⟨rfl,fin⟩) hs
theorem D2 (aV:List Value)(n j:Nat)(u:Value):Obj.mapSeq (·.setIfInBounds j u) {cls:= .type "list",data:= .seq aV.toArray n}={cls:= .type "list",data:= .seq (aV.set j u).toArray n}:=by
 simp [Obj.mapSeq]
theorem Inv.lst {pins:List (Addr×Obj)}{σ:St}{H:Hp}{s:Shared}{p:Addr}{xs:List V}(I:Inv X pins σ H s)(h:H p=some (.lst xs)):
  ∃ (aV:List Value)(n:Nat),Vals xs aV∧s.heap.get? p=some {cls:= .type "list",data:= .seq aV.toArray n}∧xs.length≤sizeLine:=by
 obtain ⟨z,aV,n,r,e⟩:=I.bF p _ h
 exact ⟨aV,n,r,e,z⟩
theorem Inv.Oi {pins:List (Addr×Obj)}{σ:St}{H:Hp}{s:Shared}{p:Addr}{xs ys:List V}{aV its':List Value}{n n':Nat}{f:Obj→Obj}(I:Inv X pins σ H s)(h:H p=some (.lst xs))
  (ho:s.heap.get? p=some {cls:= .type "list",data:= .seq aV.toArray n})(hf:f {cls:= .type "list",data:= .seq aV.toArray n}={cls:= .type "list",data:= .seq its'.toArray n'})(r:Vals ys its')(hz:ys.length≤sizeLine)(t:Nat):
  Inv X pins σ (upd H p (.lst ys)) {s with heap:=s.heap.update p f,toks:=t}:=by
 have e:(s.heap.update p f).get? p=some {cls:= .type "list",data:= .seq its'.toArray n'}:=by
  rw [Heap.get?_update_self f ho (by rw [hf] <;>rfl),hf]
 refine I.write (x:=p) (e:=p) (by rw [h];trivial) (.inl rfl) (fun b u hb q=>(Heap.get?_update_other _ _ (Ne.symm hb)).trans q) ⟨_,e⟩ ?_
 exact ⟨hz,its',n',r,e⟩
def SG:V→V→V→Hp→(Hp→Prop)→Prop:=fun o i v H Q=>∃p xs k j,o= .ref p∧i= .int k∧H p=some (.lst xs)∧Iz xs.length k=some j∧Q (upd H p (.lst (xs.set j v)))
theorem set_list:RW X SG:=by
 intro pins s σ H o i v ov iv u Q I ro ri rv h
 obtain ⟨p,xs,k,j,rfl,rfl,hp,hj,q⟩:=h
 cases ro
 obtain ⟨t,rfl⟩:=ri
 obtain ⟨aV,n,r,ho,hz⟩:=I.lst hp
 obtain ⟨h1,h2,h3,h4⟩:=Ah hj
 have hl:=r.length
 have hn:=wb
 have I':Inv X pins σ (upd H p (.lst (xs.set j v))) {s with heap:=s.heap.update p (Obj.mapSeq (·.setIfInBounds j u))}:=
  I.Oi hp ho (D2 aV n j u) (r.set rv j) (by rw [List.length_set];exact hz) s.toks
 by_cases h0:0≤k
 ·have hk:k.toNat=j:=by
   rw [seqIndex_of h0 h4] at h1
   exact Option.some.inj h1
  exact PySem.W.ki_setAt ho h0 (by omega) (by rw [List.size_toArray,←hl];exact h4) (by rw [hk];exact ⟨_,I',q⟩)
 ·have hk:(k + (aV.toArray.size:Int)).toNat=j:=by
   rw [seqIndex_neg (by omega) h3] at h1
   rw [List.size_toArray,←hl]
   exact Option.some.inj h1
  exact PySem.W.ki_setBack ho (by omega) (by rw [List.size_toArray,←hl];exact h3) (by omega) (by rw [hk];exact ⟨_,I',q⟩)
theorem Aj (lo hi:Option Int)(n:Nat):(sliceBounds lo hi none n).1=((HT.gk n 0 lo:Nat):Int)∧(sliceBounds lo hi none n).2.1=((HT.gk n n hi:Nat):Int)∧(sliceBounds lo hi none n).2.2=1:=by
 refine ⟨?_,?_,rfl⟩
 ·cases lo with
  |none=>simp [sliceBounds,HT.gk]
  |some i=>
   simp only [sliceBounds,HT.gk,Option.getD_none,show (1:Int) >0 by decide,if_true]
   by_cases h:i < 0
   ·simp only [h,if_true] <;>omega
   ·simp only [h,if_false] <;>omega
 ·cases hi with
  |none=>simp [sliceBounds,HT.gk]
  |some i=>
   simp only [sliceBounds,HT.gk,Option.getD_none,show (1:Int) >0 by decide,if_true]
   by_cases h:i < 0
   ·simp only [h,if_true] <;>omega
   ·simp only [h,if_false] <;>omega
theorem yj (aV:List Value)(lo hi:Option Int):slicePick aV.toArray lo hi none=((aV.drop (HT.gk aV.length 0 lo)).take (HT.gk aV.length aV.length hi - HT.gk aV.length 0 lo)).toArray:=by
 obtain ⟨h1,h2,h3⟩:=Aj lo hi aV.toArray.size
 unfold slicePick
 rw [h1,h2,h3]
 simp only [sliceRange_one,pick_run,List.size_toArray] <;>rfl
def abo (K:PySem.W.Frag):V→Option Int→Option Int→Hp→VK→Prop:=fun x lo hi H Q=>∃a xs,x= .ref a∧bT K H a xs∧∀p,H p=none→Q (.ref p) (upd H p (.lst (qt xs lo hi)))
theorem Ak:SlR X (abo X.K):=by
 intro pins s σ H x v vl vu lo hi sl Q I rx hs pl pu h
 obtain ⟨a,xs,rfl,hx,q⟩:=h
 cases rx
 obtain ⟨aV,r,ht,hz⟩:=I.list hx
 have hlen:=r.length
 refine ⟨"list",_,slot_list_getitem.lookup,ht.isList.typeIs,?_⟩
 refine wpAny_getItem_list_slice ht.isList hs pl pu .none (by simp) ?_ (by rw [List.size_toArray] <;>omega)
 rw [yj,←hlen]
 refine ⟨.ref s.heap.objs.size,_,I.laid (t':=s.toks) (o:= .lst (qt xs lo hi)) (fun b ob q=>Heap.get?_push_of_some _ q) (Nat.le_refl _) ?_,rfl,q _ (I.bF.fresh (Nat.le_refl _))⟩
 exact ⟨Nat.le_trans (uz xs lo hi) hz,_,0,(r.drop (HT.gk xs.length 0 lo)).take (HT.gk xs.length xs.length hi - HT.gk xs.length 0 lo),Heap.get?_push_size _ rfl⟩
def my:V→Bool
 | .bu=>true
 | .bl _=>true
 | .int _=>true
 | .str _=>true
 |_=>false
def Ls:V→V→Bool
 | .bu,.bu=>true
 | .bl a,.bl b=>a==b
 | .bl a,.int b=>(if a then 1 else 0)==b
 | .int a,.bl b=>a==(if b then 1 else 0)
 | .int a,.int b=>a==b
 | .str a,.str b=>a==b
 |_,_=>false
theorem Oj {A:Around}{s:Shared}{y x:V}{u v:Value}(ry:RelV y u)(rx:RelV x v)(fy:my y=true)(fx:my x=true):SeqAt.EqAt A s u v (Ls y x):=by
 cases y with
 |bu=>
  cases ry
  cases x with
  |bu=>cases rx;exact SeqAt.EqAt.same _
  |bl b=>cases rx;exact SeqAt.EqAt.none_bool b
  |int b=>obtain ⟨t,rfl⟩:=rx;exact SeqAt.EqAt.none_int b t
  |str b=>obtain ⟨t,rfl⟩:=rx;exact SeqAt.EqAt.none_str b t
  |_=>exact absurd (show false=true from fx) Bool.false_ne_true
 |bl a=>
  cases ry
  cases x with
  |bu=>cases rx;exact SeqAt.EqAt.bool_none a
  |bl b=>cases rx;exact SeqAt.EqAt.bool_bool a b
  |int b=>obtain ⟨t,rfl⟩:=rx;exact SeqAt.EqAt.bool_int a b t
  |str b=>obtain ⟨t,rfl⟩:=rx;exact SeqAt.EqAt.bool_str a b t
  |_=>exact absurd (show false=true from fx) Bool.false_ne_true
 |int a=>
  obtain ⟨t',rfl⟩:=ry
  cases x with
  |bu=>cases rx;exact SeqAt.EqAt.int_none a t'
  |bl b=>cases rx;exact SeqAt.EqAt.int_bool a t' b
  |int b=>obtain ⟨t,rfl⟩:=rx;exact SeqAt.EqAt.int_int a t' b t
  |str b=>obtain ⟨t,rfl⟩:=rx;exact SeqAt.EqAt.int_str a t' b t
  |_=>exact absurd (show false=true from fx) Bool.false_ne_true
 |str a=>
  obtain ⟨t',rfl⟩:=ry
  cases x with
  |bu=>cases rx;exact SeqAt.EqAt.str_none a t'
  |bl b=>cases rx;exact SeqAt.EqAt.str_bool a t' b
  |int b=>obtain ⟨t,rfl⟩:=rx;exact SeqAt.EqAt.str_int a t' b t
  |str b=>obtain ⟨t,rfl⟩:=rx;exact SeqAt.EqAt.str_str a t' b t
  |_=>exact absurd (show false=true from fx) Bool.false_ne_true
 |_=>exact absurd (show false=true from fy) Bool.false_ne_true
def Lu (x:V)(u:Value):Bool:=match u with
 | .none=>Ls .bu x
 | .bool b=>Ls (.bl b) x
 | .int i _=>Ls (.int i) x
 | .str z _=>Ls (.str z) x
 |_=>false
theorem Al {x y:V}{u:Value}(r:RelV y u)(f:my y=true):Lu x u=Ls y x:=by
 cases y with
 |bu=>cases r;rfl
 |bl b=>cases r;rfl
 |int i=>obtain ⟨t,rfl⟩:=r;rfl
 |str z=>obtain ⟨t,rfl⟩:=r;rfl
 |_=>exact absurd (show false=true from f) Bool.false_ne_true
theorem Am {x:V}:∀ {xs:List V}{us:List Value},Vals xs us→xs.all my=true→us.any (Lu x)=xs.any fun y=>Ls y x
 |_,_,.nil,_=>rfl
 |y::xs,u::us,.cons r t,f=>by
  rw [List.all_cons,Bool.and_eq_true] at f
  rw [List.any_cons,List.any_cons,Al r f.1,Am t f.2]
theorem qR {A:Around}{s:Shared}{x:V}{v:Value}(rx:RelV x v)(fx:my x=true):∀ {xs:List V}{us:List Value},Vals xs us→xs.all my=true→∀u∈us,SeqAt.EqAt A s u v (Lu x u)
 |_,_,.nil,_=>fun u hu=>by cases hu
 |y::xs,u::us,.cons r t,f=>fun u' hu=>by
  rw [List.all_cons,Bool.and_eq_true] at f
  rcases List.mem_cons.mp hu with rfl|hu
  ·rw [Al r f.1];exact Oj r rx f.1 fx
  ·exact qR rx fx t f.2 u' hu
def LV (x:V)(xs:List V):Bool:=xs.any fun y=>Ls y x
def rIn (K:PySem.W.Frag)(neg:Bool):R2:=fun x y H Q=>∃p xs,y= .ref p∧(bT K H p xs∨bb K H p xs)∧my x=true∧xs.all my=true∧Q (.bl (if neg then !LV x xs else LV x xs)) H
theorem y6:vm X (compareOp .In) (rIn X.K false):=by
 intro pins s σ H x y v u Q I rx ry h
 obtain ⟨p,xs,rfl,hq,fx,fs,q⟩:=h
 cases ry
 rcases hq with hq|hq
 ·obtain ⟨aV,r,pl,hz⟩:=I.list hq
  refine SeqAt.in_listAt (Lu x) pl.isList (fun w hw=>qR rx fx r fs w (by simpa using hw)) ⟨.bl _,H,I,rfl,?_⟩
  rw [show aV.toArray.any (Lu x)=aV.any (Lu x) by simp,Am r fs]
  exact q
 ·obtain ⟨aV,r,pl,hz⟩:=I.tuple hq
  refine SeqAt.in_tupleAt (Lu x) pl (fun w hw=>qR rx fx r fs w (by simpa using hw)) ⟨.bl _,H,I,rfl,?_⟩
  rw [show aV.toArray.any (Lu x)=aV.any (Lu x) by simp,Am r fs]
  exact q
theorem aP:jL X (.builtin "len") (fun xs H Q=>∃p ys,xs= [.ref p] ∧(bT X.K H p ys∨bb X.K H p ys)∧Q (.int ys.length) H):=by
 intro pins s σ H xs us Q I r h
 obtain ⟨p,ys,rfl,hq,q⟩:=h
 obtain ⟨u,rfl,rx⟩:=vals1 r
 cases rx
 have hn:=wb
 rcases hq with hq|hq
 ·obtain ⟨aV,r',pl,hz⟩:=I.list hq
  have hlen:=r'.length
  exact Calls.call_len_list pl.isList (by simp only [List.size_toArray] <;>omega) ⟨.int ys.length,H,I.tok _,⟨s.toks + 1,by rw [List.size_toArray,hlen]⟩,q⟩
 ·obtain ⟨aV,r',pl,hz⟩:=I.tuple hq
  have hlen:=r'.length
  exact len_tuple pl (by simp only [List.size_toArray] <;>omega) ⟨.int ys.length,H,I.tok _,⟨s.toks + 1,by rw [List.size_toArray,hlen]⟩,q⟩
theorem An:jL X (.type "list") (fun xs H Q=>∃p ys,xs= [.ref p] ∧(bT X.K H p ys∨bb X.K H p ys)∧∀l,H l=none→Q (.ref l) (upd H l (.lst ys))):=by
 intro pins s σ H xs us Q I r h
 obtain ⟨p,ys,rfl,hq,q⟩:=h
 obtain ⟨u,rfl,rx⟩:=vals1 r
 cases rx
 have fin:∀ (aV:List Value),Vals ys aV→ys.length≤sizeLine→∀ (h':Heap)(c':Nat),(∀b o',s.heap.get? b=some o'→h'.get? b=some o')→
   h'.get? s.heap.objs.size=some {cls:= .type "list",dict:=none,data:= .seq aV.toArray c',slots:= #[] }→EP X pins σ Q (.ref s.heap.objs.size) {s with heap:=h'}:=fun aV r' hz h' c' kp e=>
  ⟨.ref s.heap.objs.size,_,I.laid (t':=s.toks) kp (Nat.le_refl _) (show df X.prog X.w _ h' _ (.lst ys) from ⟨hz,aV,c',r',e⟩),rfl,q _ (I.bF.fresh (Nat.le_refl _))⟩
 rcases hq with hq|hq
 ·obtain ⟨aV,r',pl,hz⟩:=I.list hq
  have hlen:=r'.length
  obtain ⟨o,ho,hc,n,hd⟩:=pl.isList
  exact call_list_seq p (.inl rfl) ho hc hd (fun h' c' kp e=>fin aV r' hz h' c' kp e) (by simp only [List.size_toArray] <;>omega)
 ·obtain ⟨aV,r',pl,hz⟩:=I.tuple hq
  have hlen:=r'.length
  obtain ⟨o,ho,hc,n,hd⟩:=pl
  exact call_list_seq p (.inr rfl) ho hc hd (fun h' c' kp e=>fin aV r' hz h' c' kp e) (by simp only [List.size_toArray] <;>omega)
theorem yk:jL X (.type "tuple") (fun xs H Q=>∃p ys,xs= [.ref p] ∧((bT X.K H p ys∧∀l,H l=none→Q (.ref l) (upd H l (.tup ys)))∨(bb X.K H p ys∧Q (.ref p) H))):=by
 intro pins s σ H xs us Q I r h
 obtain ⟨p,ys,rfl,h⟩:=h
 obtain ⟨u,rfl,rx⟩:=vals1 r
 cases rx
 rcases h with ⟨hq,q⟩|⟨hq,q⟩
 ·obtain ⟨aV,r',pl,hz⟩:=I.list hq
  have hlen:=r'.length
  refine call_tuple_list pl.isList (fun h' kp=> ?_) (by simp only [List.size_toArray] <;>omega)
  have I1:Inv X pins σ H {s with heap:=h'}:=I.kept (t':=s.toks) kp
  have I2:Inv X pins σ (upd H h'.objs.size (.tup ys)) {s with heap:=h'.push {cls:= .type "tuple",data:= .seq aV.toArray} }:=
   I1.laid (t':=s.toks) (fun b o e=>Heap.get?_push_of_some _ e) (Nat.le_refl _) (show df X.prog X.w _ _ _ (.tup ys) from ⟨hz,aV,r',IsTup.new _ _⟩)
  exact ⟨.ref h'.objs.size,_,I2,rfl,q _ (I1.bF.fresh (Nat.le_refl _))⟩
 ·obtain ⟨aV,r',pl,hz⟩:=I.tuple hq
  exact call_tuple_same pl ⟨.ref p,H,I,rfl,q⟩
def tyV (K:PySem.W.Frag)(T:String)(x:V)(H:Hp):Prop:=match x with
 | .str _=>T="str"
 | .int _=>T="int"
 | .ref p=>(T="list"∧∃xs,bT K H p xs)∨(T="tuple"∧∃o,K.lookup p=some o∧o.cls= .type "tuple"∧o.dict=none)∨
   (T="dict"∧((∃kvs,H p=some (.dK kvs))∨∃kvs,H p=some (.dT kvs)))∨(T="set"∧∃S n,H p=some (.set S n))
 |_=>False
theorem Ol {pins:List (Addr×Obj)}{σ:St}{H:Hp}{s:Shared}{T:String}{x:V}{v:Value}(I:Inv X pins σ H s)(r:RelV x v)(ty:tyV X.K T x H):
  s.TypeIs v T∧∀a,v= .ref a→∃ob,s.heap.get? a=some ob∧ob.dict=none:=by
 cases x with
 |str z=>
  obtain ⟨t,rfl⟩:=r
  cases (show T="str" from ty)
  exact ⟨typeIs_str s z t,fun _ e=>nomatch e⟩
 |int i=>
  obtain ⟨t,rfl⟩:=r
  cases (show T="int" from ty)
  exact ⟨typeIs_int s i t,fun _ e=>nomatch e⟩
 |ref p=>
  cases r
  rcases ty with ⟨rfl,xs,hq⟩|⟨rfl,o,hk,hc,hd⟩|⟨rfl,hk⟩|⟨rfl,S,n,hk⟩
  ·obtain ⟨aV,_,pl,_⟩:=I.list hq
   refine ⟨pl.isList.typeIs,fun a e=> ?_⟩
   cases e
   obtain ⟨o,n,e,c,hd,_⟩:=pl
   exact ⟨o,e,hd⟩
  ·refine ⟨⟨o,I.E7 p o hk,hc⟩,fun a e=> ?_⟩
   cases e
   exact ⟨o,I.E7 _ o hk,hd⟩
  ·have z:∃o,s.heap.get? p=some o∧o.ExactDict:=by
    rcases hk with ⟨kvs,hk⟩|⟨kvs,hk⟩
    ·obtain ⟨_,_,_,_,o,_,_,e,ex,_⟩:=I.bF p _ hk
     exact ⟨o,e,ex⟩
    ·obtain ⟨_,_,_,_,o,_,_,e,ex,_⟩:=I.bF p _ hk
     exact ⟨o,e,ex⟩
   obtain ⟨o,e,ex⟩:=z
   refine ⟨⟨o,e,ex.1⟩,fun a e2=> ?_⟩
   cases e2
   exact ⟨o,e,ex.2.1⟩
  ·obtain ⟨o,_,_,_,e,ex,_⟩:=I.bF p _ hk
   refine ⟨⟨o,e,ex.1⟩,fun a e2=> ?_⟩
   cases e2
   exact ⟨o,e,ex.2.1⟩
 |_=>exact False.elim ty
def tBM (K:PySem.W.Frag)(T:String)(r:V→List V→Hp→VK→Prop)(to:TE)(t:TA):TE:=fun σ H Q=>to σ H fun x H1=>tyV K T x H1∧t σ H1 fun xs H2=>r x xs H2 Q
variable {o e:Expr}{es:List Expr}{to:TE}{t:TA}{name:Str}{apos fi:Pos}{T id:String}{r:V→List V→Hp→VK→Prop}
theorem gm (pa:PlainAttrs T)(slot:Slot T name id)(hty:typeOf (.builtin id)=pure (.type "method_descriptor"))(hm:MtR X id r)(ho:PE X o to)(ha:PA X (e::es) t)
  (Ck:attributeBase o name X.env (eval o X.env)=eval o X.env:=by rfl)
  (abp:((backTo fi (starEach (e::es) X.env)).all (fun x=> !x.1) && (backToKw fi (keywordEach [] X.env)).all (fun x=>x.1.isSome)
   && decide ((e::es).length + ([] :List Keyword).length + (if ([] :List Keyword).isEmpty then 0 else 1) < 30))=true:=by rfl)
  (Cm:(apos.endLine==fi.line)=true:=by rfl)(hs:starEach (e::es) X.env=(false,eval e X.env)::starEach es X.env:=by rfl)(Om:(backTo fi (starEach es X.env)).any (·.1)=false:=by rfl):
  PE X (.Call (.Attribute o name apos) (e::es) [] fi) (tBM X.K T r to t):=by
 intro pins s σ H Q I h
 refine wpAny_Call_method_late Ck abp Cm rfl (cI (ho pins s σ H _ I h) fun v s1 ⟨x,H1,I1,r1,ty,q1⟩=> ?_)
 obtain ⟨h1,h2⟩:=Ol I1 r1 ty
 refine ⟨T,id,pa,slot,hty,h1,h2,?_⟩
 have hA:=ha fi pins s1 σ H1 _ I1 q1
 rw [hs] at hA ⊢
 refine Calls.callWith_builtin (by show (false||(backTo fi (starEach es X.env)).any (·.1))=false;rw [Om] <;>rfl) (Calls.evalArgs_plain ?_)
 exact cI hA fun us s2 ⟨vs,H2,I2,r2,q2⟩=>hm pins s2 σ H2 x vs v us Q I2 r1 r2 q2
end
end L2
namespace L2
open PySem PySem.Spec PyProof.Rows
def SH (X:Cx)(id:String)(r:V→List V→Hp→VK→Prop):Prop:=
 ∀ (pins:List (Addr×Obj))(s:Shared)(σ:St)(H:Hp)(x:V)(xs:List V)(v:Value)(us:List Value)(Q:VK),Inv X pins σ H s→RelV x v→Vals xs us→r x xs H Q→
  wpAny (model X.prog X.w) X.A (call (.builtin id) (v::us)) (EP X pins σ Q) X.xe s
theorem Vals.one:∀ {x:V}{us:List Value},Vals [x] us→∃u,us= [u] ∧RelV x u
 |_,_,.cons r .nil=>⟨_,rfl,r⟩
theorem Vals.two:∀ {x y:V}{us:List Value},Vals [x,y] us→∃u v,us= [u,v] ∧RelV x u∧RelV y v
 |_,_,_,.cons r (.cons q .nil)=>⟨_,_,rfl,r,q⟩
theorem Vals.eraseIdx:∀ {xs:List V}{us:List Value}(i:Nat),Vals xs us→Vals (xs.eraseIdx i) (us.eraseIdx i)
 |_,_,_,.nil=> .nil
 |_,_,0,.cons _ t=>t
 |_,_,i + 1,.cons r t=> .cons r (Vals.eraseIdx i t)
theorem Vals.rep {xs:List V}{us:List Value}(h:Vals xs us):∀k:Nat,Vals (List.replicate k xs).flatten (List.replicate k us).flatten
 |0=> .nil
 |k + 1=>by
  rw [List.replicate_succ,List.replicate_succ,List.flatten_cons,List.flatten_cons]
  exact Vals.append h (Vals.rep h k)
theorem y8 {α:Type}:∀ (l:List α)(i:Nat),(l.eraseIdx i).length≤l.length
 | [],_=>Nat.le_refl _
 |_::_,0=>Nat.le_succ _
 |_::r,i + 1=>Nat.succ_le_succ (y8 r i)
theorem foldl_rep (aV:List Value):∀ (k:Nat)(acc:List Value),
  List.foldl (fun x1 x2=>x1 ++ x2) acc.toArray (List.replicate k aV.toArray)=(acc ++ (List.replicate k aV).flatten).toArray
 |0,acc=>by simp
 |k + 1,acc=>by
  have e:acc.toArray ++ aV.toArray=(acc ++ aV).toArray:=by simp
  have e2:(acc ++ aV) ++ (List.replicate k aV).flatten=acc ++ (List.replicate (k + 1) aV).flatten:=by
   rw [List.replicate_succ,List.flatten_cons,List.append_assoc]
  rw [←e2,←foldl_rep aV k (acc ++ aV),←e,List.replicate_succ,List.foldl_cons]
section
variable {X:Cx}{pins:List (Addr×Obj)}{σ:St}{H:Hp}{s:Shared}{l b:Addr}{xs ys zs:List V}
theorem Inv.Jb {aV its':List Value}{n:Nat}{f:Array Value→Array Value}{t':Nat}(I:Inv X pins σ H s)(hH:H l=some (.lst xs))
  (e:s.heap.get? l=some {cls:= .type "list",data:= .seq aV.toArray n})(hf:f aV.toArray=its'.toArray)(hv:Vals ys its')(hz:ys.length≤sizeLine):
  Inv X pins σ (upd H l (.lst ys)) {s with heap:=s.heap.update l (Obj.mapSeq f),toks:=t'}:=by
 have q:=PySem.IsL.update e f
 rw [hf] at q
 refine I.write (x:=l) (e:=l) (by rw [hH];exact trivial) (.inl rfl) (fun b' u hb hu=>(Heap.get?_update_other s.heap (Obj.mapSeq f) (Ne.symm hb)).trans hu) ⟨_,q⟩ ?_
 exact ⟨hz,its',_,hv,q⟩
theorem Inv.SI {aV:List Value}{t':Nat}(I:Inv X pins σ H s)(hv:Vals ys aV)(hz:ys.length≤sizeLine):
  Inv X pins σ (upd H s.heap.objs.size (.lst ys)) {s with heap:=s.heap.push {cls:= .type "list",data:= .seq aV.toArray},toks:=t'}:=
 I.laid (fun _ _ q=>Heap.get?_push_of_some _ q) (Nat.le_refl _) ⟨hz,aV,0,hv,Heap.get?_push_size _ rfl⟩
theorem Inv.fresh (I:Inv X pins σ H s):H s.heap.objs.size=none:=I.bF.fresh (Nat.le_refl _)
theorem Inv.Ao (I:Inv X pins σ H s)(hH:H l=some (.lst xs)):xs.length≤sizeLine∧∃ (aV:List Value)(n:Nat),Vals xs aV∧xs.length=aV.length∧s.heap.get? l=some {cls:= .type "list",data:= .seq aV.toArray n}:=by
 obtain ⟨z,aV,n,r,e⟩:=I.bF l _ hH
 exact ⟨z,aV,n,r,r.length,e⟩
theorem wo {n:Nat}(h:n≤sizeLine):Builtin.List.listTooLong n=false:=by
 unfold Builtin.List.listTooLong
 exact decide_eq_false (by omega)
end
section
variable {X:Cx}
def LW:V→List V→Hp→VK→Prop:=fun x vs H Q=>∃l xs y,x= .ref l∧vs= [y] ∧H l=some (.lst xs)∧xs.length < sizeLine∧Q .bu (upd H l (.lst (xs ++ [y])))
theorem kL:SH X "list.append" LW:=by
 intro pins s σ H x vs v us Q I rx rv h
 obtain ⟨l,xs,y,rfl,rfl,hH,hz,q⟩:=h
 cases rx
 obtain ⟨u,rfl,ru⟩:=rv.one
 obtain ⟨z,aV,n,r,hl,e⟩:=I.Ao hH
 refine call_meets F.slot_list_append ⟨_,e,rfl⟩ F.entry_list_append (F.args_list_append_2 _ _) (PySem.list_append l aV.toArray n u (by rw [List.size_toArray];omega)) ⟨e,?_⟩
 refine ⟨.bu,_,I.Jb (its':=aV ++ [u]) hH e (by simp) (r.append (.cons ru .nil)) ?_,rfl,q⟩
 rw [List.length_append,List.length_singleton]
 omega
def LX:V→List V→Hp→VK→Prop:=fun x vs H Q=>∃l b xs zs,x= .ref l∧vs= [.ref b] ∧H l=some (.lst xs)∧H b=some (.lst zs)∧xs.length + zs.length≤sizeLine∧Q .bu (upd H l (.lst (xs ++ zs)))
theorem kM:SH X "list.extend" LX:=by
 intro pins s σ H x vs v us Q I rx rv h
 obtain ⟨l,b,xs,zs,rfl,rfl,hH,hB,hz,q⟩:=h
 cases rx
 obtain ⟨u,rfl,ru⟩:=rv.one
 cases ru
 obtain ⟨z,aV,n,r,hl,e⟩:=I.Ao hH
 obtain ⟨z2,vn,n2,r2,Rg,e2⟩:=I.Ao hB
 have hsz:aV.toArray.size + vn.toArray.size≤sizeLine:=by rw [List.size_toArray,List.size_toArray];omega
 have Cn:¬ (!aV.toArray.isEmpty && Builtin.List.listTooLong (aV.toArray.size + vn.toArray.size))=true:=by
  rw [wo hsz,Bool.and_false]
  exact Bool.false_ne_true
 refine call_meets F.slot_list_extend ⟨_,e,rfl⟩ F.entry_list_extend (F.args_list_extend_2 _ _)
  (AutoSeq1.list_extend_list_list_0 l aV.toArray n b vn.toArray n2 Cn (by rw [List.size_toArray];omega) (by omega)) ⟨e,e2,?_⟩
 refine ⟨.bu,_,I.Jb (its':=aV ++ vn) hH e (by simp) (r.append r2) ?_,rfl,q⟩
 rw [List.length_append]
 omega
def Oo:V→List V→Hp→VK→Prop:=fun x vs H Q=>∃l xs i k y,x= .ref l∧vs= [.int i] ∧H l=some (.lst xs)∧ -(2 ^ 63)≤i∧i < 2 ^ 63∧seqIndex? i xs.length=some k∧xs[k]?=some y∧Q y (upd H l (.lst (xs.eraseIdx k)))
theorem Co:SH X "list.pop" Oo:=by
 intro pins s σ H x vs v us Q I rx rv h
 obtain ⟨l,xs,i,k,y,rfl,rfl,hH,h1,h2,hk,hy,q⟩:=h
 cases rx
 obtain ⟨u,rfl,ru⟩:=rv.one
 obtain ⟨t,rfl⟩:=ru
 obtain ⟨z,aV,n,r,hl,e⟩:=I.Ao hH
 obtain ⟨w,hw,Ai⟩:=r.get hy
 refine call_meets F.slot_list_pop ⟨_,e,rfl⟩ F.entry_list_pop (F.args_list_pop_2 _ _)
  (MeetsSeq.list_pop_at l aV.toArray n i t k w (fitsIndex_both h1 h2) (by rw [List.size_toArray,←hl];exact hk) (by rw [←Array.getElem?_toList];exact hw) (by rw [List.size_toArray];omega)) ⟨e,?_⟩
 refine ⟨y,_,I.Jb (its':=aV.eraseIdx k) hH e ?_ (r.eraseIdx k) ?_,Ai,q⟩
 ·show aV.toArray.eraseIdxIfInBounds k=(aV.eraseIdx k).toArray
  rw [List.eraseIdxIfInBounds_toArray]
 ·have:=y8 xs k
  omega
def abq:R2:=fun x y H Q=>∃l b xs zs,x= .ref l∧y= .ref b∧H l=some (.lst xs)∧H b=some (.lst zs)∧xs.length + zs.length≤sizeLine∧∀p,H p=none→Q (.ref p) (upd H p (.lst (xs ++ zs)))
theorem Ap:vm X (binaryOp .Add) abq:=by
 intro pins s σ H x y v u Q I rx ry h
 obtain ⟨l,b,xs,zs,rfl,rfl,hH,hB,hz,q⟩:=h
 cases rx
 cases ry
 obtain ⟨z,aV,n,r,hl,e⟩:=I.Ao hH
 obtain ⟨z2,vn,n2,r2,Rg,e2⟩:=I.Ao hB
 refine PySem.P.add_list e e2 ?_ (by rw [List.size_toArray,List.size_toArray];omega)
 have ea:aV.toArray ++ vn.toArray=(aV ++ vn).toArray:=by simp
 rw [ea]
 exact ⟨.ref _,_,I.SI (t':=s.toks) (r.append r2) (by rw [List.length_append];omega),rfl,q _ I.fresh⟩
def abr:R2:=fun x y H Q=>∃l k xs,x= .ref l∧y= .int k∧H l=some (.lst xs)∧ -(2 ^ 63)≤k∧k < 2 ^ 63∧xs.length * k.toNat≤sizeLine∧
 ∀p,H p=none→Q (.ref p) (upd H p (.lst (List.replicate k.toNat xs).flatten))
theorem len_rep {α:Type}(xs:List α)(k:Nat):(List.replicate k xs).flatten.length=k * xs.length:=by
 induction k with
 |zero=>simp
 |succ k ih=>rw [List.replicate_succ,List.flatten_cons,List.length_append,ih,Nat.succ_mul,Nat.add_comm]
theorem Oq:vm X (binaryOp .Mult) abr:=by
 intro pins s σ H x y v u Q I rx ry h
 obtain ⟨l,k,xs,rfl,rfl,hH,h1,h2,hz,q⟩:=h
 cases rx
 obtain ⟨t,rfl⟩:=ry
 obtain ⟨z,aV,n,r,hl,e⟩:=I.Ao hH
 have hlen:aV.toArray.size * k.toNat≤sizeLine:=by rw [List.size_toArray,←hl];exact hz
 have LY:¬aV.toArray.size * k.toNat >(2 ^ 63 - 1) / 8:=by
  have:(sizeLine:Nat)≤(2 ^ 63 - 1) / 8:=by decide
  omega
 have abt:¬ (!Builtin.List.listFitsIndex k)=true:=by
  rw [fitsIndex_both h1 h2]
  exact Bool.false_ne_true
 have Cn:¬Builtin.List.listTooLong (aV.toArray.size * k.toNat)=true:=by
  rw [wo hlen]
  exact Bool.false_ne_true
 have abu:List.foldl (fun x1 x2=>x1 ++ x2) #[] (List.replicate (if aV.toArray.isEmpty=true then 0 else k.toNat) aV.toArray)=(List.replicate k.toNat aV).flatten.toArray:=by
  have f0:∀m:Nat,List.foldl (fun x1 x2=>x1 ++ x2) #[] (List.replicate m aV.toArray)=(List.replicate m aV).flatten.toArray:=fun m=>by
   have:=foldl_rep aV m []
   rw [List.nil_append] at this
   exact this
  rw [f0]
  cases aV with
  |nil=>simp
  |cons a r'=>rw [if_neg (by simp)]
 refine wpAny_binaryOp_repeat_ref (T:="list") (U:="int") (by decide) ⟨_,e,rfl⟩ (fun s'=>typeIs_int s' k t) noFill_list_mul F.fills_int_mul F.slot_int_rmul repeat_list F.slot_int_index.lookup
  (call_meets F.slot_int_rmul (typeIs_int s k t) F.entry_int_rmul (F.args_int_rmul_2 _ _) (int___rmul___int_list k t l aV.toArray n)
   ⟨e,rfl,⟨_,e,rfl⟩,call_meets F.slot_list_mul ⟨_,e,rfl⟩ F.entry_list_mul (F.args_list_mul_2 _ _) (AutoListH.list___mul___list_int_3 l aV.toArray n k t abt LY Cn) ⟨e,?_⟩⟩)
 rw [abu]
 exact ⟨.ref _,_,I.SI (t':=s.toks) (r.rep k.toNat) (by rw [len_rep,Nat.mul_comm];exact hz),rfl,q _ I.fresh⟩
end
section
variable {prog:Program}{w:World}{A:Around}{E:Value→Shared→Prop}{s:Shared}
set_option maxRecDepth 100000 in
end
section
variable {X:Cx}
end
end L2
namespace L2
open PySem PySem.Spec PyProof.Rows
theorem Vals.ints:∀ {ns:List Int}{us:List Value},Vals (ns.map V.int) us→IntsAre us ns
 | [],us,h=>by
  rw [List.map_nil] at h
  cases h
  exact IntsAre.nil
 |n::ns,us,h=>by
  rw [List.map_cons] at h
  cases h with
  |cons r t=>
   obtain ⟨k,rfl⟩:=r
   exact IntsAre.cons n k (Vals.ints t)
theorem qS:∀ {us:List Value}{ns:List Int},IntsAre us ns→Vals (ns.map V.int) us
 |_,_,.nil=>by rw [List.map_nil];exact Paired.nil
 |_,_,.cons n t h=>by rw [List.map_cons];exact Paired.cons (show RelV (V.int n) (Value.int n t) from ⟨t,rfl⟩) (qS h)
theorem Vals.bls:∀ {bs:List Bool}{us:List Value},Vals (bs.map V.bl) us→us=bs.map Value.bool
 | [],us,h=>by
  rw [List.map_nil] at h
  cases h
  rfl
 |b::bs,us,h=>by
  rw [List.map_cons] at h
  cases h with
  |cons r t=>
   cases r
   rw [Vals.bls t,List.map_cons]
theorem Vals.D3 {a:Addr}{us:List Value}(r:Vals [V.ref a] us):us= [Value.ref a] :=by
 cases r with
 |cons r t=>
  cases t
  cases r
  rfl
section
variable {prog:Program}{w:World}{A:Around}{E:Value→Shared→Prop}{s:Shared}{l:Addr}{aV:List Value}{ns:List Int}{Q:Value→Shared→Prop}
theorem LZ (hh:A.handled=none)(hl:s.heap.IsList l aV.toArray)(hi:IntsAre aV ns)(pz:0 < ns.length)
  (h:∀h' tk M t',(∀b o,s.heap.get? b=some o→h'.get? b=some o)→M∈ns→(∀a,a∈ns→M≤a)→Q (.int M t') {s with heap:=h',toks:=tk}):wpAny (model prog w) A (call (.builtin "min") [.ref l]) Q E s:=by
 obtain ⟨xs,e⟩:=hi.allInts.items
 have hn:numsOf (intItems xs).toList=ns:=by rw [←e];exact hi.numsOf
 rw [nums_intItems] at hn
 subst hn
 rw [e] at hl
 have hsz:0 < xs.size:=by simpa using pz
 refine PySem.min_intList hh hl hsz fun v h' tk hv hk=> ?_
 obtain ⟨t,rfl⟩:=intItems_at hv
 obtain ⟨h1,h2⟩:=argBest_lt (numAt xs) (xs.size - 1)
 refine h h' tk _ t hk ?_ fun a ha=> ?_
 ·rw [numAt_eq];exact PySem.getD_mem (by rw [List.length_map,Array.length_toList];omega)
 ·obtain ⟨j,hj,rfl⟩:=mem_getD ha
  rw [List.length_map,Array.length_toList] at hj
  rw [←numAt_eq];exact h2 j (by omega)
end
section
variable {X:Cx}
def abw (K:PySem.W.Frag):List V→Hp→VK→Prop:=fun vs H Q=>∃ (a:Addr)(ns:List Int),vs= [V.ref a] ∧bT K H a (ns.map V.int)∧0 < ns.length∧∀m,m∈ns→(∀y,y∈ns→m≤y)→Q (.int m) H
theorem Ot (hc:X.calm=true):jL X (.builtin "min") (abw X.K):=by
 intro pins s σ H vs us Q I r h
 obtain ⟨a,ns,rfl,hs,pz,q⟩:=h
 obtain ⟨aV,rv,hl,_⟩:=I.list hs
 rw [Vals.D3 r]
 exact LZ (I.ok.hd hc) hl.isList rv.ints pz fun h' tk m t' hk h1 h2=>⟨.int _,H,I.kept hk,⟨_,rfl⟩,q m h1 h2⟩
end
section
variable {X:Cx}
def Ou (K:PySem.W.Frag):V→List V→Hp→VK→Prop:=fun x xs H Q=>∃ (a:Addr)(ys:List V)(y:V)(j:Nat)(z:V),x=V.ref a∧xs= [y] ∧bT K H a ys∧my y=true∧ys.all my=true∧ys[j]?=some z∧Ls z y=true∧
 (∀ (m:Nat)(z':V),m < j→ys[m]?=some z'→Ls z' y=false)∧Q (.int (j:Nat)) H
theorem Fo {ys:List V}(f:ys.all my=true){j:Nat}{z:V}(h:ys[j]?=some z):my z=true:=List.all_eq_true.mp f z (List.mem_of_getElem? h)
theorem Jc:MtR X "list.index" (Ou X.K):=by
 intro pins s σ H x xs v us Q I rx rxs h
 obtain ⟨a,ys,y,j,z,rfl,rfl,hs,fy,fys,hz,hzj,Nm,q⟩:=h
 cases rx
 cases rxs with
 |cons ry rt=>
  rename_i uy ut
  cases rt
  obtain ⟨aV,rv,⟨⟨cls,dd,data,sl⟩,n,ho,hc,hdn,hd⟩,hlen⟩:=I.list hs
  simp only at hc hd
  subst hc hd
  obtain ⟨u,hu,ru⟩:=rv.get hz
  obtain ⟨hjl,hje⟩:=List.getElem?_eq_some_iff.mp hu
  have hvl:=rv.length
  have hj:j < aV.toArray.size:=by simpa using hjl
  have hsl:=sizeLine_eq
  refine call_meets PySem.F.slot_list_index ⟨_,ho,rfl⟩ PySem.F.entry_list_index (PySem.F.args_list_index_2 _ _)
   (SeqAt.list_indexAt a aV.toArray n dd sl uy (Lu y) j hj (by omega) ?_ ?_) ⟨ho,fun u' hu'=>qR ry fy rv fys u' (by simpa using hu'),?_⟩
  ·have e1:aV.toArray[j] =u:=by simpa using hje
   rw [e1,Al ru (Fo fys hz)]
   exact hzj
  ·intro m hm hmj
   have y9:m < aV.length:=by simpa using hm
   have hmy:m < ys.length:=by omega
   have hy':ys[m]?=some ys[m] :=List.getElem?_eq_getElem hmy
   obtain ⟨u2,hu2,ru2⟩:=rv.get hy'
   obtain ⟨_,hme⟩:=List.getElem?_eq_some_iff.mp hu2
   have e1:aV.toArray[m] =u2:=by simpa using hme
   rw [e1,Al ru2 (Fo fys hy')]
   exact Nm m _ hmj hy'
  ·exact ⟨.int (j:Nat),H,I.tok _,⟨_,rfl⟩,q⟩
end
section
variable {X:Cx}
end
theorem Cp {prog:Program}{w:World}{A:Around}{E:Value→Shared→Prop}{s:Shared}{l:Addr}{items:Array Value}{Q:Value→Shared→Prop}(hl:s.heap.IsList l items)
  (h:∀s₂:Shared,s₂={s with heap:=s.heap.push {cls:= .type "list_iterator",data:= .fields #[.ref l,.int 0 0] } }→
   (s₂.heap.IsListIter s.heap.objs.size l 0∧s₂.heap.IsList l items)→l≠s.heap.objs.size→Q (.ref s.heap.objs.size) s₂):wpAny (model prog w) A (pyIter (.ref l)) Q E s:=by
 have dy:l < s.heap.objs.size:=by obtain ⟨_,e,_⟩:=hl;exact Heap.lt_size e
 exact wpAny_pyIter_list hl (h _ rfl ⟨⟨_,Heap.get?_push_size _ rfl,rfl,rfl⟩,hl.push _⟩ (Nat.ne_of_lt dy))
theorem uA {prog:Program}{w:World}{A:Around}{bs:List Bool}{aV:List Value}(e:aV=bs.map Value.bool):
  TruthOf prog w A (fun i v=>aV.toArray[i]?=some v) (fun i=>bs.getD i false):=fun i v s Q E hv hq=>by
 have hv':aV[i]?=some v:=by simpa using hv
 rw [e,List.getElem?_map] at hv'
 obtain ⟨b,hb,rfl⟩:=Option.map_eq_some_iff.mp hv'
 have hg:bs.getD i false=b:=by rw [List.getD_eq_getElem?_getD,hb] <;>rfl
 have Nk:Q (bs.getD i false) s:=hq
 rw [hg] at Nk
 exact wpAny_truthy_bool Nk
theorem any_range:∀bs:List Bool,(List.range bs.length).any (fun i=>bs.getD i false)=bs.any id
 | [] =>rfl
 |b::bs=>by
  rw [List.length_cons,List.range_succ_eq_map,List.any_cons,List.any_map,List.any_cons,←any_range bs]
  all_goals rfl
theorem all_range:∀bs:List Bool,(List.range bs.length).all (fun i=>bs.getD i false)=bs.all id
 | [] =>rfl
 |b::bs=>by
  rw [List.length_cons,List.range_succ_eq_map,List.all_cons,List.all_map,List.all_cons,←all_range bs]
  all_goals rfl
section
variable {X:Cx}
def abB (K:PySem.W.Frag):List V→Hp→VK→Prop:=fun vs H Q=>∃ (a:Addr)(bs:List Bool),vs= [V.ref a] ∧bT K H a (bs.map V.bl)∧Q (.bl (bs.any id)) H
def abC (K:PySem.W.Frag):List V→Hp→VK→Prop:=fun vs H Q=>∃ (a:Addr)(bs:List Bool),vs= [V.ref a] ∧bT K H a (bs.map V.bl)∧Q (.bl (bs.all id)) H
theorem Ov (hc:X.calm=true):jL X (.builtin "any") (abB X.K):=by
 intro pins s σ H vs us Q I r h
 obtain ⟨a,bs,rfl,hs,q⟩:=h
 obtain ⟨aV,rv,hl,_⟩:=I.list hs
 rw [Vals.D3 r]
 have hb:=rv.bls
 refine call_any_walk (Cp hl.isList fun s₂ e2 st pz=> ?_)
 subst e2
 refine ⟨_,_,_,_,_,_,_,rfl,Walks.list (A:=X.A.in1) (I.ok.hd hc) _ a pz aV.toArray,st,uA hb,fun h' tk hk=> ?_⟩
 refine ⟨.bl _,H,I.kept fun b o eo=>hk b o (fun Aq=> ?_) (Heap.get?_push_of_some _ eo),?_,q⟩
 ·rcases List.mem_cons.mp Aq with e1|Aq
  ·exact absurd (e1 ▸ Heap.lt_size eo) (Nat.lt_irrefl _)
  ·cases Aq
 ·show Value.bool _=Value.bool _
  rw [←any_range,hb,List.size_toArray,List.length_map]
theorem Ow (hc:X.calm=true):jL X (.builtin "all") (abC X.K):=by
 intro pins s σ H vs us Q I r h
 obtain ⟨a,bs,rfl,hs,q⟩:=h
 obtain ⟨aV,rv,hl,_⟩:=I.list hs
 rw [Vals.D3 r]
 have hb:=rv.bls
 refine call_all_walk (Cp hl.isList fun s₂ e2 st pz=> ?_)
 subst e2
 refine ⟨_,_,_,_,_,_,_,rfl,Walks.list (A:=X.A.in1) (I.ok.hd hc) _ a pz aV.toArray,st,uA hb,fun h' tk hk=> ?_⟩
 refine ⟨.bl _,H,I.kept fun b o eo=>hk b o (fun Aq=> ?_) (Heap.get?_push_of_some _ eo),?_,q⟩
 ·rcases List.mem_cons.mp Aq with e1|Aq
  ·exact absurd (e1 ▸ Heap.lt_size eo) (Nat.lt_irrefl _)
  ·cases Aq
 ·show Value.bool _=Value.bool _
  rw [←all_range,hb,List.size_toArray,List.length_map]
end
mutual
inductive Dp (K:PySem.W.Frag) (H:Hp):V→PyData→Prop
 |bu:Dp K H .bu .none
 |bl (b:Bool):Dp K H (.bl b) (.bool b)
 |int (i:Int):Dp K H (.int i) (.int i)
 |str (x:Str):Dp K H (.str x) (.str x)
 |lst {a:Addr} {xs:List V} {ds:List PyData}:bT K H a xs→za K H xs ds→Dp K H (.ref a) (.list ds)
 |tup {a:Addr} {xs:List V} {ds:List PyData}:bb K H a xs→za K H xs ds→Dp K H (.ref a) (.tuple ds)
inductive za (K:PySem.W.Frag) (H:Hp):List V→List PyData→Prop
 |nil:za K H [] []
 |cons {v:V} {vs:List V} {d:PyData} {ds:List PyData}:Dp K H v d→za K H vs ds→za K H (v::vs) (d::ds)
end
section
variable {X:Cx}{pins:List (Addr×Obj)}{σ:St}{H:Hp}{s:Shared}
mutual
theorem Dp.reads (I:Inv X pins σ H s):∀ (d:PyData)(v:V)(u:Value),Dp X.K H v d→RelV v u→∃as,Reads s.heap u d as
 | .none,_,_,h,r=>by
  cases h
  cases r
  exact ⟨_,Reads.none⟩
 | .bool b,_,_,h,r=>by
  cases h
  cases r
  exact ⟨_,Reads.bool b⟩
 | .int i,_,_,h,r=>by
  cases h
  obtain ⟨t,rfl⟩:=r
  exact ⟨_,Reads.int i t⟩
 | .str x,_,_,h,r=>by
  cases h
  obtain ⟨t,rfl⟩:=r
  exact ⟨_,Reads.str x t⟩
 | .list ds,_,_,h,r=>by
  cases h with
  |lst hs ha=>
   cases r
   obtain ⟨aV,rv,⟨o,n,ho,hc,_,hd⟩,_⟩:=I.list hs
   obtain ⟨as,hr⟩:=Dp.readsAll I ds _ aV ha rv
   exact ⟨_,Reads.list ho hc hd hr⟩
 | .tuple ds,_,_,h,r=>by
  cases h with
  |tup hs ha=>
   cases r
   obtain ⟨aV,rv,⟨o,ho,hc,n,hd⟩,_⟩:=I.tuple hs
   obtain ⟨as,hr⟩:=Dp.readsAll I ds _ aV ha rv
   exact ⟨_,Reads.tuple ho hc hd hr⟩
 | .dict _,_,_,h,_=>by cases h
theorem Dp.readsAll (I:Inv X pins σ H s):∀ (ds:List PyData)(vs:List V)(us:List Value),za X.K H vs ds→Vals vs us→∃as,ReadsAll s.heap us ds as
 | [],_,_,h,r=>by
  cases h
  cases r
  exact ⟨_,ReadsAll.nil⟩
 |d::ds,_,_,h,r=>by
  cases h with
  |cons h1 h2=>
   cases r with
   |cons r1 r2=>
    obtain ⟨as,q1⟩:=Dp.reads I d _ _ h1 r1
    obtain ⟨bs,q2⟩:=Dp.readsAll I ds _ _ h2 r2
    exact ⟨_,ReadsAll.cons q1 q2⟩
end
end
section
variable {X:Cx}
def SJ (K:PySem.W.Frag):R2:=fun x y H Q=>∃d e,Dp K H x d∧Dp K H y e∧SeqAt.shaped d=true∧SeqAt.shaped e=true∧Q (.bl (PyData.eqv d e)) H
theorem Jd (hu:X.A.units + 64 < cLine):vm X (compareOp .Eq) (SJ X.K):=by
 intro pins s σ H x y v u Q I rx ry h
 obtain ⟨d,e,hd,he,sd,se,q⟩:=h
 obtain ⟨as,r1⟩:=Dp.reads I d x v hd rx
 obtain ⟨bs,r2⟩:=Dp.reads I e y u he ry
 exact SeqAt.compareEq_shaped r1 r2 sd se hu ⟨.bl _,H,I,rfl,q⟩
end
end L2
namespace L2
open PySem PySem.Spec PyProof.Rows
abbrev Je (h:Heap)(c:Addr)(v:Option Value):Prop:=h.IsCell c v
def abD (scope sc:Scope):Scope:=
 {scope with names:=scope.names.map fun (n,k)=>if (k== .free && sc.kind== .function && sc.names.lookup n==some .cell) then (n,.cell) else (n,k)}
def cn (cells:List (Str×Addr)):List (Str×NameKind)→List (Str×Addr)→List (Str×Addr)
 | [],acc=>acc
 |(n,k)::r,acc=>if k== .free then cn cells r ((n,(cells.lookup n).getD 0)::acc) else cn cells r acc
theorem qT (env:Env)(f:Str×NameKind→List (Str×Addr)→Sem (ForInStep (List (Str×Addr))))
  (hf:∀n k c,f (n,k) c=if k== .free then (do let a←cellOf env n;pure (.yield ((n,a)::c))) else pure (.yield c)):
  ∀ (names:List (Str×NameKind))(acc:List (Str×Addr)),(∀y∈names,y.2= .free→∃c,env.cells.lookup y.1=some c)→forIn names acc f=pure (cn env.cells names acc)
 | [],acc,_=>by rw [List.forIn_nil];rfl
 |(n,k)::r,acc,h=>by
  rw [List.forIn_cons,hf]
  have ih:=fun acc=>qT env f hf r acc fun y hy=>h y (List.mem_cons_of_mem _ hy)
  unfold cn
  by_cases hk:(k==NameKind.free)=true
  ·rw [if_pos hk,if_pos hk]
   obtain ⟨c,hc⟩:=h (n,k) List.mem_cons_self (by simpa using hk)
   have e:cellOf env n=pure c:=by unfold cellOf;rw [hc]
   rw [e]
   have e2:(env.cells.lookup n).getD 0=c:=by rw [hc];rfl
   rw [e2]
   exact ih _
  ·rw [if_neg hk,if_neg hk]
   exact ih _
theorem D4 {scope:Scope}{env:Env}(h:∀y∈scope.names,y.2= .free→∃c,env.cells.lookup y.1=some c):closureFor scope env=pure (cn env.cells scope.names []):=by
 simp only [closureFor]
 rw [qT env _ (fun n k c=>rfl) scope.names [] h]
 rfl
theorem mem_lookup {α:Type}:∀ {l:List (Str×α)}{n:Str}{c:α},(n,c)∈l→∃c',l.lookup n=some c'
 |(k,v)::r,n,c,h=>by
  rw [List.lookup_cons]
  cases hb:n==k with
  |true=>exact ⟨_,rfl⟩
  |false=>
   rcases List.mem_cons.mp h with e|h
   ·cases e;simp at hb
   ·exact mem_lookup h
theorem jN {cells:List (Str×Addr)}:∀ {names:List (Str×NameKind)}{acc:List (Str×Addr)}{n:Str}{c:Addr},(n,c)∈cn cells names acc→(n,c)∈acc∨((n,.free)∈names∧c=(cells.lookup n).getD 0)
 | [],_,_,_,h=> .inl h
 |(m,k)::r,acc,n,c,h=>by
  unfold cn at h
  split at h
  ·rename_i hk
   have hk:k= .free:=by simpa using hk
   rcases jN h with h|⟨h1,h2⟩
   ·rcases List.mem_cons.mp h with e|h
    ·cases e;exact .inr ⟨hk ▸ List.mem_cons_self,rfl⟩
    ·exact .inl h
   ·exact .inr ⟨List.mem_cons_of_mem _ h1,h2⟩
  ·rcases jN h with h|⟨h1,h2⟩
   ·exact .inl h
   ·exact .inr ⟨List.mem_cons_of_mem _ h1,h2⟩
theorem mQ {cells:List (Str×Addr)}:∀ {names:List (Str×NameKind)}{acc:List (Str×Addr)}{p:Str×Addr},p∈acc→p∈cn cells names acc
 | [],_,_,h=>h
 |(m,k)::r,acc,p,h=>by
  unfold cn
  split
  ·exact mQ (List.mem_cons_of_mem _ h)
  ·exact mQ h
theorem mR {cells:List (Str×Addr)}:∀ {names:List (Str×NameKind)}{acc:List (Str×Addr)}{n:Str},(n,.free)∈names→(n,(cells.lookup n).getD 0)∈cn cells names acc
 |(m,k)::r,acc,n,h=>by
  unfold cn
  rcases List.mem_cons.mp h with e|h
  ·cases e
   exact mQ List.mem_cons_self
  ·split
   ·exact mR h
   ·exact mR h
theorem kN:∀ {names:List (Str×NameKind)}{h:Heap}{acc:List (Str×Addr)}{x:Str}{c:Addr},(x,c)∈cellsFrom h.objs.size names acc→
  (x,c)∈acc∨((x,.cell)∈names∧h.objs.size≤c∧Je (pushCells h names) c none)
 | [],_,_,_,_,h=> .inl h
 |(n,k)::r,h,acc,x,c,hm=>by
  unfold cellsFrom at hm
  unfold pushCells
  split at hm
  ·rename_i hk
   rw [if_pos hk]
   have hk:k= .cell:=by simpa using hk
   rw [←Heap.size_push h {cls:= .type "cell",data:= .cell none}] at hm
   rcases kN hm with hm|⟨h1,h2,h3⟩
   ·rcases List.mem_cons.mp hm with e|hm
    ·cases e
     exact .inr ⟨hk ▸ List.mem_cons_self,Nat.le_refl _,_,pushCells_keeps r _ _ _ (Heap.get?_push_size _ rfl),rfl⟩
    ·exact .inl hm
   ·rw [Heap.size_push] at h2
    exact .inr ⟨List.mem_cons_of_mem _ h1,Nat.le_of_succ_le h2,h3⟩
  ·rename_i hk
   rw [if_neg hk]
   rcases kN hm with hm|⟨h1,h2,h3⟩
   ·exact .inl hm
   ·exact .inr ⟨List.mem_cons_of_mem _ h1,h2,h3⟩
theorem oB:∀ {names:List (Str×NameKind)}{n:Nat}{acc:List (Str×Addr)}{p:Str×Addr},p∈acc→p∈cellsFrom n names acc
 | [],_,_,_,h=>h
 |(m,k)::r,n,acc,p,h=>by
  unfold cellsFrom
  split
  ·exact oB (List.mem_cons_of_mem _ h)
  ·exact oB h
theorem tD:∀ {names:List (Str×NameKind)}{n:Nat}{acc:List (Str×Addr)}{x:Str},(x,.cell)∈names→∃c,(x,c)∈cellsFrom n names acc
 |(m,k)::r,n,acc,x,h=>by
  unfold cellsFrom
  rcases List.mem_cons.mp h with e|h
  ·cases e
   exact ⟨n,oB List.mem_cons_self⟩
  ·split
   ·exact tD h
   ·exact tD h
theorem tE:∀ {names:List (Str×NameKind)}{h:Heap}{acc:List (Str×Addr)}{x y:Str}{c:Addr},(∀p∈acc,p.2 < h.objs.size)→(∀x y c,(x,c)∈acc→(y,c)∈acc→x=y)→
  (x,c)∈cellsFrom h.objs.size names acc→(y,c)∈cellsFrom h.objs.size names acc→x=y
 | [],_,_,_,_,_,_,hi,h1,h2=>hi _ _ _ h1 h2
 |(n,k)::r,h,acc,x,y,c,hl,hi,h1,h2=>by
  unfold cellsFrom at h1 h2
  split at h1
  ·rename_i hk
   rw [if_pos hk] at h2
   rw [←Heap.size_push h {cls:= .type "cell",data:= .cell none}] at h1 h2
   refine tE (h:=h.push _) (fun p hp=> ?_) (fun x y c a b=> ?_) h1 h2
   ·rw [Heap.size_push]
    rcases List.mem_cons.mp hp with rfl|hp
    ·exact Nat.lt_succ_self _
    ·exact Nat.lt_succ_of_lt (hl p hp)
   ·rcases List.mem_cons.mp a with e|a <;>rcases List.mem_cons.mp b with e'|b
    ·cases e;cases e';rfl
    ·cases e;exact absurd (hl _ b) (Nat.lt_irrefl _)
    ·cases e';exact absurd (hl _ a) (Nat.lt_irrefl _)
    ·exact hi _ _ _ a b
  ·rename_i hk
   rw [if_neg hk] at h2
   exact tE hl hi h1 h2
theorem Cq {M:Model}{A:Around}{E:Value→Shared→Prop}{s:Shared}{scope:Scope}{globals:Addr}{closure:List (Str×Addr)}{qual:Str}{func:Option Addr}{code:Value}{around:Env}{builtins:Addr}{Q:Env→Shared→Prop}
  (h:Q (newEnv scope s.heap.objs.size globals (cellsFrom (s.heap.objs.size + 1) scope.names closure) qual func code (some around) builtins)
   {s with heap:=pushCells (s.heap.push {cls:= .type "dict",data:= .dict #[] }) scope.names}):
  wpAny M A (newFunctionEnv scope globals closure [] qual func code (some around) builtins) Q E s:=by
 simp only [newFunctionEnv,Option.isSome_some,if_true]
 refine wpAny_bind (wpAny_alloc ?_)
 refine wpAny_bind (wpAny_layCells _ (fun n k c=>rfl) scope.names closure _ _ ?_)
 rw [show ({s with heap:=s.heap.push {cls:= .type "dict",data:= .dict #[] } }:Shared).heap.objs.size=s.heap.objs.size + 1 from Heap.size_push ..]
 rw [List.forIn_nil]
 exact wpAny_bind (wpAny_pure (wpAny_pure h))
theorem mS {sc:Scope}:∀ {names:List (Str×NameKind)}{x:Str}{k:NameKind},
  (names.map fun (n,k)=>if (k==NameKind.free && sc.kind== .function && sc.names.lookup n==some .cell) then (n,NameKind.cell) else (n,k)).lookup x=some k→
  ∃k',names.lookup x=some k'∧(k=k'∨(k'= .free∧k= .cell))
 | [],_,_,h=>by simp at h
 |(n,k₀)::r,x,k,h=>by
  have ih:= @mS sc r x k
  have h':List.lookup x ((if (k₀==NameKind.free && sc.kind== .function && sc.names.lookup n==some .cell)=true then (n,NameKind.cell) else (n,k₀))::(r.map _))=some k:=h
  cases hx:x==n with
  |true=>
   simp only [List.lookup_cons,hx]
   by_cases hc:(k₀==NameKind.free && sc.kind== .function && sc.names.lookup n==some .cell)=true
   ·rw [if_pos hc] at h'
    simp only [List.lookup_cons,hx] at h'
    cases h'
    simp only [Bool.and_eq_true,beq_iff_eq] at hc
    exact ⟨k₀,rfl,.inr ⟨hc.1.1,rfl⟩⟩
   ·rw [if_neg hc] at h'
    simp only [List.lookup_cons,hx] at h'
    cases h'
    exact ⟨_,rfl,.inl rfl⟩
  |false=>
   simp only [List.lookup_cons,hx]
   by_cases hc:(k₀==NameKind.free && sc.kind== .function && sc.names.lookup n==some .cell)=true
   ·rw [if_pos hc] at h'
    simp only [List.lookup_cons,hx] at h'
    exact ih h'
   ·rw [if_neg hc] at h'
    simp only [List.lookup_cons,hx] at h'
    exact ih h'
structure Cr (N:List Str) (sc scope:Scope) (own:List (Str×Nat)):Prop where
 kind:scope.kind= .function
 uniq:∀y∈scope.names,scope.names.lookup y.1=some y.2
 ix:∀p∈own,N[p.2]?=some p.1
 free:∀y∈scope.names,y.2= .free→sc.names.lookup y.1=some .cell∨sc.names.lookup y.1=some .free
 own:∀y∈scope.names,y.2= .local∨y.2= .cell→y.1∈own.map (·.1)∨y.1 ∉ N
def wipe (σ:St):List Nat→St
 | [] =>σ
 |v::vs=>(wipe σ vs).set v none
theorem mT (σ:St):∀vs:List Nat,(wipe σ vs).length=σ.length
 | [] =>rfl
 |v::vs=>by unfold wipe;rw [List.length_set,mT σ vs]
theorem tF {σ:St}{i:Nat}{x:V}:∀ {vs:List Nat},(wipe σ vs)[i]?=some (some x)→σ[i]?=some (some x)∧i ∉ vs
 | [],h=>⟨h,by simp⟩
 |v::vs,h=>by
  unfold wipe at h
  by_cases hi:v=i
  ·subst hi
   by_cases hv:v < (wipe σ vs).length
   ·rw [List.getElem?_set_self hv] at h;cases h
   ·rw [List.getElem?_eq_none (by simpa using hv)] at h;cases h
  ·rw [List.getElem?_set_ne hi] at h
   obtain ⟨h1,h2⟩:=tF h
   exact ⟨h1,by simp only [List.mem_cons,not_or];exact ⟨fun e=>hi e.symm,h2⟩⟩
abbrev Cx.Ar (X:Cx)(s:Shared)(H:Hp)(scope:Scope)(fP:Env)(fp:List Addr):Cx:={X with yT:=s,N0:=H,env:=fP,outer:=X.stack,ex:=fp,fn:=fun x=>scope.names.lookup x==some .cell,pn:= [],xe:=fun _ _=>False}
section
variable {X:Cx}{pins:List (Addr×Obj)}{σ:St}{H:Hp}{s:Shared}
theorem Ct {scope:Scope}{own:List (Str×Nat)}{fp:List Addr}(I:Inv X pins σ H s)(ok:Cr X.N X.env.scope scope own)(hN:X.N.Nodup)(Nn:∀b∈fp,vk X pins H b∧b < s.heap.objs.size):
  Inv (X.Ar s H scope (compEnvC scope (cellsFrom (s.heap.objs.size + 1) scope.names (cn X.env.cells scope.names [])) s.heap.objs.size X.env) fp) [] (wipe σ (own.map (·.2))) H {s with heap:=pushCells (s.heap.push {cls:= .type "dict",data:= .dict #[] }) scope.names}:=by
 have yV:∀y∈scope.names,y.2= .free→∃c,X.env.cells.lookup y.1=some c:=fun y hy e=>by
  rcases ok.free y hy e with k|k
  ·exact I.ok.has _ (.inl k)
  ·exact I.ok.has _ (.inr k)
 generalize Cu:compEnvC scope (cellsFrom (s.heap.objs.size + 1) scope.names (cn X.env.cells scope.names [])) s.heap.objs.size X.env=fP
 have kp:∀b o,s.heap.get? b=some o→(pushCells (s.heap.push {cls:= .type "dict",data:= .dict #[] }) scope.names).get? b=some o:=fun b o e=>pushCells_keeps _ _ _ _ (Heap.get?_push_of_some _ e)
 have hL:fP.locals=s.heap.objs.size:=by rw [←Cu];rfl
 have Fp:fP.cells=cellsFrom (s.heap.objs.size + 1) scope.names (cn X.env.cells scope.names []):=by rw [←Cu];rfl
 have hsc:fP.scope=abD scope X.env.scope:=by rw [←Cu];rfl
 rw [←Heap.size_push s.heap {cls:= .type "dict",data:= .dict #[] }] at Fp
 have cm:∀ {y c},(y,c)∈cn X.env.cells scope.names [] →X.env.cells.lookup y=some c∧c < s.heap.objs.size:=fun {y c} hm=>by
  rcases jN hm with hm|⟨h1,rfl⟩
  ·cases hm
  ·obtain ⟨c,hc⟩:=yV _ h1 rfl
   rw [hc]
   obtain ⟨w,z⟩:=I.cell _ _ hc
   exact ⟨rfl,z.lt⟩
 have mem:∀ {y c},fP.cells.lookup y=some c→(X.env.cells.lookup y=some c∧c < s.heap.objs.size)∨(s.heap.objs.size + 1≤c∧Je (pushCells (s.heap.push {cls:= .type "dict",data:= .dict #[] }) scope.names) c none):=fun {y c} e=>by
  rw [Fp] at e
  rcases kN (PySem.mem_of_lookup e) with hm|⟨_,h2,h3⟩
  ·exact .inl (cm hm)
  ·rw [Heap.size_push] at h2;exact .inr ⟨h2,h3⟩
 have look:∀ {y},scope.names.lookup y=some .free→∃c,fP.cells.lookup y=some c∧X.env.cells.lookup y=some c:=fun {y} hl=>by
  have hy:(y,NameKind.free)∈scope.names:=PySem.mem_of_lookup hl
  obtain ⟨c',e'⟩:=mem_lookup (oB (names:=scope.names) (n:=(s.heap.push {cls:= .type "dict",data:= .dict #[] }).objs.size) (mR (cells:=X.env.cells) (acc:= []) hy))
  rw [←Fp] at e'
  refine ⟨c',e',?_⟩
  rw [Fp] at e'
  rcases kN (PySem.mem_of_lookup e') with hm|⟨h1,_,_⟩
  ·exact (cm hm).1
  ·have:=ok.uniq _ h1
   rw [hl] at this;cases this
 have okB:(X.Ar s H scope fP fp).Ok:=by
  refine ⟨I.ok.mod,by show fP.scope.kind=_;rw [hsc];exact ok.kind,by show fP.globals=_;rw [←Cu];exact I.ok.glob,by show fP.builtins=_;rw [←Cu];exact I.ok.blt,by show s.heap.objs.size≤fP.locals;rw [hL];exact Nat.le_refl _,
   fun y z c e1 e2=> ?_,fun y hy=> ?_,fun y c z e=> ?_,I.ok.hd,I.ok.frames,.inl rfl,fun b hb=>⟨?_,fun y c e z=> ?_⟩,I.bs,Nat.le_trans I.ok.LI I.sz,fun b o e hb=> ?_,fun b hb z=> ?_,I.stack,I.E8⟩
  ·have e1:fP.cells.lookup y=some c:=e1
   have e2:fP.cells.lookup z=some c:=e2
   rw [Fp] at e1 e2
   refine tE (fun p hp=> ?_) (fun y z c a b=>I.ok.inj y z c (cm a).1 (cm b).1) (PySem.mem_of_lookup e1) (PySem.mem_of_lookup e2)
   rw [Heap.size_push]
   exact Nat.lt_succ_of_lt (cm (y:=p.1) (c:=p.2) hp).2
  ·show ∃c,fP.cells.lookup y=some c
   have key:∀k,fP.kindOf y=some k→(k= .cell∨k= .free)→∃c,fP.cells.lookup y=some c:=fun k hk SK=>by
    unfold Env.kindOf at hk
    rw [hsc] at hk
    obtain ⟨k',e,r⟩:=mS hk
    have:k'= .cell∨k'= .free:=by
     rcases r with rfl|⟨rfl,_⟩
     ·exact SK
     ·exact .inr rfl
    rcases this with rfl|rfl
    ·obtain ⟨c,hm⟩:=tD (n:=(s.heap.push {cls:= .type "dict",data:= .dict #[] }).objs.size) (acc:=cn X.env.cells scope.names []) (PySem.mem_of_lookup e)
     obtain ⟨c',e'⟩:=mem_lookup hm
     exact ⟨c',by rw [Fp];exact e'⟩
    ·obtain ⟨c,h1,_⟩:=look e
     exact ⟨c,h1⟩
   rcases hy with hy|hy
   ·exact key _ hy (.inl rfl)
   ·exact key _ hy (.inr rfl)
  ·have z:(scope.names.lookup y==some NameKind.cell)=true:=z
   have z:scope.names.lookup y=some .cell:=by simpa using z
   have e:fP.cells.lookup y=some c:=e
   rw [Fp] at e
   rcases kN (PySem.mem_of_lookup e) with hm|⟨_,h2,_⟩
   ·rcases jN hm with hm|⟨h1,_⟩
    ·cases hm
    ·have q:=ok.uniq _ h1
     rw [z] at q;cases q
   ·rw [Heap.size_push] at h2
    exact Nat.le_of_succ_le h2
  ·show b≠fP.locals
   rw [hL];exact Nat.ne_of_lt (Nn b hb).2
  ·have e:fP.cells.lookup y=some c:=e
   rcases mem e with ⟨h1,_⟩|⟨h1,_⟩
   ·exact (Nn b hb).1.2.2.2.2.1 y c h1 z
   ·have h2:s.heap.objs.size + 1≤b:=by rw [←z];exact h1
    exact absurd (Nat.lt_of_lt_of_le (Nn b hb).2 (Nat.le_of_succ_le h2)) (Nat.lt_irrefl _)
  ·rcases (Nn b hb).1.2.2.2.1 with z|z
   ·exact I.ok.IH b o e z
   ·exact absurd (Nat.lt_of_lt_of_le (Heap.lt_size e) (Nat.le_trans I.ok.LI z)) (Nat.lt_irrefl _)
  ·rcases List.mem_cons.mp (I.DO b z) with z|z
   ·exact (Nn b hb).1.2.1 z
   ·exact (Nn b hb).1.2.2.1 z
 refine ⟨okB,rfl,I.bare,Un.kept kp,⟨fun _=>none,?_,fun i y av e1 e2 e3=> ?_⟩,fun y c e=> ?_,?_,fun y c e=> ?_,fun p hp=> ?_,I.bF.kept kp,by rw [mT];exact I.len⟩
 ·show Heap.Ns _ fP.locals _
  rw [hL]
  exact Heap.Ns.keeps (Heap.Ns.new ..) fun b o e=>pushCells_keeps _ _ _ _ e
 ·obtain ⟨e2,pz⟩:=tF e2
  have zb:scope.names.lookup y=some .free∧(fP.kindOf y=some .cell∨fP.kindOf y=some .free):=by
   have key:∀k,fP.scope.names.lookup y=some k→k= .local∨k= .cell∨k= .free→scope.names.lookup y=some .free∧(fP.kindOf y=some .cell∨fP.kindOf y=some .free):=fun k hk SK=>by
    have hk0:=hk
    rw [hsc] at hk
    obtain ⟨k',e,r⟩:=mS hk
    have no:¬ (k'= .local∨k'= .cell):=fun hh=>by
     rcases ok.own _ (PySem.mem_of_lookup e) hh with e'|e'
     ·obtain ⟨p,hp,hpy⟩:=List.mem_map.mp e'
      have e3:=ok.ix p hp
      have:p.1=y:=hpy
      rw [this] at e3
      exact pz (List.mem_map.mpr ⟨p,hp,vW hN e3 e1⟩)
     ·exact e' (List.mem_of_getElem? e1)
    rcases r with rfl|⟨rfl,rfl⟩
    ·rcases SK with rfl|rfl|rfl
     ·exact absurd (.inl rfl) no
     ·exact absurd (.inr rfl) no
     ·exact ⟨e,.inr hk0⟩
    ·exact ⟨e,.inl hk0⟩
   have e3:Q9 fP.scope y:=e3
   rcases e3 with e3|e3|e3
   ·exact key _ e3 (.inl rfl)
   ·exact key _ e3 (.inr (.inl rfl))
   ·exact key _ e3 (.inr (.inr rfl))
  obtain ⟨m,hn,hl⟩:=I.loc
  have abF:Q9 X.env.scope y:=(ok.free _ (PySem.mem_of_lookup zb.1) rfl).elim (fun k=> .inr (.inl k)) (fun k=> .inr (.inr k))
  obtain ⟨w,r,q⟩:=hl i y av e1 e2 abF
  refine ⟨w,r,.inr ⟨zb.2,?_⟩⟩
  obtain ⟨c,h1,h2⟩:=look zb.1
  rcases q with ⟨k,_⟩|⟨_,c',e',z⟩
  ·have k:X.env.scope.names.lookup y=some .local:=k
   rcases ok.free _ (PySem.mem_of_lookup zb.1) rfl with k'|k' <;>rw [show X.env.scope.names.lookup y=_ from k'] at k <;>cases k
  ·rw [h2] at e';cases e'
   exact ⟨c,h1,z.keeps kp⟩
 ·have e:fP.cells.lookup y=some c:=e
  rcases mem e with ⟨h1,_⟩|⟨_,z⟩
  ·obtain ⟨w,z⟩:=I.cell y c h1
   exact ⟨w,z.keeps kp⟩
  ·exact ⟨_,z⟩
 ·show H fP.locals=none
  rw [hL];exact I.bF.fresh (Nat.le_refl _)
 ·have e:fP.cells.lookup y=some c:=e
  rcases mem e with ⟨h1,_⟩|⟨h1,_⟩
  ·exact I.kI y c h1
  ·exact I.bF.fresh (Nat.le_of_succ_le h1)
 ·exact absurd (show p∈([] :List (Addr×Obj)) ++ [] from hp) (by simp)
theorem Ox {E:Value→Shared→Prop}{D:Addr}{xs:List V}{y:V}{v:Value}{Q:Value→Shared→Prop}(I:Inv X pins σ H s)(hD:H D=some (.lst xs))(hz:xs.length < sizeLine)(r:RelV y v)
  (h:∀s',Inv X pins σ (upd H D (.lst (xs ++ [y]))) s'→Q .none s'):wpAny (model X.prog X.w) X.A (call (.builtin "list.append") [.ref D,v]) Q E s:=by
 obtain ⟨Rh,aV,n,ri,e⟩:=I.bF D _ hD
 have hl:=ri.length
 refine append_at (hsz:=by rw [List.size_toArray];omega) e fun h' sb yf=> ?_
 refine h {s with heap:=h'} (I.write (t':=s.toks) (by rw [hD];trivial) (.inl rfl) (fun b u hb q=>(sb.2 b hb).trans q) ⟨_,yf⟩ ⟨by rw [List.length_append];exact hz,aV ++ [v],n + 1,ri.append (.cons r .nil),?_⟩)
 rw [yf]
 simp
def SM (X:Cx)(ifs:List Expr)(t:TT):Prop:=
 ∀ (pins:List (Addr×Obj))(s:Shared)(σ:St)(H:Hp)(Q:Bool→Hp→Prop),Inv X pins σ H s→t σ H Q→
  wpAny (model X.prog X.w) X.A (forIn ifs true fun c r=>if r=true then do let ok←isTrue c X.env (eval c X.env);pure (ForInStep.yield ok) else pure (ForInStep.yield r)) (TP X pins σ Q) X.xe s
def SN:TT:=fun _ H Q=>Q true H
theorem vB:SM X [] SN:=fun _ _ _ H _ I h=>wpAny_tests_nil ⟨H,I,h⟩
theorem As {c:Expr}{t:TT}(h:PT X c t):SM X [c] t:=fun pins s σ H Q I hw=>wpAny_tests_one (h pins s σ H Q I hw)
end
theorem GN {α:Type}{t:Sem α}{Q Q':α→Shared→Prop}{M:Model}{A:Around}{E:Value→Shared→Prop}{s:Shared}(h:wpAny M A t Q (fun _ _=>False) s)(hQ:∀a s,Q a s→Q' a s):wpAny M A t Q' E s:=wpAny_mono h hQ fun _ _ z=>False.elim z
theorem Au {prog:Program}{w:World}{A:Around}{R:Result→Shared→Prop}{s:Shared}{elt target iter:Expr}{ifs:List Expr}{scope:Scope}{pos:Pos}{it acc:Value}{env:Env}(I:Nat→Shared→Prop)
  (turn:∀n s,I n s→wpAny (model prog w) A (pyNext it) (fun r s₁=>match r with
   |none=>R (.ok .next) s₁
   |some v=>wpAny (model prog w) A (letOwnedTupleGo target it v) (fun _ s₁'=>wpAny (model prog w) A (assign target env v) (fun _ s₂=>
     wpAny (model prog w) A (forIn ifs true fun c r=>if r=true then do let ok←isTrue c env (eval c env);pure (ForInStep.yield ok) else pure (ForInStep.yield r)) (fun ok s₃=>
      if ok=true then wpAny (model prog w) A (eval elt env) (fun x s₄=>
       wpAny (model prog w) A (call (.builtin "list.append") [acc,x]) (fun _ s₅=>∃m,m < n∧I m s₅) (notedBy (model prog w) A env fun e s'=>R (.error e) s') s₄) (notedBy (model prog w) A env fun e s'=>R (.error e) s') s₃
      else ∃m,m < n∧I m s₃) (notedBy (model prog w) A env fun e s'=>R (.error e) s') s₂) (notedBy (model prog w) A env fun e s'=>R (.error e) s') s₁') (notedBy (model prog w) A env fun e s'=>R (.error e) s') s₁) (notedBy (model prog w) A env fun e s'=>R (.error e) s') s)
  (n:Nat)(h:I n s):
  codeAny (model prog w) A (.compLoop (.ListComp elt [⟨target,iter,ifs,0⟩] scope pos) 0 it acc env) R s:=by
 refine codeAny_loop rfl I (fun n s hI=> ?_) n h
 show wpAny _ A ((compTurn (.ListComp elt [⟨target,iter,ifs,0⟩] scope pos) 0 it acc env).onRaise (fun x=>do noteFrame x env;theTreesLotGoes x)) _ _ s
 refine wpAny_noted ?_
 rw [compTurn_list]
 refine wpAny_bind (wpAny_standAt (wpAny_bind (wpAny_mono (turn n s hI) (fun r s₁ h₁=> ?_) fun _ _ h'=>h')))
 cases r with
 |none=>exact wpAny_pure h₁
 |some v=>
  refine wpAny_bind (wpAny_mono h₁ (fun _ s₁' h₁'=> ?_) fun _ _ h'=>h')
  refine wpAny_bind (wpAny_mono h₁' (fun _ s₂ h₂=>wpAny_bind (wpAny_mono h₂ (fun ok s₃ h₃=> ?_) fun _ _ h'=>h')) fun _ _ h'=>h')
  cases ok with
  |false=>exact wpAny_pure ⟨rfl,h₃⟩
  |true=>
   exact wpAny_bind (wpAny_bind (wpAny_mono h₃ (fun x s₄ h₄=>wpAny_bind (wpAny_mono h₄ (fun _ s₅ h₅=>wpAny_pure (wpAny_pure ⟨rfl,h₅⟩)) fun _ _ h'=>h')) fun _ _ h'=>h'))
section
variable {X:Cx}
def tLc (wi:TI)(g:TG)(tt:TT)(te:TE)(vs:List Nat):TE:=fun σ H Q=>wi σ H fun J H1=>∀D,H1 D=none→∃W:Nat→Nat→Hp→Prop,(∃m,W 0 m (upd H1 D (.lst [])))∧∀i m H,W i m H→
 (J.stop i H∧Q (.ref D) H)∨(J.go i H∧∃Nx:Hp→Prop,(∀H',Nx H'→∃m',m' < m∧W (i + 1) m' H')∧∀x H',J.Iw i H x H'→g x (wipe σ vs) H' fun σ2 H2=>wipe σ2 vs=wipe σ vs∧tt σ2 H2 fun b H3=>
  if b=true then te σ2 H3 fun y H4=>∃acc,H4 D=some (.lst acc)∧acc.length < sizeLine∧Nx (upd H4 D (.lst (acc ++ [y]))) else Nx H3)
theorem Fq {pins:List (Addr×Obj)}{s:Shared}{σ:St}{H:Hp}{Q:VK}{elt tg iter:Expr}{ifs:List Expr}{scope:Scope}{own:List (Str×Nat)}{pos pos':Pos}{wi:TI}{g:TG}{tt:TT}{te:TE}{use:Option (Value→Sem Unit)}{Qf:Value→Shared→Prop}
  (hc:X.calm=true)(hN:X.N.Nodup)(I:Inv X pins σ H s)(hi:PI X tg iter wi)(ok:Cr X.N X.env.scope scope own)
  (hg:∀ (s:Shared)(H:Hp)(C:Addr)(cl:List (Str×Addr))(fp:List Addr),PG (X.Ar s H scope (compEnvC scope cl C X.env) fp) tg g)(ht:∀ (s:Shared)(H:Hp)(C:Addr)(cl:List (Str×Addr))(fp:List Addr),SM (X.Ar s H scope (compEnvC scope cl C X.env) fp) ifs tt)
  (he:∀ (s:Shared)(H:Hp)(C:Addr)(cl:List (Str×Addr))(fp:List Addr),PE (X.Ar s H scope (compEnvC scope cl C X.env) fp) elt te)(hs:∀x,foldedSetIterable iter X.env x=pure x)
  (h:tLc wi g tt te (own.map (·.2)) σ H Q)
  (hRR:∀D C s' m H',Inv X pins σ H' s'→Q (.ref D) H'→s'.heap.Ns C m→vk X pins H' C→compPost (model X.prog X.w) X.A X.xe use Qf (.ref D) C (.ok .next) s'):
  wpAny (model X.prog X.w) X.A (comprehension (.ListComp elt [⟨tg,iter,ifs,0⟩] scope pos) scope X.env pos' (newList []) false (eval iter X.env) use) Qf X.xe s:=by
 have yV:∀y∈scope.names,y.2= .free→∃c,X.env.cells.lookup y.1=some c:=fun y hy e=>by
  rcases ok.free y hy e with k|k
  ·exact I.ok.has _ (.inl k)
  ·exact I.ok.has _ (.inr k)
 refine wpAny_comprehension_free (use:=use) rfl hs (D4 yV) ok.kind (fun y hy e=>by rw [ok.uniq y hy,e])
  (cI (hi pins s σ H _ I h) fun xv s1 hx=>cI hx fun itv s2 h2=> ?_)
 obtain ⟨it,fp,tn,J,H2,e,I2,T,st2,f2,q⟩:=h2
 subst e
 refine wpAny_newObj_type (Cq ?_) (by show 0≤sizeLine;decide)
 generalize hD:s2.heap.objs.size=D
 have hDn:H2 D=none:=I2.bF.fresh (Nat.le_of_eq hD)
 obtain ⟨W,⟨m0,w0⟩,turn⟩:=q D hDn
 generalize hs3:({s2 with heap:=s2.heap.push {cls:= .type "list",data:= .seq ([] :List Value).toArray} }:Shared)=s3
 have I3:Inv X pins σ (upd H2 D (.lst [])) s3:=by
  rw [←hs3]
  refine I2.laid (t':=s2.toks) (fun b o e=>Heap.get?_push_of_some _ e) (Nat.le_of_eq hD) ⟨Nat.zero_le _,[],0,.nil,?_⟩
  rw [←hD]
  exact Heap.get?_push_size _ rfl
 have h3:s3.heap=s2.heap.push {cls:= .type "list",data:= .seq ([] :List Value).toArray}:=by rw [←hs3]
 have sz:∀b∈fp,b < s2.heap.objs.size:=fun b hb=>by
  obtain ⟨o,e,_⟩:=T.obj _ _ st2 b hb
  exact Heap.lt_size e
 have f3:∀b∈fp,vk X pins (upd H2 D (.lst [])) b∧b < s3.heap.objs.size:=fun b hb=>by
  have dy:=sz b hb
  refine ⟨⟨?_,(f2 b hb).2⟩,by rw [h3,Heap.size_push];exact Nat.lt_succ_of_lt dy⟩
  rw [az (by rw [←hD];exact Nat.ne_of_lt dy)]
  exact (f2 b hb).1
 have st3:tn 0 s3.heap:=T.keep _ _ _ st2 fun b _ o e=>by rw [h3];exact Heap.get?_push_of_some _ e
 have I4:=Ct I3 ok hN f3
 have pg:=hg s3 (upd H2 D (.lst [])) s3.heap.objs.size (cellsFrom (s3.heap.objs.size + 1) scope.names (cn X.env.cells scope.names [])) fp
 have pt:=ht s3 (upd H2 D (.lst [])) s3.heap.objs.size (cellsFrom (s3.heap.objs.size + 1) scope.names (cn X.env.cells scope.names [])) fp
 have pe:=he s3 (upd H2 D (.lst [])) s3.heap.objs.size (cellsFrom (s3.heap.objs.size + 1) scope.names (cn X.env.cells scope.names [])) fp
 show codeAny _ _ (.compStart (.ListComp elt [⟨tg,iter,ifs,0⟩] scope pos) 0 (.ref it) (.ref D) (compEnvC scope (cellsFrom (s3.heap.objs.size + 1) scope.names (cn X.env.cells scope.names [])) s3.heap.objs.size X.env)) (compPost (model X.prog X.w) X.A X.xe use Qf (.ref D) s3.heap.objs.size) {s3 with heap:=pushCells (s3.heap.push {cls:= .type "dict",data:= .dict #[] }) scope.names}
 have nfp:∀b∈fp,(upd H2 D (.lst [])) b=none:=fun b hb=>(f3 b hb).1.1
 generalize hce:compEnvC scope (cellsFrom (s3.heap.objs.size + 1) scope.names (cn X.env.cells scope.names [])) s3.heap.objs.size X.env=ce at I4 pg pt pe ⊢
 have cL:ce.locals=s3.heap.objs.size:=by subst hce;rfl
 generalize GO:upd H2 D (.lst [])=H3 at I3 I4 pg pt pe w0 nfp f3
 generalize SO:({s3 with heap:=pushCells (s3.heap.push {cls:= .type "dict",data:= .dict #[] }) scope.names}:Shared)=s4 at I4 ⊢
 have st4:tn 0 s4.heap:=T.keep _ _ _ st3 fun b _ o e=>by rw [←SO];exact pushCells_keeps _ _ _ _ (Heap.get?_push_of_some _ e)
 have stat:∀ {σ':St}{H':Hp}{s':Shared},Inv (X.Ar s3 H3 scope ce fp) [] σ' H' s'→(∀b∈fp,H' b=none)→∀b∈fp,vk (X.Ar s3 H3 scope ce fp) [] H' b:=fun {σ' H' s'} I' hn b hb=>
  ⟨hn b hb,(I'.ok.Z8 b hb).1,I'.ok.II b hb,.inl hb,fun x c e=>(I'.ok.Z8 b hb).2 x c e,fun p hp=>absurd (show p∈([] :List (Addr×Obj)) ++ [] from hp) (by simp)⟩
 have loop:codeAny (model X.prog X.w) X.A (.compLoop (.ListComp elt [⟨tg,iter,ifs,0⟩] scope pos) 0 (.ref it) (.ref D) ce) (compPost (model X.prog X.w) X.A X.xe use Qf (.ref D) s3.heap.objs.size) s4:=by
  refine Au (fun n s'=>∃i H',Inv (X.Ar s3 H3 scope ce fp) [] (wipe σ (own.map (·.2))) H' s'∧tn i s'.heap∧(∀b∈fp,H' b=none)∧W i n H') ?_ m0 ⟨0,H3,I4,st4,nfp,w0⟩
  rintro n s5 ⟨i,H5,I5,Rb,n5,w5⟩
  rcases turn i n H5 w5 with ⟨stop,qq⟩|⟨go,Nx,hNx,step⟩
  ·have td:=T.done (X.Ar s3 H3 scope ce fp) rfl rfl rfl hc i [] s5 _ H5 (fun _ _=>False) I5 (stat I5 n5) Rb stop
   refine GN td fun r s6 ⟨hr,I6⟩=> ?_
   subst hr
   have I7:Inv X pins σ H5 s6:=I3.RO (ch:=fp) I6.os I6.base I6.bF I6.bare fun b hb=>⟨(f3 b hb).1.2.2.2.1,(f3 b hb).1.2.1,(f3 b hb).1.2.2.2.2.1,(f3 b hb).1.2.2.2.2.2⟩
   have nC:H5 s3.heap.objs.size=none:=by
    have z:H5 ce.locals=none:=I6.free
    rw [cL] at z
    exact z
   obtain ⟨m,hn,_⟩:=I6.loc
   have hn:s6.heap.Ns ce.locals m:=hn
   rw [cL] at hn
   exact hRR D s3.heap.objs.size s6 m H5 I7 qq hn (I3.GB (Nat.le_refl _) nC)
  ·have ti:=T.item (X.Ar s3 H3 scope ce fp) rfl rfl rfl hc i [] s5 _ H5 (fun _ _=>False) I5 (stat I5 n5) Rb go
   refine GN ti fun r s6 ⟨u,hr,h6⟩=> ?_
   subst hr
   refine GN h6 fun _ s7 ⟨x,H7,I7,r7,y7,st7,n7⟩=> ?_
   have I7':=I7.pinned (stat I7 n7) (T.obj _ _ st7)
   refine GN (pg _ s7 _ H7 x u _ I7' r7 (step x H7 y7)) fun _ s8 ⟨σ8,H8,I8,hw8,q8⟩=> ?_
   refine GN (pt _ s8 σ8 H8 _ I8 q8) fun b s9 ⟨H9,I9,q9⟩=> ?_
   have fin:∀ {s':Shared}{H':Hp},Inv (X.Ar s3 H3 scope ce fp) ([] ++ vZ fp s7.heap) σ8 H' s'→Nx H'→∃m,m < n∧∃i H',Inv (X.Ar s3 H3 scope ce fp) [] (wipe σ (own.map (·.2))) H' s'∧tn i s'.heap∧(∀b∈fp,H' b=none)∧W i m H':=fun {s' H'} I' nx=>by
    obtain ⟨m',hm,w'⟩:=hNx H' nx
    have SQ:∀b∈fp,∀o,s7.heap.get? b=some o→s'.heap.get? b=some o∧H' b=none:=fun b hb o e=>
     let z:=I'.pin (b,o) (List.mem_append_right _ (List.mem_append_right _ (qp hb e)))
     ⟨z.1,z.2.1⟩
    have hl:(wipe σ (own.map (·.2))).length=σ8.length:=by rw [←hw8,mT]
    refine ⟨m',hm,i + 1,H',(I'.qM (pins:= [])).weak hl (fun j v e=> ?_),T.keep _ _ _ st7 fun b hb o e=>(SQ b hb o e).1,fun b hb=> ?_,w'⟩
    ·rw [←hw8] at e
     exact (tF e).1
    ·obtain ⟨o,e,_⟩:=T.obj _ _ st7 b hb
     exact (SQ b hb o e).2
   cases b with
   |false=>
    simp only [Bool.false_eq_true,if_false] at q9 ⊢
    exact fin I9 q9
   |true=>
    simp only [if_true] at q9 ⊢
    refine GN (pe _ s9 σ8 H9 _ I9 q9) fun z s10 ⟨yv,H10,I10,r10,acc,abH,Jf,nx⟩=> ?_
    exact Ox (X:=X.Ar s3 H3 scope ce fp) I10 abH Jf r10 fun s11 I11=>fin I11 nx
 exact codeAny_compStart_list loop (T.self X.A 0 _ _ _ st4 loop)
theorem Fs {elt tg iter:Expr}{ifs:List Expr}{scope:Scope}{own:List (Str×Nat)}{pos:Pos}{wi:TI}{g:TG}{tt:TT}{te:TE}(hc:X.calm=true)(hN:X.N.Nodup)(hi:PI X tg iter wi)(ok:Cr X.N X.env.scope scope own)
  (hg:∀ (s:Shared)(H:Hp)(C:Addr)(cl:List (Str×Addr))(fp:List Addr),PG (X.Ar s H scope (compEnvC scope cl C X.env) fp) tg g)(ht:∀ (s:Shared)(H:Hp)(C:Addr)(cl:List (Str×Addr))(fp:List Addr),SM (X.Ar s H scope (compEnvC scope cl C X.env) fp) ifs tt)
  (he:∀ (s:Shared)(H:Hp)(C:Addr)(cl:List (Str×Addr))(fp:List Addr),PE (X.Ar s H scope (compEnvC scope cl C X.env) fp) elt te)(hs:∀x,foldedSetIterable iter X.env x=pure x:=by intro _;rfl):
  PE X (.ListComp elt [⟨tg,iter,ifs,0⟩] scope pos) (tLc wi g tt te (own.map (·.2))):=by
 intro pins s σ H Q I h
 rw [eval_ListComp]
 refine Fq hc hN I hi ok hg ht he hs h fun D C s' m H' I' q hn f=>⟨m,hn,fun Np sb=> ?_⟩
 obtain ⟨f0,f1,f2,f3,f4,f5⟩:=f
 exact ⟨.ref D,H',I'.turned (t':=s'.toks) (fun b o hb e=>(sb.2 b hb).trans e) f0 f1 f3 f4 f5,rfl,q⟩
theorem wq {i:Nat}{y:Str}{py:Pos}{elt tg iter:Expr}{ifs:List Expr}{scope:Scope}{own:List (Str×Nat)}{pos SR:Pos}{wi:TI}{g:TG}{tt:TT}{te:TE}(hc:X.calm=true)(hN:X.N.Nodup)(hy:X.N[i]?=some y)(hyl:X.env.scope.names.lookup y=some .local)
  (hsw:swapsWith (.ListComp elt [⟨tg,iter,ifs,0⟩] scope pos) (some (.Name y py)) SR.line X.env=pure true)(hi:PI X tg iter wi)(ok:Cr X.N X.env.scope scope own)
  (hg:∀ (s:Shared)(H:Hp)(C:Addr)(cl:List (Str×Addr))(fp:List Addr),PG (X.Ar s H scope (compEnvC scope cl C X.env) fp) tg g)(ht:∀ (s:Shared)(H:Hp)(C:Addr)(cl:List (Str×Addr))(fp:List Addr),SM (X.Ar s H scope (compEnvC scope cl C X.env) fp) ifs tt)
  (he:∀ (s:Shared)(H:Hp)(C:Addr)(cl:List (Str×Addr))(fp:List Addr),PE (X.Ar s H scope (compEnvC scope cl C X.env) fp) elt te)(hs:∀x,foldedSetIterable iter X.env x=pure x:=by intro _;rfl):
  PS X (.Assign [.Name y py] (.ListComp elt [⟨tg,iter,ifs,0⟩] scope pos) SR) (N5 (tLc wi g tt te (own.map (·.2))) (Fd i)):=by
 intro pins s σ H D I h
 rw [exec_Assign_Name_used _ _ _ _ hsw]
 refine wpAny_bind (wpAny_standAt (wpAny_bind ?_))
 show wpAny _ X.A (do let _←comprehension (.ListComp elt [⟨tg,iter,ifs,0⟩] scope pos) scope X.env (firstIterPos [⟨tg,iter,ifs,0⟩] pos) (newList []) false (eval iter X.env) (some (assign (.Name y py) X.env))) _ _ s
 have h:tLc wi g tt te (own.map (·.2)) σ H (fun x H1=>Fd i x σ H1 D.nx):=h
 refine wpAny_bind (cI (Fq (Qf:=fun _ s'=>SP X pins D .next s') hc hN I hi ok hg ht he hs h fun L C s' m H' I' q hn f=> ?_) fun _ s' hq=>wpAny_pure (wpAny_pure hq))
 show wpAny _ _ (assign (.Name y py) X.env (.ref L)) _ _ _
 refine wpAny_assign_Name (yU (v:=V.ref L) I' hN hy (.inl hyl) rfl (fun s2 I2 ⟨a,sb,ha⟩=> ?_) (.inr hyl))
 obtain ⟨f0,f1,f2,f3,f4,f5⟩:=f
 have haC:C≠a:=by
  rcases ha with z|z
  ·rw [z];exact f1
  ·exact fun e=>f4 y a z e.symm
 refine ⟨m,hn.sameBut sb haC,fun h3 sb3=> ?_⟩
 exact ⟨_,H',I2.turned (t':=s2.toks) (fun b o hb e=>(sb3.2 b hb).trans e) f0 f1 f3 f4 f5,q⟩
theorem Av {elt:Expr}{gs:List Comprehension}{scope:Scope}{pos py:Pos}{y:Str}{l:Nat}{env:Env}(hk:env.scope.kind= .function)(hy:env.scope.names.lookup y=some .local)(hl:(py.line==pos.line)=true)
  (ha:(scope.names.any fun (n,k)=>n==y && (k== .local||k== .cell))=false):swapsWith (.ListComp elt gs scope pos) (some (.Name y py)) l env=pure true:=by
 have ky:env.kindOf y=some .local:=hy
 have hb:env.blockKind= .function:=by unfold Env.blockKind;rw [hk];rfl
 unfold swapsWith
 simp only [hb,ky,ha,Expr.pos,hl]
 rfl
end
theorem Aw {K:PySem.W.Frag}{a:Addr}{xs:List V}{g:TG}{tt:TT}{te:TE}{vs:List Nat}{σ:St}{H1:Hp}{D:Addr}{Qd:Hp→Prop}(Pv:Nat→Hp→Prop)(h0:Pv 0 (upd H1 D (.lst [])))(hl:∀i H,i≤xs.length→Pv i H→bT K H a xs)
  (hs:∀i x H,xs[i]?=some x→Pv i H→g x (wipe σ vs) H fun σ2 H2=>wipe σ2 vs=wipe σ vs∧tt σ2 H2 fun b H3=>
   if b=true then te σ2 H3 fun y H4=>∃acc,H4 D=some (.lst acc)∧acc.length < sizeLine∧Pv (i + 1) (upd H4 D (.lst (acc ++ [y]))) else Pv (i + 1) H3)(hd:∀H,Pv xs.length H→Qd H):
  ∃W:Nat→Nat→Hp→Prop,(∃m,W 0 m (upd H1 D (.lst [])))∧∀i m H,W i m H→
   ((Nh K a).stop i H∧Qd H)∨((Nh K a).go i H∧∃Nx:Hp→Prop,(∀H',Nx H'→∃m',m' < m∧W (i + 1) m' H')∧∀x H',(Nh K a).Iw i H x H'→g x (wipe σ vs) H' fun σ2 H2=>wipe σ2 vs=wipe σ vs∧tt σ2 H2 fun b H3=>
    if b=true then te σ2 H3 fun y H4=>∃acc,H4 D=some (.lst acc)∧acc.length < sizeLine∧Nx (upd H4 D (.lst (acc ++ [y]))) else Nx H3):=by
 refine ⟨fun i m H=>m=xs.length - i∧i≤xs.length∧Pv i H,⟨xs.length,by simp,Nat.zero_le _,h0⟩,?_⟩
 rintro i m H ⟨rfl,hi,p⟩
 have q:=hl i H hi p
 by_cases dy:i < xs.length
 ·refine .inr ⟨⟨xs,xs[i],q,by simp [dy]⟩,Pv (i + 1),fun H' p'=>⟨xs.length - (i + 1),by omega,rfl,dy,p'⟩,fun x H' y=> ?_⟩
  obtain ⟨e,y⟩:=y
  subst e
  exact hs i x _ (y xs q) p
 ·have e:i=xs.length:=by omega
  subst e
  exact .inl ⟨⟨xs,q,Nat.le_refl _⟩,hd H p⟩
def Ax (N:List Str)(sc scope:Scope)(own:List (Str×Nat)):Bool:=
 (match scope.kind with| .function=>true|_=>false) && (scope.names.all fun y=>decide (scope.names.lookup y.1=some y.2)) && (own.all fun p=>decide (N[p.2]?=some p.1)) &&
  (scope.names.all fun y=>match y.2 with
   | .free=>(match sc.names.lookup y.1 with|some .cell=>true|some .free=>true|_=>false)
   | .local=>decide (y.1∈own.map (·.1))||decide (y.1 ∉ N)
   | .cell=>decide (y.1∈own.map (·.1))||decide (y.1 ∉ N)
   |_=>true)
theorem jw {N:List Str}{sc scope:Scope}{own:List (Str×Nat)}(h:Ax N sc scope own=true):Cr N sc scope own:=by
 unfold Ax at h
 simp only [Bool.and_eq_true,List.all_eq_true,decide_eq_true_eq] at h
 obtain ⟨⟨⟨h1,h2⟩,h3⟩,h4⟩:=h
 refine ⟨?_,h2,h3,fun y hy e=> ?_,fun y hy e=> ?_⟩
 ·split at h1
  ·assumption
  ·cases h1
 ·have q:=h4 y hy
  simp only [e] at q
  split at q <;>first|exact .inl (by assumption)|exact .inr (by assumption)|cases q
 ·have q:=h4 y hy
  rcases e with e|e <;>(simp only [e,Bool.or_eq_true,decide_eq_true_eq] at q;exact q)
end L2
namespace L2
open PySem PySem.Spec PyProof.Rows
section
variable {prog:Program}{w:World}{A:Around}{R:Result→Shared→Prop}{s:Shared}{elt t0 i0 t1 i1:Expr}{ami amj:List Expr}{scope:Scope}{pos:Pos}{it acc:Value}{env:Env}
end
section
variable {X:Cx}
end
end L2
namespace L2
open PySem PySem.Spec PyProof.Rows
section
variable {κ:Type} [DecidableEq κ]
def cN (kvs:List (κ×V))(k:κ):Option V:=(kvs.find? fun kv=>decide (kv.1=k)).map (·.2)
def putK (kvs:List (κ×V))(k:κ)(v:V):List (κ×V):=
 if (kvs.any fun kv=>decide (kv.1=k))=true then kvs.map (fun kv=>if kv.1=k then (kv.1,v) else kv) else kvs ++ [(k,v)]
def wt (kvs:List (κ×V))(k:κ):List (κ×V):=kvs.filter fun kv=>decide (kv.1≠k)
theorem cA {p:κ×V}{r:List (κ×V)}{k:κ}(e:p.1=k):cN (p::r) k=some p.2:=by simp [cN,List.find?_cons,e]
theorem cB {p:κ×V}{r:List (κ×V)}{k:κ}(e:¬p.1=k):cN (p::r) k=cN r k:=by simp [cN,List.find?_cons,e]
theorem jx (k:κ):∀kvs:List (κ×V),(kvs.any fun kv=>decide (kv.1=k))=(cN kvs k).isSome
 | [] =>rfl
 |p::r=>by
  rw [List.any_cons]
  by_cases e:p.1=k
  ·simp only [cA e,decide_eq_true e,Bool.true_or,Option.isSome_some]
  ·rw [cB e,decide_eq_false e,Bool.false_or];exact jx k r
theorem Cv (k j:κ)(y:V):∀kvs:List (κ×V),cN (kvs.map fun kv=>if kv.1=k then (kv.1,y) else kv) j=(cN kvs j).map fun x=>if j=k then y else x
 | [] =>rfl
 |p::r=>by
  have ih:=Cv k j y r
  rw [List.map_cons]
  by_cases h:p.1=k
  ·rw [if_pos h]
   by_cases e:p.1=j
   ·rw [cA (p:=(p.1,y)) e,cA e,Option.map_some,if_pos (e.symm.trans h)]
   ·rw [cB (p:=(p.1,y)) e,cB e,ih]
  ·rw [if_neg h]
   by_cases e:p.1=j
   ·rw [cA (p:=p) e,cA e,Option.map_some,if_neg (fun z=>h (e.trans z))]
   ·rw [cB (p:=p) e,cB e,ih]
theorem zc (k j:κ)(y:V):∀kvs:List (κ×V),cN kvs k=none→cN (kvs ++ [(k,y)]) j=if j=k then some y else cN kvs j
 | [],_=>by
  by_cases e:k=j
  ·rw [if_pos e.symm];exact cA (p:=(k,y)) e
  ·rw [if_neg (fun z=>e z.symm)];exact cB (p:=(k,y)) e
 |p::r,hn=>by
  rw [List.cons_append]
  have hk:¬p.1=k:=fun z=>by rw [cA z] at hn;cases hn
  rw [cB hk] at hn
  have ih:=zc k j y r hn
  by_cases e:p.1=j
  ·rw [cA e,cA e,if_neg (fun z=>hk (e.trans z))]
  ·rw [cB e,cB e,ih]
theorem Jg (kvs:List (κ×V))(k j:κ)(y:V):cN (putK kvs k y) j=if j=k then some y else cN kvs j:=by
 unfold putK
 by_cases a:(kvs.any fun kv=>decide (kv.1=k))=true
 ·rw [if_pos a,Cv]
  rw [jx] at a
  by_cases e:j=k
  ·obtain ⟨x,hx⟩:=Option.isSome_iff_exists.mp a
   rw [if_pos e,e,hx,Option.map_some,if_pos rfl]
  ·rw [if_neg e]
   cases cN kvs j with
   |none=>rfl
   |some x=>rw [Option.map_some,if_neg e]
 ·rw [if_neg a]
  refine zc k j y kvs ?_
  rw [jx] at a
  cases q:cN kvs k with
  |none=>rfl
  |some x=>rw [q] at a;exact (a rfl).elim
theorem mV (kvs:List (κ×V))(k:κ)(v:V):(putK kvs k v).length≤kvs.length + 1:=by
 unfold putK
 split
 ·rw [List.length_map];omega
 ·rw [List.length_append,List.length_cons,List.length_nil];omega
theorem Jh {kvs:List (κ×V)}{k:κ}(v:V)(h:cN kvs k=none):putK kvs k v=kvs ++ [(k,v)] :=by
 unfold putK
 rw [jx,h]
 exact if_neg (by decide)
theorem pw.kO {o:Option V}{u:Option Value}(r:pw o u):o.isSome=u.isSome:=by
 cases o with
 |none=>cases u with
  |none=>rfl
  |some _=>exact (show False from r).elim
 |some _=>cases u with
  |none=>exact (show False from r).elim
  |some _=>rfl
theorem pw.getD {o:Option V}{u:Option Value}{d:V}{d':Value}(r:pw o u)(rd:RelV d d'):RelV (o.getD d) (u.getD d'):=by
 cases o with
 |none=>cases u with
  |none=>exact rd
  |some _=>exact (show False from r).elim
 |some _=>cases u with
  |none=>exact (show False from r).elim
  |some _=>exact r
theorem KV.val {kvs:List (κ×V)}{vs:List (κ×Value)}(r:KV kvs vs)(k:κ):pw (cN kvs k) (valueAt vs k):=by
 unfold KV at r
 induction r with
 |nil=>exact True.intro
 | @cons p q ps qs h t ih=>
  obtain ⟨h1,h2⟩:=h
  by_cases e:p.1=k
  ·have e':q.1=k:=h1.symm.trans e
   have b:valueAt (q::qs) k=some q.2:=by simp [valueAt,List.find?_cons,e']
   rw [cA e,b];exact h2
  ·have e':¬q.1=k:=fun z=>e (h1.trans z)
   have b:valueAt (q::qs) k=valueAt qs k:=by simp [valueAt,List.find?_cons,e']
   rw [cB e,b];exact ih
theorem KV.any {kvs:List (κ×V)}{vs:List (κ×Value)}(r:KV kvs vs)(k:κ):(kvs.any fun kv=>decide (kv.1=k))=vs.any fun kv=>decide (kv.1=k):=by
 unfold KV at r
 induction r with
 |nil=>rfl
 |cons h t ih=>rw [List.any_cons,List.any_cons,ih,h.1]
theorem KV.Oy {kvs:List (κ×V)}{vs:List (κ×Value)}(r:KV kvs vs)(k:κ){y:V}{u:Value}(ry:RelV y u):
  KV (kvs.map fun kv=>if kv.1=k then (kv.1,y) else kv) (vs.map fun kv=>if kv.1=k then (kv.1,u) else kv):=by
 unfold KV at r ⊢
 induction r with
 |nil=>exact .nil
 | @cons p q ps qs h t ih=>
  rw [List.map_cons,List.map_cons]
  refine .cons ?_ ih
  obtain ⟨h1,h2⟩:=h
  by_cases e:p.1=k
  ·rw [if_pos e,if_pos (h1.symm.trans e)];exact ⟨h1,ry⟩
  ·rw [if_neg e,if_neg (fun z=>e (h1.trans z))];exact ⟨h1,h2⟩
theorem KV.put {kvs:List (κ×V)}{vs:List (κ×Value)}(r:KV kvs vs)(k:κ){y:V}{u:Value}(ry:RelV y u):KV (putK kvs k y) (stored vs k u):=by
 unfold putK stored
 rw [r.any k]
 by_cases e:(vs.any fun kv=>decide (kv.1=k))=true
 ·rw [if_pos e,if_pos e];exact r.Oy k ry
 ·rw [if_neg e,if_neg e];exact Paired.snoc r ⟨rfl,ry⟩
theorem KV.keys {kvs:List (κ×V)}{vs:List (κ×Value)}(r:KV kvs vs):kvs.map (·.1)=vs.map (·.1):=by
 unfold KV at r
 induction r with
 |nil=>rfl
 |cons h t ih=>rw [List.map_cons,List.map_cons,ih,h.1]
theorem KV.length {kvs:List (κ×V)}{vs:List (κ×Value)}(r:KV kvs vs):kvs.length=vs.length:=Paired.length r
theorem Ji (kvs:List (κ×V))(k:κ):(wt kvs k).length≤kvs.length:=List.length_filter_le _ _
end
theorem uB {P:Program}{w:World}{k:Key}{u:Value}(r:RelV (kV k) u):(bw P w).is k u=true:=by
 cases k with
 |inl i=>obtain ⟨t,e⟩:=(show ∃t,u=Value.int i t from r);subst e;exact uv P w i t
 |inr x=>obtain ⟨t,e⟩:=(show ∃t,u=Value.str x t from r);subst e;exact Cb P w x t
theorem zd {P:Program}{w:World}:∀ {ks:List Key}{us:List Value},Vals (ks.map kV) us→ItemsAre (bw P w) ks us
 | [],_,r=>by rw [List.map_nil] at r;cases r;exact .nil
 |k::ks,_,r=>by
  rw [List.map_cons] at r
  cases r with
  |cons h t=>exact .cons (uB h) (zd t)
abbrev KT (H:Hp):List (List Key×V)→List (List Key×Addr×Value)→Prop:=Paired fun p q=>p.1=q.1∧H q.2.1=some (.tup (p.1.map kV))∧RelV p.2 q.2.2
theorem KT.val {H:Hp}{kvs:List (List Key×V)}{xs:List (List Key×Addr×Value)}(r:KT H kvs xs)(k:List Key):pw (cN kvs k) ((atKey xs k).map (·.2)):=by
 induction r with
 |nil=>exact True.intro
 | @cons p q ps qs h t ih=>
  obtain ⟨h1,_,h2⟩:=h
  by_cases e:p.1=k
  ·have e':q.1=k:=h1.symm.trans e
   have b:atKey (q::qs) k=some q.2:=by simp [atKey,List.find?_cons,e']
   rw [cA e,b];exact h2
  ·have e':¬q.1=k:=fun z=>e (h1.trans z)
   have b:atKey (q::qs) k=atKey qs k:=by simp [atKey,List.find?_cons,e']
   rw [cB e,b];exact ih
theorem KT.Oy {H:Hp}{kvs:List (List Key×V)}{xs:List (List Key×Addr×Value)}(r:KT H kvs xs)(k:List Key){y:V}{u:Value}(ry:RelV y u):
  KT H (kvs.map fun kv=>if kv.1=k then (kv.1,y) else kv) (xs.map (putAt k u)):=by
 induction r with
 |nil=>exact .nil
 | @cons p q ps qs h t ih=>
  rw [List.map_cons,List.map_cons]
  refine .cons ?_ ih
  obtain ⟨h1,h2,h3⟩:=h
  unfold putAt
  by_cases e:p.1=k
  ·rw [if_pos e,if_pos (h1.symm.trans e)];exact ⟨h1,h2,ry⟩
  ·rw [if_neg e,if_neg (fun z=>e (h1.trans z))];exact ⟨h1,h2,h3⟩
theorem KT.put {H:Hp}{kvs:List (List Key×V)}{xs:List (List Key×Addr×Value)}(r:KT H kvs xs)(k:List Key){b:Addr}{y:V}{u:Value}(hb:H b=some (.tup (k.map kV)))(ry:RelV y u):
  KT H (putK kvs k y) (storedH xs k b u):=by
 have e:(kvs.any fun kv=>decide (kv.1=k))=(atKey xs k).isSome:=by
  rw [jx,(r.val k).kO,Option.isSome_map]
 unfold putK storedH
 rw [e]
 by_cases q:(atKey xs k).isSome=true
 ·rw [if_pos q,if_pos q];exact r.Oy k ry
 ·rw [if_neg q,if_neg q];exact Paired.snoc r ⟨rfl,hb,ry⟩
theorem KT.keeps {H H':Hp}{kvs:List (List Key×V)}{xs:List (List Key×Addr×Value)}(r:KT H kvs xs)(ht:∀b ys,H b=some (.tup ys)→H' b=some (.tup ys)):KT H' kvs xs:=
 Paired.bV r fun _ _ z=>⟨z.1,ht _ _ z.2.1,z.2.2⟩
section
variable {P:Program}{w:World}{H:Hp}{h:Heap}{a:Addr}
theorem Nq {u:HO}(ok:mL P w H h)(e:Rd H a u):df P w H h a u:=e.ok ok
theorem qU {kvs:List (Key×V)}(ok:mL P w H h)(e:Rd H a (.dK kvs)):kvs.length≤sizeLine∧(a==sysModules)=false∧∃vs,KV kvs vs∧h.DictOf (bw P w) a vs:=
 show df P w H h a (.dK kvs) from Nq ok e
theorem Nr {kvs:List (Key×V)}(ok:mL P w H h)(e:H a=some (.dK kvs)):kvs.length≤sizeLine∧(a==sysModules)=false∧∃vs,KV kvs vs∧h.DictOf (bw P w) a vs:=qU ok (.inl e)
theorem mW {ks:List Key}(ok:mL P w H h)(e:H a=some (.tup (ks.map kV))):(tupleKind (bw P w)).is h ks a:=by
 obtain ⟨_,aV,r,o,h1,h2,n,h3⟩:=(show df P w H h a (.tup (ks.map kV)) from ok a _ e)
 exact ⟨o,aV.toArray,n,h1,h2,h3,by simpa using zd r⟩
theorem uC {kvs:List (List Key×V)}(ok:mL P w H h)(e:Rd H a (.dT kvs)):kvs.length≤sizeLine∧(a==sysModules)=false∧
  ∃xs,KT H kvs xs∧h.DictOfH (tupleKind (bw P w)) a xs:=by
 obtain ⟨z,y,xs,r,o,es,ep,h1,h2,h3,h4,h5⟩:=(show df P w H h a (.dT kvs) from Nq ok e)
 refine ⟨z,y,xs,r,o,es,ep,h1,h2,h3,h4,fun x hx=> ?_,h5⟩
 have all:∀ {l:List (List Key×V)}{m:List (List Key×Addr×Value)},KT H l m→∀x∈m,(tupleKind (bw P w)).is h x.1 x.2.1:=by
  intro l m q
  induction q with
  |nil=>intro x hx;exact nomatch hx
  | @cons p q ps qs hq t ih=>
   intro x hx
   rcases List.mem_cons.mp hx with e|hx
   ·subst e
    exact mW ok (by rw [←hq.1];exact hq.2.1)
   ·exact ih x hx
 exact all r x hx
theorem Nt {kvs:List (List Key×V)}(ok:mL P w H h)(e:H a=some (.dT kvs)):kvs.length≤sizeLine∧(a==sysModules)=false∧
  ∃xs,KT H kvs xs∧h.DictOfH (tupleKind (bw P w)) a xs:=uC ok (.inl e)
end
def fC (H:Hp)(a:Addr)(y:V)(r:Option V):Prop:=
 (∃kvs k,Rd H a (.dK kvs)∧y=kV k∧r=cN kvs k)∨∃kvs k b,Rd H a (.dT kvs)∧y= .ref b∧H b=some (.tup (k.map kV))∧r=cN kvs k
def wu (H:Hp)(a:Addr)(y v:V)(H':Hp):Prop:=
 (∃kvs k,H a=some (.dK kvs)∧y=kV k∧kvs.length < sizeLine∧H'=upd H a (.dK (putK kvs k v)))∨
 ∃kvs k b,H a=some (.dT kvs)∧y= .ref b∧H b=some (.tup (k.map kV))∧kvs.length < sizeLine∧H'=upd H a (.dT (putK kvs k v))
theorem fC.k {H:Hp}{a:Addr}{kvs:List (Key×V)}{k:Key}(e:H a=some (.dK kvs)):fC H a (kV k) (cN kvs k):= .inl ⟨kvs,k,.inl e,rfl,rfl⟩
theorem fC.t {H:Hp}{a b:Addr}{kvs:List (List Key×V)}{k:List Key}(e:H a=some (.dT kvs))(eb:H b=some (.tup (k.map kV))):fC H a (.ref b) (cN kvs k):= .inr ⟨kvs,k,b,.inl e,rfl,eb,rfl⟩
theorem wu.k {H:Hp}{a:Addr}{kvs:List (Key×V)}{k:Key}{v:V}(e:H a=some (.dK kvs))(hl:kvs.length < sizeLine):wu H a (kV k) v (upd H a (.dK (putK kvs k v))):= .inl ⟨kvs,k,e,rfl,hl,rfl⟩
theorem wu.t {H:Hp}{a b:Addr}{kvs:List (List Key×V)}{k:List Key}{v:V}(e:H a=some (.dT kvs))(eb:H b=some (.tup (k.map kV)))(hl:kvs.length < sizeLine):
  wu H a (.ref b) v (upd H a (.dT (putK kvs k v))):= .inr ⟨kvs,k,b,e,rfl,eb,hl,rfl⟩
section
variable {X:Cx}{pins:List (Addr×Obj)}{σ:St}{H:Hp}{s:Shared}{a:Addr}{y v:V}{u r:Value}{o:Option V}{A:Around}{E:Value→Shared→Prop}
theorem Inv.big (I:Inv X pins σ H s):sysModules < s.heap.objs.size:=by
 have h:mainGlobals < s.heap.objs.size:=(I.mod.glob.keeps I.bk).lt
 exact Nat.lt_trans (by decide) h
theorem GP {Q:Value→Shared→Prop}(hu:A.units + 1 < cLine)(I:Inv X pins σ H s)(g:fC H a y (some v))(ry:RelV y u)(h:∀w' s',Inv X pins σ H s'→RelV v w'→Q w' s'):
  wpAny (model X.prog X.w) A (getItem (.ref a) u) Q E s:=by
 rcases g with ⟨kvs,k,e,ey,l⟩|⟨kvs,k,b,e,ey,eb,l⟩
 ·subst ey
  obtain ⟨z,hd,vs,rel,dd⟩:=qU I.bF e
  obtain ⟨w',hw,Ai⟩:=pw.some_of (v:=v) (o:=valueAt vs k) (by rw [l];exact rel.val k)
  exact wpAny_getItem_of (uB ry) dd.mapOf hw (h w' _ (I.tok _) Ai)
 ·subst ey
  cases (show u=Value.ref b from ry)
  obtain ⟨z,hd,xs,rel,dd⟩:=uC I.bF e
  obtain ⟨w',hw,Ai⟩:=pw.some_of (v:=v) (o:=(atKey xs k).map (·.2)) (by rw [l];exact rel.val k)
  obtain ⟨p,hp,hp2⟩:=Option.map_eq_some_iff.mp hw
  refine wpAny_getItem_heap (tupleKind_room_in1 hu) (mW I.bF eb) dd hp ?_
  rw [hp2]
  exact h w' _ (I.tok _) Ai
theorem abI {Q:Value→Shared→Prop}(hu:A.units + 1 < cLine)(I:Inv X pins σ H s)(g:fC H a y o)(ry:RelV y u)(h:∀s',Inv X pins σ H s'→Q (.bool o.isSome) s'):
  wpAny (model X.prog X.w) A (compareOp .In u (.ref a)) Q E s:=by
 rcases g with ⟨kvs,k,e,ey,l⟩|⟨kvs,k,b,e,ey,eb,l⟩
 ·subst ey
  obtain ⟨z,hd,vs,rel,dd⟩:=qU I.bF e
  refine wpAny_in_of (uB ry) hd dd.mapOf ?_
  rw [←(rel.val k).kO,←l]
  exact h _ (I.tok _)
 ·subst ey
  cases (show u=Value.ref b from ry)
  obtain ⟨z,hd,xs,rel,dd⟩:=uC I.bF e
  refine wpAny_in_heap (tupleKind_room_in1 hu) (mW I.bF eb) hd dd ?_
  have q:=(rel.val k).kO
  rw [Option.isSome_map] at q
  rw [←q,←l]
  exact h _ (I.tok _)
theorem L0 {Q:Value→Shared→Prop}(hu:A.units + 1 < cLine)(I:Inv X pins σ H s)(g:fC H a y o)(ry:RelV y u)(h:∀s',Inv X pins σ H s'→Q (.bool (!o.isSome)) s'):
  wpAny (model X.prog X.w) A (compareOp .NotIn u (.ref a)) Q E s:=by
 rcases g with ⟨kvs,k,e,ey,l⟩|⟨kvs,k,b,e,ey,eb,l⟩
 ·subst ey
  obtain ⟨z,hd,vs,rel,dd⟩:=qU I.bF e
  refine wpAny_notIn_of (uB ry) hd dd.mapOf ?_
  rw [←(rel.val k).kO,←l]
  exact h _ (I.tok _)
 ·subst ey
  cases (show u=Value.ref b from ry)
  obtain ⟨z,hd,xs,rel,dd⟩:=uC I.bF e
  refine wpAny_notIn_heap (tupleKind_room_in1 hu) (mW I.bF eb) hd dd ?_
  have q:=(rel.val k).kO
  rw [Option.isSome_map] at q
  rw [←q,←l]
  exact h _ (I.tok _)
theorem Ay {h':Heap}{t':Nat}{ob:HO}(I:Inv X pins σ H s)(mu:Nb (H a))(hs:Heap.SameBut a s.heap h')(he:∃q,h'.get? a=some q)(new:df X.prog X.w (upd H a ob) h' a ob):
  Inv X pins σ (upd H a ob) {s with heap:=h',toks:=t'}:=
 I.write (x:=a) (e:=a) mu (.inl rfl) (fun b q hb z=>(hs.2 b hb).trans z) he new
theorem Oz {P:Program}{w:World}{H':Hp}{h':Heap}{kvs:List (Key×V)}{vs:List (Key×Value)}(z:kvs.length≤sizeLine)(hd:(a==sysModules)=false)(rel:KV kvs vs)(dd:h'.DictOf (bw P w) a vs):
  df P w H' h' a (.dK kvs):=⟨z,hd,vs,rel,dd⟩
theorem GQ {H':Hp}{Q:Unit→Shared→Prop}(hu:A.units + 1 < cLine)(I:Inv X pins σ H s)(g:wu H a y v H')(ry:RelV y u)(rv:RelV v r)(h:∀s',Inv X pins σ H' s'→Q () s'):
  wpAny (model X.prog X.w) A (setItem (.ref a) u r) Q E s:=by
 rcases g with ⟨kvs,k,e,ey,l,eH⟩|⟨kvs,k,b,e,ey,eb,l,eH⟩
 ·subst ey eH
  obtain ⟨z,hd,vs,rel,dd⟩:=Nr I.bF e
  have hz:vs.length≤sizeLine:=by rw [←rel.length];exact z
  have hl:(putK kvs k v).length≤sizeLine:=by have:=mV kvs k v;omega
  refine wpAny_setItem_pairs (hsz:=hz) (uB ry) dd fun h' Ri hs=>h _ ?_
  have he:∃q,h'.get? a=some q:=let ⟨q,_,_,hq,_⟩:=Ri;⟨q,hq⟩
  exact Ay I (by rw [e];exact True.intro) hs he (Oz hl hd (rel.put k rv) Ri)
 ·subst ey eH
  cases (show u=Value.ref b from ry)
  obtain ⟨z,hd,xs,rel,dd⟩:=Nt I.bF e
  have hz:xs.length≤sizeLine:=by rw [←Paired.length rel];exact z
  have hl:(putK kvs k v).length≤sizeLine:=by have:=mV kvs k v;omega
  refine wpAny_setItem_heap (hsz:=hz) (tupleKind_room_in1 hu) (mW I.bF eb) dd fun h' Ri hs=>h _ ?_
  obtain ⟨q,es,ep,hq,h2,h3,h4,_,h5⟩:=Ri
  refine Ay I (by rw [e];exact True.intro) hs ⟨q,hq⟩ ⟨hl,hd,_,(rel.put k eb rv).keeps fun c ys ec=> ?_,q,es,ep,hq,h2,h3,h4,h5⟩
  rw [az (aW ec e (fun z=>nomatch z))]
  exact ec
end
section
variable {X:Cx}{pins:List (Addr×Obj)}{σ:St}{H:Hp}{s:Shared}{a:Addr}{kvs:List (Key×V)}{k:Key}{u:Value}{A:Around}{E:Value→Shared→Prop}
theorem SU {Q:Value→Shared→Prop}(I:Inv X pins σ H s)(e:Rd H a (.dK kvs))(h:∀t s',Inv X pins σ H s'→Q (.int kvs.length t) s'):wpAny (model X.prog X.w) A (call (.builtin "len") [.ref a]) Q E s:=by
 obtain ⟨z,hd,vs,rel,dd⟩:=qU I.bF e
 refine call_len_dict hd dd (by rw [←rel.length];rw [sizeLine_eq] at z;omega) ?_
 rw [←rel.length]
 exact h _ _ (I.tok _)
end
def L1 (i:Expr):Prop:=∀ov iv,subscripted i false ov iv=operate [ov,iv] (getItem ov iv)
theorem Az {prog:Program}{w:World}{A:Around}{E:Value→Shared→Prop}{s:Shared}{env:Env}{value slice:Expr}{pos:Pos}{T id:String}{Q:Value→Shared→Prop}
  (hl:typeLookup (.type T) "__getitem__"=pure (some (.builtin id)))(hs:L1 slice)
  (h:wpAny (model prog w) A (eval value env) (fun o s₁=>wpAny (model prog w) A (eval slice env) (fun i s₂=>s₂.TypeIs o T∧wpAny (model prog w) A (getItem o i) Q E s₂) E s₁) E s):
  wpAny (model prog w) A (eval (.Subscript value slice pos) env) Q E s:=by
 refine Subscript_ (wpAny_mono h (fun o s₁ h₁=>wpAny_mono h₁ (fun i s₂ h₂=> ?_) fun _ _ x=>x) fun _ _ x=>x)
 obtain ⟨hT,h₂⟩:=h₂
 unfold subscriptTail
 refine wpAny_bind ?_
 rw [getitemInPython_of_ne hT.not_modules]
 refine wpAny_bind (wpAny_specialOf hT hl ?_)
 have fin:wpAny (model prog w) A (subscripted slice false o i) (fun r s₃=>wpAny (model prog w) A (letTemporaryGo value o r >>=fun _=>pure r) Q E s₃) E s₂:=by
  rw [hs o i]
  exact wpAny_operating (wpAny_mono h₂ (fun r s₃ h₃=>wpAny_bind (wpAny_letTemporaryGo (wpAny_pure h₃))) fun _ _ x=>x)
 first
  |exact wpAny_pure (wpAny_bind fin)
  |exact wpAny_bind (wpAny_pure (wpAny_bind fin))
  |exact wpAny_bind fin
theorem Cw {X:Cx}{pins:List (Addr×Obj)}{σ:St}{H:Hp}{s:Shared}{a:Addr}{y:V}{o:Option V}(I:Inv X pins σ H s)(g:fC H a y o):s.TypeIs (.ref a) "dict":=by
 rcases g with ⟨kvs,k,e,_,_⟩|⟨kvs,k,b,e,_,_,_⟩
 ·obtain ⟨_,_,vs,_,dd⟩:=qU I.bF e
  exact dd.typeIs
 ·obtain ⟨_,_,xs,_,dd⟩:=uC I.bF e
  exact dd.typeIs
def SV (td ty:TE):TE:=fun σ H Q=>td σ H fun x H1=>ty σ H1 fun y H2=>∃a v,x= .ref a∧fC H2 a y (some v)∧Q v H2
def abJ (ty td:TE):TE:=fun σ H Q=>ty σ H fun y H1=>td σ H1 fun x H2=>∃a o,x= .ref a∧fC H2 a y o∧Q (.bl o.isSome) H2
def L3 (ty td:TE):TE:=fun σ H Q=>ty σ H fun y H1=>td σ H1 fun x H2=>∃a o,x= .ref a∧fC H2 a y o∧Q (.bl (!o.isSome)) H2
def SW (td ty tv:TE):TS:=fun D σ H=>tv σ H fun v H1=>td σ H1 fun x H2=>ty σ H2 fun y H3=>∃a H4,x= .ref a∧wu H3 a y v H4∧D.nx σ H4
section
variable {X:Cx}{o i e value:Expr}{pos pos' wj:Pos}{td ty tv:TE}
theorem AA (hu:X.A.units + 1 < cLine)(ho:PE X o td)(hi:PE X i ty)(hs:L1 i):PE X (.Subscript o i pos) (SV td ty):=by
 intro pins s σ H Q I h
 refine Az PySem.F.slot_dict_getitem.lookup hs (cI (ho pins s σ H _ I h) fun u s1 ⟨x,H1,I1,rx,q1⟩=>cI (hi pins s1 σ H1 _ I1 q1) fun iv s2 ⟨y,H2,I2,ry,a,v,ex,g,q2⟩=> ?_)
 subst ex
 obtain rfl:u=Value.ref a:=rx
 exact ⟨Cw I2 g,GP hu I2 g ry fun w' s3 I3 Ai=>⟨v,H2,I3,Ai,q2⟩⟩
theorem AB (hu:X.A.units + 1 < cLine)(hi:PE X i ty)(ho:PE X o td):PC X .In i o (abJ ty td):=by
 intro pins s σ H Q I h
 refine cI (hi pins s σ H _ I h) fun iv s1 ⟨y,H1,I1,ry,q1⟩=>cI (ho pins s1 σ H1 _ I1 q1) fun u s2 ⟨x,H2,I2,rx,a,ov,ex,g,q2⟩=> ?_
 subst ex
 obtain rfl:u=Value.ref a:=rx
 exact abI hu I2 g ry fun s3 I3=>⟨.bl ov.isSome,H2,I3,rfl,q2⟩
theorem tG (hu:X.A.units + 1 < cLine)(hi:PE X i ty)(ho:PE X o td):PC X .NotIn i o (L3 ty td):=by
 intro pins s σ H Q I h
 refine cI (hi pins s σ H _ I h) fun iv s1 ⟨y,H1,I1,ry,q1⟩=>cI (ho pins s1 σ H1 _ I1 q1) fun u s2 ⟨x,H2,I2,rx,a,ov,ex,g,q2⟩=> ?_
 subst ex
 obtain rfl:u=Value.ref a:=rx
 exact L0 hu I2 g ry fun s3 I3=>⟨.bl (!ov.isSome),H2,I3,rfl,q2⟩
theorem vC (hu:X.A.units + 1 < cLine)(ho:PE X o td)(hi:PE X i ty)(hv:PE X value tv)(hs:swapsWith value (some (.Subscript o i pos')) pos.line X.env=pure false):
  PS X (.Assign [.Subscript o i pos'] value pos) (SW td ty tv):=by
 intro pins s σ H D I h
 refine wpAny_Assign_Subscript (cI (hv pins s σ H _ I h) fun r s1 ⟨v,H1,I1,rv,q1⟩=>cI (ho pins s1 σ H1 _ I1 q1) fun u s2 ⟨x,H2,I2,rx,q2⟩=>cI (hi pins s2 σ H2 _ I2 q2) fun iv s3 ⟨y,H3,I3,ry,a,H4,ex,g,q3⟩=> ?_) hs
 subst ex
 obtain rfl:u=Value.ref a:=rx
 exact GQ hu I3 g ry rv fun s4 I4=>⟨σ,H4,I4,q3⟩
end
theorem Jj {P:Program}{w:World}{H:Hp}(h:Heap)(hb:sysModules < h.objs.size):df P w H (h.push {cls:= .type "dict",data:= .dict #[] }) h.objs.size (.dK []):=
 ⟨Nat.zero_le _,beq_eq_false_iff_ne.mpr (Ne.symm (Nat.ne_of_lt hb)),[],.nil,Heap.DictOf.new h⟩
theorem Jk {P:Program}{w:World}{H:Hp}(h:Heap)(hb:sysModules < h.objs.size):df P w H (h.push {cls:= .type "dict",data:= .dict #[] }) h.objs.size (.dT []):=
 ⟨Nat.zero_le _,beq_eq_false_iff_ne.mpr (Ne.symm (Nat.ne_of_lt hb)),[],.nil,_,#[],0,Heap.get?_push_size _ rfl,⟨rfl,rfl,rfl⟩,rfl,rfl,List.nodup_nil⟩
def OA:TE:=fun _ H Q=>∀p,H p=none→Q (.ref p) (upd H p (.dK []))
def OB:TE:=fun _ H Q=>∀p,H p=none→Q (.ref p) (upd H p (.dT []))
section
variable {X:Cx}{pos:Pos}
theorem Jl:PE X (.Dict [] [] pos) OA:=fun pins s σ H Q I h=>
 wpAny_Dict_empty ⟨.ref s.heap.objs.size,_,I.laid (a:=s.heap.objs.size) (o:= .dK []) (t':=s.toks) (fun _ _ q=>Heap.get?_push_of_some _ q) (Nat.le_refl _) (Jj s.heap I.big),rfl,h _ (I.bF.fresh (Nat.le_refl _))⟩
theorem wx:PE X (.Dict [] [] pos) OB:=fun pins s σ H Q I h=>
 wpAny_Dict_empty ⟨.ref s.heap.objs.size,_,I.laid (a:=s.heap.objs.size) (o:= .dT []) (t':=s.toks) (fun _ _ q=>Heap.get?_push_of_some _ q) (Nat.le_refl _) (Jk s.heap I.big),rfl,h _ (I.bF.fresh (Nat.le_refl _))⟩
end
structure M1 (X:Cx) (o:Expr) (m:Str) (apos:Pos) (e:Expr) (fi:Pos):Prop where
 base:attributeBase o m X.env (eval o X.env)=eval o X.env
 few:((backTo fi (starEach [e] X.env)).all (fun x=> !x.1) && (backToKw fi (keywordEach [] X.env)).all (fun x=>x.1.isSome)
  && decide (([e] :List Expr).length + ([] :List Keyword).length + (if ([] :List Keyword).isEmpty then 0 else 1) < 30))=true
 line:(apos.endLine==fi.line)=true
 trees:backTo fi (starEach [e] X.env)= [(false,eval e X.env)]
structure M2 (X:Cx) (o:Expr) (m:Str) (apos:Pos) (e f:Expr) (fi:Pos):Prop where
 base:attributeBase o m X.env (eval o X.env)=eval o X.env
 few:((backTo fi (starEach [e,f] X.env)).all (fun x=> !x.1) && (backToKw fi (keywordEach [] X.env)).all (fun x=>x.1.isSome)
  && decide (([e,f] :List Expr).length + ([] :List Keyword).length + (if ([] :List Keyword).isEmpty then 0 else 1) < 30))=true
 line:(apos.endLine==fi.line)=true
 trees:backTo fi (starEach [e,f] X.env)= [(false,eval e X.env),(false,eval f X.env)]
def IsD (H:Hp)(a:Addr):Prop:=(∃kvs,Rd H a (.dK kvs))∨∃kvs,Rd H a (.dT kvs)
theorem D5 {X:Cx}{pins:List (Addr×Obj)}{σ:St}{H:Hp}{s:Shared}{a:Addr}(I:Inv X pins σ H s)(d:IsD H a):
  s.TypeIs (.ref a) "dict"∧(∀b,Value.ref a= .ref b→∃ob,s.heap.get? b=some ob∧ob.dict=none)∧(a==sysModules)=false:=by
 rcases d with ⟨kvs,e⟩|⟨kvs,e⟩
 ·obtain ⟨_,hd,vs,_,dd⟩:=qU I.bF e
  refine ⟨dd.typeIs,fun b q=> ?_,hd⟩
  cases q
  obtain ⟨ob,_,_,h1,h2,_⟩:=dd
  exact ⟨ob,h1,h2.2.1⟩
 ·obtain ⟨_,hd,xs,_,dd⟩:=uC I.bF e
  refine ⟨dd.typeIs,fun b q=> ?_,hd⟩
  cases q
  obtain ⟨ob,_,_,h1,h2,_⟩:=dd
  exact ⟨ob,h1,h2.2.1⟩
section
variable {X:Cx}{pins:List (Addr×Obj)}{σ:St}{H:Hp}{s:Shared}{a:Addr}{y d:V}{u r:Value}{o:Option V}{A:Around}{E:Value→Shared→Prop}
theorem OC {Q:Value→Shared→Prop}(hu:A.units + 1 < cLine)(I:Inv X pins σ H s)(g:fC H a y o)(ry:RelV y u)(h:∀w' s',Inv X pins σ H s'→RelV (o.getD .bu) w'→Q w' s'):
  wpAny (model X.prog X.w) A (call (.builtin "dict.get") [.ref a,u]) Q E s:=by
 rcases g with ⟨kvs,k,e,ey,l⟩|⟨kvs,k,b,e,ey,eb,l⟩
 ·subst ey
  obtain ⟨z,hd,vs,rel,dd⟩:=qU I.bF e
  refine call_meetsIn PySem.F.slot_dict_get dd.typeIs PySem.F.entry_dict_get (PySem.F.args_dict_get_2 _ _) (meets_dict_get (bw X.prog X.w) a (uB ry) hd) ⟨_,dd.mapOf,h _ _ (I.tok _) ?_⟩
  rw [l]
  exact (rel.val k).getD rfl
 ·subst ey
  cases (show u=Value.ref b from ry)
  obtain ⟨z,hd,xs,rel,dd⟩:=uC I.bF e
  refine call_meetsIn PySem.F.slot_dict_get dd.typeIs PySem.F.entry_dict_get (PySem.F.args_dict_get_2 _ _) (meetsH_dict_get (tupleKind (bw X.prog X.w)) a b hd) ⟨tupleKind_room_in1 hu,k,xs,mW I.bF eb,dd,h _ _ (I.tok _) ?_⟩
  rw [l]
  exact (rel.val k).getD rfl
theorem OD {Q:Value→Shared→Prop}(hu:A.units + 1 < cLine)(I:Inv X pins σ H s)(g:fC H a y o)(ry:RelV y u)(rd:RelV d r)(h:∀w' s',Inv X pins σ H s'→RelV (o.getD d) w'→Q w' s'):
  wpAny (model X.prog X.w) A (call (.builtin "dict.get") [.ref a,u,r]) Q E s:=by
 rcases g with ⟨kvs,k,e,ey,l⟩|⟨kvs,k,b,e,ey,eb,l⟩
 ·subst ey
  obtain ⟨z,hd,vs,rel,dd⟩:=qU I.bF e
  refine call_meetsIn PySem.F.slot_dict_get dd.typeIs PySem.F.entry_dict_get (PySem.F.args_dict_get_3 _ _ _) (meets_dict_get_default (bw X.prog X.w) a (uB ry) hd r) ⟨_,dd.mapOf,h _ _ (I.tok _) ?_⟩
  rw [l]
  exact (rel.val k).getD rd
 ·subst ey
  cases (show u=Value.ref b from ry)
  obtain ⟨z,hd,xs,rel,dd⟩:=uC I.bF e
  refine call_meetsIn PySem.F.slot_dict_get dd.typeIs PySem.F.entry_dict_get (PySem.F.args_dict_get_3 _ _ _) (meetsH_dict_get_default (tupleKind (bw X.prog X.w)) a b hd r) ⟨tupleKind_room_in1 hu,k,xs,mW I.bF eb,dd,h _ _ (I.tok _) ?_⟩
  rw [l]
  exact (rel.val k).getD rd
end
def OE (td ty:TE):TE:=fun σ H Q=>td σ H fun x H1=>∃a,x= .ref a∧IsD H1 a∧ty σ H1 fun y H2=>∃o,fC H2 a y o∧Q (o.getD .bu) H2
def OF (td ty tx:TE):TE:=fun σ H Q=>td σ H fun x H1=>∃a,x= .ref a∧IsD H1 a∧ty σ H1 fun y H2=>tx σ H2 fun z H3=>∃o,fC H3 a y o∧Q (o.getD z) H3
section
variable {X:Cx}{o e f:Expr}{apos fi:Pos}{td ty tx:TE}
theorem fS (hu:X.A.units + 1 < cLine)(ho:PE X o td)(he:PE X e ty)(m:M1 X o "get" apos e fi):PE X (.Call (.Attribute o "get" apos) [e] [] fi) (OE td ty):=by
 intro pins s σ H Q I h
 refine wpAny_Call_method m.base m.few m.line PySem.F.plainAttrs_dict PySem.F.slot_dict_get PySem.F.type_dict_get (cI (ho pins s σ H _ I h) fun u s1 ⟨x,H1,I1,rx,a,ex,d,q1⟩=> ?_)
 subst ex
 obtain rfl:u=Value.ref a:=rx
 obtain ⟨t1,t2,_⟩:=D5 I1 d
 refine ⟨t1,t2,?_⟩
 rw [m.trees]
 refine Calls.callWith_builtin rfl (Calls.evalArgs_plain (Calls.spliced_cons (cI (he pins s1 σ H1 _ I1 q1) fun iv s2 ⟨y,H2,I2,ry,ov,g,q2⟩=>Calls.spliced_nil ?_)))
 exact OC hu I2 g ry fun w' s3 I3 Ai=>⟨_,H2,I3,Ai,q2⟩
theorem Jm (hu:X.A.units + 1 < cLine)(ho:PE X o td)(he:PE X e ty)(hf:PE X f tx)(m:M2 X o "get" apos e f fi):PE X (.Call (.Attribute o "get" apos) [e,f] [] fi) (OF td ty tx):=by
 intro pins s σ H Q I h
 refine wpAny_Call_method m.base m.few m.line PySem.F.plainAttrs_dict PySem.F.slot_dict_get PySem.F.type_dict_get (cI (ho pins s σ H _ I h) fun u s1 ⟨x,H1,I1,rx,a,ex,d,q1⟩=> ?_)
 subst ex
 obtain rfl:u=Value.ref a:=rx
 obtain ⟨t1,t2,_⟩:=D5 I1 d
 refine ⟨t1,t2,?_⟩
 rw [m.trees]
 refine Calls.callWith_builtin rfl (Calls.evalArgs_plain (Calls.spliced_cons (cI (he pins s1 σ H1 _ I1 q1) fun iv s2 ⟨y,H2,I2,ry,q2⟩=>
  Calls.spliced_cons (cI (hf pins s2 σ H2 _ I2 q2) fun fv s3 ⟨z,H3,I3,rz,ov,g,q3⟩=>Calls.spliced_nil ?_))))
 exact OD hu I3 g ry rz fun w' s4 I4 Ai=>⟨_,H3,I4,Ai,q3⟩
end
section
variable {X:Cx}{pins:List (Addr×Obj)}{σ:St}{H:Hp}{s:Shared}{a:Addr}{kvs:List (Key×V)}{A:Around}{E:Value→Shared→Prop}
end
section
variable {X:Cx}{pins:List (Addr×Obj)}{σ:St}{H:Hp}{s:Shared}{a:Addr}{y:V}{u:Value}{A:Around}{E:Value→Shared→Prop}
end
end L2
namespace L2
open PySem PySem.Spec PyProof.Rows
section
variable {prog:Program}{w:World}{A:Around}{E:Value→Shared→Prop}
end
section
variable {X:Cx}
end
end L2
namespace L2
open PySem PySem.Spec PyProof.Rows
section
variable {X:Cx}{pins:List (Addr×Obj)}{σ:St}{H:Hp}{s:Shared}{h':Heap}
theorem Inv.L4 {t':Nat}{ch:List Addr}(I:Inv X pins σ H s)(k:∀b o,b ∉ ch→s.heap.get? b=some o→h'.get? b=some o)(hf:∀b∈ch,vk X pins H b):Inv X pins σ H {s with heap:=h',toks:=t'}:=by
 have Nc:∀b u,H b=some u→b ∉ ch:=fun b u e z=>by
  have q:=(hf b z).1
  rw [q] at e;cases e
 refine I.step (g':=s.gens) (d':=s.drawn) (ch:=ch) (fun b hb=>⟨(hf b hb).2.2.2.1,(hf b hb).2.1,(hf b hb).2.2.2.2.1,(hf b hb).2.2.2.2.2⟩) (fun b o _ _ hc e _=>k b o hc e) (fun b o _ _ hc e _=>⟨o.slots,k b o hc e⟩)
  (fun _ _ _ _ n=>n) (fun b o hc e=>⟨o,k b o hc e⟩) (fun _ _ e=>e) (fun _ _ _ e=>e) (fun b ps e=>⟨#[],by rw [e];simp⟩) (fun m hm=> ?_) (fun b u e=> ?_) I.bare
 ·obtain ⟨o,es,ep,ho,r⟩:=hm
  exact ⟨o,es,ep,k _ o (fun z=>(hf _ z).2.1 rfl) ho,r⟩
 ·refine (I.bF b u e).ye (fun c v hc q=>k c v ?_ q) (fun _ q=>q) fun _ _ q=>q
  rcases hc with z|z
  ·rw [z];exact Nc b u e
  ·exact Nc c _ z
theorem Inv.ze {t':Nat}{ch:List Addr}{T:Addr}{ob:HO}(I:Inv X pins σ H s)(k:∀b o,b ∉ ch→s.heap.get? b=some o→h'.get? b=some o)(hf:∀b∈ch,vk X pins H b)(hT:s.heap.objs.size≤T)
  (new:df X.prog X.w (upd H T ob) h' T ob):Inv X pins σ (upd H T ob) {s with heap:=h',toks:=t'}:=by
 have hn:H T=none:=I.bF.fresh hT
 have Nc:∀b u,H b=some u→b ∉ ch:=fun b u e z=>by
  have q:=(hf b z).1
  rw [q] at e;cases e
 refine I.step (g':=s.gens) (d':=s.drawn) (ch:=ch) (fun b hb=>⟨(hf b hb).2.2.2.1,(hf b hb).2.1,(hf b hb).2.2.2.2.1,(hf b hb).2.2.2.2.2⟩) (fun b o _ _ hc e _=>k b o hc e) (fun b o _ _ hc e _=>⟨o.slots,k b o hc e⟩)
  (fun b o _ e n=> ?_) (fun b o hc e=>⟨o,k b o hc e⟩) (fun b xs e=> ?_) (fun b o u e=> ?_) (fun b ps e=>⟨#[],?_⟩) (fun m hm=> ?_) (fun b u e=> ?_) I.bare
 ·rw [az (Nat.ne_of_lt (Nat.lt_of_lt_of_le (Heap.lt_size e) hT))];exact n
 ·rw [az (aF e hn)];exact e
 ·rw [az (aF e hn)];exact e
 ·rw [az (aF e hn),e];simp
 ·obtain ⟨o,es,ep,ho,r⟩:=hm
  exact ⟨o,es,ep,k _ o (fun z=>(hf _ z).2.1 rfl) ho,r⟩
 ·by_cases hb:b=T
  ·subst hb
   rw [ab] at e
   cases e
   exact new
  ·rw [az hb] at e
   refine (I.bF b u e).ye (fun c v hc q=>k c v ?_ q) (fun c q=>by rw [az (aF q hn)];exact q) fun c xs q=>by rw [az (aF q hn)];exact q
   rcases hc with z|z
   ·rw [z];exact Nc b u e
   ·exact Nc c _ z
theorem Inv.lock {d:Addr}{u:HO}(I:Inv X pins σ H s)(h:H d=some u)(mu:Nb (some u)):∃od,Inv X pins σ (upd H d (.iw od u)) s:=by
 have x:=I.bF d u h
 have ex:∃od,s.heap.get? d=some od:=by
  cases u with
  |lst xs=>obtain ⟨_,_,_,_,e⟩:=x;exact ⟨_,e⟩
  |dK kvs=>obtain ⟨_,_,_,_,o,_,_,e,_⟩:=x;exact ⟨o,e⟩
  |dT kvs=>obtain ⟨_,_,_,_,o,_,_,e,_⟩:=x;exact ⟨o,e⟩
  |set S n=>obtain ⟨o,_,_,_,e,_⟩:=x;exact ⟨o,e⟩
  |ins C dx fs=>obtain ⟨_,_,_,e,_⟩:=x;exact ⟨_,e⟩
  |ext φ=>obtain ⟨_,⟨_,e⟩,_⟩:=x;exact ⟨_,e⟩
  |_=>exact False.elim mu
 obtain ⟨od,e⟩:=ex
 have new:df X.prog X.w (upd H d (.iw od u)) s.heap d (.iw od u):=by
  refine ⟨e,x.ye (fun b v _ q=>q) (fun b q=> ?_) fun b xs q=> ?_⟩
  ·rw [az (fun z=>by rw [z,h] at q;cases q;exact mu)];exact q
  ·rw [az (fun z=>by rw [z,h] at q;cases q;exact mu)];exact q
 exact ⟨od,I.write (x:=d) (e:=d) (t':=s.toks) (h':=s.heap) (by rw [h];exact mu) (.inl rfl) (fun b v _ q=>q) ⟨od,e⟩ new⟩
theorem Inv.SX {d:Addr}{u:HO}(I:Inv X pins σ H s)(h:H d=some u)(mu:Nb (some u)):∀o' u',X.N0 d≠some (.iw o' u'):=fun o' u' e=>by
 have q:=I.base.vV d o' u' e
 rw [h] at q
 cases q
 exact mu
theorem Inv.unlock {d:Addr}{od:Obj}{u:HO}(I:Inv X pins σ H s)(h:H d=some (.iw od u))(hn:∀o' u',X.N0 d≠some (.iw o' u')):Inv X pins σ (upd H d u) s:=by
 have Rj:∀b o,H b=some o→(∀o' u',o≠ .iw o' u')→b≠d:=fun b o e pz z=>by
  rw [z,h] at e
  cases e
  exact pz _ _ rfl
 have neN:∀b,H b=none→b≠d:=fun b e z=>by rw [z,h] at e;cases e
 refine ⟨I.ok,I.os,I.bare,⟨I.base.keep,I.base.slot,fun b o e n hx=> ?_,I.base.there,fun b xs e=> ?_,fun b o x e=> ?_,fun b ps e=> ?_⟩,I.loc,I.cell,?_,fun x c e=> ?_,fun p hp=> ?_,fun b o e=> ?_,I.len⟩
 ·rw [az (neN b (I.base.free b o e n hx))];exact I.base.free b o e n hx
 ·have q:=I.base.vU b xs e
  rw [az (Rj b _ q (fun _ _ z=>nomatch z))];exact q
 ·have q:=I.base.vV b o x e
  rw [az (fun z=>by rw [z] at e;exact hn _ _ e)];exact q
 ·obtain ⟨m,q⟩:=I.base.z9 b ps e
  exact ⟨m,by rw [az (Rj b _ q (fun _ _ z=>nomatch z))];exact q⟩
 ·rw [az (neN _ I.free)];exact I.free
 ·rw [az (neN c (I.kI x c e))];exact I.kI x c e
 ·obtain ⟨e,n,r⟩:=I.pin p hp
  exact ⟨e,by rw [az (neN _ n)];exact n,r⟩
 ·by_cases hb:b=d
  ·rw [hb,ab] at e
   cases e
   rw [hb]
   obtain ⟨_,x⟩:=I.bF d _ h
   exact x.ye (fun c v _ q=>q) (fun c q=>by rw [az (Rj c _ q (fun _ _ z=>nomatch z))];exact q) fun c xs q=>by rw [az (Rj c _ q (fun _ _ z=>nomatch z))];exact q
  ·rw [az hb] at e
   exact (I.bF b o e).ye (fun c v _ q=>q) (fun c q=>by rw [az (Rj c _ q (fun _ _ z=>nomatch z))];exact q) fun c xs q=>by rw [az (Rj c _ q (fun _ _ z=>nomatch z))];exact q
end
def OG (t:TE):TE:=fun σ H Q=>∃d u,H d=some u∧Nb (some u)∧∀od,t σ (upd H d (.iw od u)) fun v H'=>H' d=some (.iw od u)∧Q v (upd H' d u)
section
variable {X:Cx}
theorem AD {e:Expr}{t:TE}(h:PE X e t):PE X e (OG t):=by
 intro pins s σ H Q I hw
 obtain ⟨d,u,hd,mu,hw⟩:=hw
 obtain ⟨od,I1⟩:=I.lock hd mu
 refine cI (h pins s σ _ _ I1 (hw od)) fun v s1 ⟨x,H1,I2,r,e2,q⟩=> ?_
 exact ⟨x,_,I2.unlock e2 (I.SX hd mu),r,q⟩
theorem D6 {tg:Expr}{pins:List (Addr×Obj)}{σ:St}{H:Hp}{s:Shared}{R:It→Hp→Prop}{J:It}{tn:Nat→Heap→Prop}{tk:Nat}(I:Inv X pins σ H s)(o:Obj)
  (T:Turn X.prog X.w X.K tg J [s.heap.objs.size] s.heap.objs.size tn)(st:tn 0 (s.heap.push o))(q:R J H):RZ X pins σ tg R (.ref s.heap.objs.size) {s with heap:=s.heap.push o,toks:=tk}:=by
 refine ⟨s.heap.objs.size,[s.heap.objs.size],tn,J,H,rfl,I.kept fun b ob e=>Heap.get?_push_of_some _ e,T,st,fun b hb=> ?_,q⟩
 have e:b=s.heap.objs.size:=by simpa using hb
 subst e
 exact I.GB (Nat.le_refl _) (I.bF.fresh (Nat.le_refl _))
end
def Itc (lo c:Int)(n:Nat):It:=⟨fun i _=>i < n,fun i H x H'=>H'=H∧x= .int (lo + (i:Nat) * c),fun i _=>n≤i⟩
theorem Cy {P:Program}{w:World}{K:PySem.W.Frag}{tg:Expr}(it:Addr)(lo c:Int)(n:Nat):Turn P w K tg (Itc lo c n) [it] it (fun i h=>IsRangeIter h it (lo + (i:Nat) * c) ((n:Int) - (i:Nat)) c) where
 mem:=by simp
 obj:=fun i h st b hb=>by
  have e:b=it:=by simpa using hb
  subst e
  exact ⟨_,st,fun v z=>nomatch z⟩
 keep:=fun i h h' st k=>k it (by simp) _ st
 item:=by
  intro X hP hw hK hc i pins s σ H E I hf st hg
  subst hP hw hK
  obtain ⟨f0,f1,f2,f3,f4,f5⟩:=hf it (by simp)
  have W:=Walks.range (prog:=X.prog) (w:=X.w) (I.ok.hd hc) it lo c n
  refine W.item i s _ _ hg st fun v h' tk hv yi kk=> ?_
  obtain ⟨t,rfl⟩:=hv
  have I1:Inv X pins σ H {s with heap:=h',toks:=tk}:=I.turned (fun b o hb e=>kk b o (by simpa using hb) e) f0 f1 f3 f4 f5
  exact ⟨_,rfl,Cg (s:={s with heap:=h',toks:=tk}) (n:="range_iterator") yi rfl rfl (by decide) ⟨.int (lo + (i:Nat) * c),H,I1,⟨t,rfl⟩,⟨rfl,rfl⟩,yi,fun b hb=>(hf b hb).1⟩⟩
 done:=by
  intro X hP hw hK hc i pins s σ H E I hf st hg
  subst hP hw hK
  obtain ⟨f0,f1,f2,f3,f4,f5⟩:=hf it (by simp)
  exact wpAny_pyNext_range_end (I.ok.hd hc) st (by have:n≤i:=hg;omega) fun h' eb=>⟨rfl,I.turned (t':=s.toks) (fun b o hb e=>eb b o hb e) f0 f1 f3 f4 f5⟩
 self:=fun A i s Q E st h=>wpAny_pyIter_rangeiter st h
def RgC (i j c:Int)(n:Nat):Prop:=c≠0∧c.natAbs < 1073741824∧Builtin.Range.small i j c=true∧Builtin.Range.rangeSize i j c=n
def SY (ta:TA):TI:=fun σ H R=>ta σ H fun vs H1=>∃ (i j c:Int)(n:Nat),vs= [.int i,.int j,.int c] ∧RgC i j c n∧R (Itc i c n) H1
section
variable {X:Cx}{tg:Expr}
theorem GR {a b c:Expr}{ta:TA}{p pos:Pos}(hg:Gl X "range")(hm:X.mg "range"=none)(ha:PA X [a,b,c] ta)
  (hs:starEach [a,b,c] X.env=(false,eval a X.env)::starEach [b,c] X.env:=by rfl)(dB:(backTo pos (starEach [b,c] X.env)).any (·.1)=false:=by rfl):
  PI X tg (.Call (.Name "range" p) [a,b,c] [] pos) (SY ta):=by
 intro pins s σ H R I h
 refine Call_ (tq I hg hm boot_range (PyProof.Rows.callWith_type1 (cI (ha pos pins s σ H _ I h) fun us s1 ⟨vs,H1,I1,r1,q1⟩=> ?_) hs dB))
 obtain ⟨i,j,k,n,e,⟨c0,c1,c2,c3⟩,q⟩:=q1
 subst e
 cases r1 with
 |cons r rr=>
  cases rr with
  |cons r' rr=>
   cases rr with
   |cons r'' rr=>
    cases rr
    obtain ⟨t,rfl⟩:=r
    obtain ⟨t',rfl⟩:=r'
    obtain ⟨t'',rfl⟩:=r''
    refine call_range_3 c0 ?_ (.inl (PyProof.noPylong_small c1))
    refine wpAny_pyIter_range (IsRange.new ..) c2 ?_
    have I2:Inv X pins σ H1 {s1 with heap:=s1.heap.push {cls:= .type "range",data:= .fields #[.int i t,.int j t',.int k t''] } }:=I1.kept (t':=s1.toks) fun b o e=>Heap.get?_push_of_some _ e
    refine D6 (tk:=s1.toks) I2 _ (Cy _ i k n) ?_ q
    have e1:i + ((0:Nat):Int) * k=i:=by simp
    have e2:(n:Int) - ((0:Nat):Int)=Builtin.Range.rangeSize i j k:=by rw [c3];simp
    show IsRangeIter _ _ (i + ((0:Nat):Int) * k) ((n:Int) - ((0:Nat):Int)) k
    rw [e1,e2]
    exact Heap.get?_push_size _ rfl
end
section
variable {X:Cx}{tg:Expr}
end
section
variable {prog:Program}{w:World}{A:Around}{E:Value→Shared→Prop}{s:Shared}
end
theorem OH {κ:Type}{kvs:List (κ×V)}{vs:List (κ×Value)}(h:KV kvs vs):∀ {i:Nat}{k:κ}{v:V},kvs[i]?=some (k,v)→∃u,vs[i]?=some (k,u)∧RelV v u:=by
 unfold KV at h
 induction h with
 |nil=>intro i k v e;simp at e
 | @cons a b l₁ l₂ r t ih=>
  intro i k v e
  cases i with
  |zero=>
   simp only [List.getElem?_cons_zero,Option.some.injEq] at e
   subst e
   refine ⟨b.2,?_,r.2⟩
   simp only [List.getElem?_cons_zero]
   exact congrArg some (Prod.ext r.1.symm rfl)
  |succ j=>
   simp only [List.getElem?_cons_succ] at e ⊢
   exact ih e
theorem D7 {α β:Type}{G:α→β→Prop}{l₁:List α}{l₂:List β}(h:Paired G l₁ l₂):∀ {i:Nat}{a:α},l₁[i]?=some a→∃b,l₂[i]?=some b∧G a b:=by
 induction h with
 |nil=>intro i a e;simp at e
 | @cons a b l₁ l₂ r t ih=>
  intro i a' e
  cases i with
  |zero=>
   simp only [List.getElem?_cons_zero,Option.some.injEq] at e
   subst e
   exact ⟨b,rfl,r⟩
  |succ j=>
   simp only [List.getElem?_cons_succ] at e ⊢
   exact ih e
section
variable {X:Cx}{pins:List (Addr×Obj)}{σ:St}{H:Hp}{s:Shared}{d:Addr}{o:Obj}
theorem Inv.OI {kvs:List (Key×V)}(I:Inv X pins σ H s)(h:H d=some (.iw o (.dK kvs))):
  (d==sysModules)=false∧s.heap.get? d=some o∧o.ExactDict∧∃ (es:Array DictEntry)(ep:Nat)(vs:List (Key×Value)),o.data= .dict es ep∧es.size=kvs.length∧KV kvs vs∧s.heap.DictAt (bw X.prog X.w) d vs ep:=by
 obtain ⟨hd,z,hs,vs,kv,o',es,ep,ho,hx,AE,r⟩:=I.bF d _ h
 rw [hd] at ho
 cases ho
 refine ⟨hs,hd,hx,es,ep,vs,AE,?_,kv,o,es,hd,hx,AE,r⟩
 have l1:=r.2.1.length
 have l2:kvs.length=vs.length:=Paired.length kv
 rw [Array.length_toList] at l1
 omega
end
def S8 (d:Addr)(o:Obj)(kvs:List (Key×V)):It:=
 ⟨fun i H=>H d=some (.iw o (.dK kvs))∧i < kvs.length,fun i H x H'=>H'=H∧∃k,kvs[i]?=some (k,x),fun i H=>H d=some (.iw o (.dK kvs))∧kvs.length≤i⟩
theorem vD {o:Obj}{es Lr:Array DictEntry}{ep Iv:Nat}(h:o.data= .dict es ep)(h':o.data= .dict Lr Iv):Lr=es∧Iv=ep:=by
 rw [h] at h'
 cases h'
 exact ⟨rfl,rfl⟩
section
variable {P:Program}{w:World}{K:PySem.W.Frag}{tg:Expr}{d:Addr}{o:Obj}{es:Array DictEntry}{ep:Nat}
theorem GS {kvs:List (Key×V)}(it:Addr)(S9:o.data= .dict es ep):Turn P w K tg (S8 d o kvs) [it] it (fun i h=>h.IsValIter it d i kvs.length ep) where
 mem:=by simp
 obj:=fun i h st b hb=>by
  have e:b=it:=by simpa using hb
  subst e
  obtain ⟨oi,e,c,dd⟩:=st
  exact ⟨oi,e,fun v z=>by rw [dd] at z;cases z⟩
 keep:=fun i h h' st k=>st.at fun oi e=>k it (by simp) oi e
 item:=by
  intro X hP hw hK hc i pins s σ H E I hf st hg
  subst hP hw hK
  obtain ⟨hd,hi⟩:=hg
  obtain ⟨f0,f1,f2,f3,f4,f5⟩:=hf it (by simp)
  obtain ⟨hs,Jn,hx,Lr,Iv,vs,AE,hsz,kv,hm⟩:=I.OI hd
  obtain ⟨rfl,rfl⟩:=vD S9 AE
  obtain ⟨⟨k,v⟩,B2⟩:∃p,kvs[i]?=some p:=⟨kvs[i],List.getElem?_eq_getElem hi⟩
  obtain ⟨u,hu,ru⟩:=OH kv B2
  have hl:kvs.length=vs.length:=Paired.length kv
  rw [hl] at st
  refine wpAny_pyNext_values_item st hm hu fun h' yi sb=> ?_
  have I1:Inv X pins σ H {s with heap:=h'}:=I.turned (t':=s.toks) (fun b ob hb e=>(sb.2 b hb).trans e) f0 f1 f3 f4 f5
  obtain ⟨oi,e,c,dd⟩:=id yi
  refine ⟨u,rfl,Cg (s:={s with heap:=h'}) e c dd (by decide) ⟨v,H,I1,ru,⟨rfl,k,B2⟩,?_,fun b hb=>(hf b hb).1⟩⟩
  show h'.IsValIter it d (i + 1) kvs.length _
  rw [hl]
  exact yi
 done:=by
  intro X hP hw hK hc i pins s σ H E I hf st hg
  subst hP hw hK
  obtain ⟨hd,hi⟩:=hg
  obtain ⟨f0,f1,f2,f3,f4,f5⟩:=hf it (by simp)
  obtain ⟨hs,Jn,hx,Lr,Iv,vs,AE,hsz,kv,hm⟩:=I.OI hd
  obtain ⟨rfl,rfl⟩:=vD S9 AE
  have hl:kvs.length=vs.length:=Paired.length kv
  rw [hl] at st
  exact wpAny_pyNext_values_end (I.ok.hd hc) st hm (List.getElem?_eq_none (by omega)) fun h' eb=>⟨rfl,I.turned (t':=s.toks) (fun b ob hb e=>eb b ob hb e) f0 f1 f3 f4 f5⟩
 self:=fun A i s Q E st h=>wpAny_pyIter_valiter st h
end
def Ta (td:TE):TI:=fun σ H R=>td σ H fun x H1=>∃d o kvs,x= .ref d∧H1 d=some (.iw o (.dK kvs))∧R (S8 d o kvs) H1
section
variable {X:Cx}{tg e:Expr}{td:TE}{apos fi:Pos}
theorem zf (he:PE X e td)(Ck:attributeBase e "values" X.env (eval e X.env)=eval e X.env:=by rfl)(Cm:(apos.endLine==fi.line)=true:=by rfl):PI X tg (.Call (.Attribute e "values" apos) [] [] fi) (Ta td):=by
 intro pins s σ H R I h
 refine wpAny_Call_method (T:="dict") (id:="dict.values") Ck rfl Cm F.plainAttrs_dict F.slot_dict_values F.type_dict_values (cI (he pins s σ H _ I h) fun u s1 ⟨x,H1,I1,rx,d,o,kvs,ex,hd,q⟩=> ?_)
 subst ex
 obtain rfl:u=Value.ref d:=rx
 obtain ⟨hs,Jn,hx,es,ep,vs,AE,hsz,kv,hm⟩:=I1.OI hd
 have hl:kvs.length=vs.length:=Paired.length kv
 refine ⟨hm.dictOf.typeIs,hm.dictOf.mapOf.noDict,?_⟩
 have I2:Inv X pins σ H1 {s1 with heap:=s1.heap.push {cls:= .type "dict_values",data:= .fields #[.ref d] } }:=I1.kept (t':=s1.toks) fun b ob q=>Heap.get?_push_of_some _ q
 have fin:wpAny (model X.prog X.w) X.A (pyIter (.ref s1.heap.objs.size)) (RZ X pins σ tg R) X.xe {s1 with heap:=s1.heap.push {cls:= .type "dict_values",data:= .fields #[.ref d] } }:=by
  refine wpAny_pyIter_values (d:=d) (knd:=bw X.prog X.w) ⟨_,Heap.get?_push_size _ rfl,rfl,rfl⟩ (hm.push _) (D6 (tk:=s1.toks) I2 _ (GS _ AE) ⟨_,Heap.get?_push_size _ rfl,rfl,?_⟩ q)
  rw [hl] <;>rfl
 show wpAny _ _ (callWith fi (.builtin "dict.values") [.ref d] [] []) _ X.xe s1
 exact method_meetsIn F.slot_dict_values F.entry_dict_values rfl (PySem.evalArgs_none ⟨rfl,hm.dictOf.typeIs,F.args_dict_values_1 _,_,meets_dict_values (bw X.prog X.w) d hs,⟨vs,hm.dictOf⟩,fin⟩)
end
theorem GU:bootBuiltins "zip"=some (.type "zip"):=by decide +kernel
end L2
section
namespace abK
open PySem PyProof.Rows
end abK
end
section
namespace TL
open PySem PySem.Builtin PySem.Builtin.Str PySem.StrLaws
end TL
end
namespace L2
open PySem PySem.Spec PyProof.Rows
section
variable {X:Cx}{pins:List (Addr×Obj)}{σ:St}{H:Hp}{s:Shared}{Q:VK}
end
section
variable {X:Cx}
end
section
variable {X:Cx}{o e:Expr}{to te:TE}
end
end L2
namespace L2
open PySem PySem.Spec PyProof.Rows
section
variable {X:Cx}
end
end L2
namespace Att
open PySem PySem.W PySem.Calls PyProof.Rows
section
variable {prog:Program}{w:World}{A:Around}{E:Value→Shared→Prop}{s:Shared}{K:Frag}
end
end Att
namespace L2
open PySem PySem.Spec PyProof.Rows
end L2
namespace L2
open PySem PySem.Spec PyProof.Rows
abbrev KOf {K:PySem.W.Frag}{h:Heap}(_:K.In h):PySem.W.Frag:=K
end L2
namespace L2
open PySem PySem.Spec PyProof.Rows
def inClass (s:Stmt)(j:Nat):Stmt:=match s with
 | .ClassDef _ _ _ body _ _ _ _ _ _ _=>body.getD j (.Pass ⟨0,0,0,0⟩)
 |_=> .Pass ⟨0,0,0,0⟩
def qV (s:Stmt):Arguments:=match s with
 | .FunctionDef _ a _ _ _ _ _ _ _ _=>a
 |_=>{posonlyargs:= [],args:= [],vararg:=none,kwonlyargs:= [],kw_defaults:= [],kwarg:=none,defaults:= [] }
def oC (s:Stmt):List Stmt:=match s with
 | .FunctionDef _ _ b _ _ _ _ _ _ _=>b
 |_=> []
def ay (s:Stmt):Scope:=match s with
 | .FunctionDef _ _ _ _ _ _ sc _ _ _=>sc
 |_=>{kind:= .function,names:= [],isGenerator:=false,isCoroutine:=false}
abbrev dY:DX:=fun _ _ _ _ _ _=>False
abbrev E0:XK:=fun _ _ _=>False
theorem aQ {X:Cx}:Passes dY X E0:=fun _ _ _ _ _ _ _ h=>h.elim
structure eh (K:PySem.W.Frag) (x qual:Str) (st:Stmt) (f:Addr) (fd:FuncData):Prop where
 ex:∃ (oc:Value)(od:Option Addr)(kV doc pm:Value)(an:Option Addr)(de ct:Value)(LQ:Array (Option Value)),
  fd=PySem.W.fnOf x qual (qV st) (oC st) (ay st) .none kV doc pm an de ct∧K.lookup f=some ⟨oc,od,.func fd,LQ⟩∧PySem.W.codeIn K de qual=true
 kp:PySem.W.keepIn K (.ref f)=true
section
variable {P:Program}{w:World}{K:PySem.W.Frag}{mg:Str→Option Value}{base:Heap}
theorem eh.ok {x qual:Str}{st:Stmt}{f:Addr}{fd:FuncData}{N ps:List Str}{k:Nat}{sp:Sp}(F:eh K x qual st f fd)(S:aB N ps (ay st))(len:∀vs H Q E,sp vs H Q E→vs.length=ps.length)
  (IZ:∀ (de:Value)(A:Around)(outer:List Env)(s:Shared)(H:Hp)(vs:List V)(Q:VK)(E:XK),fN k (A.deeper (envOfC qual (ay st) s.heap.objs.size f de))→sp vs H Q E→
   ∃t,GA (GK dY P w K mg base N qual (ay st) f de A outer s H E).nox (oC st) t∧t {nx:=fun _ H'=>Q .bu H',rt:=Q} (start N vs) H):a7 P w K mg base dY (k + 1) f fd ps sp:=by
 obtain ⟨oc,od,kV,doc,pm,an,de,ct,LQ,rfl,lk,qI⟩:=F.ex
 refine Sr lk qI S len fun A outer s H vs Q E hr Iy=> ?_
 obtain ⟨t,h,q⟩:=IZ de A outer s H vs Q E hr Iy
 exact ⟨t,h.nox,q⟩
theorem eh.binds {x qual:Str}{st:Stmt}{f:Addr}{fd:FuncData}{ps:List Str}(F:eh K x qual st f fd)
  (h:∀ (kV doc pm:Value)(an:Option Addr)(de ct:Value)(us:List Value),us.length=ps.length→bindArgs (PySem.W.fnOf x qual (qV st) (oC st) (ay st) .none kV doc pm an de ct) ⟨us,[]⟩=pure (ps.zip us)):Binds K fd ps [] :=by
 obtain ⟨oc,od,kV,doc,pm,an,de,ct,LQ,rfl,lk,qI⟩:=F.ex
 exact .all (h kV doc pm an de ct)
theorem ax {x qual:Str}{st:Stmt}{f:Addr}{oc:Value}{od an:Option Addr}{LQ:Array (Option Value)}{kV doc pm de ct:Value}(l:K.lookup f=some ⟨oc,od,.func (PySem.W.fnOf x qual (qV st) (oC st) (ay st) .none kV doc pm an de ct),LQ⟩)
  (c:PySem.W.codeIn K de qual=true)(k:PySem.W.keepIn K (.ref f)=true):eh K x qual st f (PySem.W.fnOf x qual (qV st) (oC st) (ay st) .none kV doc pm an de ct):=⟨⟨oc,od,kV,doc,pm,an,de,ct,LQ,rfl,l,c⟩,k⟩
end
theorem fE {A:Around}{k:Nat}(hr:fN k A):A.units + 1 < cLine:=Nat.lt_of_le_of_lt (Nat.add_le_add_left (by decide:1≤64) _) hr.units
section
variable {X:Cx}
theorem pv (i:Nat){x:Str}{pos:Pos}(hN:X.N[i]?=some x:=by rfl)(hv:Q9 X.env.scope x:=by first|exact Or.inl rfl|exact Or.inr (Or.inl rfl)|exact Or.inr (Or.inr rfl))(hd:(x==("__debug__":Str))=false:=by decide)
  (qI:(x==("__classdict__":Str))=false:=by decide):PE X (.Name x pos) (RP i):=N3 hN hv hd qI
theorem zg:jL X (.builtin "len") (fun xs H Q=>∃a kvs,xs= [V.ref a] ∧H a=some (.dK kvs)∧Q (.int kvs.length) H):=by
 intro pins s σ H xs us Q I r h
 obtain ⟨a,kvs,rfl,ha,q⟩:=h
 obtain ⟨u,rfl,ru⟩:=vals1 r
 cases ru
 exact SU I (.inl ha) fun t s' I'=>⟨.int kvs.length,H,I',⟨t,rfl⟩,q⟩
end
theorem bf {A B:Prop}(h:B):if false=true then A else B:=by
 rw [if_neg Bool.false_ne_true]
 exact h
theorem a8 {A B:Prop}(h:A):if true=true then A else B:=by
 rw [if_pos rfl]
 exact h
theorem dM {c A B:Prop} [Decidable c] (h1:c→A)(h2:¬c→B):if c then A else B:=by
 by_cases h:c
 ·rw [if_pos h]
  exact h1 h
 ·rw [if_neg h]
  exact h2 h
theorem Jo {c A B:Prop} [Decidable c] (hc:c)(h:B):if (!decide c)=true then A else B:=by
 rw [decide_eq_true hc]
 exact bf h
def aj (H H':Hp):Prop:=∀b o,H b=some o→H' b=some o
theorem aj.refl (H:Hp):aj H H:=fun _ _ h=>h
theorem aj.trans {H H1 H2:Hp}(a:aj H H1)(b:aj H1 H2):aj H H2:=fun c o h=>b c o (a c o h)
theorem aj.free {H H':Hp}(e:aj H H'){l:Addr}(h:H' l=Option.none):H l=Option.none:=by
 cases q:H l with
 |none=>rfl
 |some o=>
  rw [e l o q] at h
  cases h
theorem aj.seq {K:PySem.W.Frag}{H H':Hp}{a:Addr}{xs:List V}(e:aj H H')(h:bT K H a xs):bT K H' a xs:=by
 rcases h with (h|⟨o,h⟩)|h
 ·exact .inl (.inl (e _ _ h))
 ·exact .inl (.inr ⟨o,e _ _ h⟩)
 ·exact .inr h
section
variable {κ:Type} [DecidableEq κ]
theorem L5 {kvs:List (κ×V)}{k:κ}{v:V}(h:cN kvs k=some v):k∈kvs.map (·.1):=by
 have q:(kvs.any fun kv=>decide (kv.1=k))=true:=by
  rw [jx,h]
  all_goals rfl
 obtain ⟨p,hp,e⟩:=List.any_eq_true.mp q
 exact List.mem_map.mpr ⟨p,hp,of_decide_eq_true e⟩
end
theorem Nu {α:Type}{l:List α}(hN:l.Nodup){i j:Nat}{x:α}(a:l[i]?=some x)(b:l[j]?=some x):i=j:=by
 obtain ⟨h1,e1⟩:=List.getElem?_eq_some_iff.mp a
 obtain ⟨h2,e2⟩:=List.getElem?_eq_some_iff.mp b
 exact (List.getElem_inj hN).mp (e1.trans e2.symm)
theorem aj.made {H H1:Hp}{x dx C:Addr}(nx:H x=Option.none)(nd:H dx=Option.none)(k:∀b o,(upd (upd H dx (.own x)) x (.ins C dx [])) b=some o→b≠x→H1 b=some o):aj H H1:=fun b o e=>
 k b o (by rw [az (aF e nx),az (aF e nd)];exact e) (aF e nx)
end L2
section
set_option Elab.async false
set_option maxRecDepth 100000
namespace L2
open PySem PySem.Spec PyProof.Rows
open PySem.W (WData Codec OpenSpec Well WellAll ReadsW ReadsAllW)
mutual
inductive Dw (K:PySem.W.Frag) (H:Hp):V→WData→Prop
 |bu:Dw K H .bu .none
 |bl (b:Bool):Dw K H (.bl b) (.bool b)
 |int (i:Int):Dw K H (.int i) (.int i)
 |str (x:Str):Dw K H (.str x) (.str x)
 |Cc (b:Array UInt8):Dw K H (.Cc b) (.bytes b.toList)
 |lst {a:Addr} {xs:List V} {ds:List WData}:bT K H a xs→mz K H xs ds→Dw K H (.ref a) (.list ds)
 |tup {a:Addr} {xs:List V} {ds:List WData}:bb K H a xs→mz K H xs ds→Dw K H (.ref a) (.tuple ds)
inductive mz (K:PySem.W.Frag) (H:Hp):List V→List WData→Prop
 |nil:mz K H [] []
 |cons {v:V} {vs:List V} {d:WData} {ds:List WData}:Dw K H v d→mz K H vs ds→mz K H (v::vs) (d::ds)
end
theorem Ft {K:PySem.W.Frag}{H:Hp}:∀ns:List Int,mz K H (ns.map V.int) (ns.map WData.int)
 | [] => .nil
 |n::r=> .cons (.int n) (Ft r)
theorem Fu {K:PySem.W.Frag}{H:Hp}:∀ (ns:List Int)(xs:List V),mz K H xs (ns.map WData.int)→xs=ns.map V.int
 | [],xs,h=>by
  cases h
  rfl
 |n::r,xs,h=>by
  cases h with
  |cons h1 h2=>
   cases h1
   rw [Fu r _ h2] <;>rfl
section
variable {P:Program}{w:World}{K:PySem.W.Frag}{H:Hp}{h:Heap}{R:PySem.W.WRecords}{cl:Str→Option Addr}
theorem OJ {a:Addr}{xs:List V}(bF:mL P w H h)(KX:K.In h)(q:bT K H a xs):∃ (aV:List Value)(o:Obj)(n:Nat),Vals xs aV∧h.get? a=some o∧o.cls= .type "list"∧o.data= .seq aV.toArray n:=by
 rcases q with q|⟨o,aV,n,e,hc,_,hd,_,hv⟩
 ·obtain ⟨_,aV,n,hv,e⟩:=(show df P w H h a (.lst xs) from q.ok bF)
  exact ⟨aV,_,n,hv,e,rfl,rfl⟩
 ·exact ⟨aV.toList,o,n,hv,KX _ _ e,hc,by simp [hd]⟩
theorem OK {a:Addr}{xs:List V}(bF:mL P w H h)(KX:K.In h)(q:bb K H a xs):∃ (aV:List Value)(o:Obj)(n:Nat),Vals xs aV∧h.get? a=some o∧o.cls= .type "tuple"∧o.data= .seq aV.toArray n:=by
 rcases q with q|⟨o,aV,n,e,hc,hd,_,hv⟩
 ·obtain ⟨_,aV,hv,o,e,hc,n,hd⟩:=(show df P w H h a (.tup xs) from q.ok bF)
  exact ⟨aV,o,n,hv,e,hc,hd⟩
 ·exact ⟨aV.toList,o,n,hv,KX _ _ e,hc,by simp [hd]⟩
mutual
theorem Dw.reads (bF:mL P w H h)(KX:K.In h):∀ (d:WData)(v:V)(u:Value),Dw K H v d→RelV v u→∃as,ReadsW R cl h u d as
 | .none,_,_,x,r=>by
  cases x
  cases r
  exact ⟨_,ReadsW.none⟩
 | .bool b,_,_,x,r=>by
  cases x
  cases r
  exact ⟨_,ReadsW.bool b⟩
 | .int i,_,_,x,r=>by
  cases x
  obtain ⟨t,rfl⟩:=r
  exact ⟨_,ReadsW.int i t⟩
 | .str s,_,_,x,r=>by
  cases x
  obtain ⟨t,rfl⟩:=r
  exact ⟨_,ReadsW.str s t⟩
 | .bytes b,_,_,x,r=>by
  cases x
  obtain ⟨t,rfl⟩:=r
  exact ⟨_,ReadsW.bytes _ t⟩
 | .list ds,_,_,x,r=>by
  cases x with
  |lst hs ha=>
   cases r
   obtain ⟨aV,o,n,rv,ho,hc,hd⟩:=OJ bF KX hs
   obtain ⟨as,hr⟩:=Dw.readsAll bF KX ds _ aV ha rv
   exact ⟨_,ReadsW.list ho hc hd hr⟩
 | .tuple ds,_,_,x,r=>by
  cases x with
  |tup hs ha=>
   cases r
   obtain ⟨aV,o,n,rv,ho,hc,hd⟩:=OK bF KX hs
   obtain ⟨as,hr⟩:=Dw.readsAll bF KX ds _ aV ha rv
   exact ⟨_,ReadsW.tuple ho hc hd hr⟩
 | .float _,_,_,x,_=>by cases x
 | .dict _,_,_,x,_=>by cases x
 | .bytearray _,_,_,x,_=>by cases x
 | .set _,_,_,x,_=>by cases x
 | .frozenset _,_,_,x,_=>by cases x
 | .obj _ _,_,_,x,_=>by cases x
theorem Dw.readsAll (bF:mL P w H h)(KX:K.In h):∀ (ds:List WData)(vs:List V)(us:List Value),mz K H vs ds→Vals vs us→∃as,ReadsAllW R cl h us ds as
 | [],_,_,x,r=>by
  cases x
  cases r
  exact ⟨_,ReadsAllW.nil⟩
 |d::ds,_,_,x,r=>by
  cases x with
  |cons h1 h2=>
   cases r with
   |cons r1 r2=>
    obtain ⟨as,q1⟩:=Dw.reads bF KX d _ _ h1 r1
    obtain ⟨bs,q2⟩:=Dw.readsAll bF KX ds _ _ h2 r2
    exact ⟨_,ReadsAllW.cons q1 q2⟩
end
end
mutual
def Fv:WData→Bool
 | .none=>true
 | .bool _=>true
 | .int _=>true
 | .str _=>true
 | .bytes _=>true
 | .list xs=>vo xs
 | .tuple xs=>vo xs
 |_=>false
def vo:List WData→Bool
 | [] =>true
 |x::r=>Fv x && vo r
end
theorem Cz {α:Type}{f:α→WData}(h:∀a,Fv (f a)=true):∀l:List α,vo (l.map f)=true
 | [] =>rfl
 |x::r=>by
  show (Fv (f x) && vo (r.map f))=true
  rw [h x,Cz h r] <;>rfl
theorem mX:∀ (c:Codec)(a:c.denote),Fv (c.enc a)=true
 | .unit,_=>rfl
 | .bool,_=>rfl
 | .int _ _,_=>rfl
 | .nat _ _,_=>rfl
 | .u8,_=>rfl
 | .bytes _ _,_=>rfl
 | .text _ _ _ _,_=>rfl
 | .list _ _ c,a=>Cz (fun x=>mX c x) a
 | .pair c d,a=>by
  show (Fv (c.enc a.1) && (Fv (d.enc a.2) && true))=true
  rw [mX c a.1,mX d a.2] <;>rfl
 | .triple c d e,a=>by
  show (Fv (c.enc a.1) && (Fv (d.enc a.2.1) && (Fv (e.enc a.2.2) && true)))=true
  rw [mX c a.1,mX d a.2.1,mX e a.2.2] <;>rfl
 | .option c,none=>rfl
 | .option c,some x=>mX c x
theorem zh:∀ (cs:List Codec)(a:Codec.denoteAll cs),vo (Codec.encAll cs a)=true
 | [],_=>rfl
 |c::cs,a=>by
  show (Fv (c.enc a.1) && vo (Codec.encAll cs a.2))=true
  rw [mX c a.1,zh cs a.2] <;>rfl
theorem qu:∀ {xs:List WData}{d:WData},d∈xs→d.weight≤WData.weightAll xs
 | [],d,h=>absurd h (by simp)
 |x::r,d,h=>by
  show d.weight≤x.weight + 1 + WData.weightAll r
  rcases List.mem_cons.mp h with e|m
  ·rw [e]
   omega
  ·have z:=qu m
   omega
def toV:Value→V
 | .none=> .bu
 | .bool b=> .bl b
 | .int i _=> .int i
 | .str x _=> .str x
 | .bytes b _=> .Cc b
 | .ref a=> .ref a
 |_=> .bu
def GV (A:List Addr):Value→Prop
 | .none=>True
 | .bool _=>True
 | .int _ _=>True
 | .str _ _=>True
 | .bytes _ _=>True
 | .ref a=>a∈A
 |_=>False
theorem GV.mono {A B:List Addr}(h:∀a∈A,a∈B):∀ {u:Value},GV A u→GV B u:=fun {u} x=>by
 cases u with
 |ref a=>exact h a x
 |none=>trivial
 |bool b=>trivial
 |int i t=>trivial
 |str s t=>trivial
 |bytes b t=>trivial
 |_=>exact False.elim x
theorem Jp {A:List Addr}{u:Value}(x:GV A u):RelV (toV u) u:=by
 cases u with
 |ref a=>rfl
 |none=>rfl
 |bool b=>rfl
 |int i t=>exact ⟨t,rfl⟩
 |str s t=>exact ⟨t,rfl⟩
 |bytes b t=>exact ⟨t,rfl⟩
 |_=>exact False.elim x
theorem kP {A:List Addr}:∀ {vs:List Value},(∀u∈vs,GV A u)→Vals (vs.map toV) vs
 | [],_=> .nil
 |u::r,h=> .cons (Jp (h u (List.mem_cons_self ..))) (kP fun x hx=>h x (List.mem_cons_of_mem _ hx))
def mB (h:Heap)(A:List Addr)(a:Addr):Prop:=∃vs:List Value,vs.length≤sizeLine∧(∀u∈vs,GV A u)∧
 (h.get? a=some {cls:= .type "list",data:= .seq vs.toArray}∨h.get? a=some {cls:= .type "tuple",data:= .seq vs.toArray})
theorem mB.mono {h:Heap}{A B:List Addr}{a:Addr}(k:∀a∈A,a∈B)(x:mB h A a):mB h B a:=by
 obtain ⟨vs,h1,h2,h3⟩:=x
 exact ⟨vs,h1,fun u hu=>(h2 u hu).mono k,h3⟩
theorem jO {P:Params}{h:Heap}:∀ {vs:List Value}{ds:List WData},WellAll P h vs ds→vs.length=ds.length
 |_,_,.nil=>rfl
 |_,_,.cons _ b=>by
  show _ + 1=_ + 1
  rw [jO b]
theorem zi {P:Params}{h:Heap}{v:Value}{ds:List WData}(x:Well P h v (.list ds)):∃ (a:Addr)(vs:List Value),v= .ref a∧h.get? a=some {cls:= .type "list",data:= .seq vs.toArray}∧WellAll P h vs ds:=by
 cases x with
 |list ho fj=>exact ⟨_,_,rfl,ho,fj⟩
theorem wy {P:Params}{h:Heap}{v:Value}{ds:List WData}(x:Well P h v (.tuple ds)):∃ (a:Addr)(vs:List Value),v= .ref a∧h.get? a=some {cls:= .type "tuple",data:= .seq vs.toArray}∧WellAll P h vs ds:=by
 cases x with
 |tuple ho fj=>exact ⟨_,_,rfl,ho,fj⟩
theorem zj {P:Params}{h:Heap}{us:List Value}{d:WData}{ds:List WData}(x:WellAll P h us (d::ds)):∃ (v:Value)(vs:List Value),us=v::vs∧Well P h v d∧WellAll P h vs ds:=by
 cases x with
 |cons a b=>exact ⟨_,_,rfl,a,b⟩
theorem Fw {n:Nat}(h:n≤1048576):n≤sizeLine:=Nat.le_trans h (by decide)
section
variable {P:Params}{h:Heap}
mutual
theorem Jq:∀ (d:WData)(v:Value),Well P h v d→Fv d=true→d.weight≤1048576→∃A:List Addr,GV A v∧∀a∈A,mB h A a
 | .none,_,x,_,_=>by
  cases x
  exact ⟨[],trivial,fun a m=>absurd m (by simp)⟩
 | .bool b,_,x,_,_=>by
  cases x
  exact ⟨[],trivial,fun a m=>absurd m (by simp)⟩
 | .int i,_,x,_,_=>by
  cases x
  exact ⟨[],trivial,fun a m=>absurd m (by simp)⟩
 | .str s,_,x,_,_=>by
  cases x
  exact ⟨[],trivial,fun a m=>absurd m (by simp)⟩
 | .bytes b,_,x,_,_=>by
  cases x
  exact ⟨[],trivial,fun a m=>absurd m (by simp)⟩
 | .list ds,_,x,p,z=>by
  obtain ⟨a,vs,rfl,ho,fj⟩:=zi x
  have z2:WData.weightAll ds≤1048576:=z
  obtain ⟨A,h1,h2⟩:=qW ds _ fj p fun d hd=>Nat.le_trans (qu hd) z2
  have k:∀b∈A,b∈a::A:=fun b hb=>List.mem_cons_of_mem _ hb
  refine ⟨a::A,List.mem_cons_self ..,fun b hb=> ?_⟩
  rcases List.mem_cons.mp hb with e|m
  ·rw [e]
   exact ⟨vs,Fw (by rw [jO fj];exact Nat.le_trans (PySem.W.length_le_weightAllW ds) z2),fun u hu=>(h1 u hu).mono k,.inl ho⟩
  ·exact (h2 b m).mono k
 | .tuple ds,_,x,p,z=>by
  obtain ⟨a,vs,rfl,ho,fj⟩:=wy x
  have z2:WData.weightAll ds≤1048576:=z
  obtain ⟨A,h1,h2⟩:=qW ds _ fj p fun d hd=>Nat.le_trans (qu hd) z2
  have k:∀b∈A,b∈a::A:=fun b hb=>List.mem_cons_of_mem _ hb
  refine ⟨a::A,List.mem_cons_self ..,fun b hb=> ?_⟩
  rcases List.mem_cons.mp hb with e|m
  ·rw [e]
   exact ⟨vs,Fw (by rw [jO fj];exact Nat.le_trans (PySem.W.length_le_weightAllW ds) z2),fun u hu=>(h1 u hu).mono k,.inr ho⟩
  ·exact (h2 b m).mono k
 | .float _,_,_,p,_=>Bool.noConfusion (show false=true from p)
 | .dict _,_,_,p,_=>Bool.noConfusion (show false=true from p)
 | .bytearray _,_,_,p,_=>Bool.noConfusion (show false=true from p)
 | .set _,_,_,p,_=>Bool.noConfusion (show false=true from p)
 | .frozenset _,_,_,p,_=>Bool.noConfusion (show false=true from p)
 | .obj _ _,_,_,p,_=>Bool.noConfusion (show false=true from p)
theorem qW:∀ (ds:List WData)(vs:List Value),WellAll P h vs ds→vo ds=true→(∀d∈ds,d.weight≤1048576)→∃A:List Addr,(∀u∈vs,GV A u)∧∀a∈A,mB h A a
 | [],_,x,_,_=>by
  cases x
  exact ⟨[],fun u m=>absurd m (by simp),fun a m=>absurd m (by simp)⟩
 |d::ds,_,x,p,z=>by
  obtain ⟨v,vs,rfl,x1,x2⟩:=zj x
  have q:Fv d=true∧vo ds=true:=Bool.and_eq_true_iff.mp p
  obtain ⟨A,a1,a2⟩:=Jq d v x1 q.1 (z d (List.mem_cons_self ..))
  obtain ⟨B,b1,b2⟩:=qW ds vs x2 q.2 fun e he=>z e (List.mem_cons_of_mem _ he)
  have kA:∀b∈A,b∈A ++ B:=fun b hb=>List.mem_append.mpr (.inl hb)
  have kB:∀b∈B,b∈A ++ B:=fun b hb=>List.mem_append.mpr (.inr hb)
  refine ⟨A ++ B,fun u hu=> ?_,fun b hb=> ?_⟩
  ·rcases List.mem_cons.mp hu with e|m
   ·rw [e]
    exact a1.mono kA
   ·exact (b1 u m).mono kB
  ·rcases List.mem_append.mp hb with m|m
   ·exact (a2 b m).mono kA
   ·exact (b2 b m).mono kB
end
end
def L6 (o:Obj):Option HO:=match o.data with
 | .seq vs _=>if (o.cls==Value.type "list")=true then some (.iw o (.lst (vs.toList.map toV))) else some (.iw o (.tup (vs.toList.map toV)))
 |_=>none
def lu (K:PySem.W.Frag)(h:Heap)(A:List Addr):Hp:=fun b=>if b∈A then (if (K.lookup b).isNone=true then (h.get? b).bind L6 else none) else none
def CB (H:Hp):Prop:=∀b,H b=none∨∃o u,H b=some (.iw o u)
theorem CC (vs:List Value):L6 {cls:= .type "list",data:= .seq vs.toArray}=some (.iw {cls:= .type "list",data:= .seq vs.toArray} (.lst (vs.map toV))):=by
 show (if (Value.type "list"==Value.type "list")=true then some (HO.iw {cls:= .type "list",data:= .seq vs.toArray} (.lst (vs.toArray.toList.map toV))) else some (HO.iw {cls:= .type "list",data:= .seq vs.toArray} (.tup (vs.toArray.toList.map toV))))=_
 rw [if_pos (beq_self_eq_true _)]
theorem CD (vs:List Value):L6 {cls:= .type "tuple",data:= .seq vs.toArray}=some (.iw {cls:= .type "tuple",data:= .seq vs.toArray} (.tup (vs.map toV))):=by
 show (if (Value.type "tuple"==Value.type "list")=true then some (HO.iw {cls:= .type "tuple",data:= .seq vs.toArray} (.lst (vs.toArray.toList.map toV))) else some (HO.iw {cls:= .type "tuple",data:= .seq vs.toArray} (.tup (vs.toArray.toList.map toV))))=_
 rw [if_neg (by decide)]
section
variable {P:Program}{w:World}{K:PySem.W.Frag}{h:Heap}{A:List Addr}
theorem vE {b:Addr}{o:Obj}(hb:b∈A)(hk:K.lookup b=none)(e:h.get? b=some o):lu K h A b=L6 o:=by
 unfold lu
 rw [if_pos hb,hk,if_pos (show (none:Option Obj).isNone=true from rfl),e] <;>rfl
theorem L7 {b:Addr}{u:HO}(q:lu K h A b=some u):b∈A∧K.lookup b=none:=by
 unfold lu at q
 by_cases hb:b∈A
 ·rw [if_pos hb] at q
  cases hk:K.lookup b with
  |none=>exact ⟨hb,rfl⟩
  |some o=>
   rw [hk,if_neg (by simp)] at q
   cases q
 ·rw [if_neg hb] at q
  cases q
theorem vF (ar:∀a∈A,mB h A a){b:Addr}{u:HO}(q:lu K h A b=some u):K.lookup b=none∧∃vs:List Value,vs.length≤sizeLine∧(∀u∈vs,GV A u)∧
  ((h.get? b=some {cls:= .type "list",data:= .seq vs.toArray}∧u= .iw {cls:= .type "list",data:= .seq vs.toArray} (.lst (vs.map toV)))∨
   (h.get? b=some {cls:= .type "tuple",data:= .seq vs.toArray}∧u= .iw {cls:= .type "tuple",data:= .seq vs.toArray} (.tup (vs.map toV)))):=by
 obtain ⟨hb,hk⟩:=L7 q
 obtain ⟨vs,h1,h2,h3⟩:=ar b hb
 refine ⟨hk,vs,h1,h2,?_⟩
 rcases h3 with e|e
 ·rw [vE hb hk e,CC] at q
  exact .inl ⟨e,(Option.some.inj q).symm⟩
 ·rw [vE hb hk e,CD] at q
  exact .inr ⟨e,(Option.some.inj q).symm⟩
theorem GW (ar:∀a∈A,mB h A a):CB (lu K h A):=fun b=>by
 cases q:lu K h A b with
 |none=>exact .inl rfl
 |some u=>
  obtain ⟨_,vs,_,_,⟨_,e⟩|⟨_,e⟩⟩:=vF ar q
  ·exact .inr ⟨_,_,by rw [e]⟩
  ·exact .inr ⟨_,_,by rw [e]⟩
theorem L8 (ar:∀a∈A,mB h A a):mL P w (lu K h A) h:=fun b u q=>by
 obtain ⟨_,vs,h1,h2,⟨e,rfl⟩|⟨e,rfl⟩⟩:=vF ar q
 ·exact ⟨e,by rw [List.length_map];exact h1,vs,_,kP h2,e⟩
 ·exact ⟨e,by rw [List.length_map];exact h1,vs,kP h2,_,e,rfl,_,rfl⟩
theorem vG {c c':Value}{vs us:List Value}(e:(some {cls:=c,data:= .seq vs.toArray}:Option Obj)=some {cls:=c',data:= .seq us.toArray}):c=c'∧vs=us:=by
 have e1:=Option.some.inj e
 have e2:c=c':=congrArg Obj.cls e1
 have e3:Data.seq vs.toArray=Data.seq us.toArray:=congrArg Obj.data e1
 injection e3 with e4
 refine ⟨e2,?_⟩
 have e5:=congrArg Array.toList e4
 simpa using e5
theorem abL (KX:K.In h)(ar:∀a∈A,mB h A a){a:Addr}{vs:List Value}(ha:a∈A)(e:h.get? a=some {cls:= .type "list",data:= .seq vs.toArray}):(∀u∈vs,GV A u)∧bT K (lu K h A) a (vs.map toV):=by
 obtain ⟨us,h1,h2,h3⟩:=ar a ha
 have hu:us=vs:=by
  rcases h3 with q|q
  ·rw [e] at q
   exact (vG q).2.symm
  ·rw [e] at q
   exact absurd (Value.type.inj (vG q).1) (by decide)
 subst hu
 refine ⟨h2,?_⟩
 cases hk:K.lookup a with
 |none=>exact .inl (.inr ⟨_,by rw [vE ha hk e,CC]⟩)
 |some o=>
  have e2:=KX a o hk
  rw [e] at e2
  obtain rfl:=Option.some.inj e2
  exact .inr ⟨_,us.toArray,_,hk,rfl,rfl,rfl,by rw [List.size_toArray];exact h1,by simpa using kP h2⟩
theorem abM (KX:K.In h)(ar:∀a∈A,mB h A a){a:Addr}{vs:List Value}(ha:a∈A)(e:h.get? a=some {cls:= .type "tuple",data:= .seq vs.toArray}):(∀u∈vs,GV A u)∧bb K (lu K h A) a (vs.map toV):=by
 obtain ⟨us,h1,h2,h3⟩:=ar a ha
 have hu:us=vs:=by
  rcases h3 with q|q
  ·rw [e] at q
   exact absurd (Value.type.inj (vG q).1) (by decide)
  ·rw [e] at q
   exact (vG q).2.symm
 subst hu
 refine ⟨h2,?_⟩
 cases hk:K.lookup a with
 |none=>exact .inl (.inr ⟨_,by rw [vE ha hk e,CD]⟩)
 |some o=>
  have e2:=KX a o hk
  rw [e] at e2
  obtain rfl:=Option.some.inj e2
  exact .inr ⟨_,us.toArray,_,hk,rfl,rfl,by rw [List.size_toArray];exact h1,by simpa using kP h2⟩
mutual
theorem OL {Pm:Params}(KX:K.In h)(ar:∀a∈A,mB h A a):∀ (d:WData)(v:Value),Well Pm h v d→Fv d=true→GV A v→Dw K (lu K h A) (toV v) d
 | .none,_,x,_,_=>by
  cases x
  exact .bu
 | .bool b,_,x,_,_=>by
  cases x
  exact .bl b
 | .int i,_,x,_,_=>by
  cases x
  exact .int i
 | .str s,_,x,_,_=>by
  cases x
  exact .str s
 | .bytes b,_,x,_,_=>by
  cases x
  have z:=Dw.Cc (K:=K) (H:=lu K h A) b.toArray
  exact z
 | .list ds,_,x,p,hu=>by
  obtain ⟨a,vs,rfl,ho,fj⟩:=zi x
  obtain ⟨h2,hs⟩:=abL KX ar hu ho
  exact .lst hs (AF KX ar ds _ fj p h2)
 | .tuple ds,_,x,p,hu=>by
  obtain ⟨a,vs,rfl,ho,fj⟩:=wy x
  obtain ⟨h2,hs⟩:=abM KX ar hu ho
  exact .tup hs (AF KX ar ds _ fj p h2)
 | .float _,_,_,p,_=>Bool.noConfusion (show false=true from p)
 | .dict _,_,_,p,_=>Bool.noConfusion (show false=true from p)
 | .bytearray _,_,_,p,_=>Bool.noConfusion (show false=true from p)
 | .set _,_,_,p,_=>Bool.noConfusion (show false=true from p)
 | .frozenset _,_,_,p,_=>Bool.noConfusion (show false=true from p)
 | .obj _ _,_,_,p,_=>Bool.noConfusion (show false=true from p)
theorem AF {Pm:Params}(KX:K.In h)(ar:∀a∈A,mB h A a):∀ (ds:List WData)(vs:List Value),WellAll Pm h vs ds→vo ds=true→(∀u∈vs,GV A u)→mz K (lu K h A) (vs.map toV) ds
 | [],_,x,_,_=>by
  cases x
  exact .nil
 |d::ds,_,x,p,hu=>by
  obtain ⟨v,vs,rfl,x1,x2⟩:=zj x
  have q:Fv d=true∧vo ds=true:=Bool.and_eq_true_iff.mp p
  exact .cons (OL KX ar d v x1 q.1 (hu _ (List.mem_cons_self ..))) (AF KX ar ds vs x2 q.2 fun u m=>hu u (List.mem_cons_of_mem _ m))
end
end
theorem GX {P:Program}{w:World}{K:PySem.W.Frag}{mg mb:Str→Option Value}{CX:DX}{k:Nat}{fa:Addr}{fd:FuncData}{ps:List Str}{sp:Sp}{s₁:Shared}{vals:List Value}{ds:List WData}{R:PySem.W.WRecords}{cl:Str→Option Addr}{d0:WData}
  (KX:K.In s₁.heap)(hns:s₁.heap.Ns mainGlobals mg)(hb:s₁.heap.Ns builtinsNs mb)(hbb:∀x:Str,x≠"__name__"→mb x=bootBuiltins x)(Tb:s₁.heap.NoLimit)(hg:s₁.gens= #[])
  (zk:WellAll w.params s₁.heap vals ds)(dB:vo ds=true)(hwt:∀d∈ds,d.weight≤1048576)(hr:fN k callerA)
  (F:∀base:Heap,K.In base→base.Ns mainGlobals mg→a7 P w K mg base CX k fa fd ps sp)(Tc:∀ (s:Shared)(us:List Value),us.length=ps.length→BindsTo s fd ⟨us,[]⟩ (ps.zip us))(hlen:ds.length=ps.length)
  (Iy:∀ (H:Hp)(xs:List V),CB H→mz K H xs ds→sp xs H (fun v H'=>Dw K H' v d0) fun _ _ _=>False)
  (Td:∀H e s',CX [] H s₁ (fun _ _ _=>False) e s'→False):
  codeAny (model P w) callerA (.call (.ref fa) ⟨vals,[]⟩) (fun r s'=>∃u as,r= .ok (.ret u)∧ReadsW R cl s'.heap u d0 as∧OldK s₁.heap s'.heap∧s'.os=s₁.os∧AllBare s'.gens) s₁:=by
 obtain ⟨A,ho,ar⟩:=qW ds vals zk dB hwt
 have hO:CB (lu K s₁.heap A):=GW ar
 have bF:mL P w (lu K s₁.heap A) s₁.heap:=L8 ar
 have hS:=AF KX ar ds vals zk dB ho
 have hV:=kP ho
 have hK:∀b u,lu K s₁.heap A b=some u→K.lookup b=none:=fun b u q=>(vF ar q).1
 have Rc:∀ {b:Addr}{o:Obj}{es:Array DictEntry}{ep:Nat},s₁.heap.get? b=some o→o.data= .dict es ep→lu K s₁.heap A b=none:=fun {b o es ep} e d=>by
  cases q:lu K s₁.heap A b with
  |none=>rfl
  |some u=>
   obtain ⟨_,vs,_,_,⟨e2,_⟩|⟨e2,_⟩⟩:=vF ar q
   ·rw [e2] at e
    cases e
    have d':Data.seq vs.toArray _=Data.dict es ep:=d
    cases d'
   ·rw [e2] at e
    cases e
    have d':Data.seq vs.toArray _=Data.dict es ep:=d
    cases d'
 generalize lu K s₁.heap A=H at hO bF hS hK Rc
 have Fx:∀ {b:Addr}{o:Obj},s₁.heap.get? b=some o→H b=none→(Aa s₁.heap H).get? b=some o:=fun e n=>IF e n
 have nsK:∀ {b:Addr}{m:Str→Option Value},s₁.heap.Ns b m→(Aa s₁.heap H).Ns b m:=fun {b m} ⟨o,es,ep,e,d,r⟩=>⟨o,es,ep,Fx e (Rc e d),d,r⟩
 have nK:∀b o,K.lookup b=some o→H b=none:=fun b o e=>by
  cases q:H b with
  |none=>rfl
  |some u=>
   rw [hK b u q] at e
   cases e
 have hKb:K.In (Aa s₁.heap H):=fun b o e=>Fx (KX b o e) (nK b o e)
 have hM:Mod K mg (Aa s₁.heap H):=⟨hKb,nsK hns,⟨mb,nsK hb,hbb⟩,let ⟨mc,h1,h2⟩:=Tb;⟨mc,nsK h1,h2⟩⟩
 have e0:DY P w K mg (Aa s₁.heap H) callerA [] s₁ H:=⟨rfl,hM,fun b o e=>LH e,Nat.le_of_eq (Gz _ _),trivial,fun b hb=>absurd (show b∈([] :List Addr) from hb) (by simp),bF,.of_eq hg⟩
 have hl:vals.length=ps.length:=by rw [jO zk];exact hlen
 refine codeAny_mono ((F _ hKb (nsK hns)).run callerA [] s₁ H ⟨vals,[]⟩ vals (vals.map toV) _ _ hr e0 (Tc s₁ vals hl) hV (Iy H _ hO hS)) fun r s' x=> ?_
 cases r with
 |error e=>exact (Td H e s' x).elim
 |ok fl=>
  cases fl with
  |next=>exact False.elim x
  |brk=>exact False.elim x
  |cont=>exact False.elim x
  |ret u=>
   obtain ⟨v,H',os,bare,un,Te,r',q⟩:=x
   have kept:∀b o,s₁.heap.get? b=some o→s'.heap.get? b=some o:=fun b o e=>by
    cases q2:H b with
    |none=>exact un.keep b o e q2 (by intro z;exact absurd (show b∈([] :List Addr) from z) (by simp)) (by simp)
    |some u2=>
     rcases hO b with z|⟨ob,u3,z⟩
     ·rw [q2] at z
      cases z
     ·have z2:=un.vV b ob _ z
      obtain ⟨e1,_⟩:=bF b _ z
      obtain ⟨e2,_⟩:=Te b _ z2
      rw [e] at e1
      cases e1
      exact e2
   have KX':K.In s'.heap:=fun b o e=>kept b o (KX b o e)
   obtain ⟨as,hrd⟩:=Dw.reads (R:=R) (cl:=cl) Te KX' d0 v u q r'
   exact ⟨u,as,rfl,hrd,OldK.of_keep kept,os,bare⟩
theorem wz {ds:List WData}(h:WData.layableAll ds=true):∀d∈ds,d.weight≤1048576:=fun d hd=>
 (PySem.W.layableW_iff.mp (List.all_eq_true.mp h d hd)).2.2
theorem wA:∀ (cs:List Codec)(a:Codec.denoteAll cs),(Codec.encAll cs a).length=cs.length
 | [],_=>rfl
 |c::cs,a=>by
  show (Codec.encAll cs a.2).length + 1=cs.length + 1
  rw [wA cs a.2]
theorem GY {r:OpenSpec}{k:Nat}{q:Program}{loose:List Str}{XP:(Str→Option Value)→Heap→Prop}{YP:World→Heap→Prop}{d:DefRec}{K:Params→PySem.W.Frag}{CX:World→DX}{ps:List Str}{sp:World→Sp}
  (Jr:r.wellSaid=true)(hdf:d.params.defaults= [])(hlen:r.args.length=ps.length)(hr:fN k callerA)
  (hY:∀ (w:World)(h:Heap),YP w h→(K w.params).In h)
  (F:∀ (w:World)(mg:Str→Option Value)(fa:Addr)(h:Heap),YP w h→(K w.params).In h→h.Ns mainGlobals mg→mg d.name=some (.ref fa)→
   ∃fd:FuncData,(∀ (s:Shared)(us:List Value),us.length=ps.length→BindsTo s fd ⟨us,[]⟩ (ps.zip us))∧
    ∀base:Heap,(K w.params).In base→base.Ns mainGlobals mg→a7 r.prog w (K w.params) mg base (CX w) k fa fd ps (sp w))
  (Iy:∀ (w:World)(H:Hp)(xs:List V)(a:Codec.denoteAll r.args),CB H→Codec.withinAll r.args a=true→Codec.app r.args r.asked a=true→mz (K w.params) H xs (Codec.encAll r.args a)→
   sp w xs H (fun v H'=>Dw (K w.params) H' v (r.ret.enc (Codec.app r.args r.f a))) fun _ _ _=>False)
  (Td:∀ (w:World)(H:Hp)(s:Shared)(e:Value)(s':Shared),CX w [] H s (fun _ _ _=>False) e s'→False):
  PySem.W.WalkOS q loose XP YP r d [] (fun f vs=>PySem.call f vs):=by
 intro w yT s₁ mg mb G Y fa o pm cd doc dV kV ho hd qI hD hmg hg args vals as abP abQ hrd zk hlo
 obtain ⟨a,e1,e2⟩:=PySem.W.os_pre_some abP
 obtain ⟨e3,Rm⟩:=Codec.encAll_of_decAll r.args args a e1
 subst e3
 have KX:=hY w _ Y
 obtain ⟨fd,hb,hF⟩:=F w mg fa _ Y KX G.T.g hmg
 refine PySem.W.enter_call (codeAny_mono (GX (R:= []) (cl:=classAt yT.heap) (d0:=r.ret.enc (Codec.app r.args r.f a)) KX G.T.g G.T.b G.T.builtins G.T.nolimit hg zk (zh _ _) (wz abQ) hr hF hb (by rw [wA];exact hlen)
  (fun H xs hO hS=>Iy w H xs a hO Rm e2 hS) fun H e s'=>Td w H s₁ e s') fun r' s' hq=> ?_)
 obtain ⟨u,mY,rfl,h1,h2,h3,h4⟩:=hq
 exact ⟨.inl ⟨u,_,mY,rfl,fun _=>rfl,h1,(OpenSpec.post_iff Jr Rm _ _).mpr rfl,fun z=>Bool.noConfusion (show false=true from z)⟩,h2,h3,h4⟩
theorem D8 {r:OpenSpec}{k:Nat}{q:Program}{loose:List Str}{XP:(Str→Option Value)→Heap→Prop}{YP:World→Heap→Prop}{d:DefRec}{K:Params→PySem.W.Frag}{CX:DX}{ps:List Str}{sp:PySem.W.Frag→Sp}
  (Jr:r.wellSaid=true)(hdf:d.params.defaults= [])(hlen:r.args.length=ps.length)(hr:fN k callerA)
  (hY:∀ (w:World)(h:Heap),YP w h→(K w.params).In h)
  (F:∀ (w:World)(mg:Str→Option Value)(fa:Addr)(h:Heap),YP w h→(K w.params).In h→h.Ns mainGlobals mg→mg d.name=some (.ref fa)→
   ∃fd:FuncData,(∀ (s:Shared)(us:List Value),us.length=ps.length→BindsTo s fd ⟨us,[]⟩ (ps.zip us))∧
    ∀base:Heap,(K w.params).In base→base.Ns mainGlobals mg→a7 r.prog w (K w.params) mg base CX k fa fd ps (sp (K w.params)))
  (Iy:∀ (K:PySem.W.Frag)(H:Hp)(xs:List V)(a:Codec.denoteAll r.args),CB H→Codec.withinAll r.args a=true→Codec.app r.args r.asked a=true→mz K H xs (Codec.encAll r.args a)→
   sp K xs H (fun v H'=>Dw K H' v (r.ret.enc (Codec.app r.args r.f a))) fun _ _ _=>False)
  (Td:∀ (H:Hp)(s:Shared)(e:Value)(s':Shared),CX [] H s (fun _ _ _=>False) e s'→False):
  PySem.W.WalkOS q loose XP YP r d [] (fun f vs=>PySem.call f vs):=
 GY (K:=K) (CX:=fun _=>CX) (sp:=fun w=>sp (K w.params)) Jr hdf hlen hr hY F (fun w H xs a h1 h2 h3 h4=>Iy (K w.params) H xs a h1 h2 h3 h4) fun _ H s e s'=>Td H s e s'
end L2
end
set_option Elab.async false
set_option linter.all false
set_option maxRecDepth 100000
set_option maxHeartbeats 2000000
namespace L2
open PySem PySem.Spec PyProof.Rows PyProof.Rows.KTD
inductive CF:List DictEntry→List (Int×V)→Prop
 |nil:CF [] []
 |cons {e:DictEntry} {i:Int} {t:Tok} {v:V} {es:List DictEntry} {kvs:List (Int×V)}:e.key= .int i t→e.hash=hashInt i→RelV v e.val→CF es kvs→CF (e::es) ((i,v)::kvs)
def DM (K:PySem.W.Frag)(a:Addr)(kvs:List (Int×V)):Prop:=
 (kvs.map (·.1)).Nodup∧∃ (o:Obj)(es:Array DictEntry)(ep:Nat),K.lookup a=some o∧o.ExactDict∧o.data= .dict es ep∧CF es.toList kvs
theorem uD {P:Program}{w:World}:∀ {es:List DictEntry}{kvs:List (Int×V)},CF es kvs→
  (∀e∈es,∃k,(bw P w).is k e.key=true∧e.hash=(bw P w).hash k)∧∃vs:List (Key×Value),Pairs (bw P w) es vs∧KV (kvs.map fun p=>((Sum.inl p.1:Key),p.2)) vs
 |_,_,.nil=>⟨fun _ h=>(nomatch h),[],.nil,.nil⟩
 |_,_,.cons (e:=e) (i:=i) (t:=t) hk hh hv r=>by
  obtain ⟨h1,vs,h2,h3⟩:=uD (P:=P) (w:=w) r
  have hi:(bw P w).is (Sum.inl i) e.key=true:=by rw [hk];exact uv P w i t
  refine ⟨fun x hx=> ?_,(Sum.inl i,e.val)::vs,.cons hi rfl h2,.cons ⟨rfl,hv⟩ h3⟩
  rcases List.mem_cons.mp hx with q|q
  ·rw [q];exact ⟨Sum.inl i,hi,hh⟩
  ·exact h1 x q
theorem zl:∀ {kvs:List (Int×V)},(kvs.map (·.1)).Nodup→((kvs.map fun p=>((Sum.inl p.1:Key),p.2)).map (·.1)).Nodup
 | [],_=>List.nodup_nil
 |p::r,h=>by
  rw [List.map_cons,List.nodup_cons] at h
  rw [List.map_cons,List.map_cons,List.nodup_cons]
  refine ⟨fun q=>h.1 ?_,zl h.2⟩
  obtain ⟨x,hx,e⟩:=List.mem_map.mp q
  obtain ⟨y,hy,rfl⟩:=List.mem_map.mp hx
  have e':y.1=p.1:=Sum.inl.inj e
  rw [←e']
  exact List.mem_map_of_mem hy
theorem CG (i:Int):∀kvs:List (Int×V),cN (kvs.map fun p=>((Sum.inl p.1:Key),p.2)) (Sum.inl i)=cN kvs i
 | [] =>rfl
 |p::r=>by
  by_cases e:p.1=i
  ·rw [List.map_cons,cA (show (Sum.inl p.1:Key)=Sum.inl i by rw [e]),cA e]
  ·rw [List.map_cons,cB (fun q=>e (Sum.inl.inj q)),cB e,CG i r]
section
variable {X:Cx}{pins:List (Addr×Obj)}{σ:St}{H:Hp}{s:Shared}{a:Addr}
theorem DM.at {kvs:List (Int×V)}(I:Inv X pins σ H s)(d:DM X.K a kvs):∃vs,KV (kvs.map fun p=>((Sum.inl p.1:Key),p.2)) vs∧s.heap.DictOf (bw X.prog X.w) a vs:=by
 obtain ⟨nd,o,es,ep,hk,hx,hd,he⟩:=d
 obtain ⟨h1,vs,h2,h3⟩:=uD (P:=X.prog) (w:=X.w) he
 refine ⟨vs,h3,o,es,ep,I.E7 a o hk,hx,hd,fun e m=>h1 e (Array.mem_toList_iff.mpr m),h2,?_⟩
 rw [←h3.keys]
 exact zl nd
def Tf (K:PySem.W.Frag)(td ty:TE):TE:=fun σ H Q=>td σ H fun x H1=>ty σ H1 fun y H2=>∃a kvs i v,x= .ref a∧y= .int i∧DM K a kvs∧cN kvs i=some v∧Q v H2
theorem AG {o i:Expr}{pos:Pos}{td ty:TE}(ho:PE X o td)(hi:PE X i ty)(hs:L1 i):PE X (.Subscript o i pos) (Tf X.K td ty):=by
 intro pins s σ H Q I h
 refine Az PySem.F.slot_dict_getitem.lookup hs (cI (ho pins s σ H _ I h) fun u s1 ⟨x,H1,I1,rx,q1⟩=>cI (hi pins s1 σ H1 _ I1 q1) fun iv s2 ⟨y,H2,I2,ry,a,kvs,i,v,ex,ey,d,l,q2⟩=> ?_)
 subst ex ey
 obtain rfl:u=Value.ref a:=rx
 obtain ⟨vs,rel,dd⟩:=d.at I2
 refine ⟨dd.typeIs,?_⟩
 obtain ⟨w',hw,Ai⟩:=pw.some_of (v:=v) (o:=valueAt vs (Sum.inl i)) (by rw [←l,←CG];exact rel.val (Sum.inl i))
 exact wpAny_getItem_of (uB (k:=Sum.inl i) ry) dd.mapOf hw ⟨v,H2,I2.tok _,Ai,q2⟩
end
def DMS (K:PySem.W.Frag)(a:Addr)(kvs:List (Str×V)):Prop:=
 ∃ (o:Obj)(es:Array DictEntry)(ep:Nat),K.lookup a=some o∧o.ExactDict∧o.data= .dict es ep∧Rows RelV es.toList kvs
section
variable {X:Cx}
def OM (K:PySem.W.Frag)(td ty:TE):TE:=fun σ H Q=>td σ H fun x H1=>ty σ H1 fun y H2=>∃a kvs k v,x= .ref a∧y= .str k∧DMS K a kvs∧datumAt k kvs=some v∧Q v H2
theorem CH {o i:Expr}{pos:Pos}{td ty:TE}(ho:PE X o td)(hi:PE X i ty)(hs:L1 i):PE X (.Subscript o i pos) (OM X.K td ty):=by
 intro pins s σ H Q I h
 refine Az PySem.F.slot_dict_getitem.lookup hs (cI (ho pins s σ H _ I h) fun u s1 ⟨x,H1,I1,rx,q1⟩=>cI (hi pins s1 σ H1 _ I1 q1) fun iv s2 ⟨y,H2,I2,ry,a,kvs,k,v,ex,ey,d,l,q2⟩=> ?_)
 subst ex ey
 obtain rfl:u=Value.ref a:=rx
 obtain ⟨tk,rfl⟩:=ry
 obtain ⟨o,es,ep,hk,hc,hd,hr⟩:=d
 have ho:=I2.E7 a o hk
 have hT:s2.TypeIs (.ref a) "dict":=⟨o,ho,hc.1⟩
 refine ⟨hT,?_⟩
 unfold getItem
 try with_reducible refine wpAny_holding ?_
 refine wpAny_bind (wpAny_sequenceKey hT (by decide) ?_)
 refine wpAny_bind (wpAny_callSpecial?_slot (name:=Str.ofString "__getitem__") hT slot_dict_getitem
  (wpAny_call_entry slot_dict_getitem hT entry_dict_getitem ?_ (args_dict_getitem _ _)))
 show wpAny _ _ (dictGet a (.str k tk) >>=_) _ _ s2
 obtain ⟨u,hu,ru⟩:=hr.find_some l
 refine wpAny_bind ?_
 unfold dictGet
 try with_reducible refine wpAny_holding ?_
 refine wpAny_bind (wpAny_pyHash_str (wpAny_bind (kt_dictFind_strs (s:={s2 with toks:=s2.toks + 1}) ho hd (by obtain ⟨l⟩:=es;simpa using hr.exact) ?_)))
 have hf:findBy (fun k v=>v.isStr k) es k=some u:=by
  rw [←hu]
  obtain ⟨l⟩:=es
  simp [findBy]
 rw [findBy_of_findIdx?] at hf
 cases Rn:es.findIdx? fun e=>e.key.isStr k with
 |none=>rw [Rn] at hf;cases hf
 |some j=>
  rw [Rn] at hf
  refine wpAny_bind (wpAny_dictEntries (s:={s2 with toks:=s2.toks + 1}) ho hd (wpAny_pure ?_))
  have hf':(es[j]?).map (·.val)=some u:=hf
  rw [hf']
  exact wpAny_pure ⟨u,rfl,wpAny_pure ⟨v,H2,I2.tok _,ru,q2⟩⟩
end
section
variable {X:Cx}
theorem AH {prog:Program}{w:World}{d:Addr}(hd:(d==sysModules)=false):
  MeetsIn prog w (Builtin.«dict.__len__» ⟨[.ref d],[]⟩) (fun _ R s=>∃o es ep,s.heap.get? d=some o∧o.data= .dict es ep∧R (.ok (.ret (.int es.size s.toks))) {s with toks:=s.toks + 1}):=
 .of_wp fun A R s ⟨o,es,ep,ho,abS,h⟩=>by
  show wpAny _ _ (dictSize d >>=_) _ _ s
  unfold dictSize
  refine wpAny_bind (wpAny_bind (wpAny_dictEntries ho abS (wpAny_pure ?_)))
  show wpAny _ _ (Builtin.Dict.pendingCount d >>=_) _ _ s
  refine wpAny_bind (wpAny_pendingCount_other hd (wpAny_ret_mkInt ?_))
  rw [Nat.add_zero]
  exact h
theorem GZ:jL X (.builtin "len") (fun xs H Q=>∃a kvs,xs= [V.ref a] ∧H a=some (.dT kvs)∧Q (.int kvs.length) H):=by
 intro pins s σ H vs us Q I r h
 obtain ⟨a,kvs,rfl,e,q⟩:=h
 rw [Vals.D3 r]
 obtain ⟨z,hd,xs,rel,o,es,ep,h1,h2,h3,h4,h5⟩:=I.bF a _ e
 have hT:s.TypeIs (.ref a) "dict":=⟨o,h1,h2.1⟩
 have hz:es.size=kvs.length:=by
  rw [size_of_entries h4]
  exact (Paired.length rel).symm
 have hl:=wb
 refine Calls.call_function_entry kind_len plain_len entry_len (args_len1 _) ?_
 unfold Builtin.«len»
 refine wpAny_bind (m:=oneArg "len" _) (wpAny_pure ?_)
 refine wpAny_bind (m:=callSpecial? (.ref a) (Str.ofString "__len__")) (wpAny_callSpecial?_slot (name:=Str.ofString "__len__") hT PySem.F.slot_dict_len
  (call_meetsIn PySem.F.slot_dict_len hT PySem.F.entry_dict_len (PySem.F.args_dict_len_1 _) (AH hd) ⟨o,es,ep,h1,h3,?_⟩))
 rw [hz]
 show wpAny _ _ _ _ _ {s with toks:=s.toks + 1}
 refine wpAny_bind (wpAny_holding (wpAny_pure ?_))
 refine wpAny_bind (wpAny_letGo ?_)
 show wpAny _ _ (if ((kvs.length:Nat):Int) < 0 then _ else _) _ _ _
 rw [if_neg (by omega)]
 show wpAny _ _ (if ((kvs.length:Nat):Int) ≥ 2 ^ 63 then _ else _) _ _ _
 rw [if_neg (by omega)]
 exact wpAny_bind (wpAny_mkInt (wpAny_pure ⟨_,rfl,⟨.int _,H,I.tok _,⟨_,rfl⟩,q⟩⟩))
end
section
variable {X:Cx}{CX:DX}{k:Nat}{E:XK}{pos:Pos}{g e:Expr}{es:List Expr}{te:TE}{t:TA}
def ON (G:Addr→Sp→Prop)(E:XK)(te:TE)(t:TA):TE:=fun σ H Q=>te σ H fun x H1=>∃f sp,x= .ref f∧G f sp∧t σ H1 fun vs H2=>sp vs H2 Q E
structure GOk (X:Cx) (CX:DX) (k:Nat) (G:Addr→Sp→Prop):Prop where
 ok:∀f sp,G f sp→∃fd ps,a7 X.prog X.w X.K X.mg X.base CX k f fd ps sp∧Binds X.K fd ps [] ∧PySem.W.keepIn X.K (.ref f)=true
theorem Js {G:Addr→Sp→Prop}(hG:GOk X CX k G)(hr:fN k X.A)(hx:Passes CX X E)(hg:PE X g te)(ha:PA X (e::es) t)
  (hc:eval (.Call g (e::es) [] pos) X.env=(do callWith pos (←eval g X.env) [] (backTo pos (starEach (e::es) X.env)) (backToKw pos (keywordEach [] X.env))):=by rfl)
  (he:starEach (e::es) X.env=(false,eval e X.env)::starEach es X.env:=by rfl)(dB:(backTo pos (starEach es X.env)).any (·.1)=false:=by rfl):
  PE X (.Call g (e::es) [] pos) (ON G E te t):=by
 intro pins s σ H Q I h
 refine Call_ (cI (hg pins s σ H _ I h) fun u s1 ⟨x,H1,I1,rx,f,sp,ex,hgf,q1⟩=> ?_) hc
 subst ex
 obtain rfl:u=Value.ref f:=rx
 obtain ⟨fd,ps,F,hb,hk⟩:=hG.ok f sp hgf
 refine PySem.W.callWith_K (h₀:=X.base) I.ok.mod.RK hk (cI (ha pos pins s1 σ H1 _ I1 q1) fun us s2 ⟨vs,H2,I2,r,q2⟩=>⟨I2.E7,?_⟩) he dB
 exact IX F hr hb .nil hx I2 r (by rw [List.append_nil];exact q2)
end
end L2
namespace L2
open PySem PySem.Spec PyProof.Rows
theorem qX {κ α:Type} [DecidableEq κ] {k:κ}:∀ {xs:List (κ×α)}{j:Nat}{p:α},(xs.map (·.1)).Nodup→xs[j]?=some (k,p)→(xs.filter fun x=>decide (x.1≠k))=xs.eraseIdx j
 | [],j,p,_,h=>by simp at h
 |x::xs,0,p,nd,h=>by
  rw [List.map_cons,List.nodup_cons] at nd
  have e:x=(k,p):=Option.some.inj h
  subst e
  have all:∀y∈xs,decide (y.1≠k)=true:=fun y hy=>decide_eq_true fun q=>nd.1 (by show k∈_;rw [←q];exact List.mem_map_of_mem hy)
  rw [List.filter_cons,if_neg (by simp),List.filter_eq_self.mpr all]
  rfl
 |x::xs,j + 1,p,nd,h=>by
  rw [List.map_cons,List.nodup_cons] at nd
  have hj:xs[j]?=some (k,p):=h
  have ne:x.1≠k:=fun q=>nd.1 (by rw [q];exact List.mem_map.mpr ⟨(k,p),List.mem_of_getElem? hj,rfl⟩)
  rw [List.filter_cons,if_pos (decide_eq_true ne),qX nd.2 hj]
  rfl
theorem oE {α β:Type}(f:α→β):∀ (l:List α)(i:Nat),(l.map f).eraseIdx i=(l.eraseIdx i).map f
 | [],_=>rfl
 |_::_,0=>rfl
 |x::l,i + 1=>by
  show f x::(l.map f).eraseIdx i=f x::(l.eraseIdx i).map f
  rw [oE f l i]
section
variable {prog:Program}{w:World}{A:Around}{E:Value→Shared→Prop}{s:Shared}{κ:Type} [DecidableEq κ] {knd:HeapKind prog w κ}{d a:Addr}{k:κ}{xs:List (κ×Addr×Value)}{p:Addr×Value}{j:Nat}
theorem Jt {Q:Option DictEntry→Shared→Prop}(hu:knd.room A)(qr:knd.is s.heap k a)(hm:s.heap.DictOfH knd d xs)(hz:xs.length≤sizeLine)(hj:xs[j]?=some (k,p))
  (h:∀h',h'.DictOfH knd d (xs.filter fun x=>decide (x.1≠k))→Heap.SameBut d s.heap h'→Q (some (entryOfKey knd (k,p))) {s with heap:=h',toks:=s.toks + knd.draws k}):
  wpAny (model prog w) A (Builtin.Dict.takeOut d (.ref a)) Q E s:=by
 obtain ⟨o,es,ep,ho,hc,hd,he,his,hn⟩:=hm
 unfold Builtin.Dict.takeOut
 try with_reducible refine wpAny_holding ?_
 refine wpAny_bind (knd.pyHash hu qr (wpAny_bind (wpAny_dictFind_heap (s:={s with toks:=s.toks + knd.draws k}) hu qr ho hd he his hn (fun no=>absurd hj (no j p)) fun i q hi=> ?_)))
 have Tg:i=j:=by
  have e1:(xs.map (·.1))[i]?=some k:=by rw [List.getElem?_map,hi] <;>rfl
  have e2:(xs.map (·.1))[j]?=some k:=by rw [List.getElem?_map,hj] <;>rfl
  exact Nu hn e1 e2
 subst Tg
 refine wpAny_bind (wpAny_dictEntries (s:={s with toks:=s.toks + knd.draws k}) ho hd ?_)
 rw [entry_at he i,hj]
 refine wpAny_bind (wpAny_updateDictKeys (hz:=by have e:=size_of_entries he;omega) (s:={s with toks:=s.toks + knd.draws k}) ho hd (wpAny_pure (h _ ⟨_,_,ep + 1,Heap.get?_update_self _ ho (Obj.isFreed_of_dict (Obj.data_mapDictKeys hd _)),
  hc.mapDictKeys _,Obj.data_mapDictKeys hd _,?_,?_,?_⟩ (Heap.SameBut.update ..))))
 ·rw [qX hn hj]
  obtain ⟨l⟩:=es
  have hel:l=xs.map (entryOfKey knd):=he
  subst hel
  have Nv:i < (xs.map (entryOfKey knd)).length:=by rw [List.length_map];exact (List.getElem?_eq_some_iff.mp hj).1
  have dy:i < xs.length:=(List.getElem?_eq_some_iff.mp hj).1
  simp only [Array.eraseIdxIfInBounds]
  rw [dif_pos (by simpa using dy),←oE]
  simp
 ·intro x hx
  exact knd.keeps (his x (List.mem_filter.mp hx).1) ho hd (Heap.SameBut.update ..)
 ·exact (List.filter_sublist.map _).nodup hn
theorem D9 {v:Value}:
  MeetsIn prog w (Builtin.«dict.pop» ⟨[.ref d,.ref a],[]⟩) (fun A R s=>knd.room A.in1∧∃ (k:κ)(xs:List (κ×Addr×Value))(j:Nat)(b:Addr),knd.is s.heap k a∧s.heap.DictOfH knd d xs∧xs.length≤sizeLine∧xs[j]?=some (k,(b,v))∧
   ∀h',h'.DictOfH knd d (xs.filter fun x=>decide (x.1≠k))→Heap.SameBut d s.heap h'→R (.ok (.ret v)) {s with heap:=h',toks:=s.toks + knd.draws k}):=
 .of_wp fun A R s ⟨hu,k,xs,j,b,qr,hm,hz,hj,h⟩=>by
  obtain ⟨o,es,ep,ho,hc,hd,he,his,hn⟩:=id hm
  unfold Builtin.«dict.pop»
  refine wpAny_bind ?_
  unfold Builtin.Dict.keyAndDefault
  refine wpAny_bind (wpAny_notOrdered_dict hm.typeIs ?_)
  show wpAny _ _ (pure (d,Value.ref a,none)) _ _ s
  refine wpAny_pure ?_
  have pz:es.isEmpty=false:=by
   have h0:j < xs.length:=(List.getElem?_eq_some_iff.mp hj).1
   have h1:=size_of_entries he
   rw [Array.isEmpty_eq_false_iff]
   intro q
   rw [q] at h1
   simp at h1
   omega
  simp only [show (keyPart (Value.ref a)).isSome=false from rfl,Bool.false_eq_true,if_false]
  refine wpAny_bind (wpAny_dictEntries ho hd (wpAny_bind (wpAny_pure ?_)))
  rw [pz]
  simp only [Bool.false_eq_true,if_false]
  refine wpAny_bind (Jt hu qr hm hz hj fun h' OO hs'=> ?_)
  simp only [Option.isNone_some,Bool.false_eq_true,if_false]
  exact wpAny_bind (wpAny_letGo (wpAny_pure ⟨v,rfl,h h' OO hs'⟩))
end
section
variable {X:Cx}{o e:Expr}{apos fi:Pos}{td ty:TE}
theorem KT.drop {H:Hp}{kvs:List (List Key×V)}{xs:List (List Key×Addr×Value)}(r:KT H kvs xs)(k:List Key):KT H (wt kvs k) (xs.filter fun x=>decide (x.1≠k)):=by
 induction r with
 |nil=>exact .nil
 | @cons p q ps qs h t ih=>
  unfold wt
  by_cases z:p.1=k
  ·rw [List.filter_cons,List.filter_cons,if_neg (by simp [z]),if_neg (by simp [←h.1,z])]
   exact ih
  ·rw [List.filter_cons,List.filter_cons,if_pos (by simp [z]),if_pos (by simp [←h.1,z])]
   exact .cons h ih
theorem KT.has {H:Hp}{kvs:List (List Key×V)}{xs:List (List Key×Addr×Value)}(r:KT H kvs xs){k:List Key}{v:V}(l:cN kvs k=some v):∃ (j:Nat)(b:Addr)(u:Value),xs[j]?=some (k,(b,u))∧RelV v u:=by
 induction r with
 |nil=>cases l
 | @cons p q ps qs h t ih=>
  by_cases z:p.1=k
  ·rw [cA z] at l
   cases l
   exact ⟨0,q.2.1,q.2.2,by rw [←z,h.1];rfl,h.2.2⟩
  ·rw [cB z] at l
   obtain ⟨j,b,u,e1,e2⟩:=ih l
   exact ⟨j + 1,b,u,e1,e2⟩
def OP (td ty:TE):TE:=fun σ H Q=>td σ H fun x H1=>∃a,x= .ref a∧IsD H1 a∧ty σ H1 fun y H2=>∃kvs k b v,H2 a=some (.dT kvs)∧y= .ref b∧H2 b=some (.tup (k.map kV))∧cN kvs k=some v∧Q v (upd H2 a (.dT (wt kvs k)))
theorem Ju (hu:X.A.units + 1 < cLine)(ho:PE X o td)(he:PE X e ty)(m:M1 X o "pop" apos e fi):PE X (.Call (.Attribute o "pop" apos) [e] [] fi) (OP td ty):=by
 intro pins s σ H Q I h
 refine wpAny_Call_method m.base m.few m.line PySem.F.plainAttrs_dict PySem.F.slot_dict_pop PySem.F.type_dict_pop (cI (ho pins s σ H _ I h) fun u s1 ⟨x,H1,I1,rx,a,ex,d,q1⟩=> ?_)
 subst ex
 obtain rfl:u=Value.ref a:=rx
 obtain ⟨t1,t2,_⟩:=D5 I1 d
 refine ⟨t1,t2,?_⟩
 rw [m.trees]
 refine Calls.callWith_builtin rfl (Calls.evalArgs_plain (Calls.spliced_cons (cI (he pins s1 σ H1 _ I1 q1) fun iv s2 ⟨y,H2,I2,ry,kvs,k,b,v,ea,ey,eb,l,q2⟩=>Calls.spliced_nil ?_)))
 subst ey
 obtain rfl:iv=Value.ref b:=ry
 obtain ⟨z,hd,xs,rel,dd⟩:=Nt I2.bF ea
 obtain ⟨j,c,w',hj,Ai⟩:=KT.has rel l
 refine call_meetsIn PySem.F.slot_dict_pop dd.typeIs PySem.F.entry_dict_pop (PySem.F.args_dict_pop_2 _ _) (D9 (knd:=tupleKind (bw X.prog X.w)) (v:=w'))
  ⟨tupleKind_room_in1 hu,k,xs,j,c,mW I2.bF eb,dd,by rw [←Paired.length rel];exact z,hj,fun h' Ri hs=> ?_⟩
 obtain ⟨q,es,ep,hq,h2,h3,h4,_,h5⟩:=Ri
 refine ⟨v,_,Ay (ob:= .dT (wt kvs k)) I2 (by rw [ea];exact True.intro) hs ⟨q,hq⟩ ⟨Nat.le_trans (Ji kvs k) z,hd,_,(KT.drop rel k).keeps fun c ys ec=> ?_,q,es,ep,hq,h2,h3,h4,h5⟩,Ai,q2⟩
 rw [az (aW ec ea (fun z=>nomatch z))]
 exact ec
end
end L2
namespace L2
open PySem PySem.Spec PyProof.Rows
section
variable {X:Cx}
def Jv:List V→Hp→VK→Prop:=fun vs H Q=>∃ (a:Addr)(kvs:List (Key×V))(ns:List Int),vs= [V.ref a] ∧H a=some (.dK kvs)∧kvs.map (·.1)=ns.map Sum.inl∧
 ∀ (OQ:List Int)(p:Addr),OQ.Perm ns→OQ.Pairwise (· ≤ ·)→H p=none→Q (.ref p) (upd H p (.lst (OQ.map V.int)))
theorem Ea (hc:X.calm=true):jL X (.builtin "sorted") Jv:=by
 intro pins s σ H vs us Q I r h
 obtain ⟨a,kvs,ns,rfl,e,hk,q⟩:=h
 rw [Vals.D3 r]
 obtain ⟨z,hd,ws,rel,dd⟩:=Nr I.bF e
 obtain ⟨ep,Lv⟩:=dd.dictAt
 have Nw:ws.map (·.1)=ns.map Sum.inl:=by rw [←rel.keys];exact hk
 have hlw:ws.length=ns.length:=by
  have:=congrArg List.length Nw
  simpa using this
 have hzw:ws.length≤sizeLine:=by rw [←rel.length];exact z
 refine Calls.call_function_entry kind_sorted plain_sorted entry_sorted (args_sorted1 _) ?_
 unfold Builtin.«sorted»
 refine wpAny_bind (m:=checkCount "sorted" 1 1 _) (wpAny_pure ?_)
 refine wpAny_bind (PySem.W.kdu_collect (A:=X.A.in1) (PySem.W.kdl_dict (knd:=bw X.prog X.w) (kvs:=ws) (ep:=ep) hd) (I.ok.hd hc) Lv hzw fun h' tk acc SK Th=> ?_)
 have L9:acc.toList.length=ns.length:=by rw [Array.length_toList,Th.1,hlw]
 have hI:IntsAre acc.toList ns:=by
  have all:∀ (j:Nat)(v:Value),acc.toList[j]?=some v→∃i t,ns[j]?=some i∧v= .int i t:=fun j v hv=>by
   obtain ⟨k,x,hx,hkx⟩:=Th.2 j v (by rw [←Array.getElem?_toList];exact hv)
   have h1:(ws.map (·.1))[j]?=some k:=by rw [List.getElem?_map,hx] <;>rfl
   rw [Nw,List.getElem?_map] at h1
   cases hn:ns[j]? with
   |none=>rw [hn] at h1;cases h1
   |some i=>
    rw [hn] at h1
    have hki:k=Sum.inl i:=(Option.some.inj h1).symm
    subst hki
    rcases cY (k:=Sum.inl i) (v:=v) hkx with ⟨i',t,e1,e2⟩|⟨x',t,e1,e2⟩
    ·exact ⟨i,t,rfl,by rw [e2,←Sum.inl.inj e1]⟩
    ·cases e1
  have gen:∀ (l:List Value)(m:List Int),l.length=m.length→(∀ (j:Nat)(v:Value),l[j]?=some v→∃i t,m[j]?=some i∧v= .int i t)→IntsAre l m:=by
   intro l
   induction l with
   |nil=>
    intro m hm _
    cases m with
    |nil=>exact .nil
    |cons _ _=>simp at hm
   |cons v l ih=>
    intro m hm fj
    cases m with
    |nil=>simp at hm
    |cons i m=>
     obtain ⟨i',t,e1,e2⟩:=fj 0 v rfl
     have e1':i=i':=Option.some.inj e1
     subst e1' e2
     exact .cons _ _ (ih m (by simpa using hm) fun j v hv=>fj (j + 1) v hv)
  exact gen _ _ L9 all
 have hlz:acc.toList.length≤sizeLine:=by rw [L9,←hlw];exact hzw
 refine wpAny_bind (wpAny_newList ?_ hlz)
 have hob:(h'.push {cls:= .type "list",data:= .seq acc.toList.toArray}).get? h'.objs.size=some (seqObj "list" acc.toList.toArray 0):=Heap.get?_push_size _ rfl
 have I2:Inv X pins σ H {s with heap:=h',toks:=tk}:=I.kept (t':=tk) SK
 refine wpAny_bind (wpAny_holding (wpAny_call_entry (s:={s with heap:=h'.push {cls:= .type "list",data:= .seq acc.toList.toArray},toks:=tk}) PyProof.Rows.slot_list_sort ⟨_,hob,rfl⟩ PyProof.Rows.entry_list_sort
  (PyProof.Rows.list_sort_treeAny hob hI hlz fun out OQ h1 h2 h3=>⟨.none,rfl,?_⟩) (PyProof.Rows.args_list_sort _)))
 obtain ⟨Iv,Ny⟩:=PyProof.Rows.sortedHeap_at (vs:=acc.toList) (out:=out) hob
 have Rh:(OQ.map V.int).length≤sizeLine:=by rw [List.length_map,h2.length_eq,←hlw];exact hzw
 refine wpAny_pure ⟨_,rfl,?_⟩
 have kept:∀b u,h'.get? b=some u→(PyProof.Rows.sortedHeap (h'.push {cls:= .type "list",data:= .seq acc.toList.toArray}) h'.objs.size acc.toList out).get? b=some u:=fun b u h1=>by
  have dy:=Heap.lt_size h1
  rw [PyProof.Rows.sortedHeap_old (Nat.ne_of_lt dy) (by rw [size_push'];exact Nat.lt_succ_of_lt dy)]
  exact Heap.get?_push_of_some _ h1
 exact ⟨.ref _,upd H h'.objs.size (.lst (OQ.map V.int)),I2.laid (t':=tk) kept (Nat.le_refl _) ⟨Rh,out.toList,Iv,qS h1,Ny⟩,rfl,q OQ _ h2 h3 (I2.bF.fresh (Nat.le_refl _))⟩
end
end L2
namespace L2
open PySem PySem.Spec PyProof.Rows
section
variable {prog:Program}{w:World}{A:Around}{R:Result→Shared→Prop}{I:Addr}{fp wr:List Addr}{n:Nat}{P:Nat→Value→Prop}{St:Nat→Heap→Prop}{kw:List (Str×Value)}
theorem oF:(toString "min" ++ toString ".loop":String)="min.loop":=by decide
theorem G0 (W:Walks prog w A.in1 I fp wr n P St)(bt:Nat→Nat→Bool)(OR:CmpOf prog w A.in1 .Lt P bt)(S:Addr)(Jw:S ∉ fp):
  ∀ (k j:Nat)(s:Shared)(vb:Value)(c:Nat),n - (j + 1)=k→j + 1≤n→St (j + 1) s.heap→P (argBest bt j) vb→
  s.heap.get? S=some {cls:= .type "list",dict:=none,data:= .seq #[vb,vb] c,slots:= #[] }→
  (∀v h' tk,P (argBest bt (n - 1)) v→(∀b o,b ∉ wr→b≠S→s.heap.get? b=some o→h'.get? b=some o)→R (.ok (.ret v)) {s with heap:=h',toks:=tk})→
  codeAny (model prog w) A (.builtin "min.loop" ⟨[.ref I,.none,.ref S],kw⟩) R s:=by
 have zm:S ∉ wr:=fun h=>Jw (W.sub _ h)
 intro k
 induction k with
 |zero=>
  intro j s vb c hk hj mx hb hS goal
  have Ro:j + 1=n:=by omega
  refine codeAny_builtin PySem.F.entry_min_loop ?_
  rw [Around.under_plainId PySem.F.plain_min_loop _]
  show wpAny _ A.in1 (seqItems? (.ref S) >>=_) _ _ s
  refine wpAny_bind (wpAny_seqItems hS rfl ?_)
  show wpAny _ A.in1 (tryCatch (pyNext (.ref I)) _ >>=_) _ _ s
  refine wpAny_bind (wpAny_tryCatch (W.done s _ _ (by rw [←Ro];exact mx) fun h1 t1 keep=> ?_))
  show wpAny _ A.in1 (updateSeq S (fun _=> #[]) >>=_) _ _ _
  refine wpAny_bind (wpAny_updateSeq (keep S _ zm hS) rfl (wpAny_bind (wpAny_letGo (wpAny_pure ?_))))
  exact goal vb _ t1 (by rw [←Ro];exact hb) fun b o hw Ma e=>(Heap.get?_update_other _ _ (Ne.symm Ma)).trans (keep b o hw e)
 |succ k ih=>
  intro j s vb c hk hj mx hb hS goal
  have dy:j + 1 < n:=by omega
  refine codeAny_builtin PySem.F.entry_min_loop ?_
  rw [Around.under_plainId PySem.F.plain_min_loop _]
  show wpAny _ A.in1 (seqItems? (.ref S) >>=_) _ _ s
  refine wpAny_bind (wpAny_seqItems hS rfl ?_)
  show wpAny _ A.in1 (tryCatch (pyNext (.ref I)) _ >>=_) _ _ s
  refine wpAny_bind (wpAny_tryCatch (W.item (j + 1) s _ _ dy mx fun v h1 t1 hP st1 keep=> ?_))
  have IA:=keep S _ zm hS
  show wpAny _ A.in1 (tryCatch (holding [v,v] (richCompare .Lt v vb >>=_)) _ >>=_) _ _ _
  refine wpAny_bind (wpAny_tryCatch (wpAny_holding (wpAny_bind (OR (j + 1) (argBest bt j) v vb _ _ _ hP hb ?_))))
  refine wpAny_bind (wpAny_holding (wpAny_truthy_bool (wpAny_bind (wpAny_letGo (wpAny_pure ?_)))))
  cases AI:bt (j + 1) (argBest bt j) with
  |true=>
   simp only [if_true]
   refine wpAny_bind (wpAny_updateSeq IA rfl (wpAny_bind (wpAny_letGo ?_)))
   rw [oF]
   refine wpAny_pure ⟨plainId_quiet PySem.F.plain_min_loop _,ih (j + 1) _ v _ (by omega) dy (W.frame _ _ _ st1 fun b hf o e=> ?_) (by simp only [argBest,AI,if_true];exact hP) (Heap.get?_update_self _ IA rfl) fun v2 h2 t2 Eb CI=> ?_⟩
   ·exact (Heap.get?_update_other _ _ (fun q:S=b=>Jw (by rw [q];exact hf))).trans e
   ·exact goal v2 h2 t2 Eb fun b o hw Ma e=>CI b o hw Ma ((Heap.get?_update_other _ _ (Ne.symm Ma)).trans (keep b o hw e))
  |false=>
   simp only [Bool.false_eq_true,if_false]
   refine wpAny_bind (wpAny_letGo ?_)
   rw [oF]
   refine wpAny_pure ⟨plainId_quiet PySem.F.plain_min_loop _,ih (j + 1) _ vb c (by omega) dy st1 (by simp only [argBest,AI,Bool.false_eq_true,if_false];exact hb) IA fun v2 h2 t2 Eb CI=> ?_⟩
   exact goal v2 h2 t2 Eb fun b o hw Ma e=>CI b o hw Ma (keep b o hw e)
theorem Ec (W:Walks prog w A.in1 I fp wr n P St)(bt:Nat→Nat→Bool)(OR:CmpOf prog w A.in1 .Lt P bt)(S:Addr)(Jw:S ∉ fp)(hn:0 < n){s:Shared}{c:Nat}(mx:St 0 s.heap)
  (hS:s.heap.get? S=some {cls:= .type "list",dict:=none,data:= .seq #[] c,slots:= #[] })
  (goal:∀v h' tk,P (argBest bt (n - 1)) v→(∀b o,b ∉ wr→b≠S→s.heap.get? b=some o→h'.get? b=some o)→R (.ok (.ret v)) {s with heap:=h',toks:=tk}):
  codeAny (model prog w) A (.builtin "min.loop" ⟨[.ref I,.none,.ref S],kw⟩) R s:=by
 have zm:S ∉ wr:=fun h=>Jw (W.sub _ h)
 refine codeAny_builtin PySem.F.entry_min_loop ?_
 rw [Around.under_plainId PySem.F.plain_min_loop _]
 show wpAny _ A.in1 (seqItems? (.ref S) >>=_) _ _ s
 refine wpAny_bind (wpAny_seqItems hS rfl ?_)
 show wpAny _ A.in1 (tryCatch (pyNext (.ref I)) _ >>=_) _ _ s
 refine wpAny_bind (wpAny_tryCatch (W.item 0 s _ _ hn mx fun v h1 t1 hP st1 keep=> ?_))
 have IA:=keep S _ zm hS
 show wpAny _ A.in1 (updateSeq S (fun _=> #[v,v]) >>=_) _ _ _
 refine wpAny_bind (wpAny_updateSeq IA rfl ?_)
 rw [oF]
 refine wpAny_pure ⟨plainId_quiet PySem.F.plain_min_loop _,G0 W bt OR S Jw _ 0 _ v _ rfl hn (W.frame _ _ _ st1 fun b hf o e=> ?_) hP (Heap.get?_update_self _ IA rfl) fun v2 h2 t2 Eb CI=> ?_⟩
 ·exact (Heap.get?_update_other _ _ (fun q:S=b=>Jw (by rw [q];exact hf))).trans e
 ·exact goal v2 h2 t2 Eb fun b o hw Ma e=>CI b o hw Ma ((Heap.get?_update_other _ _ (Ne.symm Ma)).trans (keep b o hw e))
theorem G2 (W:Walks prog w A.in1 I fp wr 0 P St)(S:Addr)(Jw:S ∉ fp){d:Value}{x:Str}{s:Shared}{c:Nat}(mx:St 0 s.heap)
  (hS:s.heap.get? S=some {cls:= .type "list",dict:=none,data:= .seq #[] c,slots:= #[] })
  (goal:∀h' tk,(∀b o,b ∉ wr→s.heap.get? b=some o→h'.get? b=some o)→R (.ok (.ret d)) {s with heap:=h',toks:=tk}):
  codeAny (model prog w) A (.builtin "min.loop" ⟨[.ref I,.none,.ref S],[(x,d)]⟩) R s:=by
 refine codeAny_builtin PySem.F.entry_min_loop ?_
 rw [Around.under_plainId PySem.F.plain_min_loop _]
 show wpAny _ A.in1 (seqItems? (.ref S) >>=_) _ _ s
 refine wpAny_bind (wpAny_seqItems hS rfl ?_)
 show wpAny _ A.in1 (tryCatch (pyNext (.ref I)) _ >>=_) _ _ s
 refine wpAny_bind (wpAny_tryCatch (W.done s _ _ mx fun h1 t1 keep=> ?_))
 refine wpAny_bind (wpAny_rule (wpAny_pure ?_))
 exact goal h1 t1 keep
end
section
variable {prog:Program}{w:World}{A:Around}{E:Value→Shared→Prop}{s:Shared}{l:Addr}{aV:List Value}{ns:List Int}{Q:Value→Shared→Prop}
theorem G3 (a v:Value):argsOk "min" ⟨[a],[(Str.ofString "default",v)]⟩:=by unfold argsOk;kernel_rfl
theorem Jx {d:Value}(hh:A.handled=none)(hl:s.heap.IsList l aV.toArray)(hi:IntsAre aV ns)
  (h0:ns= [] →∀h' tk,(∀b o,s.heap.get? b=some o→h'.get? b=some o)→Q d {s with heap:=h',toks:=tk})
  (h:∀h' tk M t',(∀b o,s.heap.get? b=some o→h'.get? b=some o)→M∈ns→(∀a,a∈ns→M≤a)→Q (.int M t') {s with heap:=h',toks:=tk}):
  wpAny (model prog w) A (call (.builtin "min") [.ref l] [(Str.ofString "default",d)]) Q E s:=by
 obtain ⟨xs,e⟩:=hi.allInts.items
 have hn:numsOf (intItems xs).toList=ns:=by rw [←e];exact hi.numsOf
 rw [nums_intItems] at hn
 subst hn
 rw [e] at hl
 refine wpAny_call (codeAny_call_builtin PySem.F.plain_min PySem.F.entry_min ?_)
 simp only [checkBuiltinCall,PySem.F.kind_min]
 have body:wpAny (model prog w) A.in1 (Builtin.«min» ⟨[.ref l],[(Str.ofString "default",d)]⟩) (fun fin s'=>match fin with
   | .done f=>(match (Except.ok f:Result) with| .ok (.ret v)=>Q v s'| .ok _=>False| .error e=>E e s')
   | .again c'=>c'.quiet=true∧codeAny (model prog w) A c' (fun r s'=>match r with| .ok (.ret v)=>Q v s'| .ok _=>False| .error e=>E e s') s') E s:=by
  show wpAny _ A.in1 (Builtin.Builtins.bindParams "min" ["key","default"] 0 ⟨[],[(Str.ofString "default",d)]⟩ >>=_) _ _ s
  refine wpAny_bind (wpAny_of_eq (show Builtin.Builtins.bindParams "min" ["key","default"] 0 ⟨[],[(Str.ofString "default",d)]⟩=pure [none,some d] from rfl) ?_)
  refine wpAny_bind (wpAny_pure ?_)
  refine wpAny_bind (iter_intList hl fun s₂ e2 st Nn hlI=> ?_)
  subst e2
  refine wpAny_bind (wpAny_newObj_type ?_)
  have hSf:(s.heap.push {cls:= .type "list_iterator",data:= .fields #[.ref l,.int 0 0] }).objs.size ∉ [s.heap.objs.size,l] :=fun hm=>Nat.lt_irrefl _ (Nn _ hm)
  rw [oF]
  have W:=Walks.list (prog:=prog) (w:=w) (A:=A.in1) hh s.heap.objs.size l hlI (intItems xs)
  by_cases hz:xs.size=0
  ·have Rh:(intItems xs).size=0:=by simpa [intItems] using hz
   rw [Rh] at W
   refine wpAny_pure ⟨plainId_quiet PySem.F.plain_min_loop _,G2 W _ hSf (W.frame _ _ _ st fun b _ o e=>Heap.get?_push_of_some _ e) (Heap.get?_push_size _ rfl) fun h' tk keep=> ?_⟩
   refine h0 ?_ h' tk (old_kept fun b o hb e=>keep b o hb (Heap.get?_push_of_some _ e))
   have:xs= #[] :=Array.eq_empty_of_size_eq_zero hz
   rw [this]
   rfl
  ·have OS:0 < (intItems xs).size:=by
    have:(intItems xs).size=xs.size:=by simp [intItems]
    omega
   refine wpAny_pure ⟨plainId_quiet PySem.F.plain_min_loop _,Ec W _ (CmpOf.ints_lt (numAt xs) (fun _ _=>intItems_at)) _ hSf OS (W.frame _ _ _ st fun b _ o e=>Heap.get?_push_of_some _ e) (Heap.get?_push_size _ rfl) fun v h' tk hP keep=> ?_⟩
   have hv:(intItems xs)[argBest (fun i j=>decide (numAt xs i < numAt xs j)) (xs.size - 1)]?=some v:=by simpa [intItems] using hP
   obtain ⟨t,rfl⟩:=intItems_at hv
   obtain ⟨h1,h2⟩:=argBest_lt (numAt xs) (xs.size - 1)
   refine h h' tk _ t (old_kept fun b o hb e=>keep b o hb (fun q=> ?_) (Heap.get?_push_of_some _ e)) ?_ fun a ha=> ?_
   ·exact absurd (Heap.lt_size e) (by rw [q];exact Nat.lt_irrefl _)
   ·rw [numAt_eq];exact PySem.getD_mem (by rw [List.length_map,Array.length_toList];omega)
   ·obtain ⟨j,hj,rfl⟩:=mem_getD ha
    rw [List.length_map,Array.length_toList] at hj
    rw [←numAt_eq];exact h2 j (by omega)
 cases abY:Manifest.signature? "min" with
 |none=>exact wpAny_pure body
 |some sig=>
  have ha:=G3 (.ref l) d
  simp only [argsOk,abY] at ha
  have h2:Bind.checkArgs "min" sig ⟨[.ref l],[(Str.ofString "default",d)]⟩=pure ():=ha
  simp only [h2]
  exact wpAny_pure body
end
section
variable {X:Cx}{p pos kpos:Pos}{e d:Expr}{te td:TE}
def Ti (K:PySem.W.Frag)(te td:TE):TE:=fun σ H Q=>te σ H fun x H1=>td σ H1 fun y H2=>∃ (a:Addr)(ns:List Int),x= .ref a∧bT K H2 a (ns.map V.int)∧(ns= [] →Q y H2)∧∀m,m∈ns→(∀z,z∈ns→m≤z)→Q (.int m) H2
theorem Fy (hc:X.calm=true)(hg:Gl X "min")(hm:X.mg "min"=none)(he:PE X e te)(hd:PE X d td)(hs:starEach [e] X.env=(false,eval e X.env)::starEach [] X.env:=by rfl)
  (hb:backTo pos (starEach [e] X.env)=(false,eval e X.env)::backTo pos (starEach [] X.env):=by rfl)(dB:(backTo pos (starEach [e] X.env)).any (·.1)=false:=by rfl):
  PE X (.Call (.Name "min" p) [e] [⟨some "default",d,kpos⟩] pos) (Ti X.K te td):=by
 intro pins s σ H Q I h
 refine wpAny_Call_Name_kw (tq I hg hm PyProof.Rows.boot_min ?_)
 refine callWith_kw ?_ hb dB
 have h1:Fi te LO σ H (fun vs H1=>match vs with
   | [x] =>td σ H1 fun y H2=>∃ (a:Addr)(ns:List Int),x= .ref a∧bT X.K H2 a (ns.map V.int)∧(ns= [] →Q y H2)∧∀m,m∈ns→(∀z,z∈ns→m≤z)→Q (.int m) H2
   |_=>False):=h
 refine cI ((aa he af hs) pos pins s σ H _ I h1) fun us s1 ⟨vs,H1,I1,r1,q1⟩=> ?_
 match vs,r1,q1 with
 | [x],r1,q1=>
  have h2:Fi td LO σ H1 (fun ws H2=>match ws with
    | [y] =>∃ (a:Addr)(ns:List Int),x= .ref a∧bT X.K H2 a (ns.map V.int)∧(ns= [] →Q y H2)∧∀m,m∈ns→(∀z,z∈ns→m≤z)→Q (.int m) H2
    |_=>False):=q1
  refine cI ((LP (nm:=some "default") (kpos:=kpos) hd Oe) pos pins s1 σ H1 _ I1 h2) fun ws s2 ⟨zs,H2,I2,r2,q2⟩=> ?_
  match zs,r2,q2 with
  | [y],r2,q2=>
   obtain ⟨a,ns,rfl,hq,q3,q4⟩:=q2
   obtain ⟨u,rfl,ru⟩:=vals1 r2
   rw [Vals.D3 r1]
   obtain ⟨aV,rv,hl,_⟩:=I2.list hq
   exact Jx (I2.ok.hd hc) hl.isList rv.ints (fun z h' tk hk=>⟨y,H2,I2.kept hk,ru,q3 z⟩) fun h' tk m t' hk h1 h2=>⟨.int m,H2,I2.kept hk,⟨_,rfl⟩,q4 m h1 h2⟩
end
end L2
namespace L2
open PySem PySem.Spec PyProof.Rows
section
variable {X:Cx}{K:PySem.W.Frag}{e:Expr}{f:Str}{pos:Pos}{ta:TE}
theorem lx (K:PySem.W.Frag)(hK:X.K=K)(he:PE X e ta)(hb:attributeBase e f X.env (eval e X.env)=eval e X.env):PE X (.Attribute e f pos) (Si K ta f):=by
 subst hK
 exact ai he hb
theorem Mb (K:PySem.W.Frag)(hK:X.K=K)(hu:X.A.units + 64 < cLine):vm X (compareOp .Eq) (SJ K):=by
 subst hK
 exact Jd hu
theorem AJ (K:PySem.W.Frag)(hK:X.K=K):Sy X (SE K):=by
 subst hK
 exact aY
theorem CJ (K:PySem.W.Frag)(hK:X.K=K):Sy X (SA K):=by
 subst hK
 exact aJ
theorem Mc {es:List Expr}{k n:Nat}{t:Ng}(K:PySem.W.Frag)(hK:X.K=K)(hc:X.calm=true)(h:RV X es t)
  (hn:(assignEach es X.env).length=n:=by rfl)(mx:(assignEach es X.env).findIdx? (·.1)=none:=by rfl):PG X (.Tuple es k pos) (RY K n t):=by
 subst hK
 exact DP hc h hn mx
end
end L2
namespace L2
open PySem PySem.Spec PyProof.Rows
theorem yl (l:Addr)(us:Array Value)(n:Nat)(b:Addr)(ws:Array Value)(n2:Nat)(dd:Option Addr)(sl:Array (Option Value))(hs0:¬(!us.isEmpty && Builtin.List.listTooLong (us.size + ws.size))=true)(hs1:us.size≤sizeLine)(hs2:us.size + ws.size≤sizeLine + 1):
  Meets (Builtin.«list.extend» ⟨[.ref l,.ref b],[]⟩) (fun _ R s=>s.heap.get? l=some {cls:= .type "list",data:= .seq us n}∧s.heap.get? b=some ⟨.type "tuple",dd,.seq ws n2,sl⟩∧
   R (.ok (.ret Value.none)) {s with heap:=s.heap.update l (Obj.mapSeq fun x=>x ++ ws),toks:=s.toks}):=
 .of_wp fun prog w A R s h=>by
  obtain ⟨hp,g,d,tk,os⟩:=s
  obtain ⟨hl,hb,h⟩:=h
  have f1:=AutoSeq1.idx_int
  have f2:=AutoSeq1.sub_tuple_tuple
  have f3:=AutoSeq1.sub_list_list
  have f4:=AutoSeq1.sub_tuple_list
  have f5:=AutoSeq1.sub_list_tuple
  have hz:(us ++ ws).size≤sizeLine + 1:=by rw [Array.size_append];exact hs2
  wp_walk using (wpAny_updateSeq hl rfl (hz:=hs1) (_hz':=hz)),wpAny_loadPart' hl,wpAny_loadPart' hb
  exact ⟨_,rfl,h⟩
section
variable {X:Cx}
def Jy (K:PySem.W.Frag):V→List V→Hp→VK→Prop:=fun x vs H Q=>∃l b xs zs,x= .ref l∧vs= [.ref b] ∧H l=some (.lst xs)∧bb K H b zs∧xs.length + zs.length≤sizeLine∧Q .bu (upd H l (.lst (xs ++ zs)))
theorem ly:SH X "list.extend" (Jy X.K):=by
 intro pins s σ H x vs v us Q I rx rv h
 obtain ⟨l,b,xs,zs,rfl,rfl,hH,hB,hz,q⟩:=h
 cases rx
 obtain ⟨u,rfl,ru⟩:=rv.one
 cases ru
 obtain ⟨z,aV,n,r,hl,e⟩:=I.Ao hH
 obtain ⟨ws,r2,⟨⟨oc,dd,od,sl⟩,ho,hc,n2,hd⟩,_⟩:=I.tuple hB
 have Nf:oc= .type "tuple":=hc
 have RM:od= .seq ws.toArray n2:=hd
 subst Nf RM
 have Rg:=r2.length
 have hsz:aV.toArray.size + ws.toArray.size≤sizeLine:=by rw [List.size_toArray,List.size_toArray];omega
 have Cn:¬ (!aV.toArray.isEmpty && Builtin.List.listTooLong (aV.toArray.size + ws.toArray.size))=true:=by
  rw [wo hsz,Bool.and_false]
  exact Bool.false_ne_true
 refine call_meets F.slot_list_extend ⟨_,e,rfl⟩ F.entry_list_extend (F.args_list_extend_2 _ _) (yl l aV.toArray n b ws.toArray n2 dd sl Cn (by rw [List.size_toArray];omega) (by omega)) ⟨e,ho,?_⟩
 refine ⟨.bu,_,I.Jb (its':=aV ++ ws) hH e (by simp) (r.append r2) ?_,rfl,q⟩
 rw [List.length_append]
 omega
def Tj:V→List V→Hp→VK→Prop:=fun x vs H Q=>∃l xs y,x= .ref l∧vs= [.int 0,y] ∧H l=some (.lst xs)∧xs.length < sizeLine∧Q .bu (upd H l (.lst (y::xs)))
theorem Md:SH X "list.insert" Tj:=by
 intro pins s σ H x vs v us Q I rx rv h
 obtain ⟨l,xs,y,rfl,rfl,hH,hz,q⟩:=h
 cases rx
 obtain ⟨u0,u,rfl,r0,ru⟩:=rv.two
 obtain ⟨t,rfl⟩:=r0
 obtain ⟨z,aV,n,r,hl,e⟩:=I.Ao hH
 refine call_meets F.slot_list_insert ⟨_,e,rfl⟩ F.entry_list_insert (F.args_list_insert_3 _ _ _) (AutoSeq1.list_insert_list_int_val_1 l aV.toArray n 0 t u (by decide) (by rw [List.size_toArray];omega)) ⟨e,?_⟩
 refine ⟨.bu,_,I.Jb (its':=u::aV) hH e ?_ (.cons ru r) ?_,rfl,q⟩
 ·simp
 ·rw [List.length_cons]
  omega
end
theorem CL {α β:Type}(g:α→β)(u:β→α)(hu:∀a,u (g a)=a){l:List β}{as:List α}(h:l.Perm (as.map g)):∃mY:List α,mY.Perm as∧l=mY.map g:=by
 refine ⟨l.map u,?_,?_⟩
 ·have:=h.map u
  rw [List.map_map] at this
  have e:as.map (u ∘ g)=as:=by
   conv=>rhs;rw [←List.map_id as]
   exact List.map_congr_left fun a _=>hu a
  rw [e] at this
  exact this
 ·rw [List.map_map]
  conv=>lhs;rw [←List.map_id l]
  refine List.map_congr_left fun b hb=> ?_
  obtain ⟨a,_,rfl⟩:=List.mem_map.mp (h.mem_iff.mp hb)
  show g a=g (u (g a))
  rw [hu]
theorem zo:∀ {as:List Addr}{vs:List Value},Vals (as.map V.ref) vs→vs=as.map Value.ref
 | [],_,.nil=>rfl
 |a::as,_,.cons r t=>by
  cases r
  rw [zo t]
  rfl
section
variable {X:Cx}
def Jz (K:PySem.W.Frag):List V→Hp→VK→Prop:=fun vs H Q=>∃ (a:Addr)(as:List Addr)(f:Addr→Int×Int),vs= [V.ref a] ∧bT K H a (as.map V.ref)∧(∀b∈as,bb K H b [V.int (f b).1,V.int (f b).2])∧
 ∀ (mY:List Addr)(p:Addr),mY.Perm as→mY.Pairwise (fun x y=>(f x).1≤(f y).1)→H p=none→Q (.ref p) (upd H p (.lst (mY.map V.ref)))
def Tn:Nat→Bool:=fun _=>false
theorem Ed:jL X (.builtin "sorted") (Jz X.K):=by
 intro pins s σ H vs us Q I r h
 obtain ⟨a,as,f,rfl,hs,fj,q⟩:=h
 obtain ⟨aV,rv,hl,hz⟩:=I.list hs
 rw [Vals.D3 r]
 have ei:=zo rv
 subst ei
 have one:∀b∈as,∃ (o:Obj)(n:Nat)(t t':Tok),s.heap.get? b=some o∧o.cls= .type "tuple"∧o.data= .seq #[.int (f b).1 t,.int (f b).2 t'] n:=fun b hb=>by
  obtain ⟨aV,rv,⟨o,ho,hc,n,hd⟩,_⟩:=I.tuple (fj b hb)
  match aV,rv with
  | [u,v],.cons r1 (.cons r2 .nil)=>
   obtain ⟨t,rfl⟩:=r1
   obtain ⟨t',rfl⟩:=r2
   exact ⟨o,n,t,t',ho,hc,hd⟩
 have key:∀b∈as,G.tupKeyC s.heap Tn (.ref b)=some [Sum.inl (f b).1,Sum.inl (f b).2] :=fun b hb=>by
  obtain ⟨o,n,t,t',ho,hc,hd⟩:=one b hb
  unfold G.tupKeyC
  have e1:G.isTupObj s.heap (.ref b)=true:=by simp [G.isTupObj,ho,hc]
  rw [if_pos e1]
  simp only [tupKey,ho,hd]
  rfl
 have vU:∀ (l:List Addr),(∀b∈l,b∈as)→∃fs,TupsOf s.heap Tn (l.map Value.ref) fs:=by
  intro l
  induction l with
  |nil=>exact fun _=>⟨[],.nil⟩
  |cons b l ih=>
   intro hm
   obtain ⟨fs,hf⟩:=ih fun c hc=>hm c (List.mem_cons_of_mem _ hc)
   obtain ⟨o,n,t,t',ho,hc,hd⟩:=one b (hm b (List.mem_cons_self ..))
   exact ⟨_::fs,.cons ⟨b,o,_,n,rfl,ho,hc,hd,rfl,fun _=>⟨_,_,rfl⟩,fun e=>absurd e (by decide)⟩ hf⟩
 obtain ⟨fs,hfs⟩:=vU as fun b hb=>hb
 refine G.sorted_tups (vs:=as.map Value.ref) (shape:=Tn) hl.isList hfs (fun v hv=> ?_) (by rw [List.length_map];rw [List.length_map] at hz;exact hz) fun yi hp G4 _=> ?_
 ·obtain ⟨b,hb,rfl⟩:=List.mem_map.mp hv
  exact ⟨_,key b hb⟩
 have dB:(arrOf yi).toList.Perm (as.map fun b=>((Value.ref b,Value.ref b):Keyed)):=by
  have e:=Array.perm_iff_toList_perm.mp hp
  rw [pairsOf_toList] at e
  have z:∀l:List Addr,(l.map Value.ref).zip (l.map Value.ref)=l.map fun b=>((Value.ref b,Value.ref b):Keyed):=by
   intro l
   induction l with
   |nil=>rfl
   |cons b l ih=>
    show (Value.ref b,Value.ref b)::(l.map Value.ref).zip (l.map Value.ref)=_
    rw [ih]
    rfl
  rw [z] at e
  exact e
 obtain ⟨mY,Rp,Ny⟩:=CL (fun b=>((Value.ref b,Value.ref b):Keyed)) (fun p=>match p.1 with| .ref b=>b|_=>0) (fun _=>rfl) dB
 obtain ⟨ep,Lv⟩:=PyProof.Rows.sortedAll_at s.heap (as.map Value.ref) ((arrOf yi).map (·.2))
 have e2:((arrOf yi).map (·.2)).toList=mY.map Value.ref:=by
  rw [Array.toList_map,Ny,List.map_map]
  rfl
 have hV:Vals (mY.map V.ref) ((arrOf yi).map (·.2)).toList:=by
  rw [e2]
  clear Rp Ny e2
  induction mY with
  |nil=>exact .nil
  |cons b l ih=>exact .cons rfl ih
 have Rh:(mY.map V.ref).length≤sizeLine:=by
  rw [List.length_map,Rp.length_eq]
  rw [List.length_map] at hz
  exact hz
 refine ⟨.ref _,upd H (s.heap.objs.size + 1) (.lst (mY.map V.ref)),I.laid (t':=s.toks) (fun _ _=>PyProof.Rows.sortedAll_old) (Nat.le_succ _) ⟨Rh,_,ep,hV,Lv⟩,rfl,q mY _ Rp ?_ (I.bF.fresh (Nat.le_succ _))⟩
 rw [List.pairwise_iff_getElem]
 intro i j hi hj Tg
 have hlen:(pairsOf (as.map Value.ref)).size=mY.length:=by
  rw [←Array.length_toList,←(Array.perm_iff_toList_perm.mp hp).length_eq,Ny,List.length_map]
 have hle:=G4 i j (Nat.le_of_lt Tg) (by rw [hlen];exact hj)
 have kk:∀ (k:Nat)(hk:k < mY.length),KK (G.tupKindC s.heap Tn) (arrOf yi) k= [Sum.inl (f mY[k]).1,Sum.inl (f mY[k]).2] :=fun k hk=>by
  unfold KK
  have:(arrOf yi)[k]?=some (Value.ref mY[k],Value.ref mY[k]):=by
   rw [←Array.getElem?_toList,Ny,List.getElem?_map,List.getElem?_eq_getElem hk]
   rfl
  rw [this]
  show (G.tupKeyC s.heap Tn (Value.ref mY[k])).getD [] =_
  rw [key _ (Rp.mem_iff.mp (List.getElem_mem hk))]
  rfl
 rw [kk i hi,kk j hj] at hle
 have OT:lexLt itemOrd [Sum.inl (f mY[j]).1,Sum.inl (f mY[j]).2] [Sum.inl (f mY[i]).1,Sum.inl (f mY[i]).2] =false:=hle
 obtain ⟨h1,_⟩:=lex_false.mp OT
 have h2:decide ((f mY[j]).1 < (f mY[i]).1)=false:=h1
 have:=of_decide_eq_false h2
 omega
end
end L2
namespace L2
open PySem PySem.Spec PyProof.Rows
theorem Ee {J:It}{n:Nat}{g:TG}{tt:TT}{te:TE}{vs:List Nat}{σ:St}{H1:Hp}{D:Addr}{Qd:Hp→Prop}(Pv:Nat→Hp→Prop)(h0:Pv 0 (upd H1 D (.lst [])))(Me:∀i H,i < n→Pv i H→J.go i H)(mx:∀H,Pv n H→J.stop n H)
  (hs:∀i x H H',i < n→Pv i H→J.Iw i H x H'→g x (wipe σ vs) H' fun σ2 H2=>wipe σ2 vs=wipe σ vs∧tt σ2 H2 fun b H3=>
   if b=true then te σ2 H3 fun y H4=>∃acc,H4 D=some (.lst acc)∧acc.length < sizeLine∧Pv (i + 1) (upd H4 D (.lst (acc ++ [y]))) else Pv (i + 1) H3)(hd:∀H,Pv n H→Qd H):
  ∃W:Nat→Nat→Hp→Prop,(∃m,W 0 m (upd H1 D (.lst [])))∧∀i m H,W i m H→
   (J.stop i H∧Qd H)∨(J.go i H∧∃Nx:Hp→Prop,(∀H',Nx H'→∃m',m' < m∧W (i + 1) m' H')∧∀x H',J.Iw i H x H'→g x (wipe σ vs) H' fun σ2 H2=>wipe σ2 vs=wipe σ vs∧tt σ2 H2 fun b H3=>
    if b=true then te σ2 H3 fun y H4=>∃acc,H4 D=some (.lst acc)∧acc.length < sizeLine∧Nx (upd H4 D (.lst (acc ++ [y]))) else Nx H3):=by
 refine ⟨fun i m H=>m=n - i∧i≤n∧Pv i H,⟨n,by simp,Nat.zero_le _,h0⟩,?_⟩
 rintro i m H ⟨rfl,hi,p⟩
 by_cases dy:i < n
 ·exact .inr ⟨Me i H dy p,Pv (i + 1),fun H' p'=>⟨n - (i + 1),by omega,rfl,dy,p'⟩,fun x H' y=>hs i x H H' dy p y⟩
 ·have e:i=n:=by omega
  subst e
  exact .inl ⟨mx H p,hd H p⟩
theorem Mf {J:It}{n:Nat}{g:TG}{tb:TS}{D:Ends}{σ:St}{H:Hp}(Pv:Nat→St→Hp→Prop)(h0:Pv 0 σ H)(Me:∀i σ H,i < n→Pv i σ H→J.go i H)(mx:∀σ H,Pv n σ H→J.stop n H)
  (hs:∀i x σ H H',i < n→Pv i σ H→J.Iw i H x H'→g x σ H' fun σ2 H2=>tb {D with nx:=Pv (i + 1),ct:=Pv (i + 1),bk:=D.nx} σ2 H2)(hd:∀σ H,Pv n σ H→D.nx σ H):
  ∃W:Nat→Nat→St→Hp→Prop,(∃m,W 0 m σ H)∧∀i m σ H,W i m σ H→
   (J.stop i H∧D.nx σ H)∨(J.go i H∧∃N:St→Hp→Prop,(∀σ' H',N σ' H'→∃m',m' < m∧W (i + 1) m' σ' H')∧∀x H',J.Iw i H x H'→g x σ H' fun σ2 H2=>tb {D with nx:=N,ct:=N,bk:=D.nx} σ2 H2):=by
 refine ⟨fun i m σ H=>m=n - i∧i≤n∧Pv i σ H,⟨n,by simp,Nat.zero_le _,h0⟩,?_⟩
 rintro i m σ H ⟨rfl,hi,p⟩
 by_cases dy:i < n
 ·exact .inr ⟨Me i σ H dy p,Pv (i + 1),fun σ' H' p'=>⟨n - (i + 1),by omega,rfl,dy,p'⟩,fun x H' y=>hs i x σ H H' dy p y⟩
 ·have e:i=n:=by omega
  subst e
  exact .inl ⟨mx σ H p,hd σ H p⟩
section
variable {prog:Program}{w:World}{A:Around}{E:Value→Shared→Prop}{s:Shared}
theorem Ef {d:Addr}{o:Obj}(nd:(d==sysModules)=false):MeetsIn prog w (Builtin.«dict.items» ⟨[.ref d],[]⟩) (fun _ R s=>(s.heap.get? d=some o∧o.ExactDict)∧
   R (.ok (.ret (.ref s.heap.objs.size))) {s with heap:=s.heap.push {cls:= .type "dict_items",data:= .fields #[.ref d] } }):=
 .of_wp fun A R s ⟨⟨h0,hx⟩,k⟩=>by
  have ty:s.TypeIs (.ref d) "dict":=⟨o,h0,hx.1⟩
  unfold Builtin.«dict.items»;refine wpAny_bind ?_
  unfold Builtin.Dict.noArgs;refine wpAny_bind (wpAny_notOrdered_dict ty ?_)
  show wpAny _ _ (pure d) _ _ s;refine wpAny_pure ?_
  show wpAny _ _ (Builtin.Dict.showsAll d >>=_) _ _ s;unfold Builtin.Dict.showsAll
  rw [if_neg (show ¬ (d==sysModules)=true by rw [nd];exact Bool.false_ne_true)];refine wpAny_bind (wpAny_pure ?_)
  exact wpAny_bind (wpAny_newObj_type (wpAny_pure ⟨_,rfl,k⟩))
theorem Eg {v d:Addr}{o:Obj}{es:Array DictEntry}{ep:Nat}{Q:Value→Shared→Prop}(hv:s.heap.IsItemsView v d)(g0:s.heap.get? d=some o)(g1:o.data= .dict es ep)
  (hQ:Q (.ref s.heap.objs.size) {s with heap:=s.heap.push {cls:= .type "dict_itemiterator",data:= .fields #[.none,.bool false,.ref d,.int 0 0,.int es.size 0,.int ep 0,.none,.none] } }):
  wpAny (model prog w) A (pyIter (.ref v)) Q E s:=by
 obtain ⟨ov,v0,v1,v2⟩:=id hv
 refine wpAny_pyIter_slot hv.typeIs F.slot_dict_items_iter (wpAny_call_entry F.slot_dict_items_iter hv.typeIs F.entry_dict_items_iter ?_ (F.args_dict_items_iter_1 _))
 unfold Builtin.«dict_items.__iter__»;refine wpAny_bind (wpAny_pure (wpAny_bind ?_))
 unfold Builtin.Dict_items.dictOf;refine wpAny_bind (wpAny_field v0 v2 (x:= .ref d) rfl (wpAny_pure (wpAny_bind ?_)))
 unfold Builtin.Dict_items.newIterator;refine wpAny_bind (wpAny_dictEntries g0 g1 (wpAny_bind (wpAny_dictEpoch g0 g1 ?_)))
 simp only [show Builtin.Dict_items.ownsTuple "dict_itemiterator"=true by decide,if_true]
 refine wpAny_newObj_type (wpAny_pure ⟨_,rfl,"dict_itemiterator",_,⟨_,Heap.get?_push_size _ rfl,rfl⟩,F.slot_dict_itemiterator_next.lookup,?_⟩)
  (by simp only [sizeOk,Builtin.Dict_items.ownedTupleFields,List.size_toArray,List.length_append,List.length_cons,List.length_nil,sizeLine_eq];omega)
 simpa [rawInt,Builtin.Dict_items.ownedTupleFields] using hQ
theorem Eh {it d:Addr}{i ep:Nat}{o:Obj}{es:Array DictEntry}{en:DictEntry}{ok ov:Value}{Q:Option Value→Shared→Prop}(hit:IsItemIter s.heap it d i es.size ep ok ov)(g0:s.heap.get? d=some o)(g1:o.data= .dict es ep)(gx:es[i]?=some en)
  (hQ:∀h',IsItemIterOut h' it d (i + 1) es.size ep en.key en.val s.heap.objs.size→h'.get? s.heap.objs.size=some {cls:= .type "tuple",data:= .seq #[en.key,en.val] }→h'.objs.size=s.heap.objs.size + 1→
   (∀b o,b≠it→s.heap.get? b=some o→h'.get? b=some o)→Q (some (.ref s.heap.objs.size)) {s with heap:=h'}):
  wpAny (model prog w) A (pyNext (.ref it)) Q E s:=by
 obtain ⟨hp,g,dr,tk,os⟩:=s
 have ty:Shared.TypeIs ⟨hp,g,dr,tk,os⟩ (.ref it) "dict_itemiterator":=⟨_,hit,rfl⟩
 unfold pyNext
 refine wpAny_bind (wpAny_attempt (wpAny_callSpecial?_slot (name:=Str.ofString "__next__") ty F.slot_dict_itemiterator_next (wpAny_call_entry F.slot_dict_itemiterator_next ty F.entry_dict_itemiterator_next ?_ (F.args_dict_itemiterator_next_1 _))))
 refine wpAny_bind (wpAny_pure (wpAny_bind (wpAny_bind ?_)))
 first|refine wpAny_bind (wpAny_typeNameOfWhole_itemiter ty (wpAny_pure ?_))|refine wpAny_bind (wpAny_typeNameOf_itemiter ty (wpAny_pure ?_))
 refine wpAny_bind (wpAny_fieldsOf hit rfl ?_)
 simp only [show Builtin.Dict_items.ownsTuple "dict_itemiterator"=true by decide,if_true]
 show wpAny _ _ (if (Value.ref d==Value.none)=true then _ else _) _ _ _;rw [if_neg (show ¬ ((Value.ref d==Value.none)=true) by exact Bool.false_ne_true)]
 refine wpAny_bind (wpAny_pure (wpAny_bind (wpAny_dictEntries g0 g1 ?_)))
 rw [if_neg (show ¬_ by simp)]
 refine wpAny_bind (wpAny_pure (wpAny_bind (wpAny_dictEpoch g0 g1 ?_)))
 rw [if_neg (show ¬_ by simp)];refine wpAny_pure ?_
 simp only [show ¬ ((i:Int) < 0) by omega,if_false,Int.toNat_natCast,gx];refine wpAny_bind ?_
 first|refine wpAny_bind (wpAny_typeNameOfWhole_itemiter ty (wpAny_pure ?_))|refine wpAny_bind (wpAny_typeNameOf_itemiter ty (wpAny_pure ?_))
 refine wpAny_bind (wpAny_isOneOf_itemiter ty ?_);show wpAny _ _ (setField (.ref it) 3 (rawInt ((i:Int) + 1)) >>=_) _ _ ⟨hp,g,dr,tk,os⟩
 refine wpAny_bind (wpAny_setField_rec hit (by simp) fun h1 e1 s1=> ?_)
 replace s1:Heap.SameBut it hp h1:=s1
 replace e1:IsItemIter h1 it d (i + 1) es.size ep ok ov:=by
  have e:((i + 1:Nat):Int)=(i:Int) + 1:=by omega
  unfold IsItemIter;rw [e];simpa [rawInt] using e1
 have ty1:Shared.TypeIs ⟨h1,g,dr,tk,os⟩ (.ref it) "dict_itemiterator":=⟨_,e1,rfl⟩
 refine wpAny_bind (wpAny_holding (wpAny_bind (wpAny_isOneOf_itemiter ty1 (wpAny_bind (wpAny_isOneOf_itemiter ty1 ?_)))))
 show wpAny _ _ (Builtin.Dict_items.pairFromOwner (.ref it) 6 en.key en.val) _ _ ⟨h1,g,dr,tk,os⟩
 unfold Builtin.Dict_items.pairFromOwner;refine wpAny_bind (wpAny_newTuple ?_)
 have e2:IsItemIter (h1.push {cls:= .type "tuple",data:= .seq #[en.key,en.val] }) it d (i + 1) es.size ep ok ov:=Heap.get?_push_of_some _ e1
 generalize q2:h1.push {cls:= .type "tuple",data:= .seq #[en.key,en.val] }=h2 at e2
 have z1:h1.objs.size=hp.objs.size:=s1.1
 have lt1:it < hp.objs.size:=Heap.lt_size hit
 have t2:h2.get? hp.objs.size=some {cls:= .type "tuple",data:= .seq #[en.key,en.val] }:=by rw [←q2,←z1];exact Heap.get?_push_size _ rfl
 have z2:h2.objs.size=hp.objs.size + 1:=by rw [←q2,Heap.size_push,z1]
 have k2:∀b o,b≠it→hp.get? b=some o→h2.get? b=some o:=fun b o hb e=>by rw [←q2];exact Heap.get?_push_of_some _ (s1.extBut b o hb e)
 show wpAny _ _ (Builtin.Dict_items.ownedTupleIsFree (.ref it) >>=_) _ _ ⟨h2,g,dr,tk,os⟩
 rw [z1]
 clear q2 e1 s1 ty1 z1 h1
 refine wpAny_bind ?_;unfold Builtin.Dict_items.ownedTupleIsFree
 refine wpAny_bind (wpAny_field e2 rfl (x:= .none) rfl (wpAny_pure ?_));simp only [if_true]
 refine wpAny_bind (wpAny_field e2 rfl (x:=ok) rfl (wpAny_bind (wpAny_field e2 rfl (x:=ov) rfl ?_)))
 refine wpAny_bind (wpAny_setField_rec e2 (by simp) fun h3 e3 s3=> ?_)
 replace s3:Heap.SameBut it h2 h3:=s3
 replace e3:IsItemIter h3 it d (i + 1) es.size ep en.key ov:=e3
 refine wpAny_bind (wpAny_setField_rec e3 (by simp) fun h4 e4 s4=> ?_)
 replace s4:Heap.SameBut it h3 h4:=s4
 replace e4:IsItemIter h4 it d (i + 1) es.size ep en.key en.val:=e4
 refine wpAny_bind (wpAny_setField_rec e4 (by simp) fun h5 e5 s5=> ?_)
 replace s5:Heap.SameBut it h4 h5:=s5
 replace e5:IsItemIterOut h5 it d (i + 1) es.size ep en.key en.val hp.objs.size:=e5
 refine wpAny_bind (wpAny_setField_rec e5 (by simp) fun h6 e6 s6=> ?_)
 replace s6:Heap.SameBut it h5 h6:=s6
 replace e6:IsItemIterOut h6 it d (i + 1) es.size ep en.key en.val hp.objs.size:=e6
 have up:∀b o,b≠it→h2.get? b=some o→h6.get? b=some o:=fun b o hb e=>s6.extBut b o hb (s5.extBut b o hb (s4.extBut b o hb (s3.extBut b o hb e)))
 refine wpAny_bind (wpAny_letGo (wpAny_pure (wpAny_pure ⟨_,rfl,wpAny_pure (hQ h6 e6 (up _ _ (Nat.ne_of_gt lt1) t2) ?_ fun b o hb e=>up b o hb (k2 b o hb e))⟩)))
 show h6.objs.size=hp.objs.size + 1
 rw [s6.1,s5.1,s4.1,s3.1,z2]
theorem Ei {it d:Addr}{i ep:Nat}{o:Obj}{es:Array DictEntry}{ok ov:Value}{Q:Option Value→Shared→Prop}(hh:A.handled=none)(hit:IsItemIter s.heap it d i es.size ep ok ov)(g0:s.heap.get? d=some o)(g1:o.data= .dict es ep)(ge:es.size≤i)
  (hQ:∀h',Heap.ExtBut it s.heap h'→Q none {s with heap:=h'}):wpAny (model prog w) A (pyNext (.ref it)) Q E s:=by
 have ty:s.TypeIs (.ref it) "dict_itemiterator":=⟨_,hit,rfl⟩
 unfold pyNext
 refine wpAny_bind (wpAny_attempt (wpAny_callSpecial?_slot (name:=Str.ofString "__next__") ty F.slot_dict_itemiterator_next (wpAny_call_entry F.slot_dict_itemiterator_next ty F.entry_dict_itemiterator_next ?_ (F.args_dict_itemiterator_next_1 _))))
 refine wpAny_bind (wpAny_pure (wpAny_bind (wpAny_bind ?_)))
 first|refine wpAny_bind (wpAny_typeNameOfWhole_itemiter ty (wpAny_pure ?_))|refine wpAny_bind (wpAny_typeNameOf_itemiter ty (wpAny_pure ?_))
 refine wpAny_bind (wpAny_fieldsOf hit rfl ?_)
 simp only [show Builtin.Dict_items.ownsTuple "dict_itemiterator"=true by decide,if_true]
 show wpAny _ _ (if (Value.ref d==Value.none)=true then _ else _) _ _ _;rw [if_neg (show ¬ ((Value.ref d==Value.none)=true) by exact Bool.false_ne_true)]
 refine wpAny_bind (wpAny_pure (wpAny_bind (wpAny_dictEntries g0 g1 ?_)))
 rw [if_neg (show ¬_ by simp)]
 refine wpAny_bind (wpAny_pure (wpAny_bind (wpAny_dictEpoch g0 g1 ?_)))
 rw [if_neg (show ¬_ by simp)];refine wpAny_pure ?_
 simp only [show ¬ ((i:Int) < 0) by omega,if_false,Int.toNat_natCast,Array.getElem?_eq_none ge];refine wpAny_bind ?_
 first|refine wpAny_bind (wpAny_typeNameOfWhole_itemiter ty (wpAny_pure ?_))|refine wpAny_bind (wpAny_typeNameOf_itemiter ty (wpAny_pure ?_))
 show wpAny _ _ (setField (.ref it) 2 .none >>=_) _ _ s;refine wpAny_bind (wpAny_setField hit rfl (by simp) ?_)
 show wpAny _ _ (newExc (.type "StopIteration") [] >>=_) _ _ _;refine wpAny_bind ?_;simp only [newExc,newTuple]
 refine wpAny_bind (wpAny_newObj_type ?_ (by size_fits));refine wpAny_bind (m:=firstArgMember _ _) (wpAny_of_eq (a:=Value.none) (by first|rfl|(simp only [firstArgMember];rfl)) ?_)
 refine wpAny_newObj_type ?_ (by size_fits);simp only [raiseNew];refine wpAny_bind (wpAny_handled ?_)
 first|rw [show A.in1.handled=none by exact hh] |rw [hh]
 refine wpAny_bind (wpAny_pure (wpAny_throw ?_));refine wpAny_bind (wpAny_isInstance (T:="StopIteration") (b:=true) ⟨_,Heap.get?_push_size _ rfl,rfl⟩ isSubtype_stop ?_)
 exact wpAny_pure (hQ _ (((Heap.SameBut.update ..).extBut.push _).push _))
end
section
variable {X:Cx}{pins:List (Addr×Obj)}{σ:St}{H:Hp}{s:Shared}{d:Addr}{o:Obj}
theorem Inv.JA {kvs:List (List Key×V)}(I:Inv X pins σ H s)(h:H d=some (.iw o (.dT kvs))):
  (d==sysModules)=false∧s.heap.get? d=some o∧o.ExactDict∧∃ (es:Array DictEntry)(ep:Nat),o.data= .dict es ep∧es.size=kvs.length∧
   ∀ (i:Nat)(k:List Key)(v:V),kvs[i]?=some (k,v)→∃ (en:DictEntry)(q:Addr),es[i]?=some en∧en.key= .ref q∧H q=some (.tup (k.map kV))∧RelV v en.val:=by
 obtain ⟨hd,z,hs,xs,pr,o',es,ep,ho,hx,AE,he,_⟩:=I.bF d _ h
 rw [hd] at ho
 cases ho
 refine ⟨hs,hd,hx,es,ep,AE,?_,fun i k v e=> ?_⟩
 ·have l1:es.size=xs.length:=size_of_entries he
  have l2:kvs.length=xs.length:=Paired.length pr
  omega
 ·obtain ⟨b,hb,e1,e2,e3⟩:=D7 pr e
  have q:=entry_at he i
  rw [hb] at q
  exact ⟨_,b.2.1,q,rfl,e2,e3⟩
def To (d:Addr)(o:Obj)(kvs:List (List Key×V)):It:=
 ⟨fun i H=>H d=some (.iw o (.dT kvs))∧i < kvs.length,fun i H x H'=>∃T k v q,kvs[i]?=some (k,v)∧x= .ref T∧H T=none∧H'=upd H T (.tup [.ref q,v])∧H q=some (.tup (k.map kV)),fun i H=>H d=some (.iw o (.dT kvs))∧kvs.length≤i⟩
theorem CM {P:Program}{w:World}{K:PySem.W.Frag}{es:Array DictEntry}{ep:Nat}{kvs:List (List Key×V)}{elts:List Expr}{kk:Nat}{wj:Pos}(it:Addr)(S9:o.data= .dict es ep):
  Turn P w K (.Tuple elts kk wj) (To d o kvs) [it] it (fun i h=>∃ok ov,IsItemIter h it d i kvs.length ep ok ov) where
 mem:=by simp
 obj:=fun i h st b hb=>by
  have e:b=it:=by simpa using hb
  subst e
  obtain ⟨ok,ov,e⟩:=st
  exact ⟨_,e,fun v z=>nomatch z⟩
 keep:=fun i h h' st k=>let ⟨ok,ov,e⟩:=st;⟨ok,ov,k it (by simp) _ e⟩
 item:=by
  intro X hP hw hK hc i pins s σ H E I hf st hg
  subst hP hw hK
  obtain ⟨hd,hi⟩:=hg
  obtain ⟨hs,Jn,hx,Lr,Iv,AE,hsz,ent⟩:=I.JA hd
  obtain ⟨rfl,rfl⟩:=vD S9 AE
  obtain ⟨⟨k,v⟩,B2⟩:∃p,kvs[i]?=some p:=⟨kvs[i],List.getElem?_eq_getElem hi⟩
  obtain ⟨en,q,hen,qr,hq,hv⟩:=ent i k v B2
  obtain ⟨ok,ov,he⟩:=st
  rw [←hsz] at he
  have dy:it < s.heap.objs.size:=Heap.lt_size he
  refine Eh he Jn AE hen fun h' ho hT hz hk=> ?_
  refine ⟨_,rfl,wpAny_letOwnedTupleGo_items (s:={s with heap:=h'}) ho fun Np Ny sb=> ?_⟩
  have hT2:Np.get? s.heap.objs.size=some {cls:= .type "tuple",data:= .seq #[en.key,en.val] }:=(sb.2 _ (Nat.ne_of_gt dy)).trans hT
  have new:df X.prog X.w (upd H s.heap.objs.size (.tup [.ref q,v])) Np s.heap.objs.size (.tup [.ref q,v]):=
   ⟨by show 2≤sizeLine;decide,[en.key,en.val],.cons qr (.cons hv .nil),⟨_,hT2,rfl,_,rfl⟩⟩
  have I1:Inv X pins σ (upd H s.heap.objs.size (.tup [.ref q,v])) {s with heap:=Np}:=
   I.ze (t':=s.toks) (ch:= [it]) (fun b ob hb e=>(sb.2 b (by simpa using hb)).trans (hk b ob (by simpa using hb) e)) hf (Nat.le_refl _) new
  refine ⟨.ref s.heap.objs.size,_,I1,rfl,⟨_,k,v,q,B2,rfl,I.bF.fresh (Nat.le_refl _),rfl,hq⟩,⟨en.key,en.val,?_⟩,fun b hb=> ?_⟩
  ·rw [←hsz];exact Ny
  ·have e:b=it:=by simpa using hb
   rw [e,az (Nat.ne_of_lt dy)]
   exact (hf it (by simp)).1
 done:=by
  intro X hP hw hK hc i pins s σ H E I hf st hg
  subst hP hw hK
  obtain ⟨hd,hi⟩:=hg
  obtain ⟨f0,f1,f2,f3,f4,f5⟩:=hf it (by simp)
  obtain ⟨hs,Jn,hx,Lr,Iv,AE,hsz,ent⟩:=I.JA hd
  obtain ⟨rfl,rfl⟩:=vD S9 AE
  obtain ⟨ok,ov,he⟩:=st
  rw [←hsz] at he hi
  exact Ei (I.ok.hd hc) he Jn AE hi fun h' eb=>⟨rfl,I.turned (t':=s.toks) (fun b ob hb e=>eb b ob hb e) f0 f1 f3 f4 f5⟩
 self:=fun A i s Q E st h=>let ⟨_,_,e⟩:=st;PySem.W.kcp_self e h
end
def Mg (td:TE):TI:=fun σ H R=>td σ H fun x H1=>∃d o kvs,x= .ref d∧H1 d=some (.iw o (.dT kvs))∧R (To d o kvs) H1
section
variable {X:Cx}{e:Expr}{td:TE}{apos fi:Pos}
theorem G5 {elts:List Expr}{kk:Nat}{wj:Pos}(he:PE X e td)(Ck:attributeBase e "items" X.env (eval e X.env)=eval e X.env:=by rfl)(Cm:(apos.endLine==fi.line)=true:=by rfl):
  PI X (.Tuple elts kk wj) (.Call (.Attribute e "items" apos) [] [] fi) (Mg td):=by
 intro pins s σ H R I h
 refine wpAny_Call_method (T:="dict") (id:="dict.items") Ck rfl Cm F.plainAttrs_dict F.slot_dict_items F.type_dict_items (cI (he pins s σ H _ I h) fun u s1 ⟨x,H1,I1,rx,d,o,kvs,ex,hd,q⟩=> ?_)
 subst ex
 obtain rfl:u=Value.ref d:=rx
 obtain ⟨hs,Jn,hx,es,ep,AE,hsz,ent⟩:=I1.JA hd
 have ty:s1.TypeIs (.ref d) "dict":=⟨o,Jn,hx.1⟩
 refine ⟨ty,fun a z=> ?_,?_⟩
 ·cases z
  exact ⟨o,Jn,hx.2.1⟩
 have I2:Inv X pins σ H1 {s1 with heap:=s1.heap.push {cls:= .type "dict_items",data:= .fields #[.ref d] } }:=I1.kept (t':=s1.toks) fun b ob q=>Heap.get?_push_of_some _ q
 have fin:wpAny (model X.prog X.w) X.A (pyIter (.ref s1.heap.objs.size)) (RZ X pins σ (.Tuple elts kk wj) R) X.xe {s1 with heap:=s1.heap.push {cls:= .type "dict_items",data:= .fields #[.ref d] } }:=by
  refine Eg (d:=d) (o:=o) (es:=es) (ep:=ep) ⟨_,Heap.get?_push_size _ rfl,rfl,rfl⟩ (Heap.get?_push_of_some _ Jn) AE (D6 (tk:=s1.toks) I2 _ (CM _ AE) ⟨.none,.none,?_⟩ q)
  rw [←hsz]
  exact Heap.get?_push_size _ rfl
 show wpAny _ _ (callWith fi (.builtin "dict.items") [.ref d] [] []) _ X.xe s1
 exact method_meetsIn F.slot_dict_items F.entry_dict_items rfl (PySem.evalArgs_none ⟨rfl,ty,F.args_dict_items_1 _,_,Ef (o:=o) hs,⟨Jn,hx⟩,fin⟩)
end
end L2
namespace L2
open PySem PySem.Spec PyProof.Rows
section
variable {prog:Program}{w:World}{A:Around}{E:Value→Shared→Prop}{s:Shared}
theorem wB {it a:Addr}{i:Nat}{us:Array Value}{x:Value}{Q:Value→Shared→Prop}(hit:s.heap.IsTupleIter it a i)(ha:s.heap.IsTuple a us)(hx:us[i]?=some x)
  (hQ:∀h',h'.IsTupleIter it a (i + 1)→Heap.SameBut it s.heap h'→Q x {s with heap:=h'}):wpAny (model prog w) A (Builtin.SmallTypes.nextOf (.ref it)) Q E s:=by
 obtain ⟨o,g0,gc,g1⟩:=id hit
 obtain ⟨oa,a0,_,na,a1⟩:=ha
 unfold Builtin.SmallTypes.nextOf
 refine wpAny_bind (wpAny_callSpecial?_slot (name:=Str.ofString "__next__") hit.typeIs F.slot_tuple_iterator_next (wpAny_call_entry F.slot_tuple_iterator_next hit.typeIs F.entry_tuple_iterator_next ?_ (F.args_tuple_iterator_next_1 _)))
 show wpAny _ _ (field (.ref it) 0 >>=_) _ _ s;refine wpAny_bind (wpAny_field g0 g1 (x:= .ref a) rfl ?_)
 show wpAny _ _ (if (Value.ref a==Value.none)=true then _ else _) _ _ s;rw [if_neg (show ¬ ((Value.ref a==Value.none)=true) by exact Bool.false_ne_true)]
 show wpAny _ _ (field (.ref it) 1 >>=_) _ _ s;refine wpAny_bind (wpAny_field g0 g1 (x:= .int i 0) rfl ?_)
 show wpAny _ _ (seqItems? (.ref a) >>=_) _ _ s;refine wpAny_bind (wpAny_seqItems a0 a1 ?_)
 simp only [Int.toNat_natCast,hx]
 refine wpAny_bind (wpAny_setField g0 g1 (by simp) (wpAny_pure ⟨x,rfl,wpAny_pure (hQ _ ?_ (Heap.SameBut.update ..))⟩))
 exact ⟨_,Heap.get?_update_self _ g0 (Obj.isFreed_of_fields (Obj.data_mapFields g1 _)),(Obj.cls_mapFields ..).trans gc,by rw [Obj.data_mapFields g1];simp [rawInt]⟩
theorem G6 {it a:Addr}{i:Nat}{us:Array Value}{Q:Value→Shared→Prop}(hh:A.handled=none)(hit:s.heap.IsTupleIter it a i)(ha:s.heap.IsTuple a us)(hx:us[i]?=none)
  (hE:∀h' e,Heap.ExtBut it s.heap h'→(∃o,h'.get? e=some o∧o.cls= .type "StopIteration")→E (.ref e) {s with heap:=h'}):wpAny (model prog w) A (Builtin.SmallTypes.nextOf (.ref it)) Q E s:=by
 obtain ⟨o,g0,gc,g1⟩:=id hit
 obtain ⟨oa,a0,_,na,a1⟩:=ha
 unfold Builtin.SmallTypes.nextOf
 refine wpAny_bind (wpAny_callSpecial?_slot (name:=Str.ofString "__next__") hit.typeIs F.slot_tuple_iterator_next (wpAny_call_entry F.slot_tuple_iterator_next hit.typeIs F.entry_tuple_iterator_next ?_ (F.args_tuple_iterator_next_1 _)))
 show wpAny _ _ (field (.ref it) 0 >>=_) _ _ s;refine wpAny_bind (wpAny_field g0 g1 (x:= .ref a) rfl ?_)
 show wpAny _ _ (if (Value.ref a==Value.none)=true then _ else _) _ _ s;rw [if_neg (show ¬ ((Value.ref a==Value.none)=true) by exact Bool.false_ne_true)]
 show wpAny _ _ (field (.ref it) 1 >>=_) _ _ s;refine wpAny_bind (wpAny_field g0 g1 (x:= .int i 0) rfl ?_)
 show wpAny _ _ (seqItems? (.ref a) >>=_) _ _ s;refine wpAny_bind (wpAny_seqItems a0 a1 ?_)
 simp only [Int.toNat_natCast,hx]
 refine wpAny_bind (wpAny_rule (wpAny_bind (wpAny_setField g0 g1 (by simp) ?_)))
 show wpAny _ _ (newExc (.type "StopIteration") [] >>=_) _ _ _;refine wpAny_bind ?_;simp only [newExc,newTuple]
 refine wpAny_bind (wpAny_newObj_type ?_ (by size_fits));refine wpAny_bind (m:=firstArgMember _ _) (wpAny_of_eq (a:=Value.none) (by first|rfl|(simp only [firstArgMember];rfl)) ?_)
 refine wpAny_newObj_type ?_ (by size_fits);simp only [raiseNew];refine wpAny_bind (wpAny_handled ?_)
 first|rw [show A.in1.handled=none by exact hh] |rw [hh]
 refine wpAny_bind (wpAny_pure (wpAny_throw ?_));exact hE _ _ (((Heap.SameBut.update ..).extBut.push _).push _) ⟨_,Heap.get?_push_size _ rfl,rfl⟩
theorem G7 {z TI TO i1 i2 l1 l2:Addr}{k1 k2:Nat}{xs ys:Array Value}{x y a b:Value}{Q:Value→Shared→Prop}(D:ZipApart z TI TO i1 i2 l1 l2)(g0:IsZip s.heap z TI TO .none)(g1:IsPair s.heap TI (.ref i1) (.ref i2))(g2:IsPair s.heap TO a b)
  (h1:s.heap.IsTupleIter i1 l1 k1)(h2:s.heap.IsListIter i2 l2 k2)(Rq:s.heap.IsTuple l1 xs)(Rg:s.heap.IsList l2 ys)(hx:xs[k1]?=some x)(hy:ys[k2]?=some y)
  (hQ:∀h',IsZip h' z TI TO (rawInt s.heap.objs.size)→IsPair h' TO x y→h'.IsTupleIter i1 l1 (k1 + 1)→h'.IsListIter i2 l2 (k2 + 1)→IsPair h' s.heap.objs.size x y→h'.objs.size=s.heap.objs.size + 1→
   (∀c o,c≠z→c≠TO→c≠i1→c≠i2→s.heap.get? c=some o→h'.get? c=some o)→Q (.ref s.heap.objs.size) {s with heap:=h'}):
  wpAny (model prog w) A (Builtin.«zip.__next__» ⟨[.ref z],[]⟩) (fun fin s'=>∃v,fin= .done (.ret v)∧Q v s') E s:=by
 show wpAny _ _ (field (.ref z) 2 >>=_) _ _ _;refine wpAny_bind (wpAny_field g0 rfl (x:= .bool false) rfl ?_)
 show wpAny _ _ (field (.ref z) 3 >>=_) _ _ _;refine wpAny_bind (wpAny_field g0 rfl (x:= .ref TI) rfl (wpAny_bind (wpAny_seqItems g1 rfl ?_)))
 show wpAny _ _ (Builtin.SmallTypes.ownedTupleIsFree (.ref z) >>=_) _ _ _;refine wpAny_bind ?_;unfold Builtin.SmallTypes.ownedTupleIsFree
 refine wpAny_bind (wpAny_field g0 rfl (x:= .none) rfl (wpAny_pure ?_));simp only [if_true]
 refine wpAny_bind (wpAny_rule (wpAny_bind (wpAny_field g0 rfl (x:= .ref TO) rfl (wpAny_bind (wpAny_setField_rec g0 (by simp) fun e1 z1 s1=> ?_)))))
 replace z1:IsZip e1 z TI TO .ellipsis:=z1
 refine wpAny_bind ?_;simp only [List.zipIdx_cons,List.zipIdx_nil,List.forIn_cons,List.forIn_nil]
 refine wpAny_bind (wpAny_bind (wpAny_onRaise ?_));show wpAny _ _ (Builtin.SmallTypes.nextOf (.ref i1) >>=_) _ _ _
 refine wpAny_bind (wB (h1.extBut s1.extBut D.i1z) (Rq.extBut s1.extBut D.l1z) hx fun e2 t2 s2=>wpAny_pure ?_)
 have p2:IsPair e2 TO a b:=s2.extBut _ _ D.TOi1 (s1.extBut _ _ D.TOz g2)
 refine wpAny_bind (wpAny_seqItems p2 rfl (wpAny_bind (wpAny_updateSeq_pair p2 fun e3 p3 s3=> ?_)))
 replace p3:IsPair e3 TO x b:=p3
 refine wpAny_bind (wpAny_letGo (wpAny_pure (wpAny_bind (wpAny_bind (wpAny_onRaise ?_)))));show wpAny _ _ (Builtin.SmallTypes.nextOf (.ref i2) >>=_) _ _ _
 refine wpAny_bind (wpAny_nextOf_list_item (((h2.extBut s1.extBut D.i2z).extBut s2.extBut D.i12.symm).extBut s3.extBut D.TOi2.symm) (((Rg.extBut s1.extBut D.l2z).extBut s2.extBut D.l2i1).extBut s3.extBut D.l2TO) hy fun e4 t4 s4=>wpAny_pure ?_)
 have p4:IsPair e4 TO x b:=s4.extBut _ _ D.TOi2 p3
 refine wpAny_bind (wpAny_seqItems p4 rfl (wpAny_bind (wpAny_updateSeq_pair p4 fun e5 p5 s5=> ?_)))
 replace p5:IsPair e5 TO x y:=p5
 refine wpAny_bind (wpAny_letGo (wpAny_pure (wpAny_pure (wpAny_bind (wpAny_seqItems p5 rfl (wpAny_bind (wpAny_newTuple ?_)))))))
 have z5:e5.objs.size=s.heap.objs.size:=by rw [s5.1,s4.1,s3.1,s2.1,s1.1]
 have g5:IsZip e5 z TI TO .ellipsis:=s5.extBut _ _ D.TOz.symm (s4.extBut _ _ D.i2z.symm (s3.extBut _ _ D.TOz.symm (s2.extBut _ _ D.i1z.symm z1)))
 have k5:∀c o,c≠z→c≠TO→c≠i1→c≠i2→s.heap.get? c=some o→e5.get? c=some o:=fun c o c1 c2 c3 c4 e=>s5.extBut _ _ c2 (s4.extBut _ _ c4 (s3.extBut _ _ c2 (s2.extBut _ _ c3 (s1.extBut _ _ c1 e))))
 have a5:e5.IsTupleIter i1 l1 (k1 + 1):=((t2.extBut s3.extBut D.TOi1.symm).extBut s4.extBut D.i12).extBut s5.extBut D.TOi1.symm
 have b5:e5.IsListIter i2 l2 (k2 + 1):=t4.extBut s5.extBut D.TOi2.symm
 have lz:z < e5.objs.size:=Heap.lt_size g5
 show wpAny _ _ (Builtin.SmallTypes.ownedTupleHandOut (.ref z) (.ref e5.objs.size) >>=_) _ _ _;refine wpAny_bind ?_;unfold Builtin.SmallTypes.ownedTupleHandOut
 have g6:IsZip (e5.push {cls:= .type "tuple",data:= .seq #[x,y] }) z TI TO .ellipsis:=Heap.get?_push_of_some _ g5
 refine wpAny_bind (wpAny_setField_rec g6 (by simp) fun e7 g7 s7=> ?_)
 replace g7:IsZip e7 z TI TO (rawInt e5.objs.size):=g7
 refine wpAny_setField_rec g7 (by simp) fun e8 g8 s8=> ?_
 replace g8:IsZip e8 z TI TO (rawInt e5.objs.size):=g8
 have up:∀c o,c≠z→e5.get? c=some o→e8.get? c=some o:=fun c o c1 e=>s8.extBut _ _ c1 (s7.extBut _ _ c1 (Heap.get?_push_of_some _ e))
 have p8:IsPair e8 e5.objs.size x y:=s8.extBut _ _ (Nat.ne_of_gt lz) (s7.extBut _ _ (Nat.ne_of_gt lz) (Heap.get?_push_size _ rfl))
 have z8:e8.objs.size=e5.objs.size + 1:=by rw [s8.1,s7.1,Heap.size_push]
 rw [z5] at g8 p8 z8
 refine wpAny_pure ⟨_,rfl,?_⟩
 show Q (.ref e5.objs.size) _
 rw [z5]
 exact hQ e8 g8 (up _ _ D.TOz p5) (a5.at fun o e=>up _ o D.i1z e) (b5.at fun o e=>up _ o D.i2z e) p8 z8 fun c o c1 c2 c3 c4 e=>up c o c1 (k5 c o c1 c2 c3 c4 e)
theorem G8 {z TI TO i1 i2 l1 l2:Addr}{k1 k2:Nat}{xs ys:Array Value}{a b:Value}{Q:PySem.Fin→Shared→Prop}(hh:A.handled=none)(D:ZipApart z TI TO i1 i2 l1 l2)(g0:IsZip s.heap z TI TO .none)(g1:IsPair s.heap TI (.ref i1) (.ref i2))(g2:IsPair s.heap TO a b)
  (h1:s.heap.IsTupleIter i1 l1 k1)(h2:s.heap.IsListIter i2 l2 k2)(Rq:s.heap.IsTuple l1 xs)(Rg:s.heap.IsList l2 ys)(JB:xs[k1]?=none∨ys[k2]?=none)
  (hE:∀h' e,(∀c o,c≠z→c≠TO→c≠i1→c≠i2→s.heap.get? c=some o→h'.get? c=some o)→(∃o,h'.get? e=some o∧o.cls= .type "StopIteration")→E (.ref e) {s with heap:=h'}):
  wpAny (model prog w) A (Builtin.«zip.__next__» ⟨[.ref z],[]⟩) Q E s:=by
 show wpAny _ _ (field (.ref z) 2 >>=_) _ _ _;refine wpAny_bind (wpAny_field g0 rfl (x:= .bool false) rfl ?_)
 show wpAny _ _ (field (.ref z) 3 >>=_) _ _ _;refine wpAny_bind (wpAny_field g0 rfl (x:= .ref TI) rfl (wpAny_bind (wpAny_seqItems g1 rfl ?_)))
 show wpAny _ _ (Builtin.SmallTypes.ownedTupleIsFree (.ref z) >>=_) _ _ _;refine wpAny_bind ?_;unfold Builtin.SmallTypes.ownedTupleIsFree
 refine wpAny_bind (wpAny_field g0 rfl (x:= .none) rfl (wpAny_pure ?_));simp only [if_true]
 refine wpAny_bind (wpAny_rule (wpAny_bind (wpAny_field g0 rfl (x:= .ref TO) rfl (wpAny_bind (wpAny_setField_rec g0 (by simp) fun e1 z1 s1=> ?_)))))
 replace z1:IsZip e1 z TI TO .ellipsis:=z1
 refine wpAny_bind ?_;simp only [List.zipIdx_cons,List.zipIdx_nil,List.forIn_cons,List.forIn_nil]
 refine wpAny_bind (wpAny_bind (wpAny_onRaise ?_));show wpAny _ _ (Builtin.SmallTypes.nextOf (.ref i1) >>=_) _ _ _
 cases hx:xs[k1]? with
 |none=>
  refine wpAny_bind (G6 hh (h1.extBut s1.extBut D.i1z) (Rq.extBut s1.extBut D.l1z) hx fun e2 e s2 he=> ?_)
  obtain ⟨oe,x0,xc⟩:=he
  have z2:IsZip e2 z TI TO .ellipsis:=s2 _ _ D.i1z.symm z1
  have ne:e≠z:=fun q=>by subst q;rw [z2] at x0;cases x0;simp at xc
  refine wpAny_setField_rec z2 (by simp) fun e3 _ s3=>hE e3 e (fun c o c1 _ c3 _ q=>s3.extBut _ _ c1 (s2 _ _ c3 (s1.extBut _ _ c1 q))) ⟨oe,s3.extBut _ _ ne x0,xc⟩
 |some x=>
  have hy:ys[k2]?=none:=by
   rcases JB with h|h
   ·rw [hx] at h;cases h
   ·exact h
  refine wpAny_bind (wB (h1.extBut s1.extBut D.i1z) (Rq.extBut s1.extBut D.l1z) hx fun e2 t2 s2=>wpAny_pure ?_)
  have p2:IsPair e2 TO a b:=s2.extBut _ _ D.TOi1 (s1.extBut _ _ D.TOz g2)
  refine wpAny_bind (wpAny_seqItems p2 rfl (wpAny_bind (wpAny_updateSeq_pair p2 fun e3 p3 s3=> ?_)))
  refine wpAny_bind (wpAny_letGo (wpAny_pure (wpAny_bind (wpAny_bind (wpAny_onRaise ?_)))));show wpAny _ _ (Builtin.SmallTypes.nextOf (.ref i2) >>=_) _ _ _
  refine wpAny_bind (wpAny_nextOf_list_end hh (((h2.extBut s1.extBut D.i2z).extBut s2.extBut D.i12.symm).extBut s3.extBut D.TOi2.symm) (((Rg.extBut s1.extBut D.l2z).extBut s2.extBut D.l2i1).extBut s3.extBut D.l2TO) hy fun e4 e s4 he=> ?_)
  obtain ⟨oe,x0,xc⟩:=he
  have z4:IsZip e4 z TI TO .ellipsis:=s4 _ _ D.i2z.symm (s3.extBut _ _ D.TOz.symm (s2.extBut _ _ D.i1z.symm z1))
  have ne:e≠z:=fun q=>by subst q;rw [z4] at x0;cases x0;simp at xc
  refine wpAny_setField_rec z4 (by simp) fun e5 _ s5=>hE e5 e (fun c o c1 c2 c3 c4 q=>s5.extBut _ _ c1 (s4 _ _ c4 (s3.extBut _ _ c2 (s2.extBut _ _ c3 (s1.extBut _ _ c1 q))))) ⟨oe,s5.extBut _ _ ne x0,xc⟩
end
end L2
namespace L2
open PySem PySem.Spec PyProof.Rows
abbrev zt1 (h:Heap)(a:Addr):Heap:=h.push {cls:= .type "tuple_iterator",data:= .fields #[.ref a,.int 0 0] }
abbrev zt2 (h:Heap)(a b:Addr):Heap:=(zt1 h a).push {cls:= .type "list_iterator",data:= .fields #[.ref b,.int 0 0] }
abbrev zt3 (h:Heap)(a b:Addr):Heap:=(zt2 h a b).push {cls:= .type "tuple",data:= .seq #[.ref h.objs.size,.ref (zt1 h a).objs.size] }
abbrev zt4 (h:Heap)(a b:Addr):Heap:=(zt3 h a b).push {cls:= .type "tuple",data:= .seq #[.none,.none] }
abbrev Rr (h:Heap)(a b:Addr):Heap:=(zt4 h a b).push {cls:= .type "zip",data:= .fields #[.none,.bool false,.bool false,.ref (zt2 h a b).objs.size,.ref (zt3 h a b).objs.size] }
theorem Ej (a b:Addr)(xs ys:Array Value):Meets (Builtin.«zip.__new__» ⟨[.type "zip",.ref a,.ref b],[]⟩) (fun _ R s=>s.heap.IsTuple a xs∧s.heap.IsList b ys∧R (.ok (.ret (.ref (zt4 s.heap a b).objs.size))) {s with heap:=Rr s.heap a b}):=
 .of_wp fun prog w A R s h=>by
  obtain ⟨hp,g,d,tk,os⟩:=s
  obtain ⟨q1,q2,h⟩:=h
  have sub:=sub_zip
  have p1:Heap.IsTuple (Shared.heap ⟨hp,g,d,tk,os⟩) a xs:=q1
  have p2:Heap.IsList (Shared.heap ⟨hp.push {cls:= .type "tuple_iterator",data:= .fields #[.ref a,.int 0 0] },g,d,tk,os⟩) b ys:=Heap.IsList.push q2 _
  wp_walk using wpAny_pyIter_tuple p1,wpAny_pyIter_list p2
  exact ⟨_,rfl,h⟩
section
variable {prog:Program}{w:World}{A:Around}{E:Value→Shared→Prop}{s:Shared}
theorem G9 {a b:Addr}{xs ys:Array Value}{Q:Value→Shared→Prop}(q1:s.heap.IsTuple a xs)(q2:s.heap.IsList b ys)
  (h:∀h',IsZip h' (s.heap.objs.size + 4) (s.heap.objs.size + 2) (s.heap.objs.size + 3) .none→IsPair h' (s.heap.objs.size + 2) (.ref s.heap.objs.size) (.ref (s.heap.objs.size + 1))→IsPair h' (s.heap.objs.size + 3) .none .none→
   h'.IsTupleIter s.heap.objs.size a 0→h'.IsListIter (s.heap.objs.size + 1) b 0→(∀c o,s.heap.get? c=some o→h'.get? c=some o)→Q (.ref (s.heap.objs.size + 4)) {s with heap:=h'}):
  wpAny (model prog w) A (call (.type "zip") [.ref a,.ref b]) Q E s:=by
 refine callType_new F.called_zip (by decide) (F.typeCall_zip_2 _ _) (F.newCall_zip_2 _ _) (fun obj=>F.args_object_init_3 obj _ _) F.entry_zip_new (Ej a b xs ys) ⟨q1,q2,?_⟩
 have z1:(zt1 s.heap a).objs.size=s.heap.objs.size + 1:=Heap.size_push ..
 have z2:(zt2 s.heap a b).objs.size=s.heap.objs.size + 2:=by rw [Heap.size_push,z1]
 have z3:(zt3 s.heap a b).objs.size=s.heap.objs.size + 3:=by rw [Heap.size_push,z2]
 have z4:(zt4 s.heap a b).objs.size=s.heap.objs.size + 4:=by rw [Heap.size_push,z3]
 have g5:(Rr s.heap a b).get? (zt4 s.heap a b).objs.size=some _:=Heap.get?_push_size _ rfl
 have g4:(Rr s.heap a b).get? (zt3 s.heap a b).objs.size=some _:=Heap.get?_push_of_some _ (Heap.get?_push_size _ rfl)
 have g3:(Rr s.heap a b).get? (zt2 s.heap a b).objs.size=some _:=Heap.get?_push_of_some _ (Heap.get?_push_of_some _ (Heap.get?_push_size _ rfl))
 have g2:(Rr s.heap a b).get? (zt1 s.heap a).objs.size=some _:=Heap.get?_push_of_some _ (Heap.get?_push_of_some _ (Heap.get?_push_of_some _ (Heap.get?_push_size _ rfl)))
 have g1:(Rr s.heap a b).get? s.heap.objs.size=some _:=Heap.get?_push_of_some _ (Heap.get?_push_of_some _ (Heap.get?_push_of_some _ (Heap.get?_push_of_some _ (Heap.get?_push_size _ rfl))))
 show _∧_
 rw [z2,z3,z4] at g5
 rw [z1,z2] at g3
 rw [z3] at g4
 rw [z1] at g2
 rw [z4]
 exact ⟨⟨_,g5,rfl⟩,h _ g5 g3 g4 ⟨_,g1,rfl,rfl⟩ ⟨_,g2,rfl,rfl⟩ fun c o x=>Heap.get?_push_of_some _ (Heap.get?_push_of_some _ (Heap.get?_push_of_some _ (Heap.get?_push_of_some _ (Heap.get?_push_of_some _ x))))⟩
end
def Tp (K:PySem.W.Frag)(a b:Addr):It:=
 ⟨fun i H=>∃ (xs ys:List V)(x y:V),bb K H a xs∧bT K H b ys∧xs[i]?=some x∧ys[i]?=some y,
  fun i H v H'=>∃T x y,v= .ref T∧H T=none∧H'=upd H T (.tup [x,y])∧(∀xs,bb K H a xs→xs[i]?=some x)∧∀ys,bT K H b ys→ys[i]?=some y,
  fun i H=>∃xs ys:List V,bb K H a xs∧bT K H b ys∧(xs.length≤i∨ys.length≤i)⟩
theorem Ha {P:Program}{w:World}{K:PySem.W.Frag}{elts:List Expr}{kk:Nat}{wj:Pos}{a b z TI TO i1 i2:Addr}(D:ZipApart z TI TO i1 i2 a b):
  Turn P w K (.Tuple elts kk wj) (Tp K a b) [z,TI,TO,i1,i2] z (fun i h=>IsZip h z TI TO .none∧IsPair h TI (.ref i1) (.ref i2)∧(∃x y,IsPair h TO x y)∧h.IsTupleIter i1 a i∧h.IsListIter i2 b i) where
 mem:=by simp
 obj:=fun i h st c hc=>by
  obtain ⟨hz,JC,⟨x,y,Lw⟩,⟨o1,e1,_,d1⟩,⟨o2,e2,_,d2⟩⟩:=st
  have e':c=z∨c=TI∨c=TO∨c=i1∨c=i2:=by simpa using hc
  rcases e' with q|q|q|q|q
  ·rw [q];exact ⟨_,hz,fun v q=>nomatch q⟩
  ·rw [q];exact ⟨_,JC,fun v q=>nomatch q⟩
  ·rw [q];exact ⟨_,Lw,fun v q=>nomatch q⟩
  ·rw [q];exact ⟨o1,e1,fun v q=>by rw [d1] at q;cases q⟩
  ·rw [q];exact ⟨o2,e2,fun v q=>by rw [d2] at q;cases q⟩
 keep:=fun i h h' st k=>by
  obtain ⟨hz,JC,⟨x,y,Lw⟩,h1,h2⟩:=st
  exact ⟨k z (by simp) _ hz,k TI (by simp) _ JC,⟨x,y,k TO (by simp) _ Lw⟩,h1.at fun o q=>k i1 (by simp) o q,h2.at fun o q=>k i2 (by simp) o q⟩
 item:=by
  intro X hP hw hK hc i pins s σ H E I hf st hg
  subst hP hw hK
  obtain ⟨hz,JC,⟨x0,y0,Lw⟩,h1,h2⟩:=st
  obtain ⟨xs,ys,x,y,Rt,Ru,hx,hy⟩:=hg
  obtain ⟨aV,rv,p,_⟩:=I.tuple Rt
  obtain ⟨vn,rv2,p2,_⟩:=I.list Ru
  obtain ⟨u,hu,ru⟩:=rv.get hx
  obtain ⟨u2,hu2,ru2⟩:=rv2.get hy
  have hzl:z < s.heap.objs.size:=Heap.lt_size hz
  have ty:s.TypeIs (.ref z) "zip":=⟨_,hz,rfl⟩
  unfold pyNext
  refine wpAny_bind (wpAny_attempt (wpAny_callSpecial?_slot (name:=Str.ofString "__next__") ty F.slot_zip_next (wpAny_call_entry F.slot_zip_next ty F.entry_zip_next
   (G7 D hz JC Lw h1 h2 (show s.heap.IsTuple a aV.toArray from p) p2.isList (x:=u) (y:=u2) (by simpa using hu) (by simpa using hu2) fun h' z' TO' Nz h2' hT hsz hk=>wpAny_pure ?_) (F.args_zip_next_1 _))))
  refine ⟨_,rfl,wpAny_letOwnedTupleGo_zip (s:={s with heap:=h'}) z' fun Np z'' sb=> ?_⟩
  have hT2:Np.get? s.heap.objs.size=some {cls:= .type "tuple",data:= .seq #[u,u2] }:=(sb.2 _ (Nat.ne_of_gt hzl)).trans hT
  have new:df X.prog X.w (upd H s.heap.objs.size (.tup [x,y])) Np s.heap.objs.size (.tup [x,y]):=
   ⟨by show 2≤sizeLine;decide,[u,u2],.cons ru (.cons ru2 .nil),⟨_,hT2,rfl,_,rfl⟩⟩
  have I1:Inv X pins σ (upd H s.heap.objs.size (.tup [x,y])) {s with heap:=Np}:=
   I.ze (t':=s.toks) (ch:= [z,TI,TO,i1,i2]) (fun c o hb q=>(sb.2 c (fun q'=>hb (by simp [q']))).trans (hk c o (fun q'=>hb (by simp [q'])) (fun q'=>hb (by simp [q'])) (fun q'=>hb (by simp [q'])) (fun q'=>hb (by simp [q'])) q)) hf (Nat.le_refl _) new
  refine ⟨.ref s.heap.objs.size,_,I1,rfl,⟨_,x,y,rfl,I.bF.fresh (Nat.le_refl _),rfl,fun l hl=>by rw [I.yW hl Rt];exact hx,fun l hl=>by rw [I.Cf hl Ru];exact hy⟩,⟨z'',?_,⟨u,u2,?_⟩,?_,?_⟩,fun c Rv=> ?_⟩
  ·exact (sb.2 _ D.TIz).trans (hk _ _ D.TIz D.TITO D.TIi1 D.TIi2 JC)
  ·exact (sb.2 _ D.TOz).trans TO'
  ·exact Nz.at fun o q=>(sb.2 _ D.i1z).trans q
  ·exact h2'.at fun o q=>(sb.2 _ D.i2z).trans q
  ·have dy:c < s.heap.objs.size:=by
    have e':c=z∨c=TI∨c=TO∨c=i1∨c=i2:=by simpa using Rv
    rcases e' with q|q|q|q|q
    ·rw [q];exact hzl
    ·rw [q];exact Heap.lt_size JC
    ·rw [q];exact Heap.lt_size Lw
    ·rw [q];obtain ⟨_,e1,_⟩:=h1;exact Heap.lt_size e1
    ·rw [q];obtain ⟨_,e2,_⟩:=h2;exact Heap.lt_size e2
   rw [az (Nat.ne_of_lt dy)]
   exact (hf c Rv).1
 done:=by
  intro X hP hw hK hc i pins s σ H E I hf st hg
  subst hP hw hK
  obtain ⟨hz,JC,⟨x0,y0,Lw⟩,h1,h2⟩:=st
  obtain ⟨xs,ys,Rt,Ru,JB⟩:=hg
  obtain ⟨aV,rv,p,_⟩:=I.tuple Rt
  obtain ⟨vn,rv2,p2,_⟩:=I.list Ru
  have l1:=rv.length
  have l2:=rv2.length
  have he:aV.toArray[i]?=none∨vn.toArray[i]?=none:=by
   rcases JB with q|q
   ·exact .inl (by simp;omega)
   ·exact .inr (by simp;omega)
  have ty:s.TypeIs (.ref z) "zip":=⟨_,hz,rfl⟩
  unfold pyNext
  refine wpAny_bind (wpAny_attempt (wpAny_callSpecial?_slot (name:=Str.ofString "__next__") ty F.slot_zip_next (wpAny_call_entry F.slot_zip_next ty F.entry_zip_next
   (G8 (I.ok.hd hc) D hz JC Lw h1 h2 (show s.heap.IsTuple a aV.toArray from p) p2.isList he fun h' e hk hx=> ?_) (F.args_zip_next_1 _))))
  obtain ⟨oe,x0,xc⟩:=hx
  refine wpAny_bind (wpAny_isInstance (T:="StopIteration") (b:=true) ⟨oe,x0,xc⟩ isSubtype_stop (wpAny_pure ?_))
  exact ⟨rfl,I.L4 (t':=s.toks) (ch:= [z,TI,TO,i1,i2]) (fun c o hb q=>hk c o (fun q'=>hb (by simp [q'])) (fun q'=>hb (by simp [q'])) (fun q'=>hb (by simp [q'])) (fun q'=>hb (by simp [q'])) q) hf⟩
 self:=fun A i s Q E st h=>wpAny_pyIter_zip st.1 h
def Tq (K:PySem.W.Frag)(ta:TA):TI:=fun σ H R=>ta σ H fun vs H1=>∃a b xs ys,vs= [.ref a,.ref b] ∧bb K H1 a xs∧bT K H1 b ys∧R (Tp K a b) H1
theorem Mh {X:Cx}{e e2:Expr}{ta:TA}{p pos wj:Pos}{elts:List Expr}{kk:Nat}(hg:Gl X "zip")(hm:X.mg "zip"=none)(ha:PA X [e,e2] ta)
  (hs:starEach [e,e2] X.env=(false,eval e X.env)::starEach [e2] X.env:=by rfl)(dB:(backTo pos (starEach [e2] X.env)).any (·.1)=false:=by rfl):
  PI X (.Tuple elts kk wj) (.Call (.Name "zip" p) [e,e2] [] pos) (Tq X.K ta):=by
 intro pins s σ H R I h
 refine Call_ (tq I hg hm GU (PyProof.Rows.callWith_type1 (cI (ha pos pins s σ H _ I h) fun us s1 ⟨vs,H1,I1,r1,q1⟩=> ?_) hs dB))
 obtain ⟨a,b,xs,ys,ex,Rt,Ru,q⟩:=q1
 subst ex
 cases r1 with
 |cons r rr=>
  cases rr with
  |cons r' rr=>
   cases rr
   cases r
   cases r'
   obtain ⟨aV,rv,p1,_⟩:=I1.tuple Rt
   obtain ⟨vn,rv2,p2,_⟩:=I1.list Ru
   have la:a < s1.heap.objs.size:=by obtain ⟨_,e,_⟩:=p1;exact Heap.lt_size e
   have lb:b < s1.heap.objs.size:=p2.lt
   refine G9 (show s1.heap.IsTuple a aV.toArray from p1) p2.isList fun h' hz JC Lw h1 h2 hk=>wpAny_pyIter_zip hz ?_
   have I2:Inv X pins σ H1 {s1 with heap:=h'}:=I1.kept (t':=s1.toks) hk
   refine ⟨s1.heap.objs.size + 4,[s1.heap.objs.size + 4,s1.heap.objs.size + 2,s1.heap.objs.size + 3,s1.heap.objs.size,s1.heap.objs.size + 1],_,_,H1,rfl,I2,Ha (PySem.W.ktu_apart s1.heap.objs.size a b la lb),⟨hz,JC,⟨_,_,Lw⟩,h1,h2⟩,fun c Rv=> ?_,q⟩
   have e':c=s1.heap.objs.size + 4∨c=s1.heap.objs.size + 2∨c=s1.heap.objs.size + 3∨c=s1.heap.objs.size∨c=s1.heap.objs.size + 1:=by simpa using Rv
   have hle:s1.heap.objs.size≤c:=by rcases e' with z|z|z|z|z <;>rw [z] <;>first|exact Nat.le_add_right _ _|exact Nat.le_refl _
   exact I1.GB hle (I1.bF.fresh hle)
end L2
namespace Rl
open PySem PySem.Spec PyProof.Rows L2 PySem.W
abbrev fO (n q:Str)(s:Stmt)(kV dc pm:Value)(an:Option Addr)(cd ct:Value):=fnOf n q (qV s) (oC s) (ay s) .none kV dc pm an cd ct
def top (i:Nat):Stmt:=PySem.Challenge.pw_relayleases_s01_answers.main.body.getD i (.Pass ⟨0,0,0,0⟩)
abbrev eG:Stmt:=inClass (top 18) 0
abbrev AK:List Str:= ["self","parent","circuit","limit"]
abbrev iI:List Str:= ["self","parent","circuit","limit"]
theorem ym:aB AK iI (ay eG):=⟨rfl,rfl,rfl,by decide +kernel,rfl,by decide +kernel,by decide +kernel⟩
abbrev dC:Stmt:=inClass (top 19) 0
abbrev wC:List Str:= ["self","place","host","number","kind","server","address","length","hops","marks"]
abbrev fT:List Str:= ["self","place","host","number","kind","server","address","length","hops","marks"]
theorem vp:aB wC fT (ay dC):=⟨rfl,rfl,rfl,by decide +kernel,rfl,by decide +kernel,by decide +kernel⟩
abbrev d6:Stmt:=inClass (top 20) 0
abbrev yn:List Str:= ["self","host"]
abbrev gJ:List Str:= ["self","host"]
theorem wD:aB yn gJ (ay d6):=⟨rfl,rfl,rfl,by decide +kernel,rfl,by decide +kernel,by decide +kernel⟩
abbrev eI:Stmt:=inClass (top 21) 0
abbrev AL:List Str:= ["self","servers","cap","now"]
abbrev iJ:List Str:= ["self","servers","cap","now"]
theorem yo:aB AL iJ (ay eI):=⟨rfl,rfl,rfl,by decide +kernel,rfl,by decide +kernel,by decide +kernel⟩
abbrev zp:Stmt:=top 22
abbrev Tr:List Str:= ["world","message"]
abbrev Fz:List Str:= ["world","message"]
theorem OU:aB Tr Fz (ay zp):=⟨rfl,rfl,rfl,by decide +kernel,rfl,by decide +kernel,by decide +kernel⟩
abbrev tH:Stmt:=top 29
abbrev OV:List Str:= ["world","client","kind","server","address","place"]
abbrev AM:List Str:= ["world","client","kind","server","address"]
theorem FA:aB OV AM (ay tH):=⟨rfl,rfl,rfl,by decide +kernel,rfl,by decide +kernel,by decide +kernel⟩
abbrev jg:Stmt:=top 30
abbrev Hb:List Str:= ["client"]
abbrev oG:List Str:= ["client"]
theorem Ek:aB Hb oG (ay jg):=⟨rfl,rfl,rfl,by decide +kernel,rfl,by decide +kernel,by decide +kernel⟩
abbrev tI:Stmt:=top 31
abbrev OW:List Str:= ["world","client","tries"]
abbrev AN:List Str:= ["world","client","tries"]
theorem Mi:aB OW AN (ay tI):=⟨rfl,rfl,rfl,by decide +kernel,rfl,by decide +kernel,by decide +kernel⟩
abbrev zq:Stmt:=top 32
abbrev Ts:List Str:= ["world","client","tries"]
abbrev FC:List Str:= ["world","client","tries"]
theorem OX:aB Ts FC (ay zq):=⟨rfl,rfl,rfl,by decide +kernel,rfl,by decide +kernel,by decide +kernel⟩
abbrev fF:Stmt:=top 33
abbrev CN:List Str:= ["world","client","tries"]
abbrev jP:List Str:= ["world","client","tries"]
theorem AO:aB CN jP (ay fF):=⟨rfl,rfl,rfl,by decide +kernel,rfl,by decide +kernel,by decide +kernel⟩
abbrev kQ:Stmt:=top 34
abbrev JD:List Str:= ["world","client"]
abbrev qY:List Str:= ["world","client"]
theorem Hc:aB JD qY (ay kQ):=⟨rfl,rfl,rfl,by decide +kernel,rfl,by decide +kernel,by decide +kernel⟩
abbrev tJ:Stmt:=top 35
abbrev OY:List Str:= ["client"]
abbrev AQ:List Str:= ["client"]
theorem Mj:aB OY AQ (ay tJ):=⟨rfl,rfl,rfl,by decide +kernel,rfl,by decide +kernel,by decide +kernel⟩
abbrev oH:Stmt:=top 36
abbrev Ml:List Str:= ["world","client","phase","server","limit","pause"]
abbrev vH:List Str:= ["world","client","phase","server","limit"]
theorem CO:aB Ml vH (ay oH):=⟨rfl,rfl,rfl,by decide +kernel,rfl,by decide +kernel,by decide +kernel⟩
abbrev zr:Stmt:=top 37
abbrev Tt:List Str:= ["world","client"]
abbrev FD:List Str:= ["world","client"]
theorem OZ:aB Tt FD (ay zr):=⟨rfl,rfl,rfl,by decide +kernel,rfl,by decide +kernel,by decide +kernel⟩
abbrev d7:Stmt:=top 38
abbrev yp:List Str:= ["world","client"]
abbrev gL:List Str:= ["world","client"]
theorem wF:aB yp gL (ay d7):=⟨rfl,rfl,rfl,by decide +kernel,rfl,by decide +kernel,by decide +kernel⟩
abbrev eJ:Stmt:=top 39
abbrev AR:List Str:= ["world","client"]
abbrev iK:List Str:= ["world","client"]
theorem yq:aB AR iK (ay eJ):=⟨rfl,rfl,rfl,by decide +kernel,rfl,by decide +kernel,by decide +kernel⟩
abbrev dN:Stmt:=top 40
abbrev mZ:List Str:= ["world","until","waiting","dues","acts","earliest","first","host","client"]
abbrev jQ:List Str:= ["world","until"]
theorem cp:aB mZ jQ (ay dN):=⟨rfl,rfl,rfl,by decide +kernel,rfl,by decide +kernel,by decide +kernel⟩
abbrev tK:Stmt:=top 41
abbrev O0:List Str:= ["world","client","message"]
abbrev AS:List Str:= ["world","client","message"]
theorem Mm:aB O0 AS (ay tK):=⟨rfl,rfl,rfl,by decide +kernel,rfl,by decide +kernel,by decide +kernel⟩
abbrev eK:Stmt:=top 42
abbrev AU:List Str:= ["client","message"]
abbrev iL:List Str:= ["client","message"]
theorem yr:aB AU iL (ay eK):=⟨rfl,rfl,rfl,by decide +kernel,rfl,by decide +kernel,by decide +kernel⟩
abbrev fG:Stmt:=top 43
abbrev CP:List Str:= ["message","best"]
abbrev jR:List Str:= ["message","best"]
theorem AV:aB CP jR (ay fG):=⟨rfl,rfl,rfl,by decide +kernel,rfl,by decide +kernel,by decide +kernel⟩
abbrev gr:Stmt:=top 44
abbrev El:List Str:= ["world","client","message","end","half","late"]
abbrev jy:List Str:= ["world","client","message"]
theorem jS:aB El jy (ay gr):=⟨rfl,rfl,rfl,by decide +kernel,rfl,by decide +kernel,by decide +kernel⟩
abbrev eM:Stmt:=top 45
abbrev AW:List Str:= ["client","message"]
abbrev iM:List Str:= ["client","message"]
theorem yt:aB AW iM (ay eM):=⟨rfl,rfl,rfl,by decide +kernel,rfl,by decide +kernel,by decide +kernel⟩
abbrev eN:Stmt:=top 47
abbrev AX:List Str:= ["world","k","message"]
abbrev iN:List Str:= ["world","k"]
theorem pB:aB AX iN (ay eN):=⟨rfl,rfl,rfl,by decide +kernel,rfl,by decide +kernel,by decide +kernel⟩
abbrev kR:Stmt:=top 48
abbrev JE:List Str:= ["world","message","place","hops","marks"]
abbrev qZ:List Str:= ["world","message","place","hops","marks"]
theorem Hd:aB JE qZ (ay kR):=⟨rfl,rfl,rfl,by decide +kernel,rfl,by decide +kernel,by decide +kernel⟩
abbrev jh:Stmt:=top 49
abbrev He:List Str:= ["world","message","here","relay","hops","marks","server"]
abbrev oI:List Str:= ["world","message"]
theorem gu:aB He oI (ay jh):=⟨rfl,rfl,rfl,by decide +kernel,rfl,by decide +kernel,by decide +kernel⟩
abbrev oJ:Stmt:=top 50
abbrev Mn:List Str:= ["world","message","server","oldest","assigned"]
abbrev vI:List Str:= ["world","message"]
theorem rf:aB Mn vI (ay oJ):=⟨rfl,rfl,rfl,by decide +kernel,rfl,by decide +kernel,by decide +kernel⟩
abbrev dD:Stmt:=top 51
abbrev wG:List Str:= ["world","message","assigned"]
abbrev fU:List Str:= ["world","message","assigned"]
theorem vq:aB wG fU (ay dD):=⟨rfl,rfl,rfl,by decide +kernel,rfl,by decide +kernel,by decide +kernel⟩
abbrev eO:Stmt:=top 52
abbrev AY:List Str:= ["world","message","length","key","end"]
abbrev iO:List Str:= ["world","message","length"]
theorem kj:aB AY iO (ay eO):=⟨rfl,rfl,rfl,by decide +kernel,rfl,by decide +kernel,by decide +kernel⟩
abbrev kS:Stmt:=top 53
abbrev JF:List Str:= ["world","message","kind","address","length"]
abbrev rg:List Str:= ["world","message","kind","address","length"]
theorem Hf:aB JF rg (ay kS):=⟨rfl,rfl,rfl,by decide +kernel,rfl,by decide +kernel,by decide +kernel⟩
abbrev fH:Stmt:=top 54
abbrev CQ:List Str:= ["world","message","relay","mark","place"]
abbrev jT:List Str:= ["world","message"]
theorem fV:aB CQ jT (ay fH):=⟨rfl,rfl,rfl,by decide +kernel,rfl,by decide +kernel,by decide +kernel⟩
abbrev gv:Stmt:=top 55
abbrev Em:List Str:= ["world","message","client"]
abbrev lA:List Str:= ["world","message"]
theorem uE:aB Em lA (ay gv):=⟨rfl,rfl,rfl,by decide +kernel,rfl,by decide +kernel,by decide +kernel⟩
abbrev ji:Stmt:=top 60
abbrev Hg:List Str:= ["value","instead"]
abbrev oK:List Str:= ["value","instead"]
theorem En:aB Hg oK (ay ji):=⟨rfl,rfl,rfl,by decide +kernel,rfl,by decide +kernel,by decide +kernel⟩
abbrev fI:Stmt:=top 61
abbrev CS:List Str:= ["pairs","row","pair"]
abbrev ej:List Str:= ["pairs"]
theorem lB:aB CS ej (ay fI):=⟨rfl,rfl,rfl,by decide +kernel,rfl,by decide +kernel,by decide +kernel⟩
abbrev d8:Stmt:=top 62
abbrev yu:List Str:= ["message","row"]
abbrev gM:List Str:= ["message"]
theorem m3:aB yu gM (ay d8):=⟨rfl,rfl,rfl,by decide +kernel,rfl,by decide +kernel,by decide +kernel⟩
abbrev eP:Stmt:=top 63
abbrev AZ:List Str:= ["client","row"]
abbrev iP:List Str:= ["client"]
theorem pC:aB AZ iP (ay eP):=⟨rfl,rfl,rfl,by decide +kernel,rfl,by decide +kernel,by decide +kernel⟩
abbrev dQ:Stmt:=top 64
abbrev rh:List Str:= ["world","server","host","key","end"]
abbrev iQ:List Str:= ["world","server","host"]
theorem gN:aB rh iQ (ay dQ):=⟨rfl,rfl,rfl,by decide +kernel,rfl,by decide +kernel,by decide +kernel⟩
abbrev jj:Stmt:=top 65
abbrev Hh:List Str:= ["world","relay","circuit","marks","at"]
abbrev oM:List Str:= ["world","relay","circuit"]
theorem lC:aB Hh oM (ay jj):=⟨rfl,rfl,rfl,by decide +kernel,rfl,by decide +kernel,by decide +kernel⟩
abbrev cG:Stmt:=top 71
abbrev mC:List Str:= ["world","relay","circuit","client"]
abbrev fz:List Str:= ["world","relay","circuit"]
theorem gw:aB mC fz (ay cG):=⟨rfl,rfl,rfl,by decide +kernel,rfl,by decide +kernel,by decide +kernel⟩
abbrev fJ:Stmt:=top 72
abbrev CT:List Str:= ["world","numbers","parent","circuit","new"]
abbrev jU:List Str:= ["world","numbers"]
theorem iR:aB CT jU (ay fJ):=⟨rfl,rfl,rfl,by decide +kernel,rfl,by decide +kernel,by decide +kernel⟩
abbrev tL:Stmt:=top 73
abbrev O1:List Str:= ["world","numbers","host","where","client"]
abbrev A1:List Str:= ["world","numbers"]
theorem rj:aB O1 A1 (ay tL):=⟨rfl,rfl,rfl,by decide +kernel,rfl,by decide +kernel,by decide +kernel⟩
abbrev kT:Stmt:=top 74
abbrev JG:List Str:= ["world","numbers","client"]
abbrev rk:List Str:= ["world","numbers"]
theorem zt:aB JG rk (ay kT):=⟨rfl,rfl,rfl,by decide +kernel,rfl,by decide +kernel,by decide +kernel⟩
abbrev jk:Stmt:=top 75
abbrev Hi:List Str:= ["world","numbers","client"]
abbrev oN:List Str:= ["world","numbers"]
theorem wH:aB Hi oN (ay jk):=⟨rfl,rfl,rfl,by decide +kernel,rfl,by decide +kernel,by decide +kernel⟩
abbrev gy:Stmt:=top 76
abbrev Eo:List Str:= ["world","numbers","client"]
abbrev lD:List Str:= ["world","numbers"]
theorem uF:aB Eo lD (ay gy):=⟨rfl,rfl,rfl,by decide +kernel,rfl,by decide +kernel,by decide +kernel⟩
abbrev kU:Stmt:=top 77
abbrev JH:List Str:= ["world","numbers","client"]
abbrev rm:List Str:= ["world","numbers"]
theorem zu:aB JH rm (ay kU):=⟨rfl,rfl,rfl,by decide +kernel,rfl,by decide +kernel,by decide +kernel⟩
abbrev kX:Stmt:=top 78
abbrev JI:List Str:= ["world","numbers","key"]
abbrev rn:List Str:= ["world","numbers"]
theorem zw:aB JI rn (ay kX):=⟨rfl,rfl,rfl,by decide +kernel,rfl,by decide +kernel,by decide +kernel⟩
abbrev gz:Stmt:=top 79
abbrev Ep:List Str:= ["world","numbers","key"]
abbrev lE:List Str:= ["world","numbers"]
theorem uG:aB Ep lE (ay gz):=⟨rfl,rfl,rfl,by decide +kernel,rfl,by decide +kernel,by decide +kernel⟩
abbrev tM:Stmt:=top 80
abbrev O2:List Str:= ["world","numbers"]
abbrev A2:List Str:= ["world","numbers"]
theorem Mo:aB O2 A2 (ay tM):=⟨rfl,rfl,rfl,by decide +kernel,rfl,by decide +kernel,by decide +kernel⟩
abbrev tN:Stmt:=top 81
abbrev O3:List Str:= ["world","numbers","until","acts"]
abbrev A3:List Str:= ["world","numbers"]
theorem A4:aB O3 A3 (ay tN):=⟨rfl,rfl,rfl,by decide +kernel,rfl,by decide +kernel,by decide +kernel⟩
abbrev jl:Stmt:=top 82
abbrev Hj:List Str:= ["world"]
abbrev oO:List Str:= ["world"]
theorem Er:aB Hj oO (ay jl):=⟨rfl,rfl,rfl,by decide +kernel,rfl,by decide +kernel,by decide +kernel⟩
abbrev jm:Stmt:=top 83
abbrev Hl:List Str:= ["world","numbers","left","row","message","told"]
abbrev oP:List Str:= ["world","numbers"]
theorem jz:aB Hl oP (ay jm):=⟨rfl,rfl,rfl,by decide +kernel,rfl,by decide +kernel,by decide +kernel⟩
abbrev tO:Stmt:=top 84
abbrev O4:List Str:= ["world","numbers"]
abbrev A6:List Str:= ["world","numbers"]
theorem Mp:aB O4 A6 (ay tO):=⟨rfl,rfl,rfl,by decide +kernel,rfl,by decide +kernel,by decide +kernel⟩
abbrev kY:Stmt:=top 85
abbrev JJ:List Str:= ["world","numbers"]
abbrev rp:List Str:= ["world","numbers"]
theorem Hm:aB JJ rp (ay kY):=⟨rfl,rfl,rfl,by decide +kernel,rfl,by decide +kernel,by decide +kernel⟩
abbrev tP:Stmt:=top 86
abbrev O5:List Str:= ["world","numbers","delivered"]
abbrev A7:List Str:= ["world","numbers"]
theorem A8:aB O5 A7 (ay tP):=⟨rfl,rfl,rfl,by decide +kernel,rfl,by decide +kernel,by decide +kernel⟩
abbrev lF:Stmt:=top 87
abbrev FE:List Str:= ["world","numbers","where","client","server","marks","at"]
abbrev vJ:List Str:= ["world","numbers"]
theorem kZ:aB FE vJ (ay lF):=⟨rfl,rfl,rfl,by decide +kernel,rfl,by decide +kernel,by decide +kernel⟩
abbrev d9:Stmt:=top 88
abbrev yw:List Str:= ["world","numbers","client"]
abbrev gO:List Str:= ["world","numbers"]
theorem m4:aB yw gO (ay d9):=⟨rfl,rfl,rfl,by decide +kernel,rfl,by decide +kernel,by decide +kernel⟩
abbrev dE:Stmt:=top 89
abbrev wI:List Str:= ["world","numbers"]
abbrev fW:List Str:= ["world","numbers"]
theorem vt:aB wI fW (ay dE):=⟨rfl,rfl,rfl,by decide +kernel,rfl,by decide +kernel,by decide +kernel⟩
abbrev tQ:Stmt:=top 90
abbrev O6:List Str:= ["world","numbers"]
abbrev A9:List Str:= ["world","numbers"]
theorem Mq:aB O6 A9 (ay tQ):=⟨rfl,rfl,rfl,by decide +kernel,rfl,by decide +kernel,by decide +kernel⟩
abbrev fK:Stmt:=top 91
abbrev CU:List Str:= ["world","numbers"]
abbrev jV:List Str:= ["world","numbers"]
theorem Ba:aB CU jV (ay fK):=⟨rfl,rfl,rfl,by decide +kernel,rfl,by decide +kernel,by decide +kernel⟩
abbrev ek:Stmt:=top 92
abbrev uH:List Str:= ["world","numbers","client"]
abbrev jW:List Str:= ["world","numbers"]
theorem lG:aB uH jW (ay ek):=⟨rfl,rfl,rfl,by decide +kernel,rfl,by decide +kernel,by decide +kernel⟩
abbrev eQ:Stmt:=top 93
abbrev Bb:List Str:= ["world","numbers"]
abbrev iS:List Str:= ["world","numbers"]
theorem yx:aB Bb iS (ay eQ):=⟨rfl,rfl,rfl,by decide +kernel,rfl,by decide +kernel,by decide +kernel⟩
abbrev k0:Stmt:=top 95
abbrev JK:List Str:= ["world","place","numbers"]
abbrev rq:List Str:= ["world","place","numbers"]
theorem Hn:aB JK rq (ay k0):=⟨rfl,rfl,rfl,by decide +kernel,rfl,by decide +kernel,by decide +kernel⟩
abbrev eR:Stmt:=top 100
abbrev Bc:List Str:= ["world","name","number"]
abbrev iT:List Str:= ["world","name","number"]
theorem yy:aB Bc iT (ay eR):=⟨rfl,rfl,rfl,by decide +kernel,rfl,by decide +kernel,by decide +kernel⟩
abbrev eu:Stmt:=top 101
abbrev uI:List Str:= ["world","further","number"]
abbrev jX:List Str:= ["world","further"]
theorem lH:aB uI jX (ay eu):=⟨rfl,rfl,rfl,by decide +kernel,rfl,by decide +kernel,by decide +kernel⟩
abbrev ee:Stmt:=top 102
abbrev yz:List Str:= ["world","place","numbers","name","number"]
abbrev gP:List Str:= ["world","place","numbers"]
theorem jA:aB yz gP (ay ee):=⟨rfl,rfl,rfl,by decide +kernel,rfl,by decide +kernel,by decide +kernel⟩
abbrev ef:Stmt:=top 105
abbrev yA:List Str:= ["calls","split","at","numbers"]
abbrev gQ:List Str:= ["calls"]
theorem ez:aB yA gQ (ay ef):=⟨rfl,rfl,rfl,by decide +kernel,rfl,by decide +kernel,by decide +kernel⟩
abbrev tR:Stmt:=top 106
abbrev O7:List Str:= ["world","place","numbers"]
abbrev wJ:List Str:= ["world","place","numbers"]
theorem Mr:aB O7 wJ (ay tR):=⟨rfl,rfl,rfl,by decide +kernel,rfl,by decide +kernel,by decide +kernel⟩
abbrev jn:Stmt:=top 107
abbrev Ho:List Str:= ["calls","world","given","place","numbers","played"]
abbrev oQ:List Str:= ["calls"]
theorem fD:aB Ho oQ (ay jn):=⟨rfl,rfl,rfl,by decide +kernel,rfl,by decide +kernel,by decide +kernel⟩
structure iU where
 bz:Addr
 aK:Addr
 aN:Addr
 aX:Addr
 cq:Addr
 iV:FuncData
 bE:Addr
 fX:FuncData
 bO:Addr
 gR:FuncData
 cu:Addr
 iW:FuncData
 rB:Addr
 FF:FuncData
 lI:Addr
 Bd:FuncData
 eS:Addr
 oR:FuncData
 lJ:Addr
 Be:FuncData
 rC:Addr
 FG:FuncData
 dh:Addr
 jY:FuncData
 fY:Addr
 rD:FuncData
 lK:Addr
 Bf:FuncData
 iX:Addr
 vK:FuncData
 rE:Addr
 FH:FuncData
 cw:Addr
 gS:FuncData
 cO:Addr
 iY:FuncData
 di:Addr
 jZ:FuncData
 lL:Addr
 Bg:FuncData
 cP:Addr
 iZ:FuncData
 dj:Addr
 j0:FuncData
 dA:Addr
 jB:FuncData
 cQ:Addr
 i3:FuncData
 cR:Addr
 i4:FuncData
 fZ:Addr
 rF:FuncData
 eU:Addr
 oS:FuncData
 i5:Addr
 vL:FuncData
 bQ:Addr
 f6:FuncData
 cS:Addr
 i6:FuncData
 f7:Addr
 rG:FuncData
 dk:Addr
 j1:FuncData
 dR:Addr
 lM:FuncData
 eV:Addr
 oT:FuncData
 bR:Addr
 eA:FuncData
 cx:Addr
 gT:FuncData
 cT:Addr
 i7:FuncData
 cU:Addr
 i8:FuncData
 eX:Addr
 oU:FuncData
 bH:Addr
 fA:FuncData
 bI:Addr
 j2:FuncData
 gA:Addr
 Bh:FuncData
 dF:Addr
 rH:FuncData
 c5:Addr
 oW:FuncData
 bZ:Addr
 lN:FuncData
 dG:Addr
 rJ:FuncData
 f_assign:Addr
 rK:FuncData
 b0:Addr
 lO:FuncData
 gB:Addr
 Bi:FuncData
 gC:Addr
 Bj:FuncData
 eY:Addr
 oX:FuncData
 c6:Addr
 oY:FuncData
 gD:Addr
 Bk:FuncData
 dH:Addr
 rL:FuncData
 gE:Addr
 Bl:FuncData
 eZ:Addr
 vM:FuncData
 bo:Addr
 gU:FuncData
 a9:Addr
 f9:FuncData
 gF:Addr
 Bm:FuncData
 bJ:Addr
 j3:FuncData
 bK:Addr
 j4:FuncData
 bA:Addr
 i9:FuncData
 gb:Addr
 rM:FuncData
 cV:Addr
 ja:FuncData
 dn:Addr
 j5:FuncData
 cy:Addr
 gW:FuncData
 cz:Addr
 gX:FuncData
 kl:Addr
 wK:FuncData
 e9:Addr
 jo:FuncData
 jb:Addr
 fc:Addr
 dS:Addr
 dU:Addr
 fB:Addr
 dZ:Addr
 m6:Addr
 m7:Addr
 m8:Addr
 m9:Addr
 ng:Addr
 nh:Addr
 ni:Addr
 nj:Addr
 nk:Addr
 lP:Addr
 lQ:Addr
 lR:Addr
 lS:Addr
 lT:Addr
 lU:Addr
 cD:Addr
 fk:Addr
 gY:Addr
 gZ:Addr
 g9:Addr
 hC:Addr
 hJ:Addr
 hR:Addr
 hU:Addr
 hW:Addr
 hX:Addr
 hZ:Addr
 ia:Addr
 ib:Addr
 ic:Addr
 ie:Addr
 ig:Addr
 ij:Addr
 ik:Addr
 il:Addr
 ip:Addr
 iq:Addr
 ir:Addr
structure Txt (K:Frag) (mg:Str→Option Value) (t:iU):Prop where
 Bn:mg "Relay"=some (.ref t.bz)
 bB:IW K t.bz
 Qk0:bc K t.bz "parent"
 Qky:bc K t.bz "circuit"
 Qkz:bc K t.bz "limit"
 k7:mg "Message"=some (.ref t.aK)
 au:IW K t.aK
 Qkw:bc K t.aK "place"
 Qkr:bc K t.aK "host"
 Qkv:bc K t.aK "number"
 Qks:bc K t.aK "kind"
 Qkx:bc K t.aK "server"
 Qkp:bc K t.aK "address"
 Qkt:bc K t.aK "length"
 Qkq:bc K t.aK "hops"
 Qku:bc K t.aK "marks"
 CV:mg "Client"=some (.ref t.aN)
 aq:IW K t.aN
 Qki:bc K t.aN "host"
 Qkm:bc K t.aN "plugged"
 Qkl:bc K t.aN "phase"
 Qkg:bc K t.aN "counter"
 Qkf:bc K t.aN "awaited"
 Qkn:bc K t.aN "sent"
 Qko:bc K t.aN "tries"
 Qkh:bc K t.aN "due"
 Qkk:bc K t.aN "offer"
 Qkj:bc K t.aN "lease"
 FI:mg "World"=some (.ref t.aX)
 aw:IW K t.aX
 Qk6:bc K t.aX "now"
 Qk9:bc K t.aX "servers"
 Qk3:bc K t.aX "cap"
 Qk7:bc K t.aX "relays"
 Qk5:bc K t.aX "hung"
 Qk4:bc K t.aX "clients"
 Qk8:bc K t.aX "resting"
 Qk1:bc K t.aX "assigned"
 Qla:bc K t.aX "written"
 Qk2:bc K t.aX "bag"
 Qlf:t.bz≠t.aK
 Qle:t.bz≠t.aN
 Qlg:t.bz≠t.aX
 Qlc:t.aK≠t.aN
 Qld:t.aK≠t.aX
 Qlb:t.aN≠t.aX
 Qhk:Mk K t.bz t.cq
 rN:eh K "__init__" "Relay.__init__" eG t.cq t.iV
 lV:Binds K t.iV iI []
 Qhj:Mk K t.aK t.bE
 nq:eh K "__init__" "Message.__init__" dC t.bE t.fX
 eB:Binds K t.fX fT []
 Qhi:Mk K t.aN t.bO
 pD:eh K "__init__" "Client.__init__" d6 t.bO t.gR
 pE:Binds K t.gR gJ []
 Qhl:Mk K t.aX t.cu
 rP:eh K "__init__" "World.__init__" eI t.cu t.iW
 rQ:Binds K t.iW iJ []
 wL:eh K "put" "put" zp t.rB t.FF
 zx:mg "put"=some (.ref t.rB)
 zy:Binds K t.FF Fz []
 tS:eh K "send" "send" tH t.lI t.Bd
 wM:mg "send"=some (.ref t.lI)
 wN:Binds K t.Bd AM []
 k8:eh K "wait_of" "wait_of" jg t.eS t.oR
 oZ:mg "wait_of"=some (.ref t.eS)
 o3:Binds K t.oR oG []
 qv:eh K "seek" "seek" tI t.lJ t.Be
 tT:mg "seek"=some (.ref t.lJ)
 tU:Binds K t.Be AN []
 FJ:eh K "ask" "ask" zq t.rC t.FG
 JL:mg "ask"=some (.ref t.rC)
 JM:Binds K t.FG FC []
 j6:eh K "come_back" "come_back" fF t.dh t.jY
 nt:mg "come_back"=some (.ref t.dh)
 nv:Binds K t.jY jP []
 rR:eh K "settle" "settle" kQ t.fY t.rD
 wO:mg "settle"=some (.ref t.fY)
 wQ:Binds K t.rD qY []
 Es:eh K "bind" "bind" tJ t.lK t.Bf
 JN:mg "bind"=some (.ref t.lK)
 JO:Binds K t.Bf AQ []
 vN:eh K "renew" "renew" oH t.iX t.vK
 Bo:mg "renew"=some (.ref t.iX)
 Bp:Binds K t.vK vH []
 JP:eh K "act" "act" zr t.rE t.FH
 NA:mg "act"=some (.ref t.rE)
 NB:Binds K t.FH FD []
 km:eh K "act_seeking" "act_seeking" d7 t.cw t.gS
 pF:mg "act_seeking"=some (.ref t.cw)
 pG:Binds K t.gS gL []
 lW:eh K "act_asking" "act_asking" eJ t.cO t.iY
 rS:mg "act_asking"=some (.ref t.cO)
 rT:Binds K t.iY iK []
 ny:eh K "act_until" "act_until" dN t.di t.jZ
 uJ:mg "act_until"=some (.ref t.di)
 uK:Binds K t.jZ jQ []
 Et:eh K "hear" "hear" tK t.lL t.Bg
 JQ:mg "hear"=some (.ref t.lL)
 JR:Binds K t.Bg AS []
 lX:eh K "hear_offer" "hear_offer" eK t.cP t.iZ
 rV:mg "hear_offer"=some (.ref t.cP)
 rW:Binds K t.iZ iL []
 nB:eh K "is_better" "is_better" fG t.dj t.j0
 uL:mg "is_better"=some (.ref t.dj)
 uM:Binds K t.j0 jR []
 qw:eh K "hear_yes" "hear_yes" gr t.dA t.jB
 wR:mg "hear_yes"=some (.ref t.dA)
 wU:Binds K t.jB jy []
 lY:eh K "is_fitting" "is_fitting" eM t.cQ t.i3
 rX:mg "is_fitting"=some (.ref t.cQ)
 rY:Binds K t.i3 iM []
 jc:eh K "deliver_at" "deliver_at" eN t.cR t.i4
 lZ:mg "deliver_at"=some (.ref t.cR)
 l3:Binds K t.i4 iN []
 nE:eh K "put_on" "put_on" kR t.fZ t.rF
 rZ:mg "put_on"=some (.ref t.fZ)
 r6:Binds K t.rF qZ []
 tV:eh K "hand_up" "hand_up" jh t.eU t.oS
 zz:mg "hand_up"=some (.ref t.eU)
 zA:Binds K t.oS oI []
 Bq:eh K "serve" "serve" oJ t.i5 t.vL
 FK:mg "serve"=some (.ref t.i5)
 FL:Binds K t.vL vI []
 jC:eh K "serve_asking" "serve_asking" dD t.bQ t.f6
 nF:mg "serve_asking"=some (.ref t.bQ)
 nG:Binds K t.f6 fU []
 l4:eh K "write_down" "write_down" eO t.cS t.i6
 sf:mg "write_down"=some (.ref t.cS)
 si:Binds K t.i6 iO []
 k9:eh K "answer" "answer" kS t.f7 t.rG
 nH:mg "answer"=some (.ref t.f7)
 nI:Binds K t.rG rg []
 nJ:eh K "hand_down" "hand_down" fH t.dk t.j1
 uN:mg "hand_down"=some (.ref t.dk)
 uP:Binds K t.j1 jT []
 qx:eh K "come_out" "come_out" gv t.dR t.lM
 wV:mg "come_out"=some (.ref t.dR)
 wW:Binds K t.lM lA []
 gG:eh K "or_else" "or_else" ji t.eV t.oT
 jq:mg "or_else"=some (.ref t.eV)
 jr:Binds K t.oT oK []
 iy:eh K "pairs_row" "pairs_row" fI t.bR t.eA
 j7:mg "pairs_row"=some (.ref t.bR)
 j8:Binds K t.eA ej []
 iu:eh K "message_row" "message_row" d8 t.cx t.gT
 kn:mg "message_row"=some (.ref t.cx)
 ko:Binds K t.gT gM []
 l5:eh K "client_row" "client_row" eP t.cT t.i7
 sj:mg "client_row"=some (.ref t.cT)
 sk:Binds K t.i7 iP []
 l6:eh K "written_of" "written_of" dQ t.cU t.i8
 sm:mg "written_of"=some (.ref t.cU)
 so:Binds K t.i8 iQ []
 tW:eh K "path_of" "path_of" jj t.eX t.oU
 zB:mg "path_of"=some (.ref t.eX)
 zC:Binds K t.oU oM []
 iC:eh K "is_plugged_at" "is_plugged_at" cG t.bH t.fA
 mE:mg "is_plugged_at"=some (.ref t.bH)
 mG:Binds K t.fA fz []
 nL:eh K "add_relay" "add_relay" fJ t.bI t.j2
 CW:mg "add_relay"=some (.ref t.bI)
 uQ:Binds K t.j2 jU []
 Eu:eh K "plug" "plug" tL t.gA t.Bh
 O8:mg "plug"=some (.ref t.gA)
 JS:Binds K t.Bh A1 []
 wX:eh K "unplug" "unplug" kT t.dF t.rH
 JT:mg "unplug"=some (.ref t.dF)
 CY:Binds K t.rH rk []
 tX:eh K "turn_on" "turn_on" jk t.c5 t.oW
 Hq:mg "turn_on"=some (.ref t.c5)
 zD:Binds K t.oW oN []
 qy:eh K "turn_off" "turn_off" gy t.bZ t.lN
 Ew:mg "turn_off"=some (.ref t.bZ)
 wY:Binds K t.lN lD []
 wZ:eh K "forget" "forget" kU t.dG t.rJ
 JU:mg "forget"=some (.ref t.dG)
 CZ:Binds K t.rJ rm []
 w6:eh K "assign" "assign" kX t.f_assign t.rK
 JV:mg "assign"=some (.ref t.f_assign)
 C0:Binds K t.rK rn []
 qz:eh K "withdraw" "withdraw" gz t.b0 t.lO
 Ex:mg "withdraw"=some (.ref t.b0)
 w8:Binds K t.lO lE []
 Ey:eh K "rest" "rest" tM t.gB t.Bi
 O9:mg "rest"=some (.ref t.gB)
 JW:Binds K t.Bi A2 []
 Ez:eh K "tick" "tick" tN t.gC t.Bj
 Pa:mg "tick"=some (.ref t.gC)
 JX:Binds K t.Bj A3 []
 o4:eh K "is_full" "is_full" jl t.eY t.oX
 tY:mg "is_full"=some (.ref t.eY)
 tZ:Binds K t.oX oO []
 ua:eh K "deliver" "deliver" jm t.c6 t.oY
 Hr:mg "deliver"=some (.ref t.c6)
 zE:Binds K t.oY oP []
 EA:eh K "lose" "lose" tO t.gD t.Bk
 Pb:mg "lose"=some (.ref t.gD)
 JY:Binds K t.Bk A6 []
 w9:eh K "double" "double" kY t.dH t.rL
 JZ:mg "double"=some (.ref t.dH)
 C1:Binds K t.rL rp []
 EB:eh K "flow" "flow" tP t.gE t.Bl
 Pc:mg "flow"=some (.ref t.gE)
 J0:Binds K t.Bl A7 []
 Br:eh K "forge" "forge" lF t.eZ t.vM
 Ms:mg "forge"=some (.ref t.eZ)
 FN:Binds K t.vM vJ []
 kr:eh K "tell_client" "tell_client" d9 t.bo t.gU
 yB:mg "tell_client"=some (.ref t.bo)
 pH:Binds K t.gU gO []
 jD:eh K "tell_written" "tell_written" dE t.a9 t.f9
 xa:mg "tell_written"=some (.ref t.a9)
 nM:Binds K t.f9 fW []
 EC:eh K "peek" "peek" tQ t.gF t.Bm
 Pd:mg "peek"=some (.ref t.gF)
 J1:Binds K t.Bm A9 []
 nN:eh K "tell_path" "tell_path" fK t.bJ t.j3
 C2:mg "tell_path"=some (.ref t.bJ)
 uR:Binds K t.j3 jV []
 nO:eh K "tell_next" "tell_next" ek t.bK t.j4
 C3:mg "tell_next"=some (.ref t.bK)
 uS:Binds K t.j4 jW []
 l7:eh K "tell_state" "tell_state" eQ t.bA t.i9
 Bs:mg "tell_state"=some (.ref t.bA)
 sq:Binds K t.i9 iS []
 xb:eh K "row_of" "row_of" k0 t.gb t.rM
 C4:mg "row_of"=some (.ref t.gb)
 C5:Binds K t.rM rq []
 jd:eh K "is_granted" "is_granted" eR t.cV t.ja
 l8:mg "is_granted"=some (.ref t.cV)
 l9:Binds K t.ja iT []
 nP:eh K "are_pairs" "are_pairs" eu t.dn t.j5
 uT:mg "are_pairs"=some (.ref t.dn)
 uV:Binds K t.j5 jX []
 ku:eh K "are_granted" "are_granted" ee t.cy t.gW
 pI:mg "are_granted"=some (.ref t.cy)
 pJ:Binds K t.gW gP []
 kx:eh K "split_calls" "split_calls" ef t.cz t.gX
 pK:mg "split_calls"=some (.ref t.cz)
 pL:Binds K t.gX gQ []
 ED:eh K "play" "play" tR t.kl t.wK
 J2:mg "play"=some (.ref t.kl)
 J3:Binds K t.wK wJ []
 ub:eh K "answers" "answers" jn t.e9 t.jo
 zF:mg "answers"=some (.ref t.e9)
 Hs:Binds K t.jo oQ []
 pM:∃u,mg "FIRST_LIMIT"=some u∧RelV (V.int 16) u
 J4:∃u,mg "UP"=some u∧RelV (V.int 0) u
 nQ:∃u,mg "AT_SERVER"=some u∧RelV (V.int 1) u
 Bt:∃u,mg "DOWN"=some u∧RelV (V.int 2) u
 NC:∃u,mg "OUT"=some u∧RelV (V.int 3) u
 uc:∃u,mg "SEEKING"=some u∧RelV (V.int 1) u
 Bu:∃u,mg "OFFER"=some u∧RelV (V.int 2) u
 nR:∃u,mg "ASKING"=some u∧RelV (V.int 3) u
 J5:∃u,mg "YES"=some u∧RelV (V.int 4) u
 Pe:∃u,mg "NO"=some u∧RelV (V.int 5) u
 zG:∃u,mg "OFF"=some u∧RelV (V.int 0) u
 vO:∃u,mg "SEEKS"=some u∧RelV (V.int 1) u
 xf:∃u,mg "ASKS"=some u∧RelV (V.int 2) u
 FO:∃u,mg "BOUND"=some u∧RelV (V.int 3) u
 sr:∃u,mg "RENEWS"=some u∧RelV (V.int 4) u
 md:∃u,mg "ASKS_ALL"=some u∧RelV (V.int 5) u
 gf:∃u,mg "COMES_BACK"=some u∧RelV (V.int 6) u
 FP:mg "WAITS"=some (.ref t.jb)
 FQ:∀H,bb K H t.jb [V.int 3,V.int 7,V.int 15,V.int 31,V.int 63,V.int 63,V.int 63,V.int 63,V.int 63,V.int 63,V.int 63]
 iz:∃u,mg "MOST_SEEKING_TRIES"=some u∧RelV (V.int 10) u
 j9:∃u,mg "LAST_ASKING_TRY"=some u∧RelV (V.int 3) u
 iA:∃u,mg "LAST_RETURNING_TRY"=some u∧RelV (V.int 2) u
 pN:∃u,mg "LEAST_PAUSE"=some u∧RelV (V.int 60) u
 zH:mg "NOWHERE"=some (.ref t.fc)
 zI:∀H,bb K H t.fc [V.int (-1),V.int (-1)]
 xg:mg "NO_OFFER"=some (.ref t.dS)
 xh:∀H,bb K H t.dS [V.int (-1),V.int 0,V.int 0]
 xi:mg "NO_LEASE"=some (.ref t.dU)
 xj:∀H,bb K H t.dU [V.int (-1),V.int 0,V.int 0,V.int 0,V.int 0]
 pO:∃u,mg "MOST_RELAYS"=some u∧RelV (V.int 64) u
 nT:∃u,mg "MOST_CLIENTS"=some u∧RelV (V.int 64) u
 mH:∃u,mg "MOST_ASSIGNED"=some u∧RelV (V.int 128) u
 C6:∃u,mg "LATEST"=some u∧RelV (V.int 1000000000000000) u
 FR:mg "CALLS"=some (.ref t.fB)
 bU:DM K t.fB [(1,V.ref t.bI),(2,V.ref t.gA),(3,V.ref t.dF),(4,V.ref t.c5),(5,V.ref t.bZ),(6,V.ref t.dG),(7,V.ref t.f_assign),(8,V.ref t.b0),(9,V.ref t.gB),(10,V.ref t.gC),(11,V.ref t.c6),(12,V.ref t.gD),(13,V.ref t.dH),(14,V.ref t.gE),(15,V.ref t.eZ),(16,V.ref t.bo),(17,V.ref t.a9),(18,V.ref t.gF),(19,V.ref t.bJ),(20,V.ref t.bK),(21,V.ref t.bA)]
 xk:mg "RANGES"=some (.ref t.dZ)
 cK:DMS K t.dZ [("servers",V.ref t.m6),("cap",V.ref t.m7),("time",V.ref t.m8),("circuit",V.ref t.m9),("limit",V.ref t.ng),("host",V.ref t.nh),("address",V.ref t.ni),("len",V.ref t.nj),("x",V.ref t.nk),("t",V.ref t.lP),("m",V.ref t.lQ),("number",V.ref t.lR),("kind",V.ref t.lS),("hops",V.ref t.lT),("of a pair",V.ref t.lU)]
 uW:∀H,bb K H t.m6 [V.int 1,V.int 4]
 uX:∀H,bb K H t.m7 [V.int 1,V.int 10000]
 uY:∀H,bb K H t.m8 [V.int 0,V.int 1000000000000000]
 uZ:∀H,bb K H t.m9 [V.int 0,V.int 4095]
 u4:∀H,bb K H t.ng [V.int 1,V.int 16]
 u5:∀H,bb K H t.nh [V.int 0,V.int 281474976710655]
 u6:∀H,bb K H t.ni [V.int 0,V.int 4294967295]
 u7:∀H,bb K H t.nj [V.int 1,V.int 1000000000]
 u9:∀H,bb K H t.nk [V.int 0,V.int 1]
 su:∀H,bb K H t.lP [V.int 0,V.int 20000]
 sx:∀H,bb K H t.lQ [V.int 0,V.int 1000]
 sy:∀H,bb K H t.lR [V.int 1,V.int 1000000000000000000]
 sA:∀H,bb K H t.lS [V.int 1,V.int 5]
 sC:∀H,bb K H t.lT [V.int 0,V.int 16]
 sD:∀H,bb K H t.lU [V.int 0,V.int 4095]
 nU:∃u,mg "MOST_FURTHER"=some u∧RelV (V.int 32) u
 ud:mg "NUMBERS"=some (.ref t.cD)
 a6:DM K t.cD [(0,V.ref t.fk),(1,V.ref t.gY),(2,V.ref t.gZ),(3,V.ref t.g9),(4,V.ref t.hC),(5,V.ref t.hJ),(6,V.ref t.hR),(7,V.ref t.hU),(8,V.ref t.hW),(9,V.ref t.hX),(10,V.ref t.hZ),(11,V.ref t.ia),(12,V.ref t.ib),(13,V.ref t.ic),(14,V.ref t.ie),(15,V.ref t.ig),(16,V.ref t.ij),(17,V.ref t.ik),(18,V.ref t.il),(19,V.ref t.ip),(20,V.ref t.iq),(21,V.ref t.ir)]
 kz:∀H,bb K H t.fk [V.str "servers",V.str "cap",V.str "time"]
 pP:∀H,bb K H t.gY [V.str "relay",V.str "circuit",V.str "limit"]
 pQ:∀H,bb K H t.gZ [V.str "host",V.str "relay",V.str "circuit"]
 pR:∀H,bb K H t.g9 [V.str "host"]
 pS:∀H,bb K H t.hC [V.str "host"]
 pT:∀H,bb K H t.hJ [V.str "host"]
 pU:∀H,bb K H t.hR [V.str "host"]
 pV:∀H,bb K H t.hU [V.str "server",V.str "host",V.str "relay",V.str "address",V.str "len"]
 pW:∀H,bb K H t.hW [V.str "server",V.str "host",V.str "relay"]
 pX:∀H,bb K H t.hX [V.str "server",V.str "x"]
 pY:∀H,bb K H t.hZ [V.str "t"]
 pZ:∀H,bb K H t.ia [V.str "k"]
 p0:∀H,bb K H t.ib [V.str "k"]
 qa:∀H,bb K H t.ic [V.str "k"]
 qb:∀H,bb K H t.ie [V.str "m"]
 qc:∀H,bb K H t.ig [V.str "relay",V.str "circuit",V.str "host",V.str "number",V.str "kind",V.str "server or none",V.str "address",V.str "hops"]
 qd:∀H,bb K H t.ij [V.str "host"]
 qe:∀H,bb K H t.ik [V.str "server",V.str "host"]
 qf:∀H,bb K H t.il [V.str "k"]
 qg:∀H,bb K H t.ip [V.str "relay",V.str "circuit"]
 qh:∀H,bb K H t.iq []
 qi:∀H,bb K H t.ir []
 FT:∃u,mg "BEGIN"=some u∧RelV (V.int 0) u
 Qlt:mg "all"=none
 Qlu:mg "any"=none
 Qlv:mg "len"=none
 Qlw:mg "list"=none
 Qlx:mg "max"=none
 Qly:mg "min"=none
 Qlz:mg "range"=none
 Ql0:mg "sorted"=none
 Ql1:mg "tuple"=none
 Ql2:mg "zip"=none
theorem Pf {K:Frag}{h:Heap}{mg:Str→Option Value}(X:K.In h)(G:h.Ns mainGlobals mg)
  {bz aK aN aX cq bE bO cu rB lI eS lJ rC dh fY lK iX rE cw cO di lL cP dj dA cQ cR fZ eU i5 bQ cS f7 dk dR eV bR cx cT cU eX bH bI gA dF c5 bZ dG f_assign b0 gB gC eY c6 gD dH gE eZ bo a9 gF bJ bK bA gb cV dn cy cz kl e9 jb fc dS dU fB dZ b1 b2 b3 b4 b5 b6 b7 b8 b9 b10 b11 b12 b13 b14 b15 cD b16 b17 b18 b19 b20 b21 b22 b23 b24 b25 b26 b27 b28 b29 b30 b31 b32 b33 b34 b35 b36 b37:Addr}{sl1 sl2 sl3 sl4 sl5 sl6 sl7 sl8 sl9 acw acx acy acz acA acB acC acD acE acF acG acH acI acJ acK acL acM acN acO acP acQ acR acS acT acU acV acW acX acY acZ ac0 ac1 ac2 ac3 ac4 ac5 ac6 ac7 ac8 ac9 ada adb ade adf adg adh adi adj adk adl adm adn ado adp adq ads adt adu adv adw adx ady adz adA adB adC adD adE adF adG adH adI adJ adK adL adM adN adO adP adQ adR adS adT adU adV adW adX adY adZ ad0 Tu Tv Tw Tx Tz TB TC TF TH:Array (Option Value)}{hh1 hh2 hh3 hh4 hh5 hh6 hh7 hh8 hh9 ad3 ad4 ad5 ad6 ad7 ad8:Int}{nn1 nn2 nn3 nn4 nn5 nn6 nn7 nn8 nn9 ad9 aea aeb aec aed aee aef aeg aeh aei aej aek ael aem aen aeo aep aeq aer aes aet aeu aev aew aex aey aez aeA aeB aeC aeD aeE aeF aeG aeH:Nat}{od1 an1 od2 an2 od3 an3 od4 an4 od5 an5 od6 an6 od7 an7 od8 an8 od9 an9 aeI TJ aeJ TK aeK TM aeL TN aeM TQ aeN TR aeO TU aeP TV aeQ TX aeR TY aeS TZ aeT T1 aeU Ua aeV Ub aeW Uc aeX Ud aeY Ue aeZ Ug ae0 Uh ae1 Ui ae2 Uj ae3 Uk ae4 Ul ae5 Um ae6 Uo ae7 Up ae8 Uq ae9 Ur afa Us afb Ut afc Uu afd Uv afe Uw aff Ux afg Uy afh Uz afi UA afj UB afk UC afl UD afm UE afn UG afo UH afp UI afq UJ afr UK afs UL aft UM afu UN afv UO afw UP afx UQ afy UR afz US afA UT afB UU afC UW afD UX dd1 dd2 dd3 dd4 dd5 dd6 dd7 dd8 dd9 afE afF afG afH afI afJ afK afL afM afN afO afP afQ afR afS afT afU afV afW afX afY afZ af0 af1 af2 af3 af4 af5 af6 af7 af8 af9:Option Addr}{t1 t2 t3 t4 t5 t6 t7 t8 t9 t10 t11 t12 t13 t14 t15 t16 t17 t18 t19 t20 t21 t22 t23 t24 t25 t26 t27 t28 t29 t30 t31 t32 t33 t34 t35 t36 t37 t38 t39 t40 t41 t42 t43 t44 t45 t46 t47 t48 t49 t50 t51 t52 t53 t54 t55 t56 t57 t58 t59 t60 t61 t62 t63 t64 t65 t66 t67 t68 t69 t70 t71 t72 t73 t74 t75 t76 t77 t78 t79 t80 t81 t82 t83 t84 t85 t86 t87 t88 t89 t90 t91 t92 t93 t94 t95 t96 t97 t98 t99 aga agb agc agd age agf agg agh agi agj agk agl agm agn ago agp agq agr ags agt agu agv agw agx agy agz agB agC agD agE agF agG agH agI agJ agK agL agM agN agO agP agQ agR agS agT agU agV agW agX agY agZ ag0 ag1 ag2 ag3 ag4 ag5 ag6 ag7 ag8 ag9 aha ahb ahc ahd ahe ahf ahg ahh ahi ahj ahk ahl ahm ahn aho ahp ahq ahr:Tok}{oc1 kV1 dc1 pm1 cd1 ct1 oc2 kV2 dc2 pm2 cd2 ct2 oc3 kV3 dc3 pm3 cd3 ct3 oc4 kV4 dc4 pm4 cd4 ct4 oc5 kV5 dc5 pm5 cd5 ct5 oc6 kV6 dc6 pm6 cd6 ct6 oc7 kV7 dc7 pm7 cd7 ct7 oc8 kV8 dc8 pm8 cd8 ct8 oc9 kV9 dc9 pm9 cd9 ct9 ahB UY UZ U0 Pg Va ahC Vb Vc Vd Ph Ve ahD Vf Vg Vh Pj Vi ahE Vj Vk Vl Pk Vm ahF Vn Vo Vp Pl Vq ahG Vr Vs Vt Pn Vu ahH Vv Vw Vx Po Vy ahI Vz VA VB Pp VC ahJ VD VE VF Pq VG ahK VH VI VJ Pr VL ahL VM VN VO Pt VP ahM VQ VR VS Pu VT ahN VU VV VX Pw VY ahO VZ V0 V1 Px V2 ahP V3 V4 V5 Py V6 ahQ V7 V8 V9 Pz Wa ahR Wb Wc Wd PB We ahS Wf Wg Wh PD Wi ahT Wj Wl Wm PF Wn ahU Wo Wq Wr PH Ws ahV Wt Wu Wv PJ Ww ahW Wx Wy Wz PM WA ahX WB WC WD PN WE ahY WG WH WI PQ WJ ahZ WK WL WM PR WN ah0 WO WQ WR PU WT ah1 WU WV WW PV WX ah2 WY WZ W0 PX W2 ah3 W3 W4 W5 PY W6 ah4 W7 W8 W9 PZ Xa ah5 Xb Xc Xd P0 Xe ah6 Xf Xg Xh P1 Xi ah7 Xj Xk Xl P2 Xm ah8 Xn Xo Xp P4 Xq ah9 Xr Xs Xt P5 Xu aia Xv Xw Xx P6 Xy aib Xz XA XB P7 XC aic XD XE XF P8 XG aid XH XI XJ P9 XM aie XN XO XQ Qa XR aif XS XT XU Qb XW aih XX XY XZ Qc X0 aii X1 X2 X3 Qe X4 aij X5 X6 X7 Qg X8 aik X9 YaZ Yb Qh Yc ail Yd Ye Yf Qi Yg aim Yh Yi Yj Qj Yk ain Yl Ym Yn Qk Yo aio Yp Yq Yr Ql Ys aip Yt Yu Yv Qm Yw aiq Yx Yy Yz Qn YA air YB YC YD Qo YE ais YF YG YH Qp YI ait YJ YK YL Qq YM aiu YN YO YQ Qr YR aiv YS YT YU Qs YV aiw YW YX YY Qt YZ aix Y0 Y1 Y2 Qu Y3:Value}
  (Qih:nsIn K mainGlobals "Relay"=some (some (.ref bz)))
  (Qlj:plainGet K bz Str.empty=true)
  (Qb7:hasDictIn K bz=true)
  (Qln:plainOver K bz=true)
  (Qlr:findIn K (.ref bz) "__setattr__"=some (some (.builtin "object.__setattr__")))
  (Qhk:makesIn K bz=true)
  (Qed:keepIn K (.ref bz)=true)
  (Qk0:findIn K (.ref bz) "parent"=some none)
  (Qky:findIn K (.ref bz) "circuit"=some none)
  (Qkz:findIn K (.ref bz) "limit"=some none)
  (Qh6:nsIn K mainGlobals "Message"=some (some (.ref aK)))
  (Qli:plainGet K aK Str.empty=true)
  (Qb6:hasDictIn K aK=true)
  (Qlm:plainOver K aK=true)
  (Qlq:findIn K (.ref aK) "__setattr__"=some (some (.builtin "object.__setattr__")))
  (Qhj:makesIn K aK=true)
  (Qec:keepIn K (.ref aK)=true)
  (Qkw:findIn K (.ref aK) "place"=some none)
  (Qkr:findIn K (.ref aK) "host"=some none)
  (Qkv:findIn K (.ref aK) "number"=some none)
  (Qks:findIn K (.ref aK) "kind"=some none)
  (Qkx:findIn K (.ref aK) "server"=some none)
  (Qkp:findIn K (.ref aK) "address"=some none)
  (Qkt:findIn K (.ref aK) "length"=some none)
  (Qkq:findIn K (.ref aK) "hops"=some none)
  (Qku:findIn K (.ref aK) "marks"=some none)
  (Qhu:nsIn K mainGlobals "Client"=some (some (.ref aN)))
  (Qlh:plainGet K aN Str.empty=true)
  (Qb5:hasDictIn K aN=true)
  (Qll:plainOver K aN=true)
  (Qlp:findIn K (.ref aN) "__setattr__"=some (some (.builtin "object.__setattr__")))
  (Qhi:makesIn K aN=true)
  (Qeb:keepIn K (.ref aN)=true)
  (Qki:findIn K (.ref aN) "host"=some none)
  (Qkm:findIn K (.ref aN) "plugged"=some none)
  (Qkl:findIn K (.ref aN) "phase"=some none)
  (Qkg:findIn K (.ref aN) "counter"=some none)
  (Qkf:findIn K (.ref aN) "awaited"=some none)
  (Qkn:findIn K (.ref aN) "sent"=some none)
  (Qko:findIn K (.ref aN) "tries"=some none)
  (Qkh:findIn K (.ref aN) "due"=some none)
  (Qkk:findIn K (.ref aN) "offer"=some none)
  (Qkj:findIn K (.ref aN) "lease"=some none)
  (Qim:nsIn K mainGlobals "World"=some (some (.ref aX)))
  (Qlk:plainGet K aX Str.empty=true)
  (Qb8:hasDictIn K aX=true)
  (Qlo:plainOver K aX=true)
  (Qls:findIn K (.ref aX) "__setattr__"=some (some (.builtin "object.__setattr__")))
  (Qhl:makesIn K aX=true)
  (Qee:keepIn K (.ref aX)=true)
  (Qk6:findIn K (.ref aX) "now"=some none)
  (Qk9:findIn K (.ref aX) "servers"=some none)
  (Qk3:findIn K (.ref aX) "cap"=some none)
  (Qk7:findIn K (.ref aX) "relays"=some none)
  (Qk5:findIn K (.ref aX) "hung"=some none)
  (Qk4:findIn K (.ref aX) "clients"=some none)
  (Qk8:findIn K (.ref aX) "resting"=some none)
  (Qk1:findIn K (.ref aX) "assigned"=some none)
  (Qla:findIn K (.ref aX) "written"=some none)
  (Qk2:findIn K (.ref aX) "bag"=some none)
  (Qcb:findIn K (.ref bz) "__init__"=some (some (.ref cq)))
  (Qcf:isFn K (.ref cq)=true)
  (Qeh:K.lookup cq=some ⟨oc1,od1,.func (fO "__init__" "Relay.__init__" eG kV1 dc1 pm1 an1 cd1 ct1),sl1⟩)
  (Qac:codeIn K cd1 "Relay.__init__"=true)
  (Qcj:keepIn K (.ref cq)=true)
  (Qca:findIn K (.ref aK) "__init__"=some (some (.ref bE)))
  (Qce:isFn K (.ref bE)=true)
  (Qeg:K.lookup bE=some ⟨oc2,od2,.func (fO "__init__" "Message.__init__" dC kV2 dc2 pm2 an2 cd2 ct2),sl2⟩)
  (Qab:codeIn K cd2 "Message.__init__"=true)
  (Qci:keepIn K (.ref bE)=true)
  (Qb9:findIn K (.ref aN) "__init__"=some (some (.ref bO)))
  (Qcd:isFn K (.ref bO)=true)
  (Qef:K.lookup bO=some ⟨oc3,od3,.func (fO "__init__" "Client.__init__" d6 kV3 dc3 pm3 an3 cd3 ct3),sl3⟩)
  (Qaa:codeIn K cd3 "Client.__init__"=true)
  (Qch:keepIn K (.ref bO)=true)
  (Qcc:findIn K (.ref aX) "__init__"=some (some (.ref cu)))
  (Qcg:isFn K (.ref cu)=true)
  (Qei:K.lookup cu=some ⟨oc4,od4,.func (fO "__init__" "World.__init__" eI kV4 dc4 pm4 an4 cd4 ct4),sl4⟩)
  (Qad:codeIn K cd4 "World.__init__"=true)
  (Qck:keepIn K (.ref cu)=true)
  (Qjr:nsIn K mainGlobals "put"=some (some (.ref rB)))
  (Qfm:K.lookup rB=some ⟨oc5,od5,.func (fO "put" "put" zp kV5 dc5 pm5 an5 cd5 ct5),sl5⟩)
  (Qbh:codeIn K cd5 "put"=true)
  (k_put:keepIn K (.ref rB)=true)
  (Qjx:nsIn K mainGlobals "send"=some (some (.ref lI)))
  (Qfs:K.lookup lI=some ⟨oc6,od6,.func (fO "send" "send" tH kV6 dc6 pm6 an6 cd6 ct6),sl6⟩)
  (Qbn:codeIn K cd6 "send"=true)
  (Qdt:keepIn K (.ref lI)=true)
  (Qkb:nsIn K mainGlobals "wait_of"=some (some (.ref eS)))
  (Qf6:K.lookup eS=some ⟨oc7,od7,.func (fO "wait_of" "wait_of" jg kV7 dc7 pm7 an7 cd7 ct7),sl7⟩)
  (Qb1:codeIn K cd7 "wait_of"=true)
  (Qd7:keepIn K (.ref eS)=true)
  (Qjw:nsIn K mainGlobals "seek"=some (some (.ref lJ)))
  (Qfr:K.lookup lJ=some ⟨oc8,od8,.func (fO "seek" "seek" tI kV8 dc8 pm8 an8 cd8 ct8),sl8⟩)
  (Qbm:codeIn K cd8 "seek"=true)
  (Qds:keepIn K (.ref lJ)=true)
  (Qix:nsIn K mainGlobals "ask"=some (some (.ref rC)))
  (Qes:K.lookup rC=some ⟨oc9,od9,.func (fO "ask" "ask" zq kV9 dc9 pm9 an9 cd9 ct9),sl9⟩)
  (Qan:codeIn K cd9 "ask"=true)
  (Qcu:keepIn K (.ref rC)=true)
  (Qi1:nsIn K mainGlobals "come_back"=some (some (.ref dh)))
  (Qew:K.lookup dh=some ⟨ahB,aeI,.func (fO "come_back" "come_back" fF UY UZ U0 TJ Pg Va),acw⟩)
  (Qar:codeIn K Pg "come_back"=true)
  (Qcy:keepIn K (.ref dh)=true)
  (Qj0:nsIn K mainGlobals "settle"=some (some (.ref fY)))
  (Qfv:K.lookup fY=some ⟨ahC,aeJ,.func (fO "settle" "settle" kQ Vb Vc Vd TK Ph Ve),acx⟩)
  (Qbq:codeIn K Ph "settle"=true)
  (Qdw:keepIn K (.ref fY)=true)
  (Qiz:nsIn K mainGlobals "bind"=some (some (.ref lK)))
  (Qeu:K.lookup lK=some ⟨ahD,aeK,.func (fO "bind" "bind" tJ Vf Vg Vh TM Pj Vi),acy⟩)
  (Qap:codeIn K Pj "bind"=true)
  (Qcw:keepIn K (.ref lK)=true)
  (Qjt:nsIn K mainGlobals "renew"=some (some (.ref iX)))
  (Qfo:K.lookup iX=some ⟨ahE,aeL,.func (fO "renew" "renew" oH Vj Vk Vl TN Pk Vm),acz⟩)
  (Qbj:codeIn K Pk "renew"=true)
  (Qdp:keepIn K (.ref iX)=true)
  (Qio:nsIn K mainGlobals "act"=some (some (.ref rE)))
  (Qej:K.lookup rE=some ⟨ahF,aeM,.func (fO "act" "act" zr Vn Vo Vp TQ Pl Vq),acA⟩)
  (Qae:codeIn K Pl "act"=true)
  (Qcl:keepIn K (.ref rE)=true)
  (Qiq:nsIn K mainGlobals "act_seeking"=some (some (.ref cw)))
  (Qel:K.lookup cw=some ⟨ahG,aeN,.func (fO "act_seeking" "act_seeking" d7 Vr Vs Vt TR Pn Vu),acB⟩)
  (Qag:codeIn K Pn "act_seeking"=true)
  (Qcn:keepIn K (.ref cw)=true)
  (Qip:nsIn K mainGlobals "act_asking"=some (some (.ref cO)))
  (Qek:K.lookup cO=some ⟨ahH,aeO,.func (fO "act_asking" "act_asking" eJ Vv Vw Vx TU Po Vy),acC⟩)
  (Qaf:codeIn K Po "act_asking"=true)
  (Qcm:keepIn K (.ref cO)=true)
  (Qir:nsIn K mainGlobals "act_until"=some (some (.ref di)))
  (Qem:K.lookup di=some ⟨ahI,aeP,.func (fO "act_until" "act_until" dN Vz VA VB TV Pp VC),acD⟩)
  (Qah:codeIn K Pp "act_until"=true)
  (Qco:keepIn K (.ref di)=true)
  (Qjb:nsIn K mainGlobals "hear"=some (some (.ref lL)))
  (Qe6:K.lookup lL=some ⟨ahJ,aeQ,.func (fO "hear" "hear" tK VD VE VF TX Pq VG),acE⟩)
  (Qa1:codeIn K Pq "hear"=true)
  (Qc8:keepIn K (.ref lL)=true)
  (Qjc:nsIn K mainGlobals "hear_offer"=some (some (.ref cP)))
  (Qe7:K.lookup cP=some ⟨ahK,aeR,.func (fO "hear_offer" "hear_offer" eK VH VI VJ TY Pr VL),acF⟩)
  (Qa2:codeIn K Pr "hear_offer"=true)
  (Qc9:keepIn K (.ref cP)=true)
  (Qje:nsIn K mainGlobals "is_better"=some (some (.ref dj)))
  (Qe9:K.lookup dj=some ⟨ahL,aeS,.func (fO "is_better" "is_better" fG VM VN VO TZ Pt VP),acG⟩)
  (Qa4:codeIn K Pt "is_better"=true)
  (Qdb:keepIn K (.ref dj)=true)
  (Qjd:nsIn K mainGlobals "hear_yes"=some (some (.ref dA)))
  (Qe8:K.lookup dA=some ⟨ahM,aeT,.func (fO "hear_yes" "hear_yes" gr VQ VR VS T1 Pu VT),acH⟩)
  (Qa3:codeIn K Pu "hear_yes"=true)
  (Qda:keepIn K (.ref dA)=true)
  (Qjf:nsIn K mainGlobals "is_fitting"=some (some (.ref cQ)))
  (Qfa:K.lookup cQ=some ⟨ahN,aeU,.func (fO "is_fitting" "is_fitting" eM VU VV VX Ua Pw VY),acI⟩)
  (Qa5:codeIn K Pw "is_fitting"=true)
  (Qdc:keepIn K (.ref cQ)=true)
  (Qi4:nsIn K mainGlobals "deliver_at"=some (some (.ref cR)))
  (Qez:K.lookup cR=some ⟨ahO,aeV,.func (fO "deliver_at" "deliver_at" eN VZ V0 V1 Ub Px V2),acJ⟩)
  (Qau:codeIn K Px "deliver_at"=true)
  (Qc1:keepIn K (.ref cR)=true)
  (Qjs:nsIn K mainGlobals "put_on"=some (some (.ref fZ)))
  (Qfn:K.lookup fZ=some ⟨ahP,aeW,.func (fO "put_on" "put_on" kR V3 V4 V5 Uc Py V6),acK⟩)
  (Qbi:codeIn K Py "put_on"=true)
  (Qdo:keepIn K (.ref fZ)=true)
  (Qja:nsIn K mainGlobals "hand_up"=some (some (.ref eU)))
  (Qe5:K.lookup eU=some ⟨ahQ,aeX,.func (fO "hand_up" "hand_up" jh V7 V8 V9 Ud Pz Wa),acL⟩)
  (Qa0:codeIn K Pz "hand_up"=true)
  (Qc7:keepIn K (.ref eU)=true)
  (Qjy:nsIn K mainGlobals "serve"=some (some (.ref i5)))
  (Qft:K.lookup i5=some ⟨ahR,aeY,.func (fO "serve" "serve" oJ Wb Wc Wd Ue PB We),acM⟩)
  (Qbo:codeIn K PB "serve"=true)
  (Qdu:keepIn K (.ref i5)=true)
  (Qjz:nsIn K mainGlobals "serve_asking"=some (some (.ref bQ)))
  (Qfu:K.lookup bQ=some ⟨ahS,aeZ,.func (fO "serve_asking" "serve_asking" dD Wf Wg Wh Ug PD Wi),acN⟩)
  (Qbp:codeIn K PD "serve_asking"=true)
  (Qdv:keepIn K (.ref bQ)=true)
  (Qkd:nsIn K mainGlobals "write_down"=some (some (.ref cS)))
  (Qf8:K.lookup cS=some ⟨ahT,ae0,.func (fO "write_down" "write_down" eO Wj Wl Wm Uh PF Wn),acO⟩)
  (Qb3:codeIn K PF "write_down"=true)
  (Qd9:keepIn K (.ref cS)=true)
  (Qit:nsIn K mainGlobals "answer"=some (some (.ref f7)))
  (Qeo:K.lookup f7=some ⟨ahU,ae1,.func (fO "answer" "answer" kS Wo Wq Wr Ui PH Ws),acP⟩)
  (Qaj:codeIn K PH "answer"=true)
  (Qcq:keepIn K (.ref f7)=true)
  (Qi9:nsIn K mainGlobals "hand_down"=some (some (.ref dk)))
  (Qe4:K.lookup dk=some ⟨ahV,ae2,.func (fO "hand_down" "hand_down" fH Wt Wu Wv Uj PJ Ww),acQ⟩)
  (Qaz:codeIn K PJ "hand_down"=true)
  (Qc6:keepIn K (.ref dk)=true)
  (Qi2:nsIn K mainGlobals "come_out"=some (some (.ref dR)))
  (Qex:K.lookup dR=some ⟨ahW,ae3,.func (fO "come_out" "come_out" gv Wx Wy Wz Uk PM WA),acR⟩)
  (Qas:codeIn K PM "come_out"=true)
  (Qcz:keepIn K (.ref dR)=true)
  (Qjl:nsIn K mainGlobals "or_else"=some (some (.ref eV)))
  (Qfg:K.lookup eV=some ⟨ahX,ae4,.func (fO "or_else" "or_else" ji WB WC WD Ul PN WE),acS⟩)
  (Qbb:codeIn K PN "or_else"=true)
  (Qdi:keepIn K (.ref eV)=true)
  (Qjm:nsIn K mainGlobals "pairs_row"=some (some (.ref bR)))
  (Qfh:K.lookup bR=some ⟨ahY,ae5,.func (fO "pairs_row" "pairs_row" fI WG WH WI Um PQ WJ),acT⟩)
  (Qbc:codeIn K PQ "pairs_row"=true)
  (Qdj:keepIn K (.ref bR)=true)
  (Qjk:nsIn K mainGlobals "message_row"=some (some (.ref cx)))
  (Qff:K.lookup cx=some ⟨ahZ,ae6,.func (fO "message_row" "message_row" d8 WK WL WM Uo PR WN),acU⟩)
  (Qba:codeIn K PR "message_row"=true)
  (Qdh:keepIn K (.ref cx)=true)
  (Qi0:nsIn K mainGlobals "client_row"=some (some (.ref cT)))
  (Qev:K.lookup cT=some ⟨ah0,ae7,.func (fO "client_row" "client_row" eP WO WQ WR Up PU WT),acV⟩)
  (Qaq:codeIn K PU "client_row"=true)
  (Qcx:keepIn K (.ref cT)=true)
  (Qke:nsIn K mainGlobals "written_of"=some (some (.ref cU)))
  (Qf9:K.lookup cU=some ⟨ah1,ae8,.func (fO "written_of" "written_of" dQ WU WV WW Uq PV WX),acW⟩)
  (Qb4:codeIn K PV "written_of"=true)
  (Qea:keepIn K (.ref cU)=true)
  (Qjn:nsIn K mainGlobals "path_of"=some (some (.ref eX)))
  (Qfi:K.lookup eX=some ⟨ah2,ae9,.func (fO "path_of" "path_of" jj WY WZ W0 Ur PX W2),acX⟩)
  (Qbd:codeIn K PX "path_of"=true)
  (Qdk:keepIn K (.ref eX)=true)
  (Qji:nsIn K mainGlobals "is_plugged_at"=some (some (.ref bH)))
  (Qfd:K.lookup bH=some ⟨ah3,afa,.func (fO "is_plugged_at" "is_plugged_at" cG W3 W4 W5 Us PY W6),acY⟩)
  (Qa8:codeIn K PY "is_plugged_at"=true)
  (Qdf:keepIn K (.ref bH)=true)
  (Qis:nsIn K mainGlobals "add_relay"=some (some (.ref bI)))
  (Qen:K.lookup bI=some ⟨ah4,afb,.func (fO "add_relay" "add_relay" fJ W7 W8 W9 Ut PZ Xa),acZ⟩)
  (Qai:codeIn K PZ "add_relay"=true)
  (Qcp:keepIn K (.ref bI)=true)
  (Qjq:nsIn K mainGlobals "plug"=some (some (.ref gA)))
  (Qfl:K.lookup gA=some ⟨ah5,afc,.func (fO "plug" "plug" tL Xb Xc Xd Uu P0 Xe),ac0⟩)
  (Qbg:codeIn K P0 "plug"=true)
  (Qdn:keepIn K (.ref gA)=true)
  (Qka:nsIn K mainGlobals "unplug"=some (some (.ref dF)))
  (Qf5:K.lookup dF=some ⟨ah6,afd,.func (fO "unplug" "unplug" kT Xf Xg Xh Uv P1 Xi),ac1⟩)
  (Qb0:codeIn K P1 "unplug"=true)
  (Qd6:keepIn K (.ref dF)=true)
  (Qj9:nsIn K mainGlobals "turn_on"=some (some (.ref c5)))
  (Qf4:K.lookup c5=some ⟨ah7,afe,.func (fO "turn_on" "turn_on" jk Xj Xk Xl Uw P2 Xm),ac2⟩)
  (Qbz:codeIn K P2 "turn_on"=true)
  (Qd5:keepIn K (.ref c5)=true)
  (Qj8:nsIn K mainGlobals "turn_off"=some (some (.ref bZ)))
  (Qf3:K.lookup bZ=some ⟨ah8,aff,.func (fO "turn_off" "turn_off" gy Xn Xo Xp Ux P4 Xq),ac3⟩)
  (Qby:codeIn K P4 "turn_off"=true)
  (Qd4:keepIn K (.ref bZ)=true)
  (Qi8:nsIn K mainGlobals "forget"=some (some (.ref dG)))
  (Qe3:K.lookup dG=some ⟨ah9,afg,.func (fO "forget" "forget" kU Xr Xs Xt Uy P5 Xu),ac4⟩)
  (Qay:codeIn K P5 "forget"=true)
  (Qc5:keepIn K (.ref dG)=true)
  (Qiy:nsIn K mainGlobals "assign"=some (some (.ref f_assign)))
  (Qet:K.lookup f_assign=some ⟨aia,afh,.func (fO "assign" "assign" kX Xv Xw Xx Uz P6 Xy),ac5⟩)
  (Qao:codeIn K P6 "assign"=true)
  (Qcv:keepIn K (.ref f_assign)=true)
  (Qkc:nsIn K mainGlobals "withdraw"=some (some (.ref b0)))
  (Qf7:K.lookup b0=some ⟨aib,afi,.func (fO "withdraw" "withdraw" gz Xz XA XB UA P7 XC),ac6⟩)
  (Qb2:codeIn K P7 "withdraw"=true)
  (Qd8:keepIn K (.ref b0)=true)
  (Qju:nsIn K mainGlobals "rest"=some (some (.ref gB)))
  (Qfp:K.lookup gB=some ⟨aic,afj,.func (fO "rest" "rest" tM XD XE XF UB P8 XG),ac7⟩)
  (Qbk:codeIn K P8 "rest"=true)
  (Qdq:keepIn K (.ref gB)=true)
  (Qj7:nsIn K mainGlobals "tick"=some (some (.ref gC)))
  (Qf2:K.lookup gC=some ⟨aid,afk,.func (fO "tick" "tick" tN XH XI XJ UC P9 XM),ac8⟩)
  (Qbx:codeIn K P9 "tick"=true)
  (Qd3:keepIn K (.ref gC)=true)
  (Qjg:nsIn K mainGlobals "is_full"=some (some (.ref eY)))
  (Qfb:K.lookup eY=some ⟨aie,afl,.func (fO "is_full" "is_full" jl XN XO XQ UD Qa XR),ac9⟩)
  (Qa6:codeIn K Qa "is_full"=true)
  (Qdd:keepIn K (.ref eY)=true)
  (Qi3:nsIn K mainGlobals "deliver"=some (some (.ref c6)))
  (Qey:K.lookup c6=some ⟨aif,afm,.func (fO "deliver" "deliver" jm XS XT XU UE Qb XW),ada⟩)
  (Qat:codeIn K Qb "deliver"=true)
  (Qc0:keepIn K (.ref c6)=true)
  (Qjj:nsIn K mainGlobals "lose"=some (some (.ref gD)))
  (Qfe:K.lookup gD=some ⟨aih,afn,.func (fO "lose" "lose" tO XX XY XZ UG Qc X0),adb⟩)
  (Qa9:codeIn K Qc "lose"=true)
  (Qdg:keepIn K (.ref gD)=true)
  (Qi5:nsIn K mainGlobals "double"=some (some (.ref dH)))
  (Qe0:K.lookup dH=some ⟨aii,afo,.func (fO "double" "double" kY X1 X2 X3 UH Qe X4),ade⟩)
  (Qav:codeIn K Qe "double"=true)
  (Qc2:keepIn K (.ref dH)=true)
  (Qi6:nsIn K mainGlobals "flow"=some (some (.ref gE)))
  (Qe1:K.lookup gE=some ⟨aij,afp,.func (fO "flow" "flow" tP X5 X6 X7 UI Qg X8),adf⟩)
  (Qaw:codeIn K Qg "flow"=true)
  (Qc3:keepIn K (.ref gE)=true)
  (Qi7:nsIn K mainGlobals "forge"=some (some (.ref eZ)))
  (Qe2:K.lookup eZ=some ⟨aik,afq,.func (fO "forge" "forge" lF X9 YaZ Yb UJ Qh Yc),adg⟩)
  (Qax:codeIn K Qh "forge"=true)
  (Qc4:keepIn K (.ref eZ)=true)
  (Qj2:nsIn K mainGlobals "tell_client"=some (some (.ref bo)))
  (Qfx:K.lookup bo=some ⟨ail,afr,.func (fO "tell_client" "tell_client" d9 Yd Ye Yf UK Qi Yg),adh⟩)
  (Qbs:codeIn K Qi "tell_client"=true)
  (Qdy:keepIn K (.ref bo)=true)
  (Qj6:nsIn K mainGlobals "tell_written"=some (some (.ref a9)))
  (Qf1:K.lookup a9=some ⟨aim,afs,.func (fO "tell_written" "tell_written" dE Yh Yi Yj UL Qj Yk),adi⟩)
  (Qbw:codeIn K Qj "tell_written"=true)
  (Qd2:keepIn K (.ref a9)=true)
  (Qjo:nsIn K mainGlobals "peek"=some (some (.ref gF)))
  (Qfj:K.lookup gF=some ⟨ain,aft,.func (fO "peek" "peek" tQ Yl Ym Yn UM Qk Yo),adj⟩)
  (Qbe:codeIn K Qk "peek"=true)
  (Qdl:keepIn K (.ref gF)=true)
  (Qj4:nsIn K mainGlobals "tell_path"=some (some (.ref bJ)))
  (Qfz:K.lookup bJ=some ⟨aio,afu,.func (fO "tell_path" "tell_path" fK Yp Yq Yr UN Ql Ys),adk⟩)
  (Qbu:codeIn K Ql "tell_path"=true)
  (Qd0:keepIn K (.ref bJ)=true)
  (Qj3:nsIn K mainGlobals "tell_next"=some (some (.ref bK)))
  (Qfy:K.lookup bK=some ⟨aip,afv,.func (fO "tell_next" "tell_next" ek Yt Yu Yv UO Qm Yw),adl⟩)
  (Qbt:codeIn K Qm "tell_next"=true)
  (Qdz:keepIn K (.ref bK)=true)
  (Qj5:nsIn K mainGlobals "tell_state"=some (some (.ref bA)))
  (Qf0:K.lookup bA=some ⟨aiq,afw,.func (fO "tell_state" "tell_state" eQ Yx Yy Yz UP Qn YA),adm⟩)
  (Qbv:codeIn K Qn "tell_state"=true)
  (Qd1:keepIn K (.ref bA)=true)
  (Qjv:nsIn K mainGlobals "row_of"=some (some (.ref gb)))
  (Qfq:K.lookup gb=some ⟨air,afx,.func (fO "row_of" "row_of" k0 YB YC YD UQ Qo YE),adn⟩)
  (Qbl:codeIn K Qo "row_of"=true)
  (Qdr:keepIn K (.ref gb)=true)
  (Qjh:nsIn K mainGlobals "is_granted"=some (some (.ref cV)))
  (Qfc:K.lookup cV=some ⟨ais,afy,.func (fO "is_granted" "is_granted" eR YF YG YH UR Qp YI),ado⟩)
  (Qa7:codeIn K Qp "is_granted"=true)
  (Qde:keepIn K (.ref cV)=true)
  (Qiw:nsIn K mainGlobals "are_pairs"=some (some (.ref dn)))
  (Qer:K.lookup dn=some ⟨ait,afz,.func (fO "are_pairs" "are_pairs" eu YJ YK YL US Qq YM),adp⟩)
  (Qam:codeIn K Qq "are_pairs"=true)
  (Qct:keepIn K (.ref dn)=true)
  (Qiv:nsIn K mainGlobals "are_granted"=some (some (.ref cy)))
  (Qeq:K.lookup cy=some ⟨aiu,afA,.func (fO "are_granted" "are_granted" ee YN YO YQ UT Qr YR),adq⟩)
  (Qal:codeIn K Qr "are_granted"=true)
  (Qcs:keepIn K (.ref cy)=true)
  (Qj1:nsIn K mainGlobals "split_calls"=some (some (.ref cz)))
  (Qfw:K.lookup cz=some ⟨aiv,afB,.func (fO "split_calls" "split_calls" ef YS YT YU UU Qs YV),ads⟩)
  (Qbr:codeIn K Qs "split_calls"=true)
  (Qdx:keepIn K (.ref cz)=true)
  (Qjp:nsIn K mainGlobals "play"=some (some (.ref kl)))
  (Qfk:K.lookup kl=some ⟨aiw,afC,.func (fO "play" "play" tR YW YX YY UW Qt YZ),adt⟩)
  (Qbf:codeIn K Qt "play"=true)
  (Qdm:keepIn K (.ref kl)=true)
  (Qiu:nsIn K mainGlobals "answers"=some (some (.ref e9)))
  (Qep:K.lookup e9=some ⟨aix,afD,.func (fO "answers" "answers" jn Y0 Y1 Y2 UX Qu Y3),adu⟩)
  (Qak:codeIn K Qu "answers"=true)
  (Qcr:keepIn K (.ref e9)=true)
  (Qhw:nsIn K mainGlobals "FIRST_LIMIT"=some (some (Value.int 16 t1)))
  (Qik:nsIn K mainGlobals "UP"=some (some (Value.int 0 t2)))
  (Qhp:nsIn K mainGlobals "AT_SERVER"=some (some (Value.int 1 t3)))
  (Qhv:nsIn K mainGlobals "DOWN"=some (some (Value.int 2 t4)))
  (Qie:nsIn K mainGlobals "OUT"=some (some (Value.int 3 t5)))
  (Qii:nsIn K mainGlobals "SEEKING"=some (some (Value.int 1 t6)))
  (Qid:nsIn K mainGlobals "OFFER"=some (some (Value.int 2 t7)))
  (Qhm:nsIn K mainGlobals "ASKING"=some (some (Value.int 3 t8)))
  (Qin:nsIn K mainGlobals "YES"=some (some (Value.int 4 t9)))
  (Qh7:nsIn K mainGlobals "NO"=some (some (Value.int 5 t10)))
  (Qic:nsIn K mainGlobals "OFF"=some (some (Value.int 0 t11)))
  (Qij:nsIn K mainGlobals "SEEKS"=some (some (Value.int 1 t12)))
  (Qhn:nsIn K mainGlobals "ASKS"=some (some (Value.int 2 t13)))
  (Qhr:nsIn K mainGlobals "BOUND"=some (some (Value.int 3 t14)))
  (Qig:nsIn K mainGlobals "RENEWS"=some (some (Value.int 4 t15)))
  (Qho:nsIn K mainGlobals "ASKS_ALL"=some (some (Value.int 5 t16)))
  (Qht:nsIn K mainGlobals "COMES_BACK"=some (some (Value.int 6 t17)))
  (Qil:nsIn K mainGlobals "WAITS"=some (some (.ref jb)))
  (lk1:K.lookup jb=some ⟨.type "tuple",dd1,.seq #[Value.int 3 t18,Value.int 7 t19,Value.int 15 t20,Value.int 31 t21,Value.int 63 t22,Value.int 63 t23,Value.int 63 t24,Value.int 63 t25,Value.int 63 t26,Value.int 63 t27,Value.int 63 t28] nn1,adv⟩)
  (Qh5:nsIn K mainGlobals "MOST_SEEKING_TRIES"=some (some (Value.int 10 t29)))
  (Qhx:nsIn K mainGlobals "LAST_ASKING_TRY"=some (some (Value.int 3 t30)))
  (Qhy:nsIn K mainGlobals "LAST_RETURNING_TRY"=some (some (Value.int 2 t31)))
  (Qh0:nsIn K mainGlobals "LEAST_PAUSE"=some (some (Value.int 60 t32)))
  (Qh8:nsIn K mainGlobals "NOWHERE"=some (some (.ref fc)))
  (lk2:K.lookup fc=some ⟨.type "tuple",dd2,.seq #[Value.int (-1) t33,Value.int (-1) t34] nn2,adw⟩)
  (Qia:nsIn K mainGlobals "NO_OFFER"=some (some (.ref dS)))
  (lk3:K.lookup dS=some ⟨.type "tuple",dd3,.seq #[Value.int (-1) t35,Value.int 0 t36,Value.int 0 t37] nn3,adx⟩)
  (Qh9:nsIn K mainGlobals "NO_LEASE"=some (some (.ref dU)))
  (lk4:K.lookup dU=some ⟨.type "tuple",dd4,.seq #[Value.int (-1) t38,Value.int 0 t39,Value.int 0 t40,Value.int 0 t41,Value.int 0 t42] nn4,ady⟩)
  (Qh4:nsIn K mainGlobals "MOST_RELAYS"=some (some (Value.int 64 t43)))
  (Qh2:nsIn K mainGlobals "MOST_CLIENTS"=some (some (Value.int 64 t44)))
  (Qh1:nsIn K mainGlobals "MOST_ASSIGNED"=some (some (Value.int 128 t45)))
  (Qhz:nsIn K mainGlobals "LATEST"=some (some (Value.int 1000000000000000 t46)))
  (Qhs:nsIn K mainGlobals "CALLS"=some (some (.ref fB)))
  (lk5:K.lookup fB=some ⟨.type "dict",none,.dict #[⟨1,.int 1 t47,Value.ref bI⟩,⟨2,.int 2 t48,Value.ref gA⟩,⟨3,.int 3 t49,Value.ref dF⟩,⟨4,.int 4 t50,Value.ref c5⟩,⟨5,.int 5 t51,Value.ref bZ⟩,⟨6,.int 6 t52,Value.ref dG⟩,⟨7,.int 7 t53,Value.ref f_assign⟩,⟨8,.int 8 t54,Value.ref b0⟩,⟨9,.int 9 t55,Value.ref gB⟩,⟨10,.int 10 t56,Value.ref gC⟩,⟨11,.int 11 t57,Value.ref c6⟩,⟨12,.int 12 t58,Value.ref gD⟩,⟨13,.int 13 t59,Value.ref dH⟩,⟨14,.int 14 t60,Value.ref gE⟩,⟨15,.int 15 t61,Value.ref eZ⟩,⟨16,.int 16 t62,Value.ref bo⟩,⟨17,.int 17 t63,Value.ref a9⟩,⟨18,.int 18 t64,Value.ref gF⟩,⟨19,.int 19 t65,Value.ref bJ⟩,⟨20,.int 20 t66,Value.ref bK⟩,⟨21,.int 21 t67,Value.ref bA⟩] nn5,#[]⟩)
  (Qif:nsIn K mainGlobals "RANGES"=some (some (.ref dZ)))
  (lk6:K.lookup dZ=some ⟨.type "dict",none,.dict #[⟨hh1,.str "servers" t68,Value.ref b1⟩,⟨hh2,.str "cap" t69,Value.ref b2⟩,⟨hh3,.str "time" t70,Value.ref b3⟩,⟨hh4,.str "circuit" t71,Value.ref b4⟩,⟨hh5,.str "limit" t72,Value.ref b5⟩,⟨hh6,.str "host" t73,Value.ref b6⟩,⟨hh7,.str "address" t74,Value.ref b7⟩,⟨hh8,.str "len" t75,Value.ref b8⟩,⟨hh9,.str "x" t76,Value.ref b9⟩,⟨ad3,.str "t" t77,Value.ref b10⟩,⟨ad4,.str "m" t78,Value.ref b11⟩,⟨ad5,.str "number" t79,Value.ref b12⟩,⟨ad6,.str "kind" t80,Value.ref b13⟩,⟨ad7,.str "hops" t81,Value.ref b14⟩,⟨ad8,.str "of a pair" t82,Value.ref b15⟩] nn6,#[]⟩)
  (lk7:K.lookup b1=some ⟨.type "tuple",dd5,.seq #[Value.int 1 t83,Value.int 4 t84] nn7,adz⟩)
  (lk8:K.lookup b2=some ⟨.type "tuple",dd6,.seq #[Value.int 1 t85,Value.int 10000 t86] nn8,adA⟩)
  (lk9:K.lookup b3=some ⟨.type "tuple",dd7,.seq #[Value.int 0 t87,Value.int 1000000000000000 t88] nn9,adB⟩)
  (Qgb:K.lookup b4=some ⟨.type "tuple",dd8,.seq #[Value.int 0 t89,Value.int 4095 t90] ad9,adC⟩)
  (Qgc:K.lookup b5=some ⟨.type "tuple",dd9,.seq #[Value.int 1 t91,Value.int 16 t92] aea,adD⟩)
  (Qgd:K.lookup b6=some ⟨.type "tuple",afE,.seq #[Value.int 0 t93,Value.int 281474976710655 t94] aeb,adE⟩)
  (Qge:K.lookup b7=some ⟨.type "tuple",afF,.seq #[Value.int 0 t95,Value.int 4294967295 t96] aec,adF⟩)
  (Qgf:K.lookup b8=some ⟨.type "tuple",afG,.seq #[Value.int 1 t97,Value.int 1000000000 t98] aed,adG⟩)
  (Qgg:K.lookup b9=some ⟨.type "tuple",afH,.seq #[Value.int 0 t99,Value.int 1 aga] aee,adH⟩)
  (Qgh:K.lookup b10=some ⟨.type "tuple",afI,.seq #[Value.int 0 agb,Value.int 20000 agc] aef,adI⟩)
  (Qgi:K.lookup b11=some ⟨.type "tuple",afJ,.seq #[Value.int 0 agd,Value.int 1000 age] aeg,adJ⟩)
  (Qgj:K.lookup b12=some ⟨.type "tuple",afK,.seq #[Value.int 1 agf,Value.int 1000000000000000000 agg] aeh,adK⟩)
  (Qgk:K.lookup b13=some ⟨.type "tuple",afL,.seq #[Value.int 1 agh,Value.int 5 agi] aei,adL⟩)
  (Qgm:K.lookup b14=some ⟨.type "tuple",afM,.seq #[Value.int 0 agj,Value.int 16 agk] aej,adM⟩)
  (Qgn:K.lookup b15=some ⟨.type "tuple",afN,.seq #[Value.int 0 agl,Value.int 4095 agm] aek,adN⟩)
  (Qh3:nsIn K mainGlobals "MOST_FURTHER"=some (some (Value.int 32 agn)))
  (Qib:nsIn K mainGlobals "NUMBERS"=some (some (.ref cD)))
  (Qgo:K.lookup cD=some ⟨.type "dict",none,.dict #[⟨0,.int 0 ago,Value.ref b16⟩,⟨1,.int 1 agp,Value.ref b17⟩,⟨2,.int 2 agq,Value.ref b18⟩,⟨3,.int 3 agr,Value.ref b19⟩,⟨4,.int 4 ags,Value.ref b20⟩,⟨5,.int 5 agt,Value.ref b21⟩,⟨6,.int 6 agu,Value.ref b22⟩,⟨7,.int 7 agv,Value.ref b23⟩,⟨8,.int 8 agw,Value.ref b24⟩,⟨9,.int 9 agx,Value.ref b25⟩,⟨10,.int 10 agy,Value.ref b26⟩,⟨11,.int 11 agz,Value.ref b27⟩,⟨12,.int 12 agB,Value.ref b28⟩,⟨13,.int 13 agC,Value.ref b29⟩,⟨14,.int 14 agD,Value.ref b30⟩,⟨15,.int 15 agE,Value.ref b31⟩,⟨16,.int 16 agF,Value.ref b32⟩,⟨17,.int 17 agG,Value.ref b33⟩,⟨18,.int 18 agH,Value.ref b34⟩,⟨19,.int 19 agI,Value.ref b35⟩,⟨20,.int 20 agJ,Value.ref b36⟩,⟨21,.int 21 agK,Value.ref b37⟩] ael,#[]⟩)
  (Qgp:K.lookup b16=some ⟨.type "tuple",afO,.seq #[Value.str "servers" agL,Value.str "cap" agM,Value.str "time" agN] aem,adO⟩)
  (Qgq:K.lookup b17=some ⟨.type "tuple",afP,.seq #[Value.str "relay" agO,Value.str "circuit" agP,Value.str "limit" agQ] aen,adP⟩)
  (Qgr:K.lookup b18=some ⟨.type "tuple",afQ,.seq #[Value.str "host" agR,Value.str "relay" agS,Value.str "circuit" agT] aeo,adQ⟩)
  (Qgs:K.lookup b19=some ⟨.type "tuple",afR,.seq #[Value.str "host" agU] aep,adR⟩)
  (Qgt:K.lookup b20=some ⟨.type "tuple",afS,.seq #[Value.str "host" agV] aeq,adS⟩)
  (Qgu:K.lookup b21=some ⟨.type "tuple",afT,.seq #[Value.str "host" agW] aer,adT⟩)
  (Qgv:K.lookup b22=some ⟨.type "tuple",afU,.seq #[Value.str "host" agX] aes,adU⟩)
  (Qgx:K.lookup b23=some ⟨.type "tuple",afV,.seq #[Value.str "server" agY,Value.str "host" agZ,Value.str "relay" ag0,Value.str "address" ag1,Value.str "len" ag2] aet,adV⟩)
  (Qgy:K.lookup b24=some ⟨.type "tuple",afW,.seq #[Value.str "server" ag3,Value.str "host" ag4,Value.str "relay" ag5] aeu,adW⟩)
  (Qgz:K.lookup b25=some ⟨.type "tuple",afX,.seq #[Value.str "server" ag6,Value.str "x" ag7] aev,adX⟩)
  (Qg0:K.lookup b26=some ⟨.type "tuple",afY,.seq #[Value.str "t" ag8] aew,adY⟩)
  (Qg1:K.lookup b27=some ⟨.type "tuple",afZ,.seq #[Value.str "k" ag9] aex,adZ⟩)
  (Qg2:K.lookup b28=some ⟨.type "tuple",af0,.seq #[Value.str "k" aha] aey,ad0⟩)
  (Qg3:K.lookup b29=some ⟨.type "tuple",af1,.seq #[Value.str "k" ahb] aez,Tu⟩)
  (Qg4:K.lookup b30=some ⟨.type "tuple",af2,.seq #[Value.str "m" ahc] aeA,Tv⟩)
  (Qg5:K.lookup b31=some ⟨.type "tuple",af3,.seq #[Value.str "relay" ahd,Value.str "circuit" ahe,Value.str "host" ahf,Value.str "number" ahg,Value.str "kind" ahh,Value.str "server or none" ahi,Value.str "address" ahj,Value.str "hops" ahk] aeB,Tw⟩)
  (Qg6:K.lookup b32=some ⟨.type "tuple",af4,.seq #[Value.str "host" ahl] aeC,Tx⟩)
  (Qg8:K.lookup b33=some ⟨.type "tuple",af5,.seq #[Value.str "server" ahm,Value.str "host" ahn] aeD,Tz⟩)
  (Qg9:K.lookup b34=some ⟨.type "tuple",af6,.seq #[Value.str "k" aho] aeE,TB⟩)
  (Qha:K.lookup b35=some ⟨.type "tuple",af7,.seq #[Value.str "relay" ahp,Value.str "circuit" ahq] aeF,TC⟩)
  (Qhb:K.lookup b36=some ⟨.type "tuple",af8,.seq #[] aeG,TF⟩)
  (Qhc:K.lookup b37=some ⟨.type "tuple",af9,.seq #[] aeH,TH⟩)
  (Qhq:nsIn K mainGlobals "BEGIN"=some (some (Value.int 0 ahr)))
  (Qlf:bz≠aK)
  (Qle:bz≠aN)
  (Qlg:bz≠aX)
  (Qlc:aK≠aN)
  (Qld:aK≠aX)
  (Qlb:aN≠aX)
  (Qlt:nsIn K mainGlobals "all"=some none)
  (Qlu:nsIn K mainGlobals "any"=some none)
  (Qlv:nsIn K mainGlobals "len"=some none)
  (Qlw:nsIn K mainGlobals "list"=some none)
  (Qlx:nsIn K mainGlobals "max"=some none)
  (Qly:nsIn K mainGlobals "min"=some none)
  (Qlz:nsIn K mainGlobals "range"=some none)
  (Ql0:nsIn K mainGlobals "sorted"=some none)
  (Ql1:nsIn K mainGlobals "tuple"=some none)
  (Ql2:nsIn K mainGlobals "zip"=some none):
  ∃t,Txt K mg t:=by
 refine ⟨{bz:=bz,aK:=aK,aN:=aN,aX:=aX,cq:=cq,iV:=fO "__init__" "Relay.__init__" eG kV1 dc1 pm1 an1 cd1 ct1,bE:=bE,fX:=fO "__init__" "Message.__init__" dC kV2 dc2 pm2 an2 cd2 ct2,bO:=bO,gR:=fO "__init__" "Client.__init__" d6 kV3 dc3 pm3 an3 cd3 ct3,cu:=cu,iW:=fO "__init__" "World.__init__" eI kV4 dc4 pm4 an4 cd4 ct4,rB:=rB,FF:=fO "put" "put" zp kV5 dc5 pm5 an5 cd5 ct5,lI:=lI,Bd:=fO "send" "send" tH kV6 dc6 pm6 an6 cd6 ct6,eS:=eS,oR:=fO "wait_of" "wait_of" jg kV7 dc7 pm7 an7 cd7 ct7,lJ:=lJ,Be:=fO "seek" "seek" tI kV8 dc8 pm8 an8 cd8 ct8,rC:=rC,FG:=fO "ask" "ask" zq kV9 dc9 pm9 an9 cd9 ct9,dh:=dh,jY:=fO "come_back" "come_back" fF UY UZ U0 TJ Pg Va,fY:=fY,rD:=fO "settle" "settle" kQ Vb Vc Vd TK Ph Ve,lK:=lK,Bf:=fO "bind" "bind" tJ Vf Vg Vh TM Pj Vi,iX:=iX,vK:=fO "renew" "renew" oH Vj Vk Vl TN Pk Vm,rE:=rE,FH:=fO "act" "act" zr Vn Vo Vp TQ Pl Vq,cw:=cw,gS:=fO "act_seeking" "act_seeking" d7 Vr Vs Vt TR Pn Vu,cO:=cO,iY:=fO "act_asking" "act_asking" eJ Vv Vw Vx TU Po Vy,di:=di,jZ:=fO "act_until" "act_until" dN Vz VA VB TV Pp VC,lL:=lL,Bg:=fO "hear" "hear" tK VD VE VF TX Pq VG,cP:=cP,iZ:=fO "hear_offer" "hear_offer" eK VH VI VJ TY Pr VL,dj:=dj,j0:=fO "is_better" "is_better" fG VM VN VO TZ Pt VP,dA:=dA,jB:=fO "hear_yes" "hear_yes" gr VQ VR VS T1 Pu VT,cQ:=cQ,i3:=fO "is_fitting" "is_fitting" eM VU VV VX Ua Pw VY,cR:=cR,i4:=fO "deliver_at" "deliver_at" eN VZ V0 V1 Ub Px V2,fZ:=fZ,rF:=fO "put_on" "put_on" kR V3 V4 V5 Uc Py V6,eU:=eU,oS:=fO "hand_up" "hand_up" jh V7 V8 V9 Ud Pz Wa,i5:=i5,vL:=fO "serve" "serve" oJ Wb Wc Wd Ue PB We,bQ:=bQ,f6:=fO "serve_asking" "serve_asking" dD Wf Wg Wh Ug PD Wi,cS:=cS,i6:=fO "write_down" "write_down" eO Wj Wl Wm Uh PF Wn,f7:=f7,rG:=fO "answer" "answer" kS Wo Wq Wr Ui PH Ws,dk:=dk,j1:=fO "hand_down" "hand_down" fH Wt Wu Wv Uj PJ Ww,dR:=dR,lM:=fO "come_out" "come_out" gv Wx Wy Wz Uk PM WA,eV:=eV,oT:=fO "or_else" "or_else" ji WB WC WD Ul PN WE,bR:=bR,eA:=fO "pairs_row" "pairs_row" fI WG WH WI Um PQ WJ,cx:=cx,gT:=fO "message_row" "message_row" d8 WK WL WM Uo PR WN,cT:=cT,i7:=fO "client_row" "client_row" eP WO WQ WR Up PU WT,cU:=cU,i8:=fO "written_of" "written_of" dQ WU WV WW Uq PV WX,eX:=eX,oU:=fO "path_of" "path_of" jj WY WZ W0 Ur PX W2,bH:=bH,fA:=fO "is_plugged_at" "is_plugged_at" cG W3 W4 W5 Us PY W6,bI:=bI,j2:=fO "add_relay" "add_relay" fJ W7 W8 W9 Ut PZ Xa,gA:=gA,Bh:=fO "plug" "plug" tL Xb Xc Xd Uu P0 Xe,dF:=dF,rH:=fO "unplug" "unplug" kT Xf Xg Xh Uv P1 Xi,c5:=c5,oW:=fO "turn_on" "turn_on" jk Xj Xk Xl Uw P2 Xm,bZ:=bZ,lN:=fO "turn_off" "turn_off" gy Xn Xo Xp Ux P4 Xq,dG:=dG,rJ:=fO "forget" "forget" kU Xr Xs Xt Uy P5 Xu,f_assign:=f_assign,rK:=fO "assign" "assign" kX Xv Xw Xx Uz P6 Xy,b0:=b0,lO:=fO "withdraw" "withdraw" gz Xz XA XB UA P7 XC,gB:=gB,Bi:=fO "rest" "rest" tM XD XE XF UB P8 XG,gC:=gC,Bj:=fO "tick" "tick" tN XH XI XJ UC P9 XM,eY:=eY,oX:=fO "is_full" "is_full" jl XN XO XQ UD Qa XR,c6:=c6,oY:=fO "deliver" "deliver" jm XS XT XU UE Qb XW,gD:=gD,Bk:=fO "lose" "lose" tO XX XY XZ UG Qc X0,dH:=dH,rL:=fO "double" "double" kY X1 X2 X3 UH Qe X4,gE:=gE,Bl:=fO "flow" "flow" tP X5 X6 X7 UI Qg X8,eZ:=eZ,vM:=fO "forge" "forge" lF X9 YaZ Yb UJ Qh Yc,bo:=bo,gU:=fO "tell_client" "tell_client" d9 Yd Ye Yf UK Qi Yg,a9:=a9,f9:=fO "tell_written" "tell_written" dE Yh Yi Yj UL Qj Yk,gF:=gF,Bm:=fO "peek" "peek" tQ Yl Ym Yn UM Qk Yo,bJ:=bJ,j3:=fO "tell_path" "tell_path" fK Yp Yq Yr UN Ql Ys,bK:=bK,j4:=fO "tell_next" "tell_next" ek Yt Yu Yv UO Qm Yw,bA:=bA,i9:=fO "tell_state" "tell_state" eQ Yx Yy Yz UP Qn YA,gb:=gb,rM:=fO "row_of" "row_of" k0 YB YC YD UQ Qo YE,cV:=cV,ja:=fO "is_granted" "is_granted" eR YF YG YH UR Qp YI,dn:=dn,j5:=fO "are_pairs" "are_pairs" eu YJ YK YL US Qq YM,cy:=cy,gW:=fO "are_granted" "are_granted" ee YN YO YQ UT Qr YR,cz:=cz,gX:=fO "split_calls" "split_calls" ef YS YT YU UU Qs YV,kl:=kl,wK:=fO "play" "play" tR YW YX YY UW Qt YZ,e9:=e9,jo:=fO "answers" "answers" jn Y0 Y1 Y2 UX Qu Y3,jb:=jb,fc:=fc,dS:=dS,dU:=dU,fB:=fB,dZ:=dZ,m6:=b1,m7:=b2,m8:=b3,m9:=b4,ng:=b5,nh:=b6,ni:=b7,nj:=b8,nk:=b9,lP:=b10,lQ:=b11,lR:=b12,lS:=b13,lT:=b14,lU:=b15,cD:=cD,fk:=b16,gY:=b17,gZ:=b18,g9:=b19,hC:=b20,hJ:=b21,hR:=b22,hU:=b23,hW:=b24,hX:=b25,hZ:=b26,ia:=b27,ib:=b28,ic:=b29,ie:=b30,ig:=b31,ij:=b32,ik:=b33,il:=b34,ip:=b35,iq:=b36,ir:=b37},?_⟩
 exact {
  Bn:=mg_of X G Qih,
  bB:=⟨Qlj,Qb7,Qln,Qlr⟩,
  Qk0:=Qk0,
  Qky:=Qky,
  Qkz:=Qkz,
  k7:=mg_of X G Qh6,
  au:=⟨Qli,Qb6,Qlm,Qlq⟩,
  Qkw:=Qkw,
  Qkr:=Qkr,
  Qkv:=Qkv,
  Qks:=Qks,
  Qkx:=Qkx,
  Qkp:=Qkp,
  Qkt:=Qkt,
  Qkq:=Qkq,
  Qku:=Qku,
  CV:=mg_of X G Qhu,
  aq:=⟨Qlh,Qb5,Qll,Qlp⟩,
  Qki:=Qki,
  Qkm:=Qkm,
  Qkl:=Qkl,
  Qkg:=Qkg,
  Qkf:=Qkf,
  Qkn:=Qkn,
  Qko:=Qko,
  Qkh:=Qkh,
  Qkk:=Qkk,
  Qkj:=Qkj,
  FI:=mg_of X G Qim,
  aw:=⟨Qlk,Qb8,Qlo,Qls⟩,
  Qk6:=Qk6,
  Qk9:=Qk9,
  Qk3:=Qk3,
  Qk7:=Qk7,
  Qk5:=Qk5,
  Qk4:=Qk4,
  Qk8:=Qk8,
  Qk1:=Qk1,
  Qla:=Qla,
  Qk2:=Qk2,
  Qlf:=Qlf,
  Qle:=Qle,
  Qlg:=Qlg,
  Qlc:=Qlc,
  Qld:=Qld,
  Qlb:=Qlb,
  Qhk:=⟨Qhk,Qcb,Qcf,Qed⟩,
  rN:=ax (st:=eG) Qeh Qac Qcj,
  lV:=(ax (st:=eG) Qeh Qac Qcj).binds (ps:=iI) fun _ _ _ _ _ _ us hl=>match us,hl with| [_,_,_,_],_=>rfl,
  Qhj:=⟨Qhj,Qca,Qce,Qec⟩,
  nq:=ax (st:=dC) Qeg Qab Qci,
  eB:=(ax (st:=dC) Qeg Qab Qci).binds (ps:=fT) fun _ _ _ _ _ _ us hl=>match us,hl with| [_,_,_,_,_,_,_,_,_,_],_=>rfl,
  Qhi:=⟨Qhi,Qb9,Qcd,Qeb⟩,
  pD:=ax (st:=d6) Qef Qaa Qch,
  pE:=(ax (st:=d6) Qef Qaa Qch).binds (ps:=gJ) fun _ _ _ _ _ _ us hl=>match us,hl with| [_,_],_=>rfl,
  Qhl:=⟨Qhl,Qcc,Qcg,Qee⟩,
  rP:=ax (st:=eI) Qei Qad Qck,
  rQ:=(ax (st:=eI) Qei Qad Qck).binds (ps:=iJ) fun _ _ _ _ _ _ us hl=>match us,hl with| [_,_,_,_],_=>rfl,
  wL:=ax (st:=zp) Qfm Qbh k_put,
  zx:=mg_of X G Qjr,
  zy:=(ax (st:=zp) Qfm Qbh k_put).binds (ps:=Fz) fun _ _ _ _ _ _ us hl=>match us,hl with| [_,_],_=>rfl,
  tS:=ax (st:=tH) Qfs Qbn Qdt,
  wM:=mg_of X G Qjx,
  wN:=(ax (st:=tH) Qfs Qbn Qdt).binds (ps:=AM) fun _ _ _ _ _ _ us hl=>match us,hl with| [_,_,_,_,_],_=>rfl,
  k8:=ax (st:=jg) Qf6 Qb1 Qd7,
  oZ:=mg_of X G Qkb,
  o3:=(ax (st:=jg) Qf6 Qb1 Qd7).binds (ps:=oG) fun _ _ _ _ _ _ us hl=>match us,hl with| [_],_=>rfl,
  qv:=ax (st:=tI) Qfr Qbm Qds,
  tT:=mg_of X G Qjw,
  tU:=(ax (st:=tI) Qfr Qbm Qds).binds (ps:=AN) fun _ _ _ _ _ _ us hl=>match us,hl with| [_,_,_],_=>rfl,
  FJ:=ax (st:=zq) Qes Qan Qcu,
  JL:=mg_of X G Qix,
  JM:=(ax (st:=zq) Qes Qan Qcu).binds (ps:=FC) fun _ _ _ _ _ _ us hl=>match us,hl with| [_,_,_],_=>rfl,
  j6:=ax (st:=fF) Qew Qar Qcy,
  nt:=mg_of X G Qi1,
  nv:=(ax (st:=fF) Qew Qar Qcy).binds (ps:=jP) fun _ _ _ _ _ _ us hl=>match us,hl with| [_,_,_],_=>rfl,
  rR:=ax (st:=kQ) Qfv Qbq Qdw,
  wO:=mg_of X G Qj0,
  wQ:=(ax (st:=kQ) Qfv Qbq Qdw).binds (ps:=qY) fun _ _ _ _ _ _ us hl=>match us,hl with| [_,_],_=>rfl,
  Es:=ax (st:=tJ) Qeu Qap Qcw,
  JN:=mg_of X G Qiz,
  JO:=(ax (st:=tJ) Qeu Qap Qcw).binds (ps:=AQ) fun _ _ _ _ _ _ us hl=>match us,hl with| [_],_=>rfl,
  vN:=ax (st:=oH) Qfo Qbj Qdp,
  Bo:=mg_of X G Qjt,
  Bp:=(ax (st:=oH) Qfo Qbj Qdp).binds (ps:=vH) fun _ _ _ _ _ _ us hl=>match us,hl with| [_,_,_,_,_],_=>rfl,
  JP:=ax (st:=zr) Qej Qae Qcl,
  NA:=mg_of X G Qio,
  NB:=(ax (st:=zr) Qej Qae Qcl).binds (ps:=FD) fun _ _ _ _ _ _ us hl=>match us,hl with| [_,_],_=>rfl,
  km:=ax (st:=d7) Qel Qag Qcn,
  pF:=mg_of X G Qiq,
  pG:=(ax (st:=d7) Qel Qag Qcn).binds (ps:=gL) fun _ _ _ _ _ _ us hl=>match us,hl with| [_,_],_=>rfl,
  lW:=ax (st:=eJ) Qek Qaf Qcm,
  rS:=mg_of X G Qip,
  rT:=(ax (st:=eJ) Qek Qaf Qcm).binds (ps:=iK) fun _ _ _ _ _ _ us hl=>match us,hl with| [_,_],_=>rfl,
  ny:=ax (st:=dN) Qem Qah Qco,
  uJ:=mg_of X G Qir,
  uK:=(ax (st:=dN) Qem Qah Qco).binds (ps:=jQ) fun _ _ _ _ _ _ us hl=>match us,hl with| [_,_],_=>rfl,
  Et:=ax (st:=tK) Qe6 Qa1 Qc8,
  JQ:=mg_of X G Qjb,
  JR:=(ax (st:=tK) Qe6 Qa1 Qc8).binds (ps:=AS) fun _ _ _ _ _ _ us hl=>match us,hl with| [_,_,_],_=>rfl,
  lX:=ax (st:=eK) Qe7 Qa2 Qc9,
  rV:=mg_of X G Qjc,
  rW:=(ax (st:=eK) Qe7 Qa2 Qc9).binds (ps:=iL) fun _ _ _ _ _ _ us hl=>match us,hl with| [_,_],_=>rfl,
  nB:=ax (st:=fG) Qe9 Qa4 Qdb,
  uL:=mg_of X G Qje,
  uM:=(ax (st:=fG) Qe9 Qa4 Qdb).binds (ps:=jR) fun _ _ _ _ _ _ us hl=>match us,hl with| [_,_],_=>rfl,
  qw:=ax (st:=gr) Qe8 Qa3 Qda,
  wR:=mg_of X G Qjd,
  wU:=(ax (st:=gr) Qe8 Qa3 Qda).binds (ps:=jy) fun _ _ _ _ _ _ us hl=>match us,hl with| [_,_,_],_=>rfl,
  lY:=ax (st:=eM) Qfa Qa5 Qdc,
  rX:=mg_of X G Qjf,
  rY:=(ax (st:=eM) Qfa Qa5 Qdc).binds (ps:=iM) fun _ _ _ _ _ _ us hl=>match us,hl with| [_,_],_=>rfl,
  jc:=ax (st:=eN) Qez Qau Qc1,
  lZ:=mg_of X G Qi4,
  l3:=(ax (st:=eN) Qez Qau Qc1).binds (ps:=iN) fun _ _ _ _ _ _ us hl=>match us,hl with| [_,_],_=>rfl,
  nE:=ax (st:=kR) Qfn Qbi Qdo,
  rZ:=mg_of X G Qjs,
  r6:=(ax (st:=kR) Qfn Qbi Qdo).binds (ps:=qZ) fun _ _ _ _ _ _ us hl=>match us,hl with| [_,_,_,_,_],_=>rfl,
  tV:=ax (st:=jh) Qe5 Qa0 Qc7,
  zz:=mg_of X G Qja,
  zA:=(ax (st:=jh) Qe5 Qa0 Qc7).binds (ps:=oI) fun _ _ _ _ _ _ us hl=>match us,hl with| [_,_],_=>rfl,
  Bq:=ax (st:=oJ) Qft Qbo Qdu,
  FK:=mg_of X G Qjy,
  FL:=(ax (st:=oJ) Qft Qbo Qdu).binds (ps:=vI) fun _ _ _ _ _ _ us hl=>match us,hl with| [_,_],_=>rfl,
  jC:=ax (st:=dD) Qfu Qbp Qdv,
  nF:=mg_of X G Qjz,
  nG:=(ax (st:=dD) Qfu Qbp Qdv).binds (ps:=fU) fun _ _ _ _ _ _ us hl=>match us,hl with| [_,_,_],_=>rfl,
  l4:=ax (st:=eO) Qf8 Qb3 Qd9,
  sf:=mg_of X G Qkd,
  si:=(ax (st:=eO) Qf8 Qb3 Qd9).binds (ps:=iO) fun _ _ _ _ _ _ us hl=>match us,hl with| [_,_,_],_=>rfl,
  k9:=ax (st:=kS) Qeo Qaj Qcq,
  nH:=mg_of X G Qit,
  nI:=(ax (st:=kS) Qeo Qaj Qcq).binds (ps:=rg) fun _ _ _ _ _ _ us hl=>match us,hl with| [_,_,_,_,_],_=>rfl,
  nJ:=ax (st:=fH) Qe4 Qaz Qc6,
  uN:=mg_of X G Qi9,
  uP:=(ax (st:=fH) Qe4 Qaz Qc6).binds (ps:=jT) fun _ _ _ _ _ _ us hl=>match us,hl with| [_,_],_=>rfl,
  qx:=ax (st:=gv) Qex Qas Qcz,
  wV:=mg_of X G Qi2,
  wW:=(ax (st:=gv) Qex Qas Qcz).binds (ps:=lA) fun _ _ _ _ _ _ us hl=>match us,hl with| [_,_],_=>rfl,
  gG:=ax (st:=ji) Qfg Qbb Qdi,
  jq:=mg_of X G Qjl,
  jr:=(ax (st:=ji) Qfg Qbb Qdi).binds (ps:=oK) fun _ _ _ _ _ _ us hl=>match us,hl with| [_,_],_=>rfl,
  iy:=ax (st:=fI) Qfh Qbc Qdj,
  j7:=mg_of X G Qjm,
  j8:=(ax (st:=fI) Qfh Qbc Qdj).binds (ps:=ej) fun _ _ _ _ _ _ us hl=>match us,hl with| [_],_=>rfl,
  iu:=ax (st:=d8) Qff Qba Qdh,
  kn:=mg_of X G Qjk,
  ko:=(ax (st:=d8) Qff Qba Qdh).binds (ps:=gM) fun _ _ _ _ _ _ us hl=>match us,hl with| [_],_=>rfl,
  l5:=ax (st:=eP) Qev Qaq Qcx,
  sj:=mg_of X G Qi0,
  sk:=(ax (st:=eP) Qev Qaq Qcx).binds (ps:=iP) fun _ _ _ _ _ _ us hl=>match us,hl with| [_],_=>rfl,
  l6:=ax (st:=dQ) Qf9 Qb4 Qea,
  sm:=mg_of X G Qke,
  so:=(ax (st:=dQ) Qf9 Qb4 Qea).binds (ps:=iQ) fun _ _ _ _ _ _ us hl=>match us,hl with| [_,_,_],_=>rfl,
  tW:=ax (st:=jj) Qfi Qbd Qdk,
  zB:=mg_of X G Qjn,
  zC:=(ax (st:=jj) Qfi Qbd Qdk).binds (ps:=oM) fun _ _ _ _ _ _ us hl=>match us,hl with| [_,_,_],_=>rfl,
  iC:=ax (st:=cG) Qfd Qa8 Qdf,
  mE:=mg_of X G Qji,
  mG:=(ax (st:=cG) Qfd Qa8 Qdf).binds (ps:=fz) fun _ _ _ _ _ _ us hl=>match us,hl with| [_,_,_],_=>rfl,
  nL:=ax (st:=fJ) Qen Qai Qcp,
  CW:=mg_of X G Qis,
  uQ:=(ax (st:=fJ) Qen Qai Qcp).binds (ps:=jU) fun _ _ _ _ _ _ us hl=>match us,hl with| [_,_],_=>rfl,
  Eu:=ax (st:=tL) Qfl Qbg Qdn,
  O8:=mg_of X G Qjq,
  JS:=(ax (st:=tL) Qfl Qbg Qdn).binds (ps:=A1) fun _ _ _ _ _ _ us hl=>match us,hl with| [_,_],_=>rfl,
  wX:=ax (st:=kT) Qf5 Qb0 Qd6,
  JT:=mg_of X G Qka,
  CY:=(ax (st:=kT) Qf5 Qb0 Qd6).binds (ps:=rk) fun _ _ _ _ _ _ us hl=>match us,hl with| [_,_],_=>rfl,
  tX:=ax (st:=jk) Qf4 Qbz Qd5,
  Hq:=mg_of X G Qj9,
  zD:=(ax (st:=jk) Qf4 Qbz Qd5).binds (ps:=oN) fun _ _ _ _ _ _ us hl=>match us,hl with| [_,_],_=>rfl,
  qy:=ax (st:=gy) Qf3 Qby Qd4,
  Ew:=mg_of X G Qj8,
  wY:=(ax (st:=gy) Qf3 Qby Qd4).binds (ps:=lD) fun _ _ _ _ _ _ us hl=>match us,hl with| [_,_],_=>rfl,
  wZ:=ax (st:=kU) Qe3 Qay Qc5,
  JU:=mg_of X G Qi8,
  CZ:=(ax (st:=kU) Qe3 Qay Qc5).binds (ps:=rm) fun _ _ _ _ _ _ us hl=>match us,hl with| [_,_],_=>rfl,
  w6:=ax (st:=kX) Qet Qao Qcv,
  JV:=mg_of X G Qiy,
  C0:=(ax (st:=kX) Qet Qao Qcv).binds (ps:=rn) fun _ _ _ _ _ _ us hl=>match us,hl with| [_,_],_=>rfl,
  qz:=ax (st:=gz) Qf7 Qb2 Qd8,
  Ex:=mg_of X G Qkc,
  w8:=(ax (st:=gz) Qf7 Qb2 Qd8).binds (ps:=lE) fun _ _ _ _ _ _ us hl=>match us,hl with| [_,_],_=>rfl,
  Ey:=ax (st:=tM) Qfp Qbk Qdq,
  O9:=mg_of X G Qju,
  JW:=(ax (st:=tM) Qfp Qbk Qdq).binds (ps:=A2) fun _ _ _ _ _ _ us hl=>match us,hl with| [_,_],_=>rfl,
  Ez:=ax (st:=tN) Qf2 Qbx Qd3,
  Pa:=mg_of X G Qj7,
  JX:=(ax (st:=tN) Qf2 Qbx Qd3).binds (ps:=A3) fun _ _ _ _ _ _ us hl=>match us,hl with| [_,_],_=>rfl,
  o4:=ax (st:=jl) Qfb Qa6 Qdd,
  tY:=mg_of X G Qjg,
  tZ:=(ax (st:=jl) Qfb Qa6 Qdd).binds (ps:=oO) fun _ _ _ _ _ _ us hl=>match us,hl with| [_],_=>rfl,
  ua:=ax (st:=jm) Qey Qat Qc0,
  Hr:=mg_of X G Qi3,
  zE:=(ax (st:=jm) Qey Qat Qc0).binds (ps:=oP) fun _ _ _ _ _ _ us hl=>match us,hl with| [_,_],_=>rfl,
  EA:=ax (st:=tO) Qfe Qa9 Qdg,
  Pb:=mg_of X G Qjj,
  JY:=(ax (st:=tO) Qfe Qa9 Qdg).binds (ps:=A6) fun _ _ _ _ _ _ us hl=>match us,hl with| [_,_],_=>rfl,
  w9:=ax (st:=kY) Qe0 Qav Qc2,
  JZ:=mg_of X G Qi5,
  C1:=(ax (st:=kY) Qe0 Qav Qc2).binds (ps:=rp) fun _ _ _ _ _ _ us hl=>match us,hl with| [_,_],_=>rfl,
  EB:=ax (st:=tP) Qe1 Qaw Qc3,
  Pc:=mg_of X G Qi6,
  J0:=(ax (st:=tP) Qe1 Qaw Qc3).binds (ps:=A7) fun _ _ _ _ _ _ us hl=>match us,hl with| [_,_],_=>rfl,
  Br:=ax (st:=lF) Qe2 Qax Qc4,
  Ms:=mg_of X G Qi7,
  FN:=(ax (st:=lF) Qe2 Qax Qc4).binds (ps:=vJ) fun _ _ _ _ _ _ us hl=>match us,hl with| [_,_],_=>rfl,
  kr:=ax (st:=d9) Qfx Qbs Qdy,
  yB:=mg_of X G Qj2,
  pH:=(ax (st:=d9) Qfx Qbs Qdy).binds (ps:=gO) fun _ _ _ _ _ _ us hl=>match us,hl with| [_,_],_=>rfl,
  jD:=ax (st:=dE) Qf1 Qbw Qd2,
  xa:=mg_of X G Qj6,
  nM:=(ax (st:=dE) Qf1 Qbw Qd2).binds (ps:=fW) fun _ _ _ _ _ _ us hl=>match us,hl with| [_,_],_=>rfl,
  EC:=ax (st:=tQ) Qfj Qbe Qdl,
  Pd:=mg_of X G Qjo,
  J1:=(ax (st:=tQ) Qfj Qbe Qdl).binds (ps:=A9) fun _ _ _ _ _ _ us hl=>match us,hl with| [_,_],_=>rfl,
  nN:=ax (st:=fK) Qfz Qbu Qd0,
  C2:=mg_of X G Qj4,
  uR:=(ax (st:=fK) Qfz Qbu Qd0).binds (ps:=jV) fun _ _ _ _ _ _ us hl=>match us,hl with| [_,_],_=>rfl,
  nO:=ax (st:=ek) Qfy Qbt Qdz,
  C3:=mg_of X G Qj3,
  uS:=(ax (st:=ek) Qfy Qbt Qdz).binds (ps:=jW) fun _ _ _ _ _ _ us hl=>match us,hl with| [_,_],_=>rfl,
  l7:=ax (st:=eQ) Qf0 Qbv Qd1,
  Bs:=mg_of X G Qj5,
  sq:=(ax (st:=eQ) Qf0 Qbv Qd1).binds (ps:=iS) fun _ _ _ _ _ _ us hl=>match us,hl with| [_,_],_=>rfl,
  xb:=ax (st:=k0) Qfq Qbl Qdr,
  C4:=mg_of X G Qjv,
  C5:=(ax (st:=k0) Qfq Qbl Qdr).binds (ps:=rq) fun _ _ _ _ _ _ us hl=>match us,hl with| [_,_,_],_=>rfl,
  jd:=ax (st:=eR) Qfc Qa7 Qde,
  l8:=mg_of X G Qjh,
  l9:=(ax (st:=eR) Qfc Qa7 Qde).binds (ps:=iT) fun _ _ _ _ _ _ us hl=>match us,hl with| [_,_,_],_=>rfl,
  nP:=ax (st:=eu) Qer Qam Qct,
  uT:=mg_of X G Qiw,
  uV:=(ax (st:=eu) Qer Qam Qct).binds (ps:=jX) fun _ _ _ _ _ _ us hl=>match us,hl with| [_,_],_=>rfl,
  ku:=ax (st:=ee) Qeq Qal Qcs,
  pI:=mg_of X G Qiv,
  pJ:=(ax (st:=ee) Qeq Qal Qcs).binds (ps:=gP) fun _ _ _ _ _ _ us hl=>match us,hl with| [_,_,_],_=>rfl,
  kx:=ax (st:=ef) Qfw Qbr Qdx,
  pK:=mg_of X G Qj1,
  pL:=(ax (st:=ef) Qfw Qbr Qdx).binds (ps:=gQ) fun _ _ _ _ _ _ us hl=>match us,hl with| [_],_=>rfl,
  ED:=ax (st:=tR) Qfk Qbf Qdm,
  J2:=mg_of X G Qjp,
  J3:=(ax (st:=tR) Qfk Qbf Qdm).binds (ps:=wJ) fun _ _ _ _ _ _ us hl=>match us,hl with| [_,_,_],_=>rfl,
  ub:=ax (st:=jn) Qep Qak Qcr,
  zF:=mg_of X G Qiu,
  Hs:=(ax (st:=jn) Qep Qak Qcr).binds (ps:=oQ) fun _ _ _ _ _ _ us hl=>match us,hl with| [_],_=>rfl,
  pM:=⟨_,mg_of X G Qhw,⟨_,rfl⟩⟩,
  J4:=⟨_,mg_of X G Qik,⟨_,rfl⟩⟩,
  nQ:=⟨_,mg_of X G Qhp,⟨_,rfl⟩⟩,
  Bt:=⟨_,mg_of X G Qhv,⟨_,rfl⟩⟩,
  NC:=⟨_,mg_of X G Qie,⟨_,rfl⟩⟩,
  uc:=⟨_,mg_of X G Qii,⟨_,rfl⟩⟩,
  Bu:=⟨_,mg_of X G Qid,⟨_,rfl⟩⟩,
  nR:=⟨_,mg_of X G Qhm,⟨_,rfl⟩⟩,
  J5:=⟨_,mg_of X G Qin,⟨_,rfl⟩⟩,
  Pe:=⟨_,mg_of X G Qh7,⟨_,rfl⟩⟩,
  zG:=⟨_,mg_of X G Qic,⟨_,rfl⟩⟩,
  vO:=⟨_,mg_of X G Qij,⟨_,rfl⟩⟩,
  xf:=⟨_,mg_of X G Qhn,⟨_,rfl⟩⟩,
  FO:=⟨_,mg_of X G Qhr,⟨_,rfl⟩⟩,
  sr:=⟨_,mg_of X G Qig,⟨_,rfl⟩⟩,
  md:=⟨_,mg_of X G Qho,⟨_,rfl⟩⟩,
  gf:=⟨_,mg_of X G Qht,⟨_,rfl⟩⟩,
  FP:=mg_of X G Qil,
  FQ:=fun H=> .inr ⟨_,_,_,lk1,rfl,rfl,(by show 11≤sizeLine;decide),.cons ⟨_,rfl⟩ (.cons ⟨_,rfl⟩ (.cons ⟨_,rfl⟩ (.cons ⟨_,rfl⟩ (.cons ⟨_,rfl⟩ (.cons ⟨_,rfl⟩ (.cons ⟨_,rfl⟩ (.cons ⟨_,rfl⟩ (.cons ⟨_,rfl⟩ (.cons ⟨_,rfl⟩ (.cons ⟨_,rfl⟩ (.nil)))))))))))⟩,
  iz:=⟨_,mg_of X G Qh5,⟨_,rfl⟩⟩,
  j9:=⟨_,mg_of X G Qhx,⟨_,rfl⟩⟩,
  iA:=⟨_,mg_of X G Qhy,⟨_,rfl⟩⟩,
  pN:=⟨_,mg_of X G Qh0,⟨_,rfl⟩⟩,
  zH:=mg_of X G Qh8,
  zI:=fun H=> .inr ⟨_,_,_,lk2,rfl,rfl,(by show 2≤sizeLine;decide),.cons ⟨_,rfl⟩ (.cons ⟨_,rfl⟩ (.nil))⟩,
  xg:=mg_of X G Qia,
  xh:=fun H=> .inr ⟨_,_,_,lk3,rfl,rfl,(by show 3≤sizeLine;decide),.cons ⟨_,rfl⟩ (.cons ⟨_,rfl⟩ (.cons ⟨_,rfl⟩ (.nil)))⟩,
  xi:=mg_of X G Qh9,
  xj:=fun H=> .inr ⟨_,_,_,lk4,rfl,rfl,(by show 5≤sizeLine;decide),.cons ⟨_,rfl⟩ (.cons ⟨_,rfl⟩ (.cons ⟨_,rfl⟩ (.cons ⟨_,rfl⟩ (.cons ⟨_,rfl⟩ (.nil)))))⟩,
  pO:=⟨_,mg_of X G Qh4,⟨_,rfl⟩⟩,
  nT:=⟨_,mg_of X G Qh2,⟨_,rfl⟩⟩,
  mH:=⟨_,mg_of X G Qh1,⟨_,rfl⟩⟩,
  C6:=⟨_,mg_of X G Qhz,⟨_,rfl⟩⟩,
  FR:=mg_of X G Qhs,
  bU:=⟨(by show ([1,2,3,4,5,6,7,8,9,10,11,12,13,14,15,16,17,18,19,20,21] :List Int).Nodup;decide),_,_,_,lk5,⟨rfl,rfl,rfl⟩,rfl,.cons rfl (by show (1:Int)=hashInt 1;decide) rfl (.cons rfl (by show (2:Int)=hashInt 2;decide) rfl (.cons rfl (by show (3:Int)=hashInt 3;decide) rfl (.cons rfl (by show (4:Int)=hashInt 4;decide) rfl (.cons rfl (by show (5:Int)=hashInt 5;decide) rfl (.cons rfl (by show (6:Int)=hashInt 6;decide) rfl (.cons rfl (by show (7:Int)=hashInt 7;decide) rfl (.cons rfl (by show (8:Int)=hashInt 8;decide) rfl (.cons rfl (by show (9:Int)=hashInt 9;decide) rfl (.cons rfl (by show (10:Int)=hashInt 10;decide) rfl (.cons rfl (by show (11:Int)=hashInt 11;decide) rfl (.cons rfl (by show (12:Int)=hashInt 12;decide) rfl (.cons rfl (by show (13:Int)=hashInt 13;decide) rfl (.cons rfl (by show (14:Int)=hashInt 14;decide) rfl (.cons rfl (by show (15:Int)=hashInt 15;decide) rfl (.cons rfl (by show (16:Int)=hashInt 16;decide) rfl (.cons rfl (by show (17:Int)=hashInt 17;decide) rfl (.cons rfl (by show (18:Int)=hashInt 18;decide) rfl (.cons rfl (by show (19:Int)=hashInt 19;decide) rfl (.cons rfl (by show (20:Int)=hashInt 20;decide) rfl (.cons rfl (by show (21:Int)=hashInt 21;decide) rfl (.nil)))))))))))))))))))))⟩,
  xk:=mg_of X G Qif,
  cK:=⟨_,_,_,lk6,⟨rfl,rfl,rfl⟩,rfl,.cons rfl rfl (.cons rfl rfl (.cons rfl rfl (.cons rfl rfl (.cons rfl rfl (.cons rfl rfl (.cons rfl rfl (.cons rfl rfl (.cons rfl rfl (.cons rfl rfl (.cons rfl rfl (.cons rfl rfl (.cons rfl rfl (.cons rfl rfl (.cons rfl rfl (.nil)))))))))))))))⟩,
  uW:=fun H=> .inr ⟨_,_,_,lk7,rfl,rfl,(by show 2≤sizeLine;decide),.cons ⟨_,rfl⟩ (.cons ⟨_,rfl⟩ (.nil))⟩,
  uX:=fun H=> .inr ⟨_,_,_,lk8,rfl,rfl,(by show 2≤sizeLine;decide),.cons ⟨_,rfl⟩ (.cons ⟨_,rfl⟩ (.nil))⟩,
  uY:=fun H=> .inr ⟨_,_,_,lk9,rfl,rfl,(by show 2≤sizeLine;decide),.cons ⟨_,rfl⟩ (.cons ⟨_,rfl⟩ (.nil))⟩,
  uZ:=fun H=> .inr ⟨_,_,_,Qgb,rfl,rfl,(by show 2≤sizeLine;decide),.cons ⟨_,rfl⟩ (.cons ⟨_,rfl⟩ (.nil))⟩,
  u4:=fun H=> .inr ⟨_,_,_,Qgc,rfl,rfl,(by show 2≤sizeLine;decide),.cons ⟨_,rfl⟩ (.cons ⟨_,rfl⟩ (.nil))⟩,
  u5:=fun H=> .inr ⟨_,_,_,Qgd,rfl,rfl,(by show 2≤sizeLine;decide),.cons ⟨_,rfl⟩ (.cons ⟨_,rfl⟩ (.nil))⟩,
  u6:=fun H=> .inr ⟨_,_,_,Qge,rfl,rfl,(by show 2≤sizeLine;decide),.cons ⟨_,rfl⟩ (.cons ⟨_,rfl⟩ (.nil))⟩,
  u7:=fun H=> .inr ⟨_,_,_,Qgf,rfl,rfl,(by show 2≤sizeLine;decide),.cons ⟨_,rfl⟩ (.cons ⟨_,rfl⟩ (.nil))⟩,
  u9:=fun H=> .inr ⟨_,_,_,Qgg,rfl,rfl,(by show 2≤sizeLine;decide),.cons ⟨_,rfl⟩ (.cons ⟨_,rfl⟩ (.nil))⟩,
  su:=fun H=> .inr ⟨_,_,_,Qgh,rfl,rfl,(by show 2≤sizeLine;decide),.cons ⟨_,rfl⟩ (.cons ⟨_,rfl⟩ (.nil))⟩,
  sx:=fun H=> .inr ⟨_,_,_,Qgi,rfl,rfl,(by show 2≤sizeLine;decide),.cons ⟨_,rfl⟩ (.cons ⟨_,rfl⟩ (.nil))⟩,
  sy:=fun H=> .inr ⟨_,_,_,Qgj,rfl,rfl,(by show 2≤sizeLine;decide),.cons ⟨_,rfl⟩ (.cons ⟨_,rfl⟩ (.nil))⟩,
  sA:=fun H=> .inr ⟨_,_,_,Qgk,rfl,rfl,(by show 2≤sizeLine;decide),.cons ⟨_,rfl⟩ (.cons ⟨_,rfl⟩ (.nil))⟩,
  sC:=fun H=> .inr ⟨_,_,_,Qgm,rfl,rfl,(by show 2≤sizeLine;decide),.cons ⟨_,rfl⟩ (.cons ⟨_,rfl⟩ (.nil))⟩,
  sD:=fun H=> .inr ⟨_,_,_,Qgn,rfl,rfl,(by show 2≤sizeLine;decide),.cons ⟨_,rfl⟩ (.cons ⟨_,rfl⟩ (.nil))⟩,
  nU:=⟨_,mg_of X G Qh3,⟨_,rfl⟩⟩,
  ud:=mg_of X G Qib,
  a6:=⟨(by show ([0,1,2,3,4,5,6,7,8,9,10,11,12,13,14,15,16,17,18,19,20,21] :List Int).Nodup;decide),_,_,_,Qgo,⟨rfl,rfl,rfl⟩,rfl,.cons rfl (by show (0:Int)=hashInt 0;decide) rfl (.cons rfl (by show (1:Int)=hashInt 1;decide) rfl (.cons rfl (by show (2:Int)=hashInt 2;decide) rfl (.cons rfl (by show (3:Int)=hashInt 3;decide) rfl (.cons rfl (by show (4:Int)=hashInt 4;decide) rfl (.cons rfl (by show (5:Int)=hashInt 5;decide) rfl (.cons rfl (by show (6:Int)=hashInt 6;decide) rfl (.cons rfl (by show (7:Int)=hashInt 7;decide) rfl (.cons rfl (by show (8:Int)=hashInt 8;decide) rfl (.cons rfl (by show (9:Int)=hashInt 9;decide) rfl (.cons rfl (by show (10:Int)=hashInt 10;decide) rfl (.cons rfl (by show (11:Int)=hashInt 11;decide) rfl (.cons rfl (by show (12:Int)=hashInt 12;decide) rfl (.cons rfl (by show (13:Int)=hashInt 13;decide) rfl (.cons rfl (by show (14:Int)=hashInt 14;decide) rfl (.cons rfl (by show (15:Int)=hashInt 15;decide) rfl (.cons rfl (by show (16:Int)=hashInt 16;decide) rfl (.cons rfl (by show (17:Int)=hashInt 17;decide) rfl (.cons rfl (by show (18:Int)=hashInt 18;decide) rfl (.cons rfl (by show (19:Int)=hashInt 19;decide) rfl (.cons rfl (by show (20:Int)=hashInt 20;decide) rfl (.cons rfl (by show (21:Int)=hashInt 21;decide) rfl (.nil))))))))))))))))))))))⟩,
  kz:=fun H=> .inr ⟨_,_,_,Qgp,rfl,rfl,(by show 3≤sizeLine;decide),.cons ⟨_,rfl⟩ (.cons ⟨_,rfl⟩ (.cons ⟨_,rfl⟩ (.nil)))⟩,
  pP:=fun H=> .inr ⟨_,_,_,Qgq,rfl,rfl,(by show 3≤sizeLine;decide),.cons ⟨_,rfl⟩ (.cons ⟨_,rfl⟩ (.cons ⟨_,rfl⟩ (.nil)))⟩,
  pQ:=fun H=> .inr ⟨_,_,_,Qgr,rfl,rfl,(by show 3≤sizeLine;decide),.cons ⟨_,rfl⟩ (.cons ⟨_,rfl⟩ (.cons ⟨_,rfl⟩ (.nil)))⟩,
  pR:=fun H=> .inr ⟨_,_,_,Qgs,rfl,rfl,(by show 1≤sizeLine;decide),.cons ⟨_,rfl⟩ (.nil)⟩,
  pS:=fun H=> .inr ⟨_,_,_,Qgt,rfl,rfl,(by show 1≤sizeLine;decide),.cons ⟨_,rfl⟩ (.nil)⟩,
  pT:=fun H=> .inr ⟨_,_,_,Qgu,rfl,rfl,(by show 1≤sizeLine;decide),.cons ⟨_,rfl⟩ (.nil)⟩,
  pU:=fun H=> .inr ⟨_,_,_,Qgv,rfl,rfl,(by show 1≤sizeLine;decide),.cons ⟨_,rfl⟩ (.nil)⟩,
  pV:=fun H=> .inr ⟨_,_,_,Qgx,rfl,rfl,(by show 5≤sizeLine;decide),.cons ⟨_,rfl⟩ (.cons ⟨_,rfl⟩ (.cons ⟨_,rfl⟩ (.cons ⟨_,rfl⟩ (.cons ⟨_,rfl⟩ (.nil)))))⟩,
  pW:=fun H=> .inr ⟨_,_,_,Qgy,rfl,rfl,(by show 3≤sizeLine;decide),.cons ⟨_,rfl⟩ (.cons ⟨_,rfl⟩ (.cons ⟨_,rfl⟩ (.nil)))⟩,
  pX:=fun H=> .inr ⟨_,_,_,Qgz,rfl,rfl,(by show 2≤sizeLine;decide),.cons ⟨_,rfl⟩ (.cons ⟨_,rfl⟩ (.nil))⟩,
  pY:=fun H=> .inr ⟨_,_,_,Qg0,rfl,rfl,(by show 1≤sizeLine;decide),.cons ⟨_,rfl⟩ (.nil)⟩,
  pZ:=fun H=> .inr ⟨_,_,_,Qg1,rfl,rfl,(by show 1≤sizeLine;decide),.cons ⟨_,rfl⟩ (.nil)⟩,
  p0:=fun H=> .inr ⟨_,_,_,Qg2,rfl,rfl,(by show 1≤sizeLine;decide),.cons ⟨_,rfl⟩ (.nil)⟩,
  qa:=fun H=> .inr ⟨_,_,_,Qg3,rfl,rfl,(by show 1≤sizeLine;decide),.cons ⟨_,rfl⟩ (.nil)⟩,
  qb:=fun H=> .inr ⟨_,_,_,Qg4,rfl,rfl,(by show 1≤sizeLine;decide),.cons ⟨_,rfl⟩ (.nil)⟩,
  qc:=fun H=> .inr ⟨_,_,_,Qg5,rfl,rfl,(by show 8≤sizeLine;decide),.cons ⟨_,rfl⟩ (.cons ⟨_,rfl⟩ (.cons ⟨_,rfl⟩ (.cons ⟨_,rfl⟩ (.cons ⟨_,rfl⟩ (.cons ⟨_,rfl⟩ (.cons ⟨_,rfl⟩ (.cons ⟨_,rfl⟩ (.nil))))))))⟩,
  qd:=fun H=> .inr ⟨_,_,_,Qg6,rfl,rfl,(by show 1≤sizeLine;decide),.cons ⟨_,rfl⟩ (.nil)⟩,
  qe:=fun H=> .inr ⟨_,_,_,Qg8,rfl,rfl,(by show 2≤sizeLine;decide),.cons ⟨_,rfl⟩ (.cons ⟨_,rfl⟩ (.nil))⟩,
  qf:=fun H=> .inr ⟨_,_,_,Qg9,rfl,rfl,(by show 1≤sizeLine;decide),.cons ⟨_,rfl⟩ (.nil)⟩,
  qg:=fun H=> .inr ⟨_,_,_,Qha,rfl,rfl,(by show 2≤sizeLine;decide),.cons ⟨_,rfl⟩ (.cons ⟨_,rfl⟩ (.nil))⟩,
  qh:=fun H=> .inr ⟨_,_,_,Qhb,rfl,rfl,(by show 0≤sizeLine;decide),.nil⟩,
  qi:=fun H=> .inr ⟨_,_,_,Qhc,rfl,rfl,(by show 0≤sizeLine;decide),.nil⟩,
  FT:=⟨_,mg_of X G Qhq,⟨_,rfl⟩⟩,
  Qlt:=mg_none_of X G Qlt,
  Qlu:=mg_none_of X G Qlu,
  Qlv:=mg_none_of X G Qlv,
  Qlw:=mg_none_of X G Qlw,
  Qlx:=mg_none_of X G Qlx,
  Qly:=mg_none_of X G Qly,
  Qlz:=mg_none_of X G Qlz,
  Ql0:=mg_none_of X G Ql0,
  Ql1:=mg_none_of X G Ql1,
  Ql2:=mg_none_of X G Ql2}
end Rl
namespace Rl
def Bv (c:Int×List Int):List Int:=c.1::(c.2.length:Int)::(c.2 ++ [0])
def enc:List (Int×List Int)→List Int
 | [] => []
 |c::cs=>Bv c ++ enc cs
def ka (c:Int×List Int):List (List Int):= [c.1::c.2]
theorem qA:∀ (as bs:List (Int×List Int)),enc (as ++ bs)=enc as ++ enc bs
 | [],_=>rfl
 |a::as,bs=>by
  show Bv a ++ enc (as ++ bs)=(Bv a ++ enc as) ++ enc bs
  rw [qA as bs,List.append_assoc]
theorem EE {c:List (List Int)}(h:VbcnagNeutral.asked1 c=true):∃p ns,c= [p::ns] :=by
 unfold VbcnagNeutral.asked1 at h
 split at h <;>first|exact ⟨_,_,rfl⟩|cases h
theorem J6 (p:Int)(ns:List Int):PyWide.put1 [p::ns] =Bv (p,ns):=rfl
theorem FU:∀ (cs:List (List (List Int))),(∀c∈cs,VbcnagNeutral.asked1 c=true)→
  ∃ds:List (Int×List Int),cs=ds.map ka∧PyWide.put cs=enc ds
 | [],_=>⟨[],rfl,rfl⟩
 |c::cs,h=>by
  obtain ⟨ds,e1,e2⟩:=FU cs fun d hd=>h d (List.Mem.tail _ hd)
  obtain ⟨p,ns,e⟩:=EE (h c (List.Mem.head _))
  refine ⟨(p,ns)::ds,?_,?_⟩
  ·rw [e,e1];rfl
  ·show PyWide.put1 c ++ PyWide.put cs=Bv (p,ns) ++ enc ds
   rw [e,e2,J6]
theorem C7 {l:List Int}(h:PyVbcnag.answers_asked l=true):∃cs:List (Int×List Int),
  l=enc cs∧cs.length≤400∧(∀c∈cs,VbcnagNeutral.asked1 (ka c)=true)∧
  PyVbcnag.answers l=PyFlat.told (PyFlat.played VbcnagNeutral.step VbcnagNeutral.start (cs.map ka))∧
  (PyVbcnag.answers l).length≤10000000:=by
 unfold PyVbcnag.answers_asked at h
 cases e:PyVbcnag.calls l with
 |none=>rw [e] at h;cases h
 |some cs=>
  rw [e] at h
  simp only [Bool.and_eq_true] at h
  obtain ⟨⟨h1,h2⟩,h3⟩:=h
  have a:l=PyWide.put cs∧∀c∈cs,PyWide.okCall c:=PyWide.put_calls _ _ _ e
  unfold VbcnagNeutral.asked at h2
  simp only [Bool.and_eq_true,List.all_eq_true] at h2
  obtain ⟨ds,e1,e2⟩:=FU cs h2.1
  refine ⟨ds,a.1.trans e2,?_,?_,?_,?_⟩
  ·have:cs.length≤400:=of_decide_eq_true h1
   rw [e1,List.length_map] at this
   exact this
  ·intro c hc
   exact h2.1 _ (by rw [e1];exact List.mem_map_of_mem hc)
  ·unfold PyVbcnag.answers
   rw [e,e1]
  ·exact of_decide_eq_true h3
def cE (s:Option Vbcnag.World)(c:Int×List Int):Option Vbcnag.World×List Int:=VbcnagNeutral.step s (ka c)
def fm (s:Option Vbcnag.World):List (Int×List Int)→Option Vbcnag.World
 | [] =>s
 |c::cs=>fm (cE s c).1 cs
def cW (s:Option Vbcnag.World):List (Int×List Int)→List Int
 | [] => []
 |c::cs=>((cE s c).2.length:Int)::((cE s c).2 ++ cW (cE s c).1 cs)
theorem Bw:∀ (cs:List (Int×List Int))(s:Option Vbcnag.World),
  PyFlat.told (PyFlat.played VbcnagNeutral.step s (cs.map ka))=cW s cs
 | [],_=>rfl
 |c::cs,s=>by
  show PyFlat.told ((VbcnagNeutral.step s (ka c)).2::PyFlat.played VbcnagNeutral.step (VbcnagNeutral.step s (ka c)).1 (cs.map ka))=_
  have ih:=Bw cs (cE s c).1
  unfold PyFlat.told at ih ⊢
  rw [List.flatMap_cons]
  show ((cE s c).2.length:Int)::(cE s c).2 ++ _=_
  rw [show List.flatMap (fun a=>((a.length:Int)::a:List Int)) (PyFlat.played VbcnagNeutral.step (VbcnagNeutral.step s (ka c)).1 (cs.map ka))=cW (cE s c).1 cs from ih]
  rfl
theorem jE:∀ (as bs:List (Int×List Int))(s:Option Vbcnag.World),cW s (as ++ bs)=cW s as ++ cW (fm s as) bs
 | [],_,_=>rfl
 |a::as,bs,s=>by
  show ((cE s a).2.length:Int)::((cE s a).2 ++ cW (cE s a).1 (as ++ bs))=((cE s a).2.length:Int)::(((cE s a).2 ++ cW (cE s a).1 as) ++ cW (fm (cE s a).1 as) bs)
  rw [jE as bs,List.append_assoc]
theorem sE:∀ (as bs:List (Int×List Int))(s:Option Vbcnag.World),fm s (as ++ bs)=fm (fm s as) bs
 | [],_,_=>rfl
 |a::as,bs,s=>sE as bs (cE s a).1
end Rl
namespace Rl
open Vbcnag
theorem fe:∀ (l:List Under)(w:World),puts w l=({w with bag:=w.bag ++ l.take (w.cap - w.bag.length)},l.take (w.cap - w.bag.length))
 | [],w=>by simp [puts]
 |m::l,w=>by
  unfold puts
  by_cases h:w.bag.length < w.cap
  ·rw [if_pos h,fe l]
   obtain ⟨k,hk⟩:∃k,w.cap - w.bag.length=k + 1:=⟨w.cap - w.bag.length - 1,by omega⟩
   have h2:w.cap - (w.bag ++ [m]).length=k:=by rw [List.length_append];simp only [List.length_cons,List.length_nil];omega
   simp only [h2,hk,List.take_succ_cons,List.append_assoc,List.cons_append,List.nil_append]
  ·rw [if_neg h,fe l]
   have h2:w.cap - w.bag.length=0:=by omega
   simp only [h2,List.take_zero]
theorem nW (w:World)(u:Under):puts w [u] =if w.bag.length < w.cap then ({w with bag:=w.bag ++ [u] },[u]) else (w,[]):=rfl
structure sF (c:Client):Prop where
 off:c.phase=0→c.due=none
 on:c.phase≠0→c.due.isSome=true
 Y4:c.phase≤6
 ask:c.phase=2→c.best.isSome=true
 held:3≤c.phase→c.lease.isSome=true
structure Lx (now:Nat) (c d:Client):Prop where
 good:sF d
 host:d.host=c.host
 place:d.place=c.place
 due:d.due=c.due∨∃t,d.due=some t∧now < t
theorem xl (a b:Nat):0 < wait a b:=by
 have h:0 < 2 ^ a:=Nat.two_pow_pos a
 unfold wait
 omega
theorem lg {now phase tries:Nat}{f:Nat→Nat}{kind:Nat}{sv:Option Nat}{addr:Nat}{c:Client}(h0:phase≠0)(h6:phase≤6)(ha:phase=2→c.best.isSome=true)(hh:3≤phase→c.lease.isSome=true)(hf:∀n,now < f n):
  Lx now c (sends now phase tries f kind sv addr c).1∧∃t,(sends now phase tries f kind sv addr c).1.due=some t∧now < t:=
 ⟨⟨⟨fun h=>absurd h h0,fun _=>rfl,h6,ha,hh⟩,rfl,rfl,.inr ⟨_,rfl,hf _⟩⟩,_,rfl,hf _⟩
theorem lh (now tries:Nat)(c:Client):Lx now c (seek now tries c).1∧∃t,(seek now tries c).1.due=some t∧now < t:=by
 have h:=lg (now:=now) (phase:=1) (tries:=tries) (f:=fun n=>now + wait tries n) (kind:=1) (sv:=none) (addr:=0) (c:={c with best:=none,lease:=none}) (by decide) (by decide) (fun h=>by cases h) (fun h=>by exact absurd h (by decide)) (fun n=>by have:=xl tries n;omega)
 obtain ⟨⟨g,a,b,d⟩,e⟩:=h
 exact ⟨⟨g,a,b,d⟩,e⟩
theorem xm (now tries:Nat)(o:Offer){c:Client}(hb:c.best.isSome=true):Lx now c (askFor now tries o c).1∧∃t,(askFor now tries o c).1.due=some t∧now < t:=
 lg (by decide) (by decide) (fun _=>hb) (fun h=>absurd h (by decide)) (fun n=>by have:=xl tries n;omega)
theorem sG (now tries:Nat)(l:Lease){c:Client}(hb:c.lease.isSome=true):Lx now c (comeBack now tries l c).1∧∃t,(comeBack now tries l c).1.due=some t∧now < t:=
 lg (by decide) (by decide) (fun h=>by cases h) (fun _=>hb) (fun n=>by have:=xl tries n;omega)
theorem me (now:Nat)(l:Lease){c:Client}(hb:c.lease.isSome=true):Lx now c (settle now l c).1∧∃t,(settle now l c).1.due=some t∧now < t:=by
 unfold settle
 split
 ·rename_i h
  exact ⟨⟨⟨fun h=>(by cases h),fun _=>rfl,(by show 3≤6;decide),fun h=>(by cases h),fun _=>hb⟩,rfl,rfl,.inr ⟨_,rfl,h⟩⟩,_,rfl,h⟩
 ·split
  ·exact lg (by decide) (by decide) (fun h=>by cases h) (fun _=>hb) (fun n=>by omega)
  ·split
   ·exact lg (by decide) (by decide) (fun h=>by cases h) (fun _=>hb) (fun n=>by omega)
   ·exact lh now 0 c
theorem nX (now:Nat){c:Client}(g:sF c)(h:c.phase≠0):Lx now c (acts now c).1∧∃t,(acts now c).1.due=some t∧now < t:=by
 have h6:=g.Y4
 unfold acts
 split
 ·exact xm _ _ _ (by simp [*])
 ·exact lh _ _ _
 ·split
  ·exact xm _ _ _ (by simp [*])
  ·exact lh _ _ _
 ·split
  ·exact sG _ _ _ (by simp [*])
  ·exact me _ _ (by simp [*])
 ·exact me _ _ (by simp [*])
 ·rename_i h1 h2 h3 h4
  exfalso
  have hl:c.lease=none:=by assumption
  by_cases q:3≤c.phase
  ·have:=g.held q
   rw [hl] at this
   cases this
  ·by_cases q1:c.phase=1
   ·cases hb:c.best with
    |none=>simp_all
    |some o=>simp_all
   ·have q2:c.phase=2:=by omega
    have:=g.ask q2
    cases hb:c.best with
    |none=>rw [hb] at this;cases this
    |some o=>simp_all
theorem Ht (now:Nat){c:Client}(g:sF c)(m:Msg):Lx now c (hears now c m).1:=by
 have self:Lx now c c:=⟨g,rfl,rfl,.inl rfl⟩
 unfold hears
 split
 ·exact self
 ·rename_i hp
  have hp0:c.phase≠0:=fun e=>hp (.inl e)
  split
  ·dsimp only
   split
   ·rename_i hx
    exact ⟨⟨fun h=>absurd h hp0,fun h=>g.on h,g.Y4,fun h=>rfl,fun h=>g.held h⟩,rfl,rfl,.inl rfl⟩
   ·exact self
  ·rename_i sv _ _
   split
   ·have:=me now {server:=sv,addr:=m.addr,half:=c.sent + m.len / 2,late:=c.sent + m.len * 7 / 8,till:=c.sent + m.len} (c:={c with best:=none,lease:=some {server:=sv,addr:=m.addr,half:=c.sent + m.len / 2,late:=c.sent + m.len * 7 / 8,till:=c.sent + m.len} }) rfl
    obtain ⟨⟨a,b,d,e⟩,f⟩:=this
    exact ⟨a,b,d,.inr f⟩
   ·exact self
  ·split
   ·exact (lh now 0 c).1
   ·exact self
  ·exact self
theorem zJ:∀ {l:List Client}{c:Client},(l.map (·.host)).Nodup→c∈l→l.find? (fun d=>d.host==c.host)=some c
 | [],c,_,h=>by cases h
 |d::l,c,nd,h=>by
  rw [List.map_cons,List.nodup_cons] at nd
  rw [List.find?_cons]
  cases h with
  |head=>simp
  |tail _ h=>
   have:¬d.host=c.host:=fun e=>nd.1 (by rw [e];exact List.mem_map_of_mem h)
   have hb:(d.host==c.host)=false:=by simpa using this
   rw [hb]
   exact zJ nd.2 h
theorem je {w:World}{h:Nat}{c:Client}(e:clientOf w h=some c):c∈w.clients∧c.host=h:=by
 unfold clientOf at e
 exact ⟨List.mem_of_find?_eq_some e,by simpa using List.find?_some e⟩
theorem map_set:∀ {l:List Client}{i:Nat}{c d:Client},(l.map (·.host)).Nodup→l[i]?=some c→d.host=c.host→(l.map fun x=>if x.host=d.host then d else x)=l.set i d
 | [],i,c,d,_,h,_=>by simp at h
 |x::l,0,c,d,nd,h,e=>by
  rw [List.map_cons,List.nodup_cons] at nd
  have hx:x=c:=by simpa using h
  subst hx
  rw [List.map_cons,if_pos e.symm,List.set_cons_zero]
  congr 1
  have:∀y∈l,(if y.host=d.host then d else y)=y:=fun y hy=>if_neg fun q=>nd.1 (by rw [←e,←q];exact List.mem_map_of_mem hy)
  rw [List.map_congr_left this,List.map_id']
 |x::l,i + 1,c,d,nd,h,e=>by
  rw [List.map_cons,List.nodup_cons] at nd
  have hl:l[i]?=some c:=by simpa using h
  have:¬x.host=d.host:=fun q=>nd.1 (by rw [q,e];exact List.mem_map_of_mem (List.mem_of_getElem? hl))
  rw [List.map_cons,if_neg this,List.set_cons_succ,map_set nd.2 hl e]
theorem br {w:World}{i:Nat}{c d:Client}(nd:(w.clients.map (·.host)).Nodup)(h:w.clients[i]?=some c)(e:d.host=c.host):setClient w d={w with clients:=w.clients.set i d}:=by
 unfold setClient
 rw [map_set nd h e]
theorem C8 {w:World}{i:Nat}{c:Client}(nd:(w.clients.map (·.host)).Nodup)(h:w.clients[i]?=some c):clientOf w c.host=some c:=zJ nd (List.mem_of_getElem? h)
theorem js {l:List Client}{i:Nat}{c d:Client}(h:l[i]?=some c)(e:d.host=c.host):(l.set i d).map (·.host)=l.map (·.host):=by
 rw [List.map_set]
 apply List.ext_getElem?
 intro j
 rw [List.getElem?_set]
 split
 ·rename_i hj
  subst hj
  obtain ⟨hl,hc⟩:=List.getElem?_eq_some_iff.mp h
  rw [List.length_map,if_pos hl,List.getElem?_map,h,e]
  rfl
 ·rfl
end Rl
namespace Rl
open Vbcnag
def fo (a b:Nat×Nat):Prop:=a.1 < b.1∨(a.1=b.1∧a.2≤b.2)
theorem J7 (a:Nat×Nat):fo a a:= .inr ⟨rfl,Nat.le_refl _⟩
theorem lex_trans {a b c:Nat×Nat}(h:fo a b)(k:fo b c):fo a c:=by
 unfold fo at *;omega
theorem J8 {a b:Nat×Nat}(h:fo a b)(k:fo b a):a=b:=by
 unfold fo at *
 apply Prod.ext <;>omega
theorem xn (a b:Nat×Nat):sooner a b=true ↔ ¬fo b a:=by
 unfold sooner fo
 simp only [Bool.or_eq_true,decide_eq_true_eq,Bool.and_eq_true,beq_iff_eq]
 omega
def pick (b:Option (Nat×Nat))(x:Nat×Nat):Option (Nat×Nat):=match b with
 |none=>some x
 |some y=>if sooner x y=true then some x else some y
theorem jF:∀ (l:List (Nat×Nat))(b:Nat×Nat),∃z,l.foldl pick (some b)=some z∧(z=b∨z∈l)∧fo z b∧∀x∈l,fo z x
 | [],b=>⟨b,rfl,.inl rfl,J7 b,fun x h=>by cases h⟩
 |a::l,b=>by
  rw [List.foldl_cons]
  by_cases h:sooner a b=true
  ·have e:pick (some b) a=some a:=if_pos h
   rw [e]
   obtain ⟨z,e1,m,le,all⟩:=jF l a
   have qB:fo a b:=by
    have:=(xn a b).mp h
    unfold fo at *;omega
   refine ⟨z,e1,?_,lex_trans le qB,fun x hx=> ?_⟩
   ·rcases m with m|m
    ·exact .inr (by rw [m];exact List.Mem.head _)
    ·exact .inr (List.Mem.tail _ m)
   ·cases hx with
    |head=>exact le
    |tail _ hx=>exact all x hx
  ·have e:pick (some b) a=some b:=if_neg h
   rw [e]
   obtain ⟨z,e1,m,le,all⟩:=jF l b
   have tm:fo b a:=by
    have:=(xn a b)
    by_cases q:fo b a
    ·exact q
    ·exact absurd (this.mpr q) h
   refine ⟨z,e1,?_,le,fun x hx=> ?_⟩
   ·rcases m with m|m
    ·exact .inl m
    ·exact .inr (List.Mem.tail _ m)
   ·cases hx with
    |head=>exact lex_trans le tm
    |tail _ hx=>exact all x hx
theorem fq {l:List (Nat×Nat)}{z:Nat×Nat}(h:soonest l=some z):z∈l∧∀x∈l,fo z x:=by
 cases l with
 |nil=>cases h
 |cons a l=>
  have e:soonest (a::l)=l.foldl pick (some a):=rfl
  rw [e] at h
  obtain ⟨y,e1,m,le,all⟩:=jF l a
  rw [e1] at h
  cases h
  refine ⟨?_,fun x hx=> ?_⟩
  ·rcases m with m|m
   ·rw [m];exact List.Mem.head _
   ·exact List.Mem.tail _ m
  ·cases hx with
   |head=>exact le
   |tail _ hx=>exact all x hx
theorem EF {l:List (Nat×Nat)}{z:Nat×Nat}(hm:z∈l)(all:∀x∈l,fo z x):soonest l=some z:=by
 cases l with
 |nil=>cases hm
 |cons a l=>
  cases e:soonest (a::l) with
  |none=>
   have e2:soonest (a::l)=l.foldl pick (some a):=rfl
   obtain ⟨y,e1,_⟩:=jF l a
   rw [e2,e1] at e
   cases e
  |some y=>
   obtain ⟨hy,aiy⟩:=fq e
   rw [J8 (aiy z hm) (all y hy)]
theorem sH {l:List (Nat×Nat)}(h:soonest l=none):l= [] :=by
 cases l with
 |nil=>rfl
 |cons a l=>
  have e2:soonest (a::l)=l.foldl pick (some a):=rfl
  obtain ⟨y,e1,_⟩:=jF l a
  rw [e2,e1] at h
  cases h
theorem fu {w:World}{t h:Nat}:(t,h)∈dues w ↔ ∃c∈w.clients,c.due=some t∧c.host=h:=by
 unfold dues
 rw [List.mem_filterMap]
 constructor
 ·rintro ⟨c,hc,e⟩
  cases hd:c.due with
  |none=>rw [hd] at e;cases e
  |some d=>
   rw [hd] at e
   cases e
   exact ⟨c,hc,hd,rfl⟩
 ·rintro ⟨c,hc,e1,e2⟩
  exact ⟨c,hc,by rw [e1,e2];rfl⟩
def sI (e:Nat)(c:Client):Nat:=match c.due with
 |some d=>e + 1 - d
 |none=>0
def mu (e:Nat)(l:List Client):Nat:=(l.map (sI e)).sum
theorem J9:∀ {l:List Client}{i:Nat}{c d:Client}{e:Nat},l[i]?=some c→mu e (l.set i d) + sI e c=mu e l + sI e d
 | [],i,c,d,e,h=>by simp at h
 |x::l,0,c,d,e,h=>by
  have hx:x=c:=by simpa using h
  subst hx
  simp only [mu,List.set_cons_zero,List.map_cons,List.sum_cons]
  omega
 |x::l,i + 1,c,d,e,h=>by
  have ih:=J9 (l:=l) (i:=i) (c:=c) (d:=d) (e:=e) (by simpa using h)
  simp only [mu,List.set_cons_succ,List.map_cons,List.sum_cons] at ih ⊢
  omega
theorem ND {e k:Nat}:∀ {l:List Client},(∀c∈l,∀d,c.due=some d→e + 1 - d≤k)→mu e l≤k * l.length
 | [],_=>by simp [mu]
 |c::l,h=>by
  have ih:=ND (l:=l) fun d hd=>h d (List.Mem.tail _ hd)
  have h1:sI e c≤k:=by
   unfold sI
   split
   ·rename_i d hd
    exact h c (List.Mem.head _) d hd
   ·omega
  simp only [mu,List.map_cons,List.sum_cons,List.length_cons,Nat.mul_succ] at ih ⊢
  omega
structure qj (w:World):Prop where
 nd:(w.clients.map (·.host)).Nodup
 cl:∀c∈w.clients,sF c
theorem jf {c:Client}(g:sF c){t:Nat}(h:c.due=some t):c.phase≠0:=fun q=>by
 rw [g.off q] at h;cases h
def fh (w:World)(t:Nat)(c:Client):World:=done {w with now:=t} (acts t c)
theorem sJ {w:World}{i t:Nat}{c:Client}(g:qj w)(h:w.clients[i]?=some c)(hp:c.phase≠0):
  (fh w t c).clients=w.clients.set i (acts t c).1∧(fh w t c).now=t∧(fh w t c).cap=w.cap∧(fh w t c).servers=w.servers∧(fh w t c).relays=w.relays∧
  (fh w t c).resting=w.resting∧(fh w t c).assigned=w.assigned∧(fh w t c).written=w.written:=by
 have hd:=(nX t (g.cl c (List.mem_of_getElem? h)) hp).1
 unfold fh done
 rw [fe,br (w:={w with now:=t}) (i:=i) (c:=c) g.nd h hd.host]
 exact ⟨rfl,rfl,rfl,rfl,rfl,rfl,rfl,rfl⟩
theorem xo {w:World}{i t:Nat}{c:Client}(g:qj w)(h:w.clients[i]?=some c)(hp:c.phase≠0):qj (fh w t c):=by
 have hd:=(nX t (g.cl c (List.mem_of_getElem? h)) hp).1
 have e:=(sJ (t:=t) g h hp).1
 refine ⟨?_,?_⟩
 ·rw [e,js h hd.host]
  exact g.nd
 ·rw [e]
  intro d hm
  rcases List.mem_or_eq_of_mem_set hm with q|q
  ·exact g.cl d q
  ·rw [q];exact hd.good
theorem xp {w:World}{i t e:Nat}{c:Client}(g:qj w)(h:w.clients[i]?=some c)(hd:c.due=some t)(hle:t≤e):mu e (fh w t c).clients < mu e w.clients:=by
 have hp:=jf (g.cl c (List.mem_of_getElem? h)) hd
 obtain ⟨_,t',ht,dy⟩:=nX t (g.cl c (List.mem_of_getElem? h)) hp
 rw [(sJ (t:=t) g h hp).1]
 have m:=J9 (e:=e) (d:=(acts t c).1) h
 have s1:sI e c=e + 1 - t:=by unfold sI;rw [hd]
 have s2:sI e (acts t c).1=e + 1 - t':=by unfold sI;rw [ht]
 omega
theorem zK {n e i t:Nat}{w:World}{c:Client}(g:qj w)(h:w.clients[i]?=some c)(hs:soonest (dues w)=some (t,c.host))(hle:t≤e):
  ticks (n + 1) e w=((ticks n e (fh w t c)).1,(ticks n e (fh w t c)).2 + 1):=by
 show (match soonest (dues w) with
  |none=>({w with now:=e},0)
  |some (t,host)=>
   if e < t then ({w with now:=e},0)
   else match clientOf w host with
    |none=>(w,0)
    |some c=>
     let y:=acts t c
     let v:=setClient {w with now:=t} y.1
     let x:=ticks n e (puts v (outOf y.1 y.2)).1
     (x.1,x.2 + 1))=_
 rw [hs]
 dsimp only
 rw [if_neg (Nat.not_lt.mpr hle),C8 g.nd h]
 rfl
theorem zL {n e:Nat}{w:World}(h:∀c∈w.clients,∀d,c.due=some d→e < d):ticks (n + 1) e w=({w with now:=e},0):=by
 show (match soonest (dues w) with
  |none=>({w with now:=e},0)
  |some (t,host)=>
   if e < t then ({w with now:=e},0)
   else match clientOf w host with
    |none=>(w,0)
    |some c=>
     let y:=acts t c
     let v:=setClient {w with now:=t} y.1
     let x:=ticks n e (puts v (outOf y.1 y.2)).1
     (x.1,x.2 + 1))=_
 cases hs:soonest (dues w) with
 |none=>rfl
 |some z=>
  obtain ⟨t,host⟩:=z
  obtain ⟨c,hc,h1,_⟩:=fu.mp (fq hs).1
  dsimp only
  rw [if_pos (h c hc t h1)]
structure sL (lid e:Nat) (w0 w:World) (k:Nat):Prop where
 good:qj w
 ex:∃n,mu e w.clients < n∧ticks lid e w0=((ticks n e w).1,(ticks n e w).2 + k)
theorem sL.start {lid e:Nat}{w:World}(g:qj w)(h:mu e w.clients < lid):sL lid e w w 0:=⟨g,lid,h,rfl⟩
theorem sL.act {lid e k i t:Nat}{w0 w:World}{c:Client}(G:sL lid e w0 w k)(h:w.clients[i]?=some c)(hs:soonest (dues w)=some (t,c.host))(hd:c.due=some t)(hle:t≤e):sL lid e w0 (fh w t c) (k + 1):=by
 obtain ⟨g,n,hn,e1⟩:=G
 have hp:=jf (g.cl c (List.mem_of_getElem? h)) hd
 have hm:=xp g h hd hle
 cases n with
 |zero=>omega
 |succ n=>
  refine ⟨xo g h hp,n,by omega,?_⟩
  rw [e1,zK g h hs hle]
  show _=(_,(ticks n e (fh w t c)).2 + (k + 1))
  congr 1
  show (ticks n e (fh w t c)).2 + 1 + k=_
  omega
theorem sL.ends {lid e k:Nat}{w0 w:World}(G:sL lid e w0 w k)(h:∀c∈w.clients,∀d,c.due=some d→e < d):ticks lid e w0=({w with now:=e},k):=by
 obtain ⟨g,n,hn,e1⟩:=G
 cases n with
 |zero=>omega
 |succ n=>
  rw [e1,zL h]
  show (_,0 + k)=_
  rw [Nat.zero_add]
theorem xq {w:World}{t:Nat}(h:∀c∈w.clients,∀d,c.due=some d→w.now < d):mu (w.now + t) w.clients < (t + 1) * (w.clients.length + 1):=by
 have h1:=ND (e:=w.now + t) (k:=t) (l:=w.clients) fun c hc d hd=>by have:=h c hc d hd;omega
 have h2:t * w.clients.length≤t * (w.clients.length + 1):=Nat.mul_le_mul_left _ (Nat.le_succ _)
 have h3:(t + 1) * (w.clients.length + 1)=t * (w.clients.length + 1) + (w.clients.length + 1):=Nat.succ_mul _ _
 omega
end Rl
namespace Rl
open Vbcnag
structure iB (nr ns:Nat) (u:Under):Prop where
 marks:u.msg.marks.length≤32
 hops:u.msg.hops≤16
 up:∀r c,u.place= .up r c→r < nr∧u.msg.marks.length≤16 + u.msg.hops
 server:∀s,u.place= .server s→s < ns
 back:(∀r,u.place≠ .down r)∧(∀r c,u.place≠ .circuit r c)∨(u.msg.server.isSome=true∧(u.msg.kind=2∨u.msg.kind=4∨u.msg.kind=5))
def d3 (x:Written):Nat×Nat×Nat:=(x.server,x.host,x.addr)
theorem jG {α:Type}:∀ {l:List α}{a:α},l.Nodup→a ∉ l→(l ++ [a]).Nodup
 | [],a,_,_=>by simp
 |x::l,a,nd,h=>by
  rw [List.nodup_cons] at nd
  rw [List.cons_append,List.nodup_cons]
  refine ⟨fun q=> ?_,jG nd.2 fun q=>h (List.Mem.tail _ q)⟩
  rcases List.mem_append.mp q with q|q
  ·exact nd.1 q
  ·have:x=a:=by simpa using q
   exact h (by rw [this];exact List.Mem.head _)
structure bC (w:World):Prop where
 nd:(w.clients.map (·.host)).Nodup
 cl:∀c∈w.clients,sF c
 Hu:∀c∈w.clients,∀d,c.due=some d→w.now < d
 dW:∀c∈w.clients,∀m,c.place=some m→m.relay < w.relays.length
 sM:w.clients.length≤64
 C9:w.relays.length≤64
 root:∃r,w.relays[0]?=some r∧r.above=none
 tree:∀ (i:Nat)(r:Relay),w.relays[i]?=some r→0 < i→∃m,r.above=some m∧m.relay < i
 limit:∀r∈w.relays,r.limit≤16
 Rw:1≤w.servers∧w.servers≤4
 cap:1≤w.cap∧w.cap≤10000
 bag:w.bag.length≤w.cap
 msgs:∀u∈w.bag,iB w.relays.length w.servers u
 now:w.now≤TIMES
 asg:w.assigned.length≤128
 Qv:(w.written.map d3).Nodup
theorem xr (x:Written):∀l:List Written,(write x l).map d3=if d3 x∈l.map d3 then l.map d3 else l.map d3 ++ [d3 x]
 | [] =>rfl
 |y::l=>by
  unfold write
  split
  ·rename_i h
   have e:d3 x=d3 y:=by
    obtain ⟨h1,h2,h3⟩:=h
    show (_,_,_)=(_,_,_)
    rw [h1,h2,h3]
   rw [if_pos (by rw [e];exact List.mem_cons_self ..)]
   rfl
  ·rename_i h
   have e:d3 x≠d3 y:=fun q=>by
    injection q with q1 q
    injection q with q2 q3
    exact h ⟨q1.symm,q2.symm,q3.symm⟩
   rw [List.map_cons,xr x l,List.map_cons]
   by_cases q:d3 x∈l.map d3
   ·rw [if_pos q,if_pos (List.mem_cons_of_mem _ q)]
   ·rw [if_neg q,if_neg (fun z=>by
     rcases List.mem_cons.mp z with z|z
     ·exact e z
     ·exact q z)]
    rfl
theorem Ka {x:Written}{l:List Written}(h:(l.map d3).Nodup):((write x l).map d3).Nodup:=by
 rw [xr]
 split
 ·exact h
 ·rename_i q
  exact jG h q
theorem bC.t {w:World}(g:bC w):qj w:=⟨g.nd,g.cl⟩
theorem EG {n cap t:Nat}(hn:1≤n∧n≤4)(hc:1≤cap∧cap≤10000)(ht:t≤TIMES):bC {now:=t,servers:=n,cap:=cap,relays:= [{above:=none,limit:=16}] } where
 nd:=List.nodup_nil
 cl:=fun c h=>by cases h
 Hu:=fun c h=>by cases h
 dW:=fun c h=>by cases h
 sM:=Nat.zero_le _
 C9:=by show 1≤64;decide
 root:=⟨_,rfl,rfl⟩
 tree:=fun i r h hi=>by
  cases i with
  |zero=>exact absurd hi (Nat.lt_irrefl _)
  |succ i=>simp at h
 limit:=fun r h=>by
  have e:r={above:=none,limit:=16}:=by simpa using h
  subst e
  exact Nat.le_refl _
 Rw:=hn
 cap:=hc
 bag:=Nat.zero_le _
 msgs:=fun u h=>by cases h
 now:=ht
 asg:=Nat.zero_le _
 Qv:=List.nodup_nil
theorem zM {w:World}(g:bC w){l:List Under}(h:∀u∈l,iB w.relays.length w.servers u):bC (puts w l).1:=by
 rw [fe]
 have hb:=g.bag
 exact {g with
  bag:=by
   show (w.bag ++ l.take (w.cap - w.bag.length)).length≤w.cap
   rw [List.length_append,List.length_take]
   omega
  msgs:=fun u hu=>by
   rcases List.mem_append.mp hu with q|q
   ·exact g.msgs u q
   ·exact h u (List.mem_of_mem_take q)}
theorem xt {w:World}(g:bC w){i:Nat}{c d:Client}(h:w.clients[i]?=some c)(hd:Lx w.now c d):bC {w with clients:=w.clients.set i d}:=
 have hc:=List.mem_of_getElem? h
 {g with
  nd:=by
   show ((w.clients.set i d).map (·.host)).Nodup
   rw [js h hd.host]
   exact g.nd
  cl:=fun x hx=>by
   rcases List.mem_or_eq_of_mem_set hx with q|q
   ·exact g.cl x q
   ·rw [q];exact hd.good
  Hu:=fun x hx t ht=>by
   rcases List.mem_or_eq_of_mem_set hx with q|q
   ·exact g.Hu x q t ht
   ·subst q
    rcases hd.due with e|⟨t',e,dy⟩
    ·exact g.Hu c hc t (by rw [←e];exact ht)
    ·rw [e] at ht
     cases ht
     exact dy
  dW:=fun x hx m hm=>by
   rcases List.mem_or_eq_of_mem_set hx with q|q
   ·exact g.dW x q m hm
   ·subst q
    exact g.dW c hc m (by rw [←hd.place];exact hm)
  sM:=by
   show (w.clients.set i d).length≤64
   rw [List.length_set]
   exact g.sM}
structure Hv (m:Msg):Prop where
 hops:m.hops=0
 marks:m.marks= []
theorem xu {w:World}(g:bC w){c d:Client}(hc:c∈w.clients)(hp:d.place=c.place){l:List Msg}(hl:∀m∈l,Hv m):∀u∈outOf d l,iB w.relays.length w.servers u:=by
 intro u hu
 unfold outOf at hu
 split at hu
 ·cases hu
 ·rename_i p e
  obtain ⟨m,hm,rfl⟩:=List.mem_map.mp hu
  have hs:=hl m hm
  have hr:=g.dW c hc p (by rw [←hp];exact e)
  refine ⟨(by show m.marks.length≤32;rw [hs.marks];decide),(by show m.hops≤16;rw [hs.hops];decide),fun r c e=> ?_,fun s e=>(by cases e),.inl ⟨fun r e=>(by cases e),fun r c e=>(by cases e)⟩⟩
  cases e
  exact ⟨hr,(by show m.marks.length≤_;rw [hs.marks];exact Nat.zero_le _)⟩
theorem c7 {now phase tries:Nat}{f:Nat→Nat}{kind:Nat}{sv:Option Nat}{addr:Nat}{c:Client}:∀m∈(sends now phase tries f kind sv addr c).2,Hv m:=fun m hm=>by
 have e:m={host:=c.host,number:=c.counter + 1,kind:=kind,server:=sv,addr:=addr}:=by simpa [sends] using hm
 subst e
 exact ⟨rfl,rfl⟩
theorem nY (now:Nat)(l:Lease)(c:Client):∀m∈(settle now l c).2,Hv m:=by
 unfold settle
 intro m hm
 split at hm
 ·cases hm
 ·split at hm
  ·exact c7 m hm
  ·split at hm
   ·exact c7 m hm
   ·exact c7 m hm
theorem Hw (now:Nat)(c:Client):∀m∈(acts now c).2,Hv m:=by
 unfold acts
 intro m hm
 split at hm
 ·exact c7 m hm
 ·exact c7 m hm
 ·split at hm <;>exact c7 m hm
 ·split at hm
  ·exact c7 m hm
  ·exact nY _ _ _ m hm
 ·exact nY _ _ _ m hm
 ·cases hm
theorem EH (now:Nat)(c:Client)(x:Msg):∀m∈(hears now c x).2,Hv m:=by
 unfold hears
 intro m hm
 split at hm
 ·cases hm
 ·split at hm
  ·dsimp only at hm
   split at hm <;>cases hm
  ·split at hm
   ·exact nY _ _ _ m hm
   ·cases hm
  ·split at hm
   ·exact c7 m hm
   ·cases hm
  ·cases hm
theorem ue {w:World}(g:bC w){i:Nat}{c:Client}{y:Done}(h:w.clients[i]?=some c)(hd:Lx w.now c y.1)(hs:∀m∈y.2,Hv m):bC (done w y):=by
 unfold done
 rw [br g.nd h hd.host]
 exact zM (xt g h hd) (xu g (List.mem_of_getElem? h) hd.place hs)
theorem mf {w:World}{r:Nat}{x:Relay}(h:w.relays[r]?=some x):relayAt w r=x:=by
 unfold relayAt
 rw [List.getD_eq_getElem?_getD,h]
 rfl
theorem Dc {w:World}(g:bC w){s:Nat}{m:Msg}(hm:m.marks.length≤32):
  bC (served w s m).1∧(served w s m).1.relays=w.relays∧(served w s m).1.servers=w.servers∧(served w s m).1.bag=w.bag∧(served w s m).1.cap=w.cap∧(served w s m).1.written.length≤w.written.length + 1∧∀u∈(served w s m).2,iB w.relays.length w.servers u:=by
 have hb:∀ (kind addr len:Nat),(kind=2∨kind=4∨kind=5)→∀u∈ [({place:= .down 0,msg:={m with kind:=kind,server:=some s,addr:=addr,len:=len,hops:=0} }:Under)],iB w.relays.length w.servers u:=by
  intro kind addr len hk u hu
  have e:u={place:= .down 0,msg:={m with kind:=kind,server:=some s,addr:=addr,len:=len,hops:=0} }:=by simpa using hu
  subst e
  exact ⟨hm,Nat.zero_le _,fun r c e=>(by cases e),fun s e=>(by cases e),.inr ⟨rfl,hk⟩⟩
 have hw:∀ (x:Written)(l:List Written),(write x l).length≤l.length + 1:=by
  intro x l
  induction l with
  |nil=>exact Nat.le_refl _
  |cons y l ih=>
   unfold write
   split
   ·simp
   ·simp only [List.length_cons];omega
 have self:∀l:List Under,(∀u∈l,iB w.relays.length w.servers u)→bC w∧w.relays=w.relays∧w.servers=w.servers∧w.bag=w.bag∧w.cap=w.cap∧w.written.length≤w.written.length + 1∧∀u∈l,iB w.relays.length w.servers u:=
  fun l hl=>⟨g,rfl,rfl,rfl,rfl,Nat.le_succ _,hl⟩
 have nil:∀u∈([] :List Under),iB w.relays.length w.servers u:=fun u hu=>by cases hu
 unfold served
 dsimp only
 split
 ·exact self _ nil
 ·split
  ·exact self _ nil
  ·split
   ·exact self _ (hb _ _ _ (.inl rfl))
   ·split
    ·exact self _ nil
    ·split
     ·split
      ·exact ⟨{g with Qv:=Ka g.Qv},rfl,rfl,rfl,rfl,hw _ _,hb _ _ _ (.inr (.inl rfl))⟩
      ·exact self _ (hb _ _ _ (.inr (.inr rfl)))
     ·split
      ·exact self _ (hb _ _ _ (.inr (.inr rfl)))
      ·exact self _ nil
   ·exact self _ nil
theorem sN {w:World}(g:bC w){u:Under}(hu:iB w.relays.length w.servers u):
  bC (handled w u).1∧(handled w u).1.relays=w.relays∧(handled w u).1.servers=w.servers∧(handled w u).1.bag=w.bag∧(handled w u).1.cap=w.cap∧(handled w u).1.written.length≤w.written.length + 1∧∀v∈(handled w u).2,iB w.relays.length w.servers v:=by
 have self:∀l:List Under,(∀u∈l,iB w.relays.length w.servers u)→bC w∧w.relays=w.relays∧w.servers=w.servers∧w.bag=w.bag∧w.cap=w.cap∧w.written.length≤w.written.length + 1∧∀u∈l,iB w.relays.length w.servers u:=
  fun l hl=>⟨g,rfl,rfl,rfl,rfl,Nat.le_succ _,hl⟩
 have nil:∀u∈([] :List Under),iB w.relays.length w.servers u:=fun u hu=>by cases hu
 unfold handled
 split
 ·rename_i r c dB
  dsimp only
  split
  ·exact self _ nil
  ·split
   ·exact self _ nil
   ·rename_i h1 h2
    refine self _ fun v hv=> ?_
    obtain ⟨hr,hk⟩:=hu.up r c dB
    obtain ⟨x,hx⟩:∃x,w.relays[r]?=some x:=⟨_,List.getElem?_eq_getElem hr⟩
    have ex:=mf hx
    have Tb:=g.limit x (List.mem_of_getElem? hx)
    rw [ex] at h2 hv
    have dy:u.msg.hops < 16:=by omega
    split at hv
    ·rename_i a ha
     have e:v={place:= .up a.relay a.circuit,msg:={u.msg with hops:=u.msg.hops + 1,marks:={relay:=r,circuit:=c}::u.msg.marks} }:=by simpa using hv
     subst e
     have va:0 < r:=by
      cases r with
      |zero=>
       obtain ⟨y,hy,Y5⟩:=g.root
       rw [hy] at hx
       cases hx
       rw [Y5] at ha
       cases ha
      |succ r=>exact Nat.succ_pos _
     obtain ⟨m,Rx,hm2⟩:=g.tree r x hx va
     rw [ha] at Rx
     cases Rx
     refine ⟨(by show u.msg.marks.length + 1≤32;omega),(by show u.msg.hops + 1≤16;omega),fun r' c' e=> ?_,fun s e=>(by cases e),.inl ⟨fun r e=>(by cases e),fun r c e=>(by cases e)⟩⟩
     cases e
     exact ⟨Nat.lt_trans hm2 hr,(by show u.msg.marks.length + 1≤16 + (u.msg.hops + 1);omega)⟩
    ·obtain ⟨s,hs,rfl⟩:=List.mem_map.mp hv
     refine ⟨(by show u.msg.marks.length + 1≤32;omega),(by show u.msg.hops + 1≤16;omega),fun r' c' e=>(by cases e),fun s' e=> ?_,.inl ⟨fun r e=>(by cases e),fun r c e=>(by cases e)⟩⟩
     cases e
     exact List.mem_range.mp hs
 ·exact Dc g hu.marks
 ·rename_i r dB
  have hb:u.msg.server.isSome=true∧(u.msg.kind=2∨u.msg.kind=4∨u.msg.kind=5):=by
   rcases hu.back with q|q
   ·exact absurd dB (q.1 r)
   ·exact q
  split
  ·exact self _ nil
  ·rename_i k l y9
   have hl:l.length≤32:=by
    have:=hu.marks
    rw [y9] at this
    simp only [List.length_cons] at this
    omega
   split
   ·exact self _ nil
   ·dsimp only
    refine self _ fun v hv=> ?_
    split at hv
    ·rename_i q _
     have e:v={place:= .down q,msg:={u.msg with marks:=l} }:=by simpa using hv
     subst e
     exact ⟨hl,hu.hops,fun r c e=>(by cases e),fun s e=>(by cases e),.inr hb⟩
    ·have e:v={place:= .circuit k.relay k.circuit,msg:={u.msg with marks:=l} }:=by simpa using hv
     subst e
     exact ⟨hl,hu.hops,fun r c e=>(by cases e),fun s e=>(by cases e),.inr hb⟩
 ·split
  ·exact self _ nil
  ·rename_i x hx
   split
   ·obtain ⟨hm,_⟩:=je hx
    obtain ⟨i,hi⟩:=List.getElem?_of_mem hm
    have hd:=Ht w.now (g.cl x hm) u.msg
    dsimp only
    rw [br g.nd hi hd.host]
    exact ⟨xt g hi hd,rfl,rfl,rfl,rfl,Nat.le_succ _,xu g hm hd.place (EH _ _ _)⟩
   ·exact self _ nil
theorem mh {w:World}(g:bC w)(k:Nat):bC {w with bag:=w.bag.eraseIdx k}:=
 {g with
  bag:=by
   show (w.bag.eraseIdx k).length≤w.cap
   have:=g.bag
   rw [List.length_eraseIdx]
   split <;>omega
  msgs:=fun u hu=>g.msgs u (List.mem_of_mem_eraseIdx hu)}
theorem gg {w:World}(g:bC w)(k:Nat):bC (delivered w k).1∧(delivered w k).1.written.length≤w.written.length + 1:=by
 unfold delivered
 split
 ·exact ⟨g,Nat.le_succ _⟩
 ·rename_i u hu
  have g1:=mh g k
  obtain ⟨h1,h2,h3,h4,h5,h6,h7⟩:=sN g1 (u:=u) (g.msgs u (List.mem_of_getElem? hu))
  dsimp only
  refine ⟨zM h1 fun v hv=>by rw [h2,h3];exact h7 v hv,?_⟩
  rw [fe]
  exact h6
theorem xw:∀ (n:Nat){w:World},bC w→bC (flows n w).1∧(flows n w).1.written.length≤w.written.length + n
 |0,w,g=>⟨g,Nat.le_refl _⟩
 |n + 1,w,g=>by
  unfold flows
  split
  ·exact ⟨g,Nat.le_add_right _ _⟩
  ·obtain ⟨g1,h1⟩:=gg g 0
   obtain ⟨g2,h2⟩:=xw n g1
   exact ⟨g2,(by show (flows n (delivered w 0).1).1.written.length≤_;omega)⟩
end Rl
namespace Rl
open Vbcnag
theorem kC {w:World}{h:Nat}(e:clientOf w h=none):h ∉ w.clients.map (·.host):=by
 intro q
 obtain ⟨c,hc,rfl⟩:=List.mem_map.mp q
 unfold clientOf at e
 rw [List.find?_eq_none] at e
 exact e c hc (by simp)
theorem xx {w:World}(g:bC w){i:Nat}{c:Client}(h:w.clients[i]?=some c)(p:Option Mark)(hp:∀m,p=some m→m.relay < w.relays.length):bC {w with clients:=w.clients.set i {c with place:=p} }:=
 have hc:=List.mem_of_getElem? h
 {g with
  nd:=by
   show ((w.clients.set i {c with place:=p}).map (·.host)).Nodup
   rw [js (d:={c with place:=p}) h rfl]
   exact g.nd
  cl:=fun x hx=>by
   rcases List.mem_or_eq_of_mem_set hx with q|q
   ·exact g.cl x q
   ·subst q
    have k:=g.cl c hc
    exact ⟨k.off,k.on,k.Y4,k.ask,k.held⟩
  Hu:=fun x hx t ht=>by
   rcases List.mem_or_eq_of_mem_set hx with q|q
   ·exact g.Hu x q t ht
   ·subst q
    exact g.Hu c hc t ht
  dW:=fun x hx m hm=>by
   rcases List.mem_or_eq_of_mem_set hx with q|q
   ·exact g.dW x q m hm
   ·subst q
    exact hp m hm
  sM:=by
   show (w.clients.set i {c with place:=p}).length≤64
   rw [List.length_set]
   exact g.sM}
theorem Hy {w:World}(g:bC w)(t:Nat)(ht:w.now + t≤TIMES):bC (ticks ((t + 1) * (w.clients.length + 1)) (w.now + t) w).1∧(ticks ((t + 1) * (w.clients.length + 1)) (w.now + t) w).1.written=w.written∧(ticks ((t + 1) * (w.clients.length + 1)) (w.now + t) w).1.now=w.now + t:=by
 have key:∀ (n:Nat)(v:World),mu (w.now + t) v.clients < n→qj v→(v.clients.length≤64∧(∀c∈v.clients,∀m,c.place=some m→m.relay < v.relays.length)∧v.relays=w.relays∧v.servers=w.servers∧v.cap=w.cap∧v.assigned=w.assigned∧v.written=w.written∧v.bag.length≤v.cap∧∀u∈v.bag,iB w.relays.length w.servers u)→
   bC (ticks n (w.now + t) v).1∧(ticks n (w.now + t) v).1.written=w.written∧(ticks n (w.now + t) v).1.now=w.now + t:=by
  intro n
  induction n with
  |zero=>intro v h;omega
  |succ n ih=>
   intro v hmu tg ⟨h1,h2,h3,h4,h5,h6,h7,h8,h9⟩
   have fin:(∀c∈v.clients,∀d,c.due=some d→w.now + t < d)→bC (ticks (n + 1) (w.now + t) v).1∧(ticks (n + 1) (w.now + t) v).1.written=w.written∧(ticks (n + 1) (w.now + t) v).1.now=w.now + t:=fun fj=>by
    rw [zL fj]
    refine ⟨⟨tg.nd,tg.cl,fj,h2,h1,?_,?_,?_,?_,?_,?_,h8,?_,ht,?_,?_⟩,h7,rfl⟩
    ·show v.relays.length≤64;rw [h3];exact g.C9
    ·show ∃r,v.relays[0]?=some r∧r.above=none;rw [h3];exact g.root
    ·show ∀ (i:Nat)(r:Relay),v.relays[i]?=some r→0 < i→∃m,r.above=some m∧m.relay < i;rw [h3];exact g.tree
    ·show ∀r∈v.relays,r.limit≤16;rw [h3];exact g.limit
    ·show 1≤v.servers∧v.servers≤4;rw [h4];exact g.Rw
    ·show 1≤v.cap∧v.cap≤10000;rw [h5];exact g.cap
    ·show ∀u∈v.bag,iB v.relays.length v.servers u;rw [h3,h4];exact h9
    ·show v.assigned.length≤128;rw [h6];exact g.asg
    ·show (v.written.map d3).Nodup;rw [h7];exact g.Qv
   cases hs:soonest (dues v) with
   |none=>
    have hn:=sH hs
    refine fin fun c hc d hd=> ?_
    have:(d,c.host)∈dues v:=fu.mpr ⟨c,hc,hd,rfl⟩
    rw [hn] at this
    cases this
   |some z=>
    obtain ⟨s,host⟩:=z
    obtain ⟨hm,fj⟩:=fq hs
    by_cases hle:s≤w.now + t
    ·obtain ⟨c,hc,hd,hh⟩:=fu.mp hm
     obtain ⟨i,hi⟩:=List.getElem?_of_mem hc
     subst hh
     have hp:=jf (tg.cl c hc) hd
     rw [zK tg hi hs hle]
     have e:=sJ (t:=s) tg hi hp
     have ao9:=xp tg hi hd hle
     have did:=(nX s (tg.cl c hc) hp).1
     obtain ⟨e1,e2,e3,e4,e5,e6,e7,e8⟩:=e
     refine ih (fh v s c) (by omega) (xo tg hi hp) ⟨?_,?_,e5.trans h3,e4.trans h4,e3.trans h5,e7.trans h6,e8.trans h7,?_,?_⟩
     ·rw [e1,List.length_set];exact h1
     ·rw [e1,e5]
      intro x hx m hm
      rcases List.mem_or_eq_of_mem_set hx with q|q
      ·exact h2 x q m hm
      ·subst q
       exact h2 c hc m (by rw [←did.place];exact hm)
     ·rw [e3]
      show (done {v with now:=s} (acts s c)).bag.length≤v.cap
      unfold done
      rw [fe]
      show (v.bag ++ List.take (v.cap - v.bag.length) _).length≤v.cap
      rw [List.length_append,List.length_take]
      omega
     ·show ∀u∈(done {v with now:=s} (acts s c)).bag,iB w.relays.length w.servers u
      unfold done
      rw [fe]
      intro u hu
      rcases List.mem_append.mp hu with q|q
      ·exact h9 u q
      ·have q':=List.mem_of_mem_take q
       unfold outOf at q'
       split at q'
       ·cases q'
       ·rename_i p ep
        obtain ⟨m,OO,rfl⟩:=List.mem_map.mp q'
        have sn:=Hw s c m OO
        have hr:=h2 c hc p (by rw [←did.place];exact ep)
        rw [h3] at hr
        refine ⟨(by show m.marks.length≤32;rw [sn.marks];decide),(by show m.hops≤16;rw [sn.hops];decide),fun r c e=> ?_,fun s e=>(by cases e),.inl ⟨fun r e=>(by cases e),fun r c e=>(by cases e)⟩⟩
        cases e
        exact ⟨hr,(by show m.marks.length≤_;rw [sn.marks];exact Nat.zero_le _)⟩
    ·refine fin fun c hc d hd=> ?_
     have:=fj (d,c.host) (fu.mpr ⟨c,hc,hd,rfl⟩)
     unfold fo at this
     dsimp only at this
     omega
 exact key _ w (xq g.Hu) g.t ⟨g.sM,g.dW,rfl,rfl,rfl,rfl,rfl,g.bag,g.msgs⟩
theorem bh {x lo hi:Int}:within x lo hi=true ↔ lo≤x∧x≤hi:=by
 unfold within
 rw [Bool.and_eq_true,decide_eq_true_eq,decide_eq_true_eq]
theorem mj {w:World}{r:Int}(h:isRelay w r=true):0≤r∧r.toNat < w.relays.length:=by
 have:=bh.mp h
 omega
theorem d4 {w:World}(g:bC w){host:Int}{f:Client→World×Answer}(h:∀ (i:Nat)(c:Client),w.clients[i]?=some c→bC (f c).1∧(f c).1.written.length≤w.written.length + 1000):
  bC (withClient w host f).1∧(withClient w host f).1.written.length≤w.written.length + 1000:=by
 unfold withClient
 split
 ·exact ⟨g,Nat.le_add_right _ _⟩
 ·split
  ·exact ⟨g,Nat.le_add_right _ _⟩
  ·rename_i c hc
   obtain ⟨i,hi⟩:=List.getElem?_of_mem (je hc).1
   exact h i c hi
theorem nZ:∀ (n:Nat)(l:List Int),l.length≤2 * n→(marksIn l).length≤n
 |n,[],_=>by simp [marksIn]
 |n,[a],_=>by simp [marksIn]
 |0,a::b::l,h=>by simp at h
 |n + 1,a::b::l,h=>by
  have:=nZ n l (by simp only [List.length_cons] at h;omega)
  simp only [marksIn,List.length_cons]
  omega
theorem Bx {w:World}(g:bC w)(c:Call):bC (inWorld w c).1∧(inWorld w c).1.written.length≤w.written.length + 1000:=by
 have self:bC w∧w.written.length≤w.written.length + 1000:=⟨g,Nat.le_add_right _ _⟩
 cases c with
 |begin=>exact self
 |wrong=>exact self
 |relay p c l=>
  unfold inWorld
  dsimp only
  split
  ·exact self
  ·split
   ·exact self
   ·split
    ·exact self
    ·split
     ·exact self
     ·rename_i h1 h2 h3 h4
      simp only [Bool.not_eq_false,Bool.and_eq_true] at h1
      have hb:w.bag= [] :=Classical.not_not.mp h4
      refine ⟨{g with dW:=fun x hx m hm=> ?_,C9:= ?_,root:= ?_,tree:= ?_,limit:= ?_,msgs:= ?_},Nat.le_add_right _ _⟩
      ·have:=g.dW x hx m hm
       show m.relay < (w.relays ++ _).length
       rw [List.length_append];omega
      ·show (w.relays ++ [_]).length≤64
       rw [List.length_append];simp only [List.length_cons,List.length_nil];omega
      ·obtain ⟨r,hr,ha⟩:=g.root
       refine ⟨r,?_,ha⟩
       show (w.relays ++ [_])[0]?=some r
       rw [List.getElem?_append_left (List.getElem?_eq_some_iff.mp hr).1];exact hr
      ·intro i r hi OS
       have Nv:(w.relays ++ [({above:=some (mark p c),limit:=l.toNat}:Relay)])[i]?=some r:=hi
       by_cases q:i < w.relays.length
       ·rw [List.getElem?_append_left q] at Nv
        exact g.tree i r Nv OS
       ·rw [List.getElem?_append_right (Nat.not_lt.mp q)] at Nv
        have hi0:i - w.relays.length=0:=by
         cases e:i - w.relays.length with
         |zero=>rfl
         |succ k=>rw [e] at Nv;simp at Nv
        rw [hi0] at Nv
        have er:r={above:=some (mark p c),limit:=l.toNat}:=by simpa using Nv.symm
        subst er
        refine ⟨_,rfl,?_⟩
        have:=(mj h1.1).2
        show p.toNat < i
        omega
      ·intro r hr
       rcases List.mem_append.mp hr with q|q
       ·exact g.limit r q
       ·have er:r={above:=some (mark p c),limit:=l.toNat}:=by simpa using q
        subst er
        have:=bh.mp h1.2.2
        show l.toNat≤16
        omega
      ·intro u hu
       have hu':u∈w.bag:=hu
       rw [hb] at hu'
       cases hu'
 |plug host r c=>
  unfold inWorld
  dsimp only
  split
  ·exact self
  ·split
   ·exact self
   ·split
    ·exact self
    ·rename_i h1 h2 h3
     simp only [Bool.not_eq_false,Bool.and_eq_true] at h1
     have hr:=(mj h1.2.1).2
     split
     ·rename_i x hx
      obtain ⟨i,hi⟩:=List.getElem?_of_mem (je hx).1
      dsimp only
      rw [br g.nd hi (by rfl)]
      refine ⟨xx g hi _ fun m hm=> ?_,Nat.le_add_right _ _⟩
      cases hm
      exact hr
     ·rename_i hx
      split
      ·exact self
      ·rename_i h4
       refine ⟨{g with nd:= ?_,cl:= ?_,Hu:= ?_,dW:= ?_,sM:= ?_},Nat.le_add_right _ _⟩
       ·show ((w.clients ++ [_]).map (fun x:Client=>x.host)).Nodup
        rw [List.map_append]
        exact jG g.nd (kC hx)
       ·intro x hm
        rcases List.mem_append.mp hm with q|q
        ·exact g.cl x q
        ·have ex:x={host:=host.toNat,place:=some (mark r c)}:=by simpa using q
         subst ex
         exact ⟨fun _=>rfl,fun h=>absurd rfl h,Nat.zero_le _,fun h=>(by cases h),fun h=>(by cases h)⟩
       ·intro x hm d hd
        rcases List.mem_append.mp hm with q|q
        ·exact g.Hu x q d hd
        ·have ex:x={host:=host.toNat,place:=some (mark r c)}:=by simpa using q
         subst ex
         cases hd
       ·intro x hm m hp
        rcases List.mem_append.mp hm with q|q
        ·exact g.dW x q m hp
        ·have ex:x={host:=host.toNat,place:=some (mark r c)}:=by simpa using q
         subst ex
         cases hp
         exact hr
       ·show (w.clients ++ [_]).length≤64
        rw [List.length_append];simp only [List.length_cons,List.length_nil];omega
 |unplug host=>
  refine d4 g fun i c hi=> ?_
  split
  ·exact self
  ·dsimp only
   rw [br g.nd hi (by rfl)]
   exact ⟨xx g hi _ fun m hm=>(by cases hm),Nat.le_add_right _ _⟩
 |on host=>
  refine d4 g fun i c hi=> ?_
  split
  ·exact self
  ·dsimp only
   have wr:∀y:Done,(done w y).written=w.written:=fun y=>by
    unfold done
    rw [fe]
    rfl
   refine ⟨?_,by rw [wr];exact Nat.le_add_right _ _⟩
   split
   ·exact ue g hi (lh _ _ _).1 c7
   ·rename_i l hl
    split
    ·exact ue g hi (sG _ _ _ (by rw [hl];rfl)).1 c7
    ·exact ue g hi (lh _ _ _).1 c7
 |off host=>
  refine d4 g fun i c hi=> ?_
  split
  ·exact self
  ·dsimp only
   rw [br g.nd hi (by rfl)]
   have hc:=List.mem_of_getElem? hi
   refine ⟨{g with nd:= ?_,cl:= ?_,Hu:= ?_,dW:= ?_,sM:= ?_},Nat.le_add_right _ _⟩
   ·show ((w.clients.set i {c with phase:=0,number:=0,sent:=0,tries:=0,due:=none,best:=none}).map (fun x:Client=>x.host)).Nodup
    rw [js (d:={c with phase:=0,number:=0,sent:=0,tries:=0,due:=none,best:=none}) hi rfl]
    exact g.nd
   ·intro x hx
    rcases List.mem_or_eq_of_mem_set hx with q|q
    ·exact g.cl x q
    ·subst q
     exact ⟨fun _=>rfl,fun h=>absurd rfl h,Nat.zero_le _,fun h=>(by cases h),fun h=>(by cases h)⟩
   ·intro x hx d hd
    rcases List.mem_or_eq_of_mem_set hx with q|q
    ·exact g.Hu x q d hd
    ·subst q
     cases hd
   ·intro x hx m hm
    rcases List.mem_or_eq_of_mem_set hx with q|q
    ·exact g.dW x q m hm
    ·subst q
     exact g.dW c hc m hm
   ·show (w.clients.set i _).length≤64
    rw [List.length_set]
    exact g.sM
 |forget host=>
  refine d4 g fun i c hi=> ?_
  split
  ·exact self
  ·rename_i Y6
   have hp0:c.phase=0:=Classical.not_not.mp Y6
   dsimp only
   rw [br g.nd hi (by rfl)]
   have k:=g.cl c (List.mem_of_getElem? hi)
   exact ⟨xt g hi ⟨⟨k.off,k.on,k.Y4,k.ask,fun h=>absurd (show 3≤c.phase from h) (by omega)⟩,rfl,rfl,.inl rfl⟩,Nat.le_add_right _ _⟩
 |assign s host r a l=>
  unfold inWorld
  dsimp only
  split
  ·exact self
  ·split
   ·refine ⟨{g with asg:= ?_},Nat.le_add_right _ _⟩
    show (w.assigned.map _).length≤128
    rw [List.length_map]
    exact g.asg
   ·split
    ·exact self
    ·refine ⟨{g with asg:= ?_},Nat.le_add_right _ _⟩
     show (w.assigned ++ [_]).length≤128
     rw [List.length_append];simp only [List.length_cons,List.length_nil];omega
 |withdraw s host r=>
  unfold inWorld
  dsimp only
  split
  ·exact self
  ·split
   ·exact self
   ·refine ⟨{g with asg:= ?_},Nat.le_add_right _ _⟩
    exact Nat.le_trans (List.length_filter_le _ _) g.asg
 |rest s x=>
  unfold inWorld
  dsimp only
  split
  ·exact self
  ·exact ⟨{g with},Nat.le_add_right _ _⟩
 |tick t=>
  unfold inWorld
  dsimp only
  split
  ·exact self
  ·split
   ·exact self
   ·rename_i h1 h2
    obtain ⟨k1,k2,_⟩:=Hy g t.toNat (by omega)
    exact ⟨k1,by dsimp only;rw [k2];exact Nat.le_add_right _ _⟩
 |deliver k=>
  unfold inWorld
  dsimp only
  split
  ·exact self
  ·obtain ⟨k1,k2⟩:=gg g k.toNat
   exact ⟨k1,by dsimp only;omega⟩
 |lose k=>
  unfold inWorld
  dsimp only
  split
  ·exact self
  ·exact ⟨mh g _,Nat.le_add_right _ _⟩
 |double k=>
  unfold inWorld
  dsimp only
  split
  ·exact self
  ·split
   ·exact self
   ·rename_i h1 h2
    have hf:¬w.cap≤w.bag.length:=fun q=>h2 (by unfold full;exact decide_eq_true q)
    refine ⟨{g with bag:= ?_,msgs:= ?_},Nat.le_add_right _ _⟩
    ·show (w.bag ++ (w.bag[k.toNat]?).toList).length≤w.cap
     rw [List.length_append]
     cases e:w.bag[k.toNat]? with
     |none=>simp only [Option.toList,List.length_nil];omega
     |some u=>simp only [Option.toList,List.length_cons,List.length_nil];omega
    ·intro u hu
     rcases List.mem_append.mp hu with q|q
     ·exact g.msgs u q
     ·cases e:w.bag[k.toNat]? with
      |none=>rw [e] at q;cases q
      |some v=>
       rw [e] at q
       have ev:u=v:=by simpa [Option.toList] using q
       rw [ev]
       exact g.msgs v (List.mem_of_getElem? e)
 |flow m=>
  unfold inWorld
  dsimp only
  split
  ·exact self
  ·rename_i h1
   have hm:=bh.mp (by simpa using h1)
   obtain ⟨k1,k2⟩:=xw m.toNat g
   exact ⟨k1,by dsimp only;omega⟩
 |forge r c host n kind s a hops marks=>
  unfold inWorld
  dsimp only
  split
  ·exact self
  ·split
   ·exact self
   ·split
    ·exact self
    ·split
     ·exact self
     ·split
      ·exact self
      ·rename_i h1 h2 h3 h4 h5
       simp only [Bool.not_eq_false,Bool.and_eq_true] at h1
       have hf:¬w.cap≤w.bag.length:=fun q=>h5 (by unfold full;exact decide_eq_true q)
       have hl:marks.length≤32:=by
        by_cases q:32 < marks.length
        ·exact absurd (.inr (.inl q)) h2
        ·omega
       have hk:=nZ 16 marks (by omega)
       have hh:=bh.mp h1.2.2.2.2.2.2.2
       have hr:=(mj h1.1).2
       refine ⟨{g with bag:= ?_,msgs:= ?_},Nat.le_add_right _ _⟩
       ·show (w.bag ++ [_]).length≤w.cap
        rw [List.length_append];simp only [List.length_cons,List.length_nil];omega
       ·intro u hu
        rcases List.mem_append.mp hu with q|q
        ·exact g.msgs u q
        ·have e:=List.mem_singleton.mp q
         subst e
         refine ⟨(by show (marksIn marks).length≤32;omega),(by show hops.toNat≤16;omega),fun r' c' e=> ?_,fun s e=>(by cases e),.inl ⟨fun r e=>(by cases e),fun r c e=>(by cases e)⟩⟩
         cases e
         exact ⟨hr,(by show (marksIn marks).length≤16 + hops.toNat;omega)⟩
 |client host=>exact d4 g fun i c hi=>self
 |written s host=>
  unfold inWorld
  dsimp only
  split <;>exact self
 |peek k=>
  unfold inWorld
  dsimp only
  split <;>exact self
 |path r c=>
  unfold inWorld
  dsimp only
  split <;>exact self
 |next=>exact self
 |state=>exact self
def zN (n:Nat):Option World→Prop
 |none=>True
 |some w=>bC w∧w.written.length≤1000 * n
theorem Hz {n:Nat}{s:Option World}(g:zN n s)(c:Call):zN (n + 1) (Vbcnag.step s c).1:=by
 have same:zN (n + 1) s:=by
  cases s with
  |none=>trivial
  |some w=>exact ⟨g.1,by have:=g.2;omega⟩
 have main:∀w,s=some w→zN (n + 1) (some (inWorld w c).1):=fun w e=>by
  subst e
  have:=Bx g.1 c
  have h2:=g.2
  exact ⟨this.1,by have:=this.2;omega⟩
 unfold Vbcnag.step
 split
 ·exact same
 ·split
  ·exact same
  ·rename_i n' cap t h
   simp only [Bool.not_eq_false,Bool.and_eq_true] at h
   have h1:=bh.mp h.1
   have h2:=bh.mp h.2.1
   have h3:=bh.mp h.2.2
   exact ⟨EG (by omega) (by omega) (by omega),Nat.zero_le _⟩
 ·split
  ·trivial
  ·exact main _ rfl
end Rl
namespace Rl
open PySem PySem.Spec PyProof.Rows L2
open Vbcnag (Mark Msg Under Offer Lease Client Relay Assigned Written)
abbrev VW:=Vbcnag.World
def nV (n:Nat):V:= .int (n:Int)
def oV:Option Nat→V
 |none=> .bu
 |some n=>nV n
structure Cs where
 R:Addr
 M:Addr
 C:Addr
 W:Addr
structure Cs.Ok (C:Cs):Prop where
 wc:C.W≠C.C
 wr:C.W≠C.R
 wm:C.W≠C.M
 cr:C.C≠C.R
 cm:C.C≠C.M
def Fix (C:Cs):HO→Prop
 | .tup _=>True
 | .ins c _ _=>c=C.R∨c=C.M
 |_=>False
def c9 (C:Cs)(H H':Hp):Prop:=∀b o,Fix C o→H b=some o→H' b=some o
theorem c9.trans {C:Cs}{H H1 H2:Hp}(a:c9 C H H1)(b:c9 C H1 H2):c9 C H H2:=fun c o f h=>b c o f (a c o f h)
theorem c9.tup {C:Cs}{H H':Hp}(k:c9 C H H'){b:Addr}{xs:List V}(h:H b=some (.tup xs)):H' b=some (.tup xs):=k b _ trivial h
theorem c9.upd {C:Cs}{H:Hp}{a:Addr}{u o:HO}(h:H a=some u)(n:¬Fix C u):c9 C H (upd H a o):=fun b x f e=>by
 rw [az (aW e h (fun q=>n (q ▸ f)))]
 exact e
def Dd (H:Hp):Option Mark→V→Prop
 |none,v=>v= .bu
 |some m,v=>∃b,v= .ref b∧H b=some (.tup [nV m.relay,nV m.circuit])
def HB (H:Hp):Option Offer→V→Prop
 |none,v=>v= .bu
 |some o,v=>∃b,v= .ref b∧H b=some (.tup [nV o.server,nV o.addr,nV o.len])
def Kb (H:Hp):Option Lease→V→Prop
 |none,v=>v= .bu
 |some l,v=>∃b,v= .ref b∧H b=some (.tup [nV l.server,nV l.addr,nV l.half,nV l.late,nV l.till])
theorem Dd.keep {C:Cs}{H H':Hp}(k:c9 C H H'){p:Option Mark}{v:V}(h:Dd H p v):Dd H' p v:=by
 cases p with
 |none=>exact h
 |some m=>obtain ⟨b,e,q⟩:=h;exact ⟨b,e,k.tup q⟩
theorem HB.keep {C:Cs}{H H':Hp}(k:c9 C H H'){p:Option Offer}{v:V}(h:HB H p v):HB H' p v:=by
 cases p with
 |none=>exact h
 |some m=>obtain ⟨b,e,q⟩:=h;exact ⟨b,e,k.tup q⟩
theorem Kb.keep {C:Cs}{H H':Hp}(k:c9 C H H'){p:Option Lease}{v:V}(h:Kb H p v):Kb H' p v:=by
 cases p with
 |none=>exact h
 |some m=>obtain ⟨b,e,q⟩:=h;exact ⟨b,e,k.tup q⟩
def Y7 (p c l:V):List (Str×V):= [("parent",p),("circuit",c),("limit",l)]
def ke (C:Cs)(H:Hp)(a:Addr)(r:Relay):Prop:=∃d,H a=some (.ins C.R d (Y7 (oV (r.above.map (·.relay))) (oV (r.above.map (·.circuit))) (nV r.limit)))
def cH (H:Hp)(m:Mark)(v:V):Prop:=∃b,v= .ref b∧H b=some (.tup [nV m.relay,nV m.circuit])
def cF:Vbcnag.Place→List V
 | .up r c=> [nV 0,nV r,nV c]
 | .server s=> [nV 1,nV s,nV 0]
 | .down r=> [nV 2,nV r,nV 0]
 | .circuit r c=> [nV 3,nV r,nV c]
def Y8 (pl ho nu ki se ad le hp mk:V):List (Str×V):= [("place",pl),("host",ho),("number",nu),("kind",ki),("server",se),("address",ad),("length",le),("hops",hp),("marks",mk)]
def fL (C:Cs)(H:Hp)(a:Addr)(u:Under):Prop:=∃d p m xs,H a=some (.ins C.M d (Y8 (.ref p) (nV u.msg.host) (nV u.msg.number) (nV u.msg.kind) (oV u.msg.server) (nV u.msg.addr) (nV u.msg.len) (nV u.msg.hops) (.ref m)))∧
 H p=some (.tup (cF u.place))∧H m=some (.tup xs)∧Paired (cH H) u.msg.marks xs
def cfs (ho pl ph co nu se tr du be le:V):List (Str×V):= [("host",ho),("plugged",pl),("phase",ph),("counter",co),("awaited",nu),("sent",se),("tries",tr),("due",du),("offer",be),("lease",le)]
def qH (c:Client)(pl be le:V):List (Str×V):=cfs (nV c.host) pl (nV c.phase) (nV c.counter) (nV c.number) (nV c.sent) (nV c.tries) (oV c.due) be le
structure HC (H:Hp) (c:Client) (pl be le:V):Prop where
 pl:Dd H c.place pl
 be:HB H c.best be
 le:Kb H c.lease le
def dI (C:Cs)(H:Hp)(a:Addr)(c:Client):Prop:=∃d pl be le,H a=some (.ins C.C d (qH c pl be le))∧HC H c pl be le
theorem HC.keep {C:Cs}{H H':Hp}(k:c9 C H H'){c:Client}{pl be le:V}(h:HC H c pl be le):HC H' c pl be le:=⟨h.pl.keep k,h.be.keep k,h.le.keep k⟩
theorem ke.keep {C:Cs}{H H':Hp}(k:c9 C H H'){a:Addr}{r:Relay}(h:ke C H a r):ke C H' a r:=by
 obtain ⟨d,e⟩:=h
 exact ⟨d,k a _ (.inl rfl) e⟩
theorem fL.keep {C:Cs}{H H':Hp}(k:c9 C H H'){a:Addr}{u:Under}(h:fL C H a u):fL C H' a u:=by
 obtain ⟨d,p,m,xs,e1,e2,e3,e4⟩:=h
 exact ⟨d,p,m,xs,k a _ (.inr rfl) e1,k.tup e2,k.tup e3,Paired.bV e4 fun m v ⟨b,e,q⟩=>⟨b,e,k.tup q⟩⟩
theorem dI.keep {C:Cs}{H H':Hp}(k:c9 C H H'){a:Addr}{c:Client}(e:∀o,H a=some o→H' a=some o)(h:dI C H a c):dI C H' a c:=by
 obtain ⟨d,pl,be,le,e1,r⟩:=h
 exact ⟨d,pl,be,le,e _ e1,r.keep k⟩
def wfs (no sv ca re hu cl rs ag wr bg:V):List (Str×V):= [("now",no),("servers",sv),("cap",ca),("relays",re),("hung",hu),("clients",cl),("resting",rs),("assigned",ag),("written",wr),("bag",bg)]
structure Ad where
 w:Addr
 dw:Addr
 rl:Addr
 hd:Addr
 cd:Addr
 rs:Addr
 ag:Addr
 wr:Addr
 bg:Addr
def Ad.fs (A:Ad)(now servers cap:Nat):List (Str×V):=wfs (nV now) (nV servers) (nV cap) (.ref A.rl) (.ref A.hd) (.ref A.cd) (.ref A.rs) (.ref A.ag) (.ref A.wr) (.ref A.bg)
def uf (a b:Nat):List Key:= [.inl (a:Int),.inl (b:Int)]
def cC (a b c:Nat):List Key:= [.inl (a:Int),.inl (b:Int),.inl (c:Int)]
def fw (H:Hp)(p:List Key×V)(x:Assigned):Prop:=p.1=cC x.server x.host x.relay∧∃b,p.2= .ref b∧H b=some (.tup [nV x.addr,nV x.len])
def ba (cas:List Addr)(cs:List Client):List (Key×V):=List.zipWith (fun a c=>((Sum.inl (c.host:Int):Key),V.ref a)) cas cs
def bL (l:List Written):List (List Key×V):=l.map fun x=>(cC x.server x.host x.addr,nV x.till)
structure Rep (C:Cs) (H:Hp) (A:Ad) (cas:List Addr) (W:VW):Prop where
 cj:H A.w=some (.ins C.W A.dw (A.fs W.now W.servers W.cap))
 rl:∃ras:List Addr,H A.rl=some (.lst (ras.map V.ref))∧Paired (ke C H) ras W.relays
 hd:∃kvs,H A.hd=some (.dT kvs)∧kvs.length≤W.relays.length∧∀m:Mark,cN kvs (uf m.relay m.circuit)=(Vbcnag.below W m).map nV
 cd:H A.cd=some (.dK (ba cas W.clients))
 ca:Paired (dI C H) cas W.clients
 rs:∃bs:List Bool,H A.rs=some (.lst (bs.map V.bl))∧bs.length=W.servers∧∀ (s:Nat)(b:Bool),bs[s]?=some b→b=W.resting.contains s
 ag:∃kvs,H A.ag=some (.dT kvs)∧Paired (fw H) kvs W.assigned
 wr:H A.wr=some (.dT (bL W.written))
 bg:∃bas:List Addr,H A.bg=some (.lst (bas.map V.ref))∧Paired (fL C H) bas W.bag
 n1:A.rl≠A.rs∧A.rl≠A.bg∧A.rs≠A.bg
 n2:A.hd≠A.ag∧A.hd≠A.wr∧A.ag≠A.wr
 n3:cas.Nodup
 hn:(W.clients.map (·.host)).Nodup
def Ad.mut (A:Ad)(cas:List Addr)(b:Addr):Prop:=b=A.w∨b=A.rl∨b=A.hd∨b=A.cd∨b=A.rs∨b=A.ag∨b=A.wr∨b=A.bg∨b∈cas
def dv (A:Ad)(cas:List Addr)(H H':Hp):Prop:=∀b o,H b=some o→¬A.mut cas b→H' b=some o
theorem dv.refl {A:Ad}{cas:List Addr}{H:Hp}:dv A cas H H:=fun _ _ h _=>h
theorem dv.trans {A:Ad}{cas:List Addr}{H H1 H2:Hp}(a:dv A cas H H1)(b:dv A cas H1 H2):dv A cas H H2:=fun c o h n=>b c o (a c o h n) n
theorem dv.upd {A:Ad}{cas:List Addr}{H:Hp}{a:Addr}{o:HO}(h:A.mut cas a):dv A cas H (L2.upd H a o):=fun b x e n=>by
 rw [az (show b≠a from fun q=>n (by rw [q];exact h))]
 exact e
theorem Paired.at {α β:Type}{F:α→β→Prop}:∀ {l:List α}{m:List β}{i:Nat}{b:β},Paired F l m→m[i]?=some b→∃a,l[i]?=some a∧F a b
 |_,_,_,_,.nil,h=>by simp at h
 |_,_,0,_,.cons f _,h=>by
  have e:=Option.some.inj (show some _=some _ from h)
  exact ⟨_,rfl,e ▸ f⟩
 |_,_,i + 1,b,.cons _ t,h=>Paired.at (i:=i) t h
end Rl
namespace Rl
open PySem PySem.Spec PyProof.Rows L2
open Vbcnag (Mark Msg Under Offer Lease Client Relay Assigned Written)
theorem cb {α β:Type}{F:α→β→Prop}:∀ {l:List α}{m:List β},Paired F l m ↔ l.length=m.length∧∀ (i:Nat)(a:α)(b:β),l[i]?=some a→m[i]?=some b→F a b
 | [],[] =>⟨fun _=>⟨rfl,fun i a b h=>by simp at h⟩,fun _=> .nil⟩
 | [],b::m=>⟨fun h=>(nomatch h),fun h=>(by simp at h)⟩
 |a::l,[] =>⟨fun h=>(nomatch h),fun h=>(by simp at h)⟩
 |a::l,b::m=>by
  constructor
  ·intro h
   cases h with
   |cons q t=>
    obtain ⟨e,all⟩:=cb.mp t
    refine ⟨by simp [e],fun i x y h1 h2=> ?_⟩
    cases i with
    |zero=>
     have e1:a=x:=Option.some.inj h1
     have e2:b=y:=Option.some.inj h2
     exact e1 ▸ e2 ▸ q
    |succ i=>exact all i x y h1 h2
  ·rintro ⟨e,all⟩
   exact .cons (all 0 a b rfl rfl) (cb.mpr ⟨by simpa using e,fun i x y h1 h2=>all (i + 1) x y h1 h2⟩)
theorem Paired.vc {α β:Type}{F:α→β→Prop}{l:List α}{m:List β}{a:α}{b:β}(h:Paired F l m)(q:F a b):Paired F (l ++ [a]) (m ++ [b]):=Paired.snoc h q
theorem aj.ao {H:Hp}{a:Addr}{o:HO}(h:H a=none):aj H (L2.upd H a o):=fun b x e=>by
 rw [az (aF e h)]
 exact e
theorem aj.keep {C:Cs}{H H':Hp}(k:aj H H'):c9 C H H':=fun b o _ e=>k b o e
theorem aj.dq {A:Ad}{cas:List Addr}{H H':Hp}(k:aj H H'):dv A cas H H':=fun b o e _=>k b o e
theorem fw.keep {C:Cs}{H H':Hp}(k:c9 C H H'){p:List Key×V}{x:Assigned}(h:fw H p x):fw H' p x:=by
 obtain ⟨e,b,e2,q⟩:=h
 exact ⟨e,b,e2,k.tup q⟩
section
variable {C:Cs}{H H':Hp}{A:Ad}{cas:List Addr}{W:VW}
theorem Rep.same (R:Rep C H A cas W)(k:aj H H'):Rep C H' A cas W:=by
 have kk:c9 C H H':=aj.keep k
 obtain ⟨ras,h1,h2⟩:=R.rl
 obtain ⟨kvs,h3,h4,h5⟩:=R.hd
 obtain ⟨bs,h6,h7⟩:=R.rs
 obtain ⟨ks,h8,h9⟩:=R.ag
 obtain ⟨bas,sO,B6⟩:=R.bg
 exact ⟨k _ _ R.cj,⟨ras,k _ _ h1,Paired.bV h2 fun a b f=>f.keep kk⟩,⟨kvs,k _ _ h3,h4,h5⟩,k _ _ R.cd,Paired.bV R.ca fun a b f=>f.keep kk (fun o e=>k _ _ e),⟨bs,k _ _ h6,h7⟩,⟨ks,k _ _ h8,Paired.bV h9 fun a b f=>f.keep kk⟩,k _ _ R.wr,
  ⟨bas,k _ _ sO,Paired.bV B6 fun a b f=>f.keep kk⟩,R.n1,R.n2,R.n3,R.hn⟩
theorem EI {cas:List Addr}{cs:List Client}{i:Nat}{c c':Client}(h:cs[i]?=some c)(e:c'.host=c.host):ba cas (cs.set i c')=ba cas cs:=by
 unfold ba
 apply List.ext_getElem?
 intro j
 rw [List.getElem?_zipWith,List.getElem?_zipWith,List.getElem?_set]
 by_cases q:i=j
 ·subst q
  obtain ⟨hl,_⟩:=List.getElem?_eq_some_iff.mp h
  rw [if_pos rfl,if_pos hl,h]
  cases cas[i]? with
  |none=>rfl
  |some a=>show some _=some _;rw [e]
 ·rw [if_neg q]
theorem Rep.cli (R:Rep C H A cas W){i:Nat}{c:Client}(h:W.clients[i]?=some c):∃a,cas[i]?=some a∧dI C H a c:=Paired.at R.ca h
theorem Rep.fM (R:Rep C H A cas W){i:Nat}{c:Client}{a:Addr}(h:W.clients[i]?=some c)(ha:cas[i]?=some a):dI C H a c:=(cb.mp R.ca).2 i a c ha h
theorem Rep.setC (K:C.Ok)(R:Rep C H A cas W){i:Nat}{ca d:Addr}{c c':Client}{fs:List (Str×V)}{pl be le:V}(hi:cas[i]?=some ca)(hc:W.clients[i]?=some c)(hh:c'.host=c.host)(he:H ca=some (.ins C.C d fs))(hr:HC H c' pl be le):
  Rep C (L2.upd H ca (.ins C.C d (qH c' pl be le))) A cas {W with clients:=W.clients.set i c'}:=by
 have nf:¬Fix C (.ins C.C d fs):=fun q=>by
  rcases q with q|q
  ·exact K.cr q
  ·exact K.cm q
 have kk:c9 C H (L2.upd H ca (.ins C.C d (qH c' pl be le))):=c9.upd he nf
 have at_:∀ {b:Addr}{o:HO},H b=some o→o≠ .ins C.C d fs→L2.upd H ca (.ins C.C d (qH c' pl be le)) b=some o:=fun {b o} e n=>by
  rw [az (aW e he n)]
  exact e
 obtain ⟨ras,h1,h2⟩:=R.rl
 obtain ⟨kvs,h3,h4,h5⟩:=R.hd
 obtain ⟨bs,h6,h7⟩:=R.rs
 obtain ⟨ks,h8,h9⟩:=R.ag
 obtain ⟨bas,sO,B6⟩:=R.bg
 have P:=cb.mp R.ca
 refine ⟨at_ R.cj (fun q=> ?_),⟨ras,at_ h1 (fun q=>nomatch q),Paired.bV h2 fun a b f=>f.keep kk⟩,⟨kvs,at_ h3 (fun q=>nomatch q),h4,h5⟩,?_,?_,⟨bs,at_ h6 (fun q=>nomatch q),h7⟩,⟨ks,at_ h8 (fun q=>nomatch q),Paired.bV h9 fun a b f=>f.keep kk⟩,
  at_ R.wr (fun q=>nomatch q),⟨bas,at_ sO (fun q=>nomatch q),Paired.bV B6 fun a b f=>f.keep kk⟩,R.n1,R.n2,R.n3,?_⟩
 ·injection q with q1
  exact K.wc q1
 ·show L2.upd H ca _ A.cd=some (.dK (ba cas (W.clients.set i c')))
  rw [EI hc hh]
  exact at_ R.cd (fun q=>nomatch q)
 ·refine cb.mpr ⟨by show cas.length=(W.clients.set i c').length;rw [List.length_set];exact P.1,fun j a b ha hb=> ?_⟩
  have Ry:(W.clients.set i c')[j]?=some b:=hb
  by_cases q:i=j
  ·subst q
   obtain ⟨hl,_⟩:=List.getElem?_eq_some_iff.mp hc
   rw [List.getElem?_set_self hl] at Ry
   have eb:=Option.some.inj Ry
   have ea:=Option.some.inj (hi.symm.trans ha)
   subst eb ea
   exact ⟨d,pl,be,le,ab,hr.keep kk⟩
  ·rw [List.getElem?_set_ne q] at Ry
   have na:a≠ca:=fun z=>q (Nu R.n3 hi (z ▸ ha))
   exact (P.2 j a b ha Ry).keep kk fun o e=>by rw [az na];exact e
 ·show ((W.clients.set i c').map (·.host)).Nodup
  rw [js hc hh]
  exact R.hn
theorem Rep.EJ (R:Rep C H A cas W){bas:List Addr}{l:List Under}(h:Paired (fL C H) bas l):Rep C (L2.upd H A.bg (.lst (bas.map V.ref))) A cas {W with bag:=l}:=by
 obtain ⟨apd,sO,B6⟩:=R.bg
 have kk:c9 C H (L2.upd H A.bg (.lst (bas.map V.ref))):=c9.upd sO (fun q=>q)
 have at_:∀ {b:Addr}{o:HO},H b=some o→b≠A.bg→L2.upd H A.bg (.lst (bas.map V.ref)) b=some o:=fun {b o} e n=>by
  rw [az n]
  exact e
 obtain ⟨ras,h1,h2⟩:=R.rl
 obtain ⟨kvs,h3,h4,h5⟩:=R.hd
 obtain ⟨bs,h6,h7⟩:=R.rs
 obtain ⟨ks,h8,h9⟩:=R.ag
 refine ⟨at_ R.cj (aW R.cj sO (fun q=>nomatch q)),⟨ras,at_ h1 R.n1.2.1,Paired.bV h2 fun a b f=>f.keep kk⟩,⟨kvs,at_ h3 (aW h3 sO (fun q=>nomatch q)),h4,h5⟩,at_ R.cd (aW R.cd sO (fun q=>nomatch q)),
  Paired.bV R.ca fun a b f=>f.keep kk fun o e=> ?_,⟨bs,at_ h6 R.n1.2.2,h7⟩,⟨ks,at_ h8 (aW h8 sO (fun q=>nomatch q)),Paired.bV h9 fun a b f=>f.keep kk⟩,at_ R.wr (aW R.wr sO (fun q=>nomatch q)),
  ⟨bas,ab,Paired.bV h fun a b f=>f.keep kk⟩,R.n1,R.n2,R.n3,R.hn⟩
 obtain ⟨d,pl,be,le,e1,_⟩:=f
 exact at_ e (aW e1 sO (fun q=>nomatch q))
theorem Rep.Kc (K:C.Ok)(R:Rep C H A cas W)(t:Nat):Rep C (L2.upd H A.w (.ins C.W A.dw (A.fs t W.servers W.cap))) A cas {W with now:=t}:=by
 have h0:=R.cj
 have nf:¬Fix C (.ins C.W A.dw (A.fs W.now W.servers W.cap)):=fun q=>by
  rcases q with q|q
  ·exact K.wr q
  ·exact K.wm q
 have kk:c9 C H (L2.upd H A.w (.ins C.W A.dw (A.fs t W.servers W.cap))):=c9.upd h0 nf
 have at_:∀ {b:Addr}{o:HO},H b=some o→o≠ .ins C.W A.dw (A.fs W.now W.servers W.cap)→L2.upd H A.w (.ins C.W A.dw (A.fs t W.servers W.cap)) b=some o:=fun {b o} e n=>by
  rw [az (aW e h0 n)]
  exact e
 obtain ⟨ras,h1,h2⟩:=R.rl
 obtain ⟨kvs,h3,h4,h5⟩:=R.hd
 obtain ⟨bs,h6,h7⟩:=R.rs
 obtain ⟨ks,h8,h9⟩:=R.ag
 obtain ⟨bas,sO,B6⟩:=R.bg
 refine ⟨ab,⟨ras,at_ h1 (fun q=>nomatch q),Paired.bV h2 fun a b f=>f.keep kk⟩,⟨kvs,at_ h3 (fun q=>nomatch q),h4,h5⟩,at_ R.cd (fun q=>nomatch q),
  Paired.bV R.ca fun a b f=>f.keep kk fun o e=> ?_,⟨bs,at_ h6 (fun q=>nomatch q),h7⟩,⟨ks,at_ h8 (fun q=>nomatch q),Paired.bV h9 fun a b f=>f.keep kk⟩,at_ R.wr (fun q=>nomatch q),
  ⟨bas,at_ sO (fun q=>nomatch q),Paired.bV B6 fun a b f=>f.keep kk⟩,R.n1,R.n2,R.n3,R.hn⟩
 obtain ⟨d,pl,be,le,e1,_⟩:=f
 refine at_ e fun q=> ?_
 rw [e1] at e
 have e2:=Option.some.inj e
 rw [←e2] at q
 injection q with q1
 exact K.wc q1.symm
theorem Rep.NF (R:Rep C H A cas W){kvs:List (List Key×V)}{l:List Assigned}(h:Paired (fw H) kvs l):Rep C (L2.upd H A.ag (.dT kvs)) A cas {W with assigned:=l}:=by
 obtain ⟨ks,h8,h9⟩:=R.ag
 have kk:c9 C H (L2.upd H A.ag (.dT kvs)):=c9.upd h8 (fun q=>q)
 have at_:∀ {b:Addr}{o:HO},H b=some o→b≠A.ag→L2.upd H A.ag (.dT kvs) b=some o:=fun {b o} e n=>by
  rw [az n]
  exact e
 obtain ⟨ras,h1,h2⟩:=R.rl
 obtain ⟨EK,h3,h4,h5⟩:=R.hd
 obtain ⟨bs,h6,h7⟩:=R.rs
 obtain ⟨bas,sO,B6⟩:=R.bg
 refine ⟨at_ R.cj (aW R.cj h8 (fun q=>nomatch q)),⟨ras,at_ h1 (aW h1 h8 (fun q=>nomatch q)),Paired.bV h2 fun a b f=>f.keep kk⟩,⟨EK,at_ h3 R.n2.1,h4,h5⟩,at_ R.cd (aW R.cd h8 (fun q=>nomatch q)),
  Paired.bV R.ca fun a b f=>f.keep kk fun o e=> ?_,⟨bs,at_ h6 (aW h6 h8 (fun q=>nomatch q)),h7⟩,⟨kvs,ab,Paired.bV h fun a b f=>f.keep kk⟩,at_ R.wr (Ne.symm R.n2.2.2),
  ⟨bas,at_ sO (aW sO h8 (fun q=>nomatch q)),Paired.bV B6 fun a b f=>f.keep kk⟩,R.n1,R.n2,R.n3,R.hn⟩
 obtain ⟨d,pl,be,le,e1,_⟩:=f
 exact at_ e (aW e1 h8 (fun q=>nomatch q))
theorem Rep.Y9 (R:Rep C H A cas W)(l:List Written):Rep C (L2.upd H A.wr (.dT (bL l))) A cas {W with written:=l}:=by
 have h8:=R.wr
 have kk:c9 C H (L2.upd H A.wr (.dT (bL l))):=c9.upd h8 (fun q=>q)
 have at_:∀ {b:Addr}{o:HO},H b=some o→b≠A.wr→L2.upd H A.wr (.dT (bL l)) b=some o:=fun {b o} e n=>by
  rw [az n]
  exact e
 obtain ⟨ras,h1,h2⟩:=R.rl
 obtain ⟨EK,h3,h4,h5⟩:=R.hd
 obtain ⟨bs,h6,h7⟩:=R.rs
 obtain ⟨ks,hA,hB⟩:=R.ag
 obtain ⟨bas,sO,B6⟩:=R.bg
 refine ⟨at_ R.cj (aW R.cj h8 (fun q=>nomatch q)),⟨ras,at_ h1 (aW h1 h8 (fun q=>nomatch q)),Paired.bV h2 fun a b f=>f.keep kk⟩,⟨EK,at_ h3 R.n2.2.1,h4,h5⟩,at_ R.cd (aW R.cd h8 (fun q=>nomatch q)),
  Paired.bV R.ca fun a b f=>f.keep kk fun o e=> ?_,⟨bs,at_ h6 (aW h6 h8 (fun q=>nomatch q)),h7⟩,⟨ks,at_ hA R.n2.2.2,Paired.bV hB fun a b f=>f.keep kk⟩,ab,
  ⟨bas,at_ sO (aW sO h8 (fun q=>nomatch q)),Paired.bV B6 fun a b f=>f.keep kk⟩,R.n1,R.n2,R.n3,R.hn⟩
 obtain ⟨d,pl,be,le,e1,_⟩:=f
 exact at_ e (aW e1 h8 (fun q=>nomatch q))
theorem Rep.Za (R:Rep C H A cas W){bs:List Bool}{l:List Nat}(hl:bs.length=W.servers)(h:∀ (s:Nat)(b:Bool),bs[s]?=some b→b=l.contains s):Rep C (L2.upd H A.rs (.lst (bs.map V.bl))) A cas {W with resting:=l}:=by
 obtain ⟨bs0,h6,h7⟩:=R.rs
 have kk:c9 C H (L2.upd H A.rs (.lst (bs.map V.bl))):=c9.upd h6 (fun q=>q)
 have at_:∀ {b:Addr}{o:HO},H b=some o→b≠A.rs→L2.upd H A.rs (.lst (bs.map V.bl)) b=some o:=fun {b o} e n=>by
  rw [az n]
  exact e
 obtain ⟨ras,h1,h2⟩:=R.rl
 obtain ⟨EK,h3,h4,h5⟩:=R.hd
 obtain ⟨ks,h8,h9⟩:=R.ag
 obtain ⟨bas,sO,B6⟩:=R.bg
 refine ⟨at_ R.cj (aW R.cj h6 (fun q=>nomatch q)),⟨ras,at_ h1 R.n1.1,Paired.bV h2 fun a b f=>f.keep kk⟩,⟨EK,at_ h3 (aW h3 h6 (fun q=>nomatch q)),h4,h5⟩,at_ R.cd (aW R.cd h6 (fun q=>nomatch q)),
  Paired.bV R.ca fun a b f=>f.keep kk fun o e=> ?_,⟨bs,ab,hl,h⟩,⟨ks,at_ h8 (aW h8 h6 (fun q=>nomatch q)),Paired.bV h9 fun a b f=>f.keep kk⟩,at_ R.wr (aW R.wr h6 (fun q=>nomatch q)),
  ⟨bas,at_ sO (Ne.symm R.n1.2.2),Paired.bV B6 fun a b f=>f.keep kk⟩,R.n1,R.n2,R.n3,R.hn⟩
 obtain ⟨d,pl,be,le,e1,_⟩:=f
 exact at_ e (aW e1 h6 (fun q=>nomatch q))
end
end Rl
namespace Rl
open PySem PySem.Spec PyProof.Rows L2
open Vbcnag (Mark Msg Under Offer Lease Client Relay Assigned Written)
def cs (t:iU):Cs:=⟨t.bz,t.aK,t.aN,t.aX⟩
section
variable {P:Program}{w:World}{K:PySem.W.Frag}{mg:Str→Option Value}{base:Heap}{t:iU}
theorem eC (T:Txt K mg t):(cs t).Ok:=⟨Ne.symm T.Qlb,Ne.symm T.Qlg,Ne.symm T.Qld,Ne.symm T.Qle,Ne.symm T.Qlc⟩
def Zb (C:Cs):Sp:=fun vs H Q _=>∃ (A:Ad)(cas:List Addr)(W:VW)(m:Addr)(u:Under),vs= [.ref A.w,.ref m] ∧Rep C H A cas W∧W.bag.length≤10000∧fL C H m u∧
 ∀H',Rep C H' A cas (Vbcnag.puts W [u]).1→dv A cas H H'→Q .bu H'
theorem De {C:Cs}{H:Hp}{a:List Addr}{l:List Under}(h:Paired (fL C H) a l):(a.map V.ref).length=l.length:=by
 rw [List.length_map]
 exact Paired.length h
theorem xy (T:Txt K mg t):a7 P w K mg base dY 1 t.rB t.FF Fz (Zb (cs t)):=by
 refine T.wL.ok OU (fun vs H Q E h=> ?_) (fun de A0 outer s H vs Q E hr h=> ?_)
 ·obtain ⟨A,cas,W,m,u,rfl,_⟩:=h
  rfl
 ·obtain ⟨A,cas,W,m,u,rfl,R,hb,hm,k⟩:=h
  obtain ⟨bas,mJ,tm⟩:=R.bg
  refine ⟨_,ak (aZ (aI kK (aU aP (by rfl) T.Qlv PySem.boot_len (aa (ai (pv 0) rfl) af)) (ai (pv 0) rfl) (aM _))
   (ak (aG (gm PySem.F.plainAttrs_list PySem.F.slot_list_append PySem.F.type_list_append kL (ai (pv 0) rfl) (aa (pv 1) af)))) aR),?_⟩
  refine ⟨_,rfl,A.w,_,_,_,_,rfl,R.cj,T.aw,T.Qk2,rfl,A.bg,_,rfl,.inl (bT.of mJ),_,rfl,A.w,_,_,_,_,rfl,R.cj,T.aw,T.Qk3,rfl,_,_,rfl,rfl,_,rfl,?_⟩
  have hlen:=De tm
  have yc:decide (((bas.map V.ref).length:Int) < (W.cap:Int))=true ↔ W.bag.length < W.cap:=by
   rw [hlen,decide_eq_true_iff]
   omega
  refine dM (fun hc=> ?_) fun hc=> ?_
  ·have dy:=yc.mp hc
   refine ⟨_,rfl,A.w,_,_,_,_,rfl,R.cj,T.aw,T.Qk2,rfl,.inl ⟨rfl,_,bT.of mJ⟩,_,rfl,A.bg,_,_,rfl,rfl,mJ,(by rw [hlen];exact Nat.lt_of_le_of_lt hb (by decide)),?_⟩
   refine k _ ?_ (dv.upd (.inr (.inr (.inr (.inr (.inr (.inr (.inr (.inl rfl)))))))))
   rw [nW,if_pos dy]
   have:=R.EJ (bas:=bas ++ [m]) (l:=W.bag ++ [u]) (Paired.vc tm hm)
   rw [List.map_append] at this
   exact this
  ·have hge:¬W.bag.length < W.cap:=fun q=>hc (yc.mpr q)
   refine k _ ?_ dv.refl
   rw [nW,if_neg hge]
   exact R
end
end Rl
namespace Rl
open PySem PySem.Spec PyProof.Rows L2
open Vbcnag (Mark Msg Under Offer Lease Client Relay Assigned Written)
theorem lt1000 {n:Nat}(h:Nat.blt n 1000=true):n < 1000:=by simpa [Nat.blt_eq] using h
section
variable {P:Program}{w:World}{K:PySem.W.Frag}{mg:Str→Option Value}{base:Heap}{t:iU}
def Mt (C:Cs):Sp:=fun vs H Q _=>∃ (p d:Addr)(a b c:V),vs= [.ref p,a,b,c] ∧H p=some (.ins C.R d [])∧
 ∀H',H' p=some (.ins C.R d (Y7 a b c))→(∀b o,H b=some o→b≠p→H' b=some o)→Q .bu H'
theorem Df (T:Txt K mg t):a7 P w K mg base dY 1 t.cq t.iV iI (Mt (cs t)):=by
 refine T.rN.ok ym (fun vs H Q E h=> ?_) (fun de A0 outer s H vs Q E hr h=> ?_)
 ·obtain ⟨p,d,a,b,c,rfl,_⟩:=h
  rfl
 ·obtain ⟨p,d,a,b,c,rfl,hp,k⟩:=h
  refine ⟨_,ae (aL (pv 0) (pv 1) rfl) (ae (aL (pv 0) (pv 2) rfl) (ak (aL (pv 0) (pv 3) rfl))),?_⟩
  refine ⟨_,rfl,_,rfl,p,_,d,_,rfl,hp,T.bB,T.Qk0,lt1000 rfl,_,rfl,_,rfl,p,_,d,_,rfl,ab,T.bB,T.Qky,lt1000 rfl,_,rfl,_,rfl,p,_,d,_,rfl,ab,T.bB,T.Qkz,lt1000 rfl,?_⟩
  exact k _ ab fun b o e hb=>by
   simp only [az hb]
   exact e
def Zc (C:Cs):Sp:=fun vs H Q _=>∃ (p d:Addr)(pl ho nu ki se ad le hp mk:V),vs= [.ref p,pl,ho,nu,ki,se,ad,le,hp,mk] ∧H p=some (.ins C.M d [])∧
 ∀H',H' p=some (.ins C.M d (Y8 pl ho nu ki se ad le hp mk))→(∀b o,H b=some o→b≠p→H' b=some o)→Q .bu H'
theorem By (T:Txt K mg t):a7 P w K mg base dY 1 t.bE t.fX fT (Zc (cs t)):=by
 refine T.nq.ok vp (fun vs H Q E h=> ?_) (fun de A0 outer s H vs Q E hr h=> ?_)
 ·obtain ⟨p,d,pl,ho,nu,ki,se,ad,le,hp,mk,rfl,_⟩:=h
  rfl
 ·obtain ⟨p,d,pl,ho,nu,ki,se,ad,le,hp,mk,rfl,h0,k⟩:=h
  refine ⟨_,ae (aL (pv 0) (pv 1) rfl) (ae (aL (pv 0) (pv 2) rfl) (ae (aL (pv 0) (pv 3) rfl) (ae (aL (pv 0) (pv 4) rfl) (ae (aL (pv 0) (pv 5) rfl)
   (ae (aL (pv 0) (pv 6) rfl) (ae (aL (pv 0) (pv 7) rfl) (ae (aL (pv 0) (pv 8) rfl) (ak (aL (pv 0) (pv 9) rfl))))))))),?_⟩
  refine ⟨_,rfl,_,rfl,p,_,d,_,rfl,h0,T.au,T.Qkw,lt1000 rfl,_,rfl,_,rfl,p,_,d,_,rfl,ab,T.au,T.Qkr,lt1000 rfl,_,rfl,_,rfl,p,_,d,_,rfl,ab,T.au,T.Qkv,lt1000 rfl,
   _,rfl,_,rfl,p,_,d,_,rfl,ab,T.au,T.Qks,lt1000 rfl,_,rfl,_,rfl,p,_,d,_,rfl,ab,T.au,T.Qkx,lt1000 rfl,_,rfl,_,rfl,p,_,d,_,rfl,ab,T.au,T.Qkp,lt1000 rfl,
   _,rfl,_,rfl,p,_,d,_,rfl,ab,T.au,T.Qkt,lt1000 rfl,_,rfl,_,rfl,p,_,d,_,rfl,ab,T.au,T.Qkq,lt1000 rfl,_,rfl,_,rfl,p,_,d,_,rfl,ab,T.au,T.Qku,lt1000 rfl,?_⟩
  exact k _ ab fun b o e hb=>by
   simp only [az hb]
   exact e
def Kd (C:Cs):Sp:=fun vs H Q _=>∃ (p d:Addr)(h:Nat),vs= [.ref p,nV h] ∧H p=some (.ins C.C d [])∧
 ∀H',H' p=some (.ins C.C d (qH {host:=h} .bu .bu .bu))→(∀b o,H b=some o→b≠p→H' b=some o)→Q .bu H'
theorem HD (T:Txt K mg t):a7 P w K mg base dY 1 t.bO t.gR gJ (Kd (cs t)):=by
 refine T.pD.ok wD (fun vs H Q E h=> ?_) (fun de A0 outer s H vs Q E hr h=> ?_)
 ·obtain ⟨p,d,h,rfl,_⟩:=h
  rfl
 ·obtain ⟨p,d,ho,rfl,h0,k⟩:=h
  obtain ⟨uO,mO,rO⟩:=T.zG
  refine ⟨_,ae (aL (pv 0) (pv 1) rfl) (ae (aL (pv 0) dO rfl) (ae (aL (pv 0) (aC (by rfl) mO rO) rfl) (ae (aL (pv 0) ah rfl) (ae (aL (pv 0) ah rfl)
   (ae (aL (pv 0) ah rfl) (ae (aL (pv 0) ah rfl) (ae (aL (pv 0) dO rfl) (ae (aL (pv 0) dO rfl) (ak (aL (pv 0) dO rfl)))))))))),?_⟩
  refine ⟨_,rfl,_,rfl,p,_,d,_,rfl,h0,T.aq,T.Qki,lt1000 rfl,_,rfl,p,_,d,_,rfl,ab,T.aq,T.Qkm,lt1000 rfl,_,rfl,p,_,d,_,rfl,ab,T.aq,T.Qkl,lt1000 rfl,
   _,rfl,p,_,d,_,rfl,ab,T.aq,T.Qkg,lt1000 rfl,_,rfl,p,_,d,_,rfl,ab,T.aq,T.Qkf,lt1000 rfl,_,rfl,p,_,d,_,rfl,ab,T.aq,T.Qkn,lt1000 rfl,
   _,rfl,p,_,d,_,rfl,ab,T.aq,T.Qko,lt1000 rfl,_,rfl,p,_,d,_,rfl,ab,T.aq,T.Qkh,lt1000 rfl,_,rfl,p,_,d,_,rfl,ab,T.aq,T.Qkk,lt1000 rfl,_,rfl,p,_,d,_,rfl,ab,T.aq,T.Qkj,lt1000 rfl,?_⟩
  exact k _ ab fun b o e hb=>by
   simp only [az hb]
   exact e
end
end Rl
namespace Rl
open PySem PySem.Spec PyProof.Rows L2
open Vbcnag (Mark Msg Under Offer Lease Client Relay Assigned Written)
def gn (now:Nat)(c:Client):Client:={c with counter:=c.counter + 1,number:=c.counter + 1,sent:=now}
def Dg (c:Client)(kind:Nat)(sv:Option Nat)(addr:Nat):Msg:={host:=c.host,number:=c.counter + 1,kind:=kind,server:=sv,addr:=addr}
def sP (W:VW)(i:Nat)(c:Client)(kind:Nat)(sv:Option Nat)(addr:Nat):VW:=
 (Vbcnag.puts {W with clients:=W.clients.set i (gn W.now c)} (Vbcnag.outOf (gn W.now c) [Dg c kind sv addr])).1
theorem Ad.gp {A:Ad}{cas:List Addr}{i:Nat}{ca:Addr}(h:cas[i]?=some ca):A.mut cas ca:= .inr (.inr (.inr (.inr (.inr (.inr (.inr (.inr (List.mem_of_getElem? h))))))))
section
variable {P:Program}{w:World}{K:PySem.W.Frag}{mg:Str→Option Value}{base:Heap}{t:iU}
def Qw (C:Cs):Sp:=fun vs H Q _=>∃ (A:Ad)(cas:List Addr)(W:VW)(i:Nat)(ca:Addr)(c:Client)(kind:Nat)(sv:Option Nat)(addr:Nat),
 vs= [.ref A.w,.ref ca,nV kind,oV sv,nV addr] ∧Rep C H A cas W∧W.bag.length≤10000∧cas[i]?=some ca∧W.clients[i]?=some c∧
 ∀H',Rep C H' A cas (sP W i c kind sv addr)→dv A cas H H'→Q .bu H'
theorem vP (T:Txt K mg t):a7 P w K mg base dY 3 t.lI t.Bd AM (Qw (cs t)):=by
 refine T.tS.ok FA (fun vs H Q E h=> ?_) (fun de A0 outer s H vs Q E hr h=> ?_)
 ·obtain ⟨A,cas,W,i,ca,c,kind,sv,addr,rfl,_⟩:=h
  rfl
 ·obtain ⟨A,cas,W,i,ca,c,kind,sv,addr,rfl,R,hb,hi,hc,k⟩:=h
  have Dh:fN 1 _:=hr.mono (by decide)
  have CK:=eC T
  obtain ⟨uU,mU,rU⟩:=T.J4
  obtain ⟨d,pl,be,le,cJ,da⟩:=R.fM hc hi
  have nwc:A.w≠ca:=aW R.cj cJ (fun q=>CK.wc (by injection q))
  refine ⟨_,ae (GJ (pv 1) ah Oc) (ae (aL (pv 1) (ai (pv 1) rfl) rfl) (ae (aL (pv 1) (ai (pv 0) rfl) rfl)
   (ak (aZ (bD (fR (ai (pv 1) rfl)))
    (ae (aS (i:=5) FA.nd rfl (Or.inl rfl) (bx (aa (aC (by rfl) mU rU) (aa (aE aY (ai (pv 1) rfl) ah (fun _ _=>rfl)) (aa (aE aY (ai (pv 1) rfl) ah (fun _ _=>rfl)) af)))))
     (ak (aG (aA (xy T) Dh (by rfl) T.zx T.wL.kp T.zy .nil aQ (aa (pv 0) (aa (jM T.Qhj (By T) hr (by rfl) T.k7 T.eB .nil aQ
      (aa (pv 5) (aa (ai (pv 1) rfl) (aa (ai (pv 1) rfl) (aa (pv 2) (aa (pv 3) (aa (pv 4) (aa ah (aa ah (aa (bx af) af)))))))))) af)))))) aR)))),?_⟩
  refine ⟨_,rfl,ca,_,d,_,_,rfl,cJ,T.aq,T.Qkg,rfl,_,_,rfl,rfl,d,_,cJ,lt1000 rfl,?_⟩
  refine ⟨_,rfl,ca,_,d,_,_,rfl,ab,T.aq,T.Qkg,rfl,_,rfl,ca,_,d,_,rfl,ab,T.aq,T.Qkf,lt1000 rfl,?_⟩
  refine ⟨_,rfl,A.w,_,_,_,_,rfl,(by rw [az nwc,az nwc];exact R.cj),T.aw,T.Qk6,rfl,_,rfl,ca,_,d,_,rfl,ab,T.aq,T.Qkn,lt1000 rfl,?_⟩
  rw [bS,bS]
  generalize yd:L2.upd H ca _=H1
  have hH:L2.upd H ca (.ins (cs t).C d (qH (gn W.now c) pl be le))=H1:=yd
  have R1:Rep (cs t) H1 A cas {W with clients:=W.clients.set i (gn W.now c)}:=by
   rw [←hH]
   exact R.setC CK hi hc rfl cJ ⟨da.pl,da.be,da.le⟩
  have F1:dv A cas H H1:=by
   rw [←hH]
   exact dv.upd (Ad.gp hi)
  have yc:H1 ca=some (.ins (cs t).C d (qH (gn W.now c) pl be le)):=by
   rw [←hH]
   exact ab
  have HE:Dd H1 c.place pl:=by
   obtain ⟨_,_,_,_,e1,q⟩:=R1.fM (c:=gn W.now c) (by rw [List.getElem?_set_self (List.getElem?_eq_some_iff.mp hc).1]) hi
   rw [yc] at e1
   injection e1 with e1
   injection e1 with _ _ e1
   injection e1 with _ e1
   injection e1 with e1 _
   injection e1 with _ e1
   rw [e1]
   exact q.pl
  clear hH yd
  refine ⟨_,rfl,ca,_,d,_,_,rfl,yc,T.aq,T.Qkm,rfl,_,rfl,?_⟩
  cases dB:c.place with
  |none=>
   rw [dB] at HE
   have e:pl= .bu:=HE
   subst e
   refine bf ?_
   refine k _ ?_ F1
   unfold sP Vbcnag.outOf
   rw [show (gn W.now c).place=none from dB]
   exact R1
  |some m=>
   rw [dB] at HE
   obtain ⟨b,e,Ke⟩:=HE
   subst e
   refine a8 ?_
   refine ⟨_,rfl,ca,_,d,_,_,rfl,yc,T.aq,T.Qkm,rfl,b,_,_,_,rfl,rfl,bb.of Ke,rfl,_,rfl,ca,_,d,_,_,rfl,yc,T.aq,T.Qkm,rfl,b,_,_,_,rfl,rfl,bb.of Ke,rfl,(by show 3≤sizeLine;decide),fun q hq=> ?_⟩
   have S2:=aj.ao (o:=HO.tup [V.int 0,nV m.relay,nV m.circuit]) hq
   refine ⟨_,rfl,_,rfl,_,rfl,ca,_,d,_,_,rfl,S2 _ _ yc,T.aq,T.Qki,rfl,_,rfl,ca,_,d,_,_,rfl,S2 _ _ yc,T.aq,T.Qkg,rfl,_,rfl,_,rfl,_,rfl,(by show 0≤sizeLine;decide),fun z hz=> ?_⟩
   have S3:=aj.ao (o:=HO.tup []) hz
   intro x dx nx HF Rz
   refine ⟨x,dx,_,_,_,_,_,_,_,_,_,rfl,ab,fun H5 h5 k5=>⟨rfl,?_⟩⟩
   have S5:=aj.made nx HF k5
   have Qx:=(S2.trans S3).trans S5
   have hq5:=S5 _ _ (S3 _ _ (ab (H:=H1) (a:=q) (o:=HO.tup [V.int 0,nV m.relay,nV m.circuit])))
   have hz5:=S5 _ _ (ab (H:=L2.upd H1 q (HO.tup [V.int 0,nV m.relay,nV m.circuit])) (a:=z) (o:=HO.tup []))
   refine ⟨A,cas,{W with clients:=W.clients.set i (gn W.now c)},x,{place:= .up m.relay m.circuit,msg:=Dg c kind sv addr},rfl,R1.same Qx,hb,⟨dx,q,z,[],h5,hq5,hz5,.nil⟩,fun H6 R6 F6=> ?_⟩
   refine k _ ?_ ((F1.trans (aj.dq Qx)).trans F6)
   unfold sP Vbcnag.outOf
   rw [show (gn W.now c).place=some m from dB]
   exact R6
end
end Rl
namespace Rl
open PySem PySem.Spec PyProof.Rows L2
open Vbcnag (Mark Msg Under Offer Lease Client Relay Assigned Written)
theorem xB (W:VW)(i:Nat)(c:Client)(kind:Nat)(sv:Option Nat)(addr:Nat):
  sP W i c kind sv addr={W with clients:=W.clients.set i (gn W.now c),bag:=W.bag ++ (Vbcnag.outOf c [Dg c kind sv addr]).take (W.cap - W.bag.length)}:=by
 unfold sP
 rw [fe]
 rfl
theorem Di {c d:Client}(h:c.place=d.place)(l:List Msg):Vbcnag.outOf c l=Vbcnag.outOf d l:=by
 unfold Vbcnag.outOf
 rw [h]
theorem o5 {W:VW}{i:Nat}{c:Client}{y:Vbcnag.Done}(nd:(W.clients.map (·.host)).Nodup)(hc:W.clients[i]?=some c)(hh:y.1.host=c.host):
  Vbcnag.done W y={W with clients:=W.clients.set i y.1,bag:=W.bag ++ (Vbcnag.outOf y.1 y.2).take (W.cap - W.bag.length)}:=by
 unfold Vbcnag.done
 rw [fe,br nd hc hh]
theorem HG {W:VW}{i:Nat}{c c1 c3:Client}{y:Vbcnag.Done}{kind addr:Nat}{sv:Option Nat}(nd:(W.clients.map (·.host)).Nodup)(hc:W.clients[i]?=some c)(e1:y.1=c3)(hh:c3.host=c.host)(hp:c1.place=c3.place)(e2:y.2= [Dg c1 kind sv addr]):
  {sP {W with clients:=W.clients.set i c1} i c1 kind sv addr with clients:=(sP {W with clients:=W.clients.set i c1} i c1 kind sv addr).clients.set i c3}=Vbcnag.done W y:=by
 rw [o5 nd hc (by rw [e1];exact hh),xB,e1,e2,Di hp]
 simp only [List.set_set]
theorem vQ {W:VW}{l:List Client}(h:W.bag.length≤10000):({W with clients:=l}:VW).bag.length≤10000:=h
theorem iD {l:List Client}{i:Nat}{c d:Client}(h:l[i]?=some c):(l.set i d)[i]?=some d:=List.getElem?_set_self (List.getElem?_eq_some_iff.mp h).1
theorem Rep.due {C:Cs}{H2:Hp}{A:Ad}{cas:List Addr}{W:VW}{i:Nat}{ca:Addr}{c c1:Client}{kind addr:Nat}{sv:Option Nat}(CK:C.Ok)(R2:Rep C H2 A cas (sP {W with clients:=W.clients.set i c1} i c1 kind sv addr))
  (nd:(W.clients.map (·.host)).Nodup)(hc:W.clients[i]?=some c)(hi:cas[i]?=some ca)(x:Nat)(y:Vbcnag.Done)(e1:y.1={gn W.now c1 with due:=some x})(hh:c1.host=c.host)(e2:y.2= [Dg c1 kind sv addr]):
  ∃d2 Mu Mv Mw,H2 ca=some (.ins C.C d2 (qH (gn W.now c1) Mu Mv Mw))∧dI C H2 ca (gn W.now c1)∧H2 A.w=some (.ins C.W A.dw (A.fs W.now W.servers W.cap))∧
   Rep C (L2.upd H2 ca (.ins C.C d2 (qH {gn W.now c1 with due:=some x} Mu Mv Mw))) A cas (Vbcnag.done W y):=by
 have Su:(sP {W with clients:=W.clients.set i c1} i c1 kind sv addr).clients[i]?=some (gn W.now c1):=by
  rw [xB]
  exact iD (iD hc)
 have hw:=R2.cj
 rw [xB] at hw
 have CA:=R2.fM Su hi
 obtain ⟨d2,Mu,Mv,Mw,ug,Qy⟩:=id CA
 refine ⟨d2,Mu,Mv,Mw,ug,CA,hw,?_⟩
 have R3:=R2.setC CK (c':={gn W.now c1 with due:=some x}) hi Su rfl ug ⟨Qy.pl,Qy.be,Qy.le⟩
 have E:=HG (c1:=c1) (c3:={gn W.now c1 with due:=some x}) nd hc e1 hh rfl e2
 rw [←E]
 exact R3
theorem Kf:∀n:Nat,n≤10→Cj [V.int 3,V.int 7,V.int 15,V.int 31,V.int 63,V.int 63,V.int 63,V.int 63,V.int 63,V.int 63,V.int 63] (n:Int)=some (nV (min 64 (4 * 2 ^ n) - 1))
 |0,_=>rfl
 |1,_=>rfl
 |2,_=>rfl
 |3,_=>rfl
 |4,_=>rfl
 |5,_=>rfl
 |6,_=>rfl
 |7,_=>rfl
 |8,_=>rfl
 |9,_=>rfl
 |10,_=>rfl
 |n + 11,h=>absurd h (by omega)
section
variable {P:Program}{w:World}{K:PySem.W.Frag}{mg:Str→Option Value}{base:Heap}{t:iU}
def Qz (C:Cs):Sp:=fun vs H Q _=>∃ (ca:Addr)(c:Client),vs= [.ref ca] ∧dI C H ca c∧c.tries≤10∧Q (nV (Vbcnag.wait c.tries c.counter)) H
theorem Bz (T:Txt K mg t):a7 P w K mg base dY 1 t.eS t.oR oG (Qz (cs t)):=by
 refine T.k8.ok Ek (fun vs H Q E h=> ?_) (fun de A0 outer s H vs Q E hr h=> ?_)
 ·obtain ⟨ca,c,rfl,_⟩:=h
  rfl
 ·obtain ⟨ca,c,rfl,⟨d,pl,be,le,cJ,da⟩,ht,k⟩:=h
  refine ⟨_,ak (aH (bW dz (aE aY (aC (v:= .ref t.jb) (by rfl) T.FP rfl) (ai (pv 0) rfl) (fun _ _=>rfl)) (bW IT (ai (pv 0) rfl) ah))),?_⟩
  refine ⟨_,rfl,ca,_,d,_,_,rfl,cJ,T.aq,T.Qko,rfl,t.jb,_,_,_,rfl,rfl,T.FQ H,Kf _ ht,_,rfl,ca,_,d,_,_,rfl,cJ,T.aq,T.Qkg,rfl,_,_,rfl,rfl,(by show (0:Int) < 3;decide),_,_,rfl,rfl,?_⟩
  have e:(V.int (((min 64 (4 * 2 ^ c.tries) - 1:Nat):Int) + (c.counter:Int) % 3))=nV (Vbcnag.wait c.tries c.counter):=congrArg V.int (by unfold Vbcnag.wait;omega)
  show Q (V.int (((min 64 (4 * 2 ^ c.tries) - 1:Nat):Int) + (c.counter:Int) % 3)) H
  rw [e]
  exact k
def QA (C:Cs):Sp:=fun vs H Q _=>∃ (A:Ad)(cas:List Addr)(W:VW)(i:Nat)(ca:Addr)(c:Client)(n:Nat),
 vs= [.ref A.w,.ref ca,nV n] ∧Rep C H A cas W∧W.bag.length≤10000∧cas[i]?=some ca∧W.clients[i]?=some c∧n≤10∧
 ∀H',Rep C H' A cas (Vbcnag.done W (Vbcnag.seek W.now n c))→dv A cas H H'→Q .bu H'
theorem sQ (T:Txt K mg t):a7 P w K mg base dY 4 t.lJ t.Be AN (QA (cs t)):=by
 refine T.qv.ok Mi (fun vs H Q E h=> ?_) (fun de A0 outer s H vs Q E hr h=> ?_)
 ·obtain ⟨A,cas,W,i,ca,c,n,rfl,_⟩:=h
  rfl
 ·obtain ⟨A,cas,W,i,ca,c,n,rfl,R,hb,hi,hc,hn,k⟩:=h
  have Dh:fN 1 _:=hr.mono (by decide)
  have CK:=eC T
  obtain ⟨u1,m1,r1⟩:=T.vO
  obtain ⟨u2,m2,r2⟩:=T.uc
  obtain ⟨d,pl,be,le,cJ,da⟩:=R.fM hc hi
  refine ⟨_,ae (aL (pv 1) dO rfl) (ae (aL (pv 1) dO rfl) (ae (aL (pv 1) (aC (by rfl) m1 r1) rfl) (ae (aL (pv 1) (pv 2) rfl)
   (ae (aG (aA (vP T) hr (by rfl) T.wM T.tS.kp T.wN .nil aQ (aa (pv 0) (aa (pv 1) (aa (aC (by rfl) m2 r2) (aa dO (aa ah af)))))))
   (ak (aL (pv 1) (bW dz (ai (pv 0) rfl) (aA (Bz T) Dh (by rfl) T.oZ T.k8.kp T.o3 .nil aQ (aa (pv 1) af))) rfl)))))),?_⟩
  refine ⟨_,rfl,ca,_,d,_,rfl,cJ,T.aq,T.Qkk,lt1000 rfl,_,rfl,ca,_,d,_,rfl,ab,T.aq,T.Qkj,lt1000 rfl,_,rfl,ca,_,d,_,rfl,ab,T.aq,T.Qkl,lt1000 rfl,
   _,rfl,_,rfl,ca,_,d,_,rfl,ab,T.aq,T.Qko,lt1000 rfl,?_⟩
  rw [bS,bS,bS]
  generalize yd:L2.upd H ca _=H1
  have hH:L2.upd H ca (.ins (cs t).C d (qH {c with best:=none,lease:=none,phase:=1,tries:=n} pl .bu .bu))=H1:=yd
  have R1:Rep (cs t) H1 A cas {W with clients:=W.clients.set i {c with best:=none,lease:=none,phase:=1,tries:=n} }:=by
   rw [←hH]
   exact R.setC CK hi hc rfl cJ ⟨da.pl,rfl,rfl⟩
  have F1:dv A cas H H1:=by
   rw [←hH]
   exact dv.upd (Ad.gp hi)
  clear hH yd
  refine ⟨_,rfl,_,rfl,A,cas,{W with clients:=W.clients.set i {c with best:=none,lease:=none,phase:=1,tries:=n} },i,ca,{c with best:=none,lease:=none,phase:=1,tries:=n},1,none,0,rfl,R1,vQ hb,hi,iD hc,fun H2 R2 F2=> ?_⟩
  obtain ⟨d2,Mu,Mv,Mw,ug,CA,HH,R3⟩:=Rep.due CK R2 R.hn hc hi (W.now + Vbcnag.wait n (c.counter + 1)) (Vbcnag.seek W.now n c) rfl rfl rfl
  refine ⟨_,rfl,A.w,_,_,_,_,rfl,HH,T.aw,T.Qk6,rfl,_,rfl,ca,_,rfl,CA,hn,_,_,rfl,rfl,_,rfl,ca,_,d2,_,rfl,ug,T.aq,T.Qkh,lt1000 rfl,?_⟩
  exact k _ R3 ((F1.trans F2).trans (dv.upd (Ad.gp hi)))
end
end Rl
namespace Rl
open PySem PySem.Spec PyProof.Rows L2
open Vbcnag (Mark Msg Under Offer Lease Client Relay Assigned Written)
section
variable {P:Program}{w:World}{K:PySem.W.Frag}{mg:Str→Option Value}{base:Heap}{t:iU}
def Zd (C:Cs):Sp:=fun vs H Q _=>∃ (A:Ad)(cas:List Addr)(W:VW)(i:Nat)(ca:Addr)(c:Client)(n:Nat)(o:Offer),
 vs= [.ref A.w,.ref ca,nV n] ∧Rep C H A cas W∧W.bag.length≤10000∧cas[i]?=some ca∧W.clients[i]?=some c∧n≤10∧c.best=some o∧
 ∀H',Rep C H' A cas (Vbcnag.done W (Vbcnag.askFor W.now n o c))→dv A cas H H'→Q .bu H'
theorem Kg (T:Txt K mg t):a7 P w K mg base dY 4 t.rC t.FG FC (Zd (cs t)):=by
 refine T.FJ.ok OX (fun vs H Q E h=> ?_) (fun de A0 outer s H vs Q E hr h=> ?_)
 ·obtain ⟨A,cas,W,i,ca,c,n,o,rfl,_⟩:=h
  rfl
 ·obtain ⟨A,cas,W,i,ca,c,n,o,rfl,R,hb,hi,hc,hn,ho,k⟩:=h
  have Dh:fN 1 _:=hr.mono (by decide)
  have CK:=eC T
  obtain ⟨u1,m1,r1⟩:=T.xf
  obtain ⟨u2,m2,r2⟩:=T.nR
  obtain ⟨d,pl,be,le,cJ,da⟩:=R.fM hc hi
  have B0:=da.be
  rw [ho] at B0
  obtain ⟨b,e,AI⟩:=B0
  subst e
  refine ⟨_,ae (aL (pv 1) (aC (by rfl) m1 r1) rfl) (ae (aL (pv 1) (pv 2) rfl)
   (ae (aG (aA (vP T) hr (by rfl) T.wM T.tS.kp T.wN .nil aQ (aa (pv 0) (aa (pv 1) (aa (aC (by rfl) m2 r2) (aa (aE aY (ai (pv 1) rfl) ah (fun _ _=>rfl)) (aa (aE aY (ai (pv 1) rfl) ah (fun _ _=>rfl)) af)))))))
   (ak (aL (pv 1) (bW dz (ai (pv 0) rfl) (aA (Bz T) Dh (by rfl) T.oZ T.k8.kp T.o3 .nil aQ (aa (pv 1) af))) rfl)))),?_⟩
  refine ⟨_,rfl,ca,_,d,_,rfl,cJ,T.aq,T.Qkl,lt1000 rfl,_,rfl,_,rfl,ca,_,d,_,rfl,ab,T.aq,T.Qko,lt1000 rfl,?_⟩
  rw [bS]
  generalize yd:L2.upd H ca _=H1
  have hH:L2.upd H ca (.ins (cs t).C d (qH {c with phase:=2,tries:=n} pl (.ref b) le))=H1:=yd
  have R1:Rep (cs t) H1 A cas {W with clients:=W.clients.set i {c with phase:=2,tries:=n} }:=by
   rw [←hH]
   exact R.setC CK hi hc rfl cJ ⟨da.pl,da.be,da.le⟩
  have F1:dv A cas H H1:=by
   rw [←hH]
   exact dv.upd (Ad.gp hi)
  have yc:H1 ca=some (.ins (cs t).C d (qH {c with phase:=2,tries:=n} pl (.ref b) le)):=by
   rw [←hH]
   exact ab
  have Ke:H1 b=some (.tup [nV o.server,nV o.addr,nV o.len]):=by
   rw [←hH,az (aW AI cJ (fun q=>nomatch q))]
   exact AI
  clear hH yd
  refine ⟨_,rfl,_,rfl,_,rfl,ca,_,d,_,_,rfl,yc,T.aq,T.Qkk,rfl,b,_,_,_,rfl,rfl,bb.of Ke,rfl,_,rfl,ca,_,d,_,_,rfl,yc,T.aq,T.Qkk,rfl,b,_,_,_,rfl,rfl,bb.of Ke,rfl,
   A,cas,{W with clients:=W.clients.set i {c with phase:=2,tries:=n} },i,ca,{c with phase:=2,tries:=n},3,some o.server,o.addr,rfl,R1,vQ hb,hi,iD hc,fun H2 R2 F2=> ?_⟩
  obtain ⟨d2,Mu,Mv,Mw,ug,CA,HH,R3⟩:=Rep.due CK R2 R.hn hc hi (W.now + Vbcnag.wait n (c.counter + 1)) (Vbcnag.askFor W.now n o c) rfl rfl rfl
  refine ⟨_,rfl,A.w,_,_,_,_,rfl,HH,T.aw,T.Qk6,rfl,_,rfl,ca,_,rfl,CA,hn,_,_,rfl,rfl,_,rfl,ca,_,d2,_,rfl,ug,T.aq,T.Qkh,lt1000 rfl,?_⟩
  exact k _ R3 ((F1.trans F2).trans (dv.upd (Ad.gp hi)))
def QB (C:Cs):Sp:=fun vs H Q _=>∃ (A:Ad)(cas:List Addr)(W:VW)(i:Nat)(ca:Addr)(c:Client)(n:Nat)(l:Lease),
 vs= [.ref A.w,.ref ca,nV n] ∧Rep C H A cas W∧W.bag.length≤10000∧cas[i]?=some ca∧W.clients[i]?=some c∧n≤10∧c.lease=some l∧
 ∀H',Rep C H' A cas (Vbcnag.done W (Vbcnag.comeBack W.now n l c))→dv A cas H H'→Q .bu H'
theorem FV (T:Txt K mg t):a7 P w K mg base dY 4 t.dh t.jY jP (QB (cs t)):=by
 refine T.j6.ok AO (fun vs H Q E h=> ?_) (fun de A0 outer s H vs Q E hr h=> ?_)
 ·obtain ⟨A,cas,W,i,ca,c,n,o,rfl,_⟩:=h
  rfl
 ·obtain ⟨A,cas,W,i,ca,c,n,o,rfl,R,hb,hi,hc,hn,ho,k⟩:=h
  have Dh:fN 1 _:=hr.mono (by decide)
  have CK:=eC T
  obtain ⟨u1,m1,r1⟩:=T.gf
  obtain ⟨u2,m2,r2⟩:=T.nR
  obtain ⟨d,pl,be,le,cJ,da⟩:=R.fM hc hi
  have hle:=da.le
  rw [ho] at hle
  obtain ⟨b,e,AI⟩:=hle
  subst e
  refine ⟨_,ae (aL (pv 1) (aC (by rfl) m1 r1) rfl) (ae (aL (pv 1) (pv 2) rfl)
   (ae (aG (aA (vP T) hr (by rfl) T.wM T.tS.kp T.wN .nil aQ (aa (pv 0) (aa (pv 1) (aa (aC (by rfl) m2 r2) (aa dO (aa (aE aY (ai (pv 1) rfl) ah (fun _ _=>rfl)) af)))))))
   (ak (aL (pv 1) (bW dz (ai (pv 0) rfl) (aA (Bz T) Dh (by rfl) T.oZ T.k8.kp T.o3 .nil aQ (aa (pv 1) af))) rfl)))),?_⟩
  refine ⟨_,rfl,ca,_,d,_,rfl,cJ,T.aq,T.Qkl,lt1000 rfl,_,rfl,_,rfl,ca,_,d,_,rfl,ab,T.aq,T.Qko,lt1000 rfl,?_⟩
  rw [bS]
  generalize yd:L2.upd H ca _=H1
  have hH:L2.upd H ca (.ins (cs t).C d (qH {c with phase:=6,tries:=n} pl be (.ref b)))=H1:=yd
  have R1:Rep (cs t) H1 A cas {W with clients:=W.clients.set i {c with phase:=6,tries:=n} }:=by
   rw [←hH]
   exact R.setC CK hi hc rfl cJ ⟨da.pl,da.be,da.le⟩
  have F1:dv A cas H H1:=by
   rw [←hH]
   exact dv.upd (Ad.gp hi)
  have yc:H1 ca=some (.ins (cs t).C d (qH {c with phase:=6,tries:=n} pl be (.ref b))):=by
   rw [←hH]
   exact ab
  have Ke:H1 b=some (.tup [nV o.server,nV o.addr,nV o.half,nV o.late,nV o.till]):=by
   rw [←hH,az (aW AI cJ (fun q=>nomatch q))]
   exact AI
  clear hH yd
  refine ⟨_,rfl,_,rfl,_,rfl,ca,_,d,_,_,rfl,yc,T.aq,T.Qkj,rfl,b,_,_,_,rfl,rfl,bb.of Ke,rfl,
   A,cas,{W with clients:=W.clients.set i {c with phase:=6,tries:=n} },i,ca,{c with phase:=6,tries:=n},3,none,o.addr,rfl,R1,vQ hb,hi,iD hc,fun H2 R2 F2=> ?_⟩
  obtain ⟨d2,Mu,Mv,Mw,ug,CA,HH,R3⟩:=Rep.due CK R2 R.hn hc hi (W.now + Vbcnag.wait n (c.counter + 1)) (Vbcnag.comeBack W.now n o c) rfl rfl rfl
  refine ⟨_,rfl,A.w,_,_,_,_,rfl,HH,T.aw,T.Qk6,rfl,_,rfl,ca,_,rfl,CA,hn,_,_,rfl,rfl,_,rfl,ca,_,d2,_,rfl,ug,T.aq,T.Qkh,lt1000 rfl,?_⟩
  exact k _ R3 ((F1.trans F2).trans (dv.upd (Ad.gp hi)))
def uh (l:Lease)(c:Client):Client:={c with phase:=3,tries:=0,number:=0,due:=some l.half}
def QC (C:Cs):Sp:=fun vs H Q _=>∃ (A:Ad)(cas:List Addr)(W:VW)(i:Nat)(ca:Addr)(c:Client)(l:Lease),
 vs= [.ref ca] ∧Rep C H A cas W∧cas[i]?=some ca∧W.clients[i]?=some c∧c.lease=some l∧
 ∀H',Rep C H' A cas (Vbcnag.done W (uh l c,[]))→dv A cas H H'→Q .bu H'
theorem Mx (T:Txt K mg t):a7 P w K mg base dY 1 t.lK t.Bf AQ (QC (cs t)):=by
 refine T.Es.ok Mj (fun vs H Q E h=> ?_) (fun de A0 outer s H vs Q E hr h=> ?_)
 ·obtain ⟨A,cas,W,i,ca,c,l,rfl,_⟩:=h
  rfl
 ·obtain ⟨A,cas,W,i,ca,c,l,rfl,R,hi,hc,ho,k⟩:=h
  have CK:=eC T
  obtain ⟨u1,m1,r1⟩:=T.FO
  obtain ⟨d,pl,be,le,cJ,da⟩:=R.fM hc hi
  have hle:=da.le
  rw [ho] at hle
  obtain ⟨b,e,AI⟩:=hle
  subst e
  have nb:b≠ca:=aW AI cJ (fun q=>nomatch q)
  refine ⟨_,ae (aL (pv 0) (aC (by rfl) m1 r1) rfl) (ae (aL (pv 0) ah rfl) (ae (aL (pv 0) ah rfl) (ak (aL (pv 0) (aE aY (ai (pv 0) rfl) ah (fun _ _=>rfl)) rfl)))),?_⟩
  refine ⟨_,rfl,ca,_,d,_,rfl,cJ,T.aq,T.Qkl,lt1000 rfl,_,rfl,ca,_,d,_,rfl,ab,T.aq,T.Qko,lt1000 rfl,_,rfl,ca,_,d,_,rfl,ab,T.aq,T.Qkf,lt1000 rfl,?_⟩
  refine ⟨_,rfl,ca,_,d,_,_,rfl,ab,T.aq,T.Qkj,rfl,b,_,_,_,rfl,rfl,bb.of (by rw [az nb,az nb,az nb];exact AI),rfl,_,rfl,ca,_,d,_,rfl,ab,T.aq,T.Qkh,lt1000 rfl,?_⟩
  rw [bS,bS,bS]
  have R1:=R.setC CK (c':=uh l c) hi hc rfl cJ ⟨da.pl,da.be,da.le⟩
  refine k _ ?_ (dv.upd (Ad.gp hi))
  rw [o5 R.hn hc (y:=(uh l c,[])) rfl]
  have e0:Vbcnag.outOf (uh l c) [] = [] :=by
   unfold Vbcnag.outOf
   split <;>rfl
  show Rep _ _ _ _ {W with clients:=W.clients.set i (uh l c),bag:=W.bag ++ (Vbcnag.outOf (uh l c) []).take _}
  rw [e0,List.take_nil,List.append_nil]
  exact R1
end
end Rl
namespace Rl
open PySem PySem.Spec PyProof.Rows L2
open Vbcnag (Mark Msg Under Offer Lease Client Relay Assigned Written)
section
variable {P:Program}{w:World}{K:PySem.W.Frag}{mg:Str→Option Value}{base:Heap}{t:iU}
def n6 (now lim:Nat):Nat:=min lim (now + max 60 ((lim - now) / 2))
def My (C:Cs):Sp:=fun vs H Q _=>∃ (A:Ad)(cas:List Addr)(W:VW)(i:Nat)(ca:Addr)(c:Client)(ph:Nat)(sv:Option Nat)(lim:Nat)(l:Lease),
 vs= [.ref A.w,.ref ca,nV ph,oV sv,nV lim] ∧Rep C H A cas W∧W.bag.length≤10000∧cas[i]?=some ca∧W.clients[i]?=some c∧W.now < lim∧c.lease=some l∧
 ∀H',Rep C H' A cas (Vbcnag.done W (Vbcnag.sends W.now ph 0 (fun _=>n6 W.now lim) 3 sv l.addr c))→dv A cas H H'→Q .bu H'
theorem Dj (T:Txt K mg t):a7 P w K mg base dY 4 t.iX t.vK vH (My (cs t)):=by
 refine T.vN.ok CO (fun vs H Q E h=> ?_) (fun de A0 outer s H vs Q E hr h=> ?_)
 ·obtain ⟨A,cas,W,i,ca,c,ph,sv,lim,l,rfl,_⟩:=h
  rfl
 ·obtain ⟨A,cas,W,i,ca,c,ph,sv,lim,l,rfl,R,hb,hi,hc,dy,ho,k⟩:=h
  have CK:=eC T
  obtain ⟨u1,m1,r1⟩:=T.pN
  obtain ⟨u2,m2,r2⟩:=T.nR
  obtain ⟨d,pl,be,le,cJ,da⟩:=R.fM hc hi
  have hle:=da.le
  rw [ho] at hle
  obtain ⟨b,e,AI⟩:=hle
  subst e
  refine ⟨_,ae (aL (pv 1) (pv 2) rfl) (ae (aL (pv 1) ah rfl)
   (ae (aG (aA (vP T) hr (by rfl) T.wM T.tS.kp T.wN .nil aQ (aa (pv 0) (aa (pv 1) (aa (aC (by rfl) m2 r2) (aa (pv 3) (aa (aE aY (ai (pv 1) rfl) ah (fun _ _=>rfl)) af)))))))
   (ae (aS (i:=5) CO.nd rfl (Or.inl rfl) (aU (yX rfl) (by rfl) T.Qlx PyProof.Rows.boot_max (aa (aC (by rfl) m1 r1) (aa (bW Ae (bW DU (pv 4) (ai (pv 0) rfl)) ah) af))))
   (ak (aL (pv 1) (aU (yY rfl) (by rfl) T.Qly PyProof.Rows.boot_min (aa (pv 4) (aa (bW dz (ai (pv 0) rfl) (pv 5)) af))) rfl))))),?_⟩
  refine ⟨_,rfl,_,rfl,ca,_,d,_,rfl,cJ,T.aq,T.Qkl,lt1000 rfl,_,rfl,ca,_,d,_,rfl,ab,T.aq,T.Qko,lt1000 rfl,?_⟩
  rw [bS]
  generalize yd:L2.upd H ca _=H1
  have hH:L2.upd H ca (.ins (cs t).C d (qH {c with phase:=ph,tries:=0} pl be (.ref b)))=H1:=yd
  have R1:Rep (cs t) H1 A cas {W with clients:=W.clients.set i {c with phase:=ph,tries:=0} }:=by
   rw [←hH]
   exact R.setC CK hi hc rfl cJ ⟨da.pl,da.be,da.le⟩
  have F1:dv A cas H H1:=by
   rw [←hH]
   exact dv.upd (Ad.gp hi)
  have yc:H1 ca=some (.ins (cs t).C d (qH {c with phase:=ph,tries:=0} pl be (.ref b))):=by
   rw [←hH]
   exact ab
  have Ke:H1 b=some (.tup [nV l.server,nV l.addr,nV l.half,nV l.late,nV l.till]):=by
   rw [←hH,az (aW AI cJ (fun q=>nomatch q))]
   exact AI
  clear hH yd
  refine ⟨_,rfl,_,rfl,_,rfl,_,rfl,ca,_,d,_,_,rfl,yc,T.aq,T.Qkj,rfl,b,_,_,_,rfl,rfl,bb.of Ke,rfl,
   A,cas,{W with clients:=W.clients.set i {c with phase:=ph,tries:=0} },i,ca,{c with phase:=ph,tries:=0},3,sv,l.addr,rfl,R1,vQ hb,hi,iD hc,fun H2 R2 F2=> ?_⟩
  obtain ⟨d2,Mu,Mv,Mw,ug,CA,HH,R3⟩:=Rep.due CK R2 R.hn hc hi (n6 W.now lim) (Vbcnag.sends W.now ph 0 (fun _=>n6 W.now lim) 3 sv l.addr c) rfl rfl rfl
  refine ⟨_,rfl,_,rfl,A.w,_,_,_,_,rfl,HH,T.aw,T.Qk6,rfl,_,_,rfl,rfl,_,_,rfl,rfl,⟨by decide,by decide⟩,_,_,rfl,?_⟩
  refine ⟨_,rfl,_,rfl,A.w,_,_,_,_,rfl,HH,T.aw,T.Qk6,rfl,_,rfl,_,_,rfl,rfl,_,_,rfl,_,rfl,ca,_,d2,_,rfl,ug,T.aq,T.Qkh,lt1000 rfl,?_⟩
  refine k _ ?_ ((F1.trans F2).trans (dv.upd (Ad.gp hi)))
  have e:(if (W.now:Int) + (if ((lim:Int) - (W.now:Int)) / 2 >60 then ((lim:Int) - (W.now:Int)) / 2 else 60) < (lim:Int) then (W.now:Int) + (if ((lim:Int) - (W.now:Int)) / 2 >60 then ((lim:Int) - (W.now:Int)) / 2 else 60) else (lim:Int))=((n6 W.now lim:Nat):Int):=by
   unfold n6
   split <;>split at * <;>omega
  show Rep (cs t) (L2.upd H2 ca (.ins (cs t).C d2 (mI "due" (V.int (if (W.now:Int) + (if ((lim:Int) - (W.now:Int)) / 2 >60 then ((lim:Int) - (W.now:Int)) / 2 else 60) < (lim:Int) then (W.now:Int) + (if ((lim:Int) - (W.now:Int)) / 2 >60 then ((lim:Int) - (W.now:Int)) / 2 else 60) else (lim:Int))) (qH (gn W.now {c with phase:=ph,tries:=0}) Mu Mv Mw)))) A cas _
  rw [e]
  exact R3
def Kh (C:Cs):Sp:=fun vs H Q _=>∃ (A:Ad)(cas:List Addr)(W:VW)(i:Nat)(ca:Addr)(c:Client)(l:Lease),
 vs= [.ref A.w,.ref ca] ∧Rep C H A cas W∧W.bag.length≤10000∧cas[i]?=some ca∧W.clients[i]?=some c∧c.lease=some l∧
 ∀H',Rep C H' A cas (Vbcnag.done W (Vbcnag.settle W.now l c))→dv A cas H H'→Q .bu H'
theorem iE {a b:Nat}:decide ((a:Int) < (b:Int))=true ↔ a < b:=by
 rw [decide_eq_true_iff]
 omega
theorem zO (T:Txt K mg t):a7 P w K mg base dY 5 t.fY t.rD qY (Kh (cs t)):=by
 refine T.rR.ok Hc (fun vs H Q E h=> ?_) (fun de A0 outer s H vs Q E hr h=> ?_)
 ·obtain ⟨A,cas,W,i,ca,c,l,rfl,_⟩:=h
  rfl
 ·obtain ⟨A,cas,W,i,ca,c,l,rfl,R,hb,hi,hc,ho,k⟩:=h
  have Dh:fN 1 _:=hr.mono (by decide)
  obtain ⟨u1,m1,r1⟩:=T.sr
  obtain ⟨u2,m2,r2⟩:=T.md
  obtain ⟨d,pl,be,le,cJ,da⟩:=R.fM hc hi
  have hle:=da.le
  rw [ho] at hle
  obtain ⟨b,e,AI⟩:=hle
  subst e
  have hS:=bb.of (K:=K) AI
  refine ⟨_,ak (aZ (aI kK (ai (pv 0) rfl) (aE aY (ai (pv 1) rfl) ah (fun _ _=>rfl)) (aM _)) (ak (aG (aA (Mx T) Dh (by rfl) T.JN T.Es.kp T.JO .nil aQ (aa (pv 1) af))))
   (ak (aZ (aI kK (ai (pv 0) rfl) (aE aY (ai (pv 1) rfl) ah (fun _ _=>rfl)) (aM _))
    (ak (aG (aA (Dj T) hr (by rfl) T.Bo T.vN.kp T.Bp .nil aQ (aa (pv 0) (aa (pv 1) (aa (aC (by rfl) m1 r1) (aa (aE aY (ai (pv 1) rfl) ah (fun _ _=>rfl)) (aa (aE aY (ai (pv 1) rfl) ah (fun _ _=>rfl)) af))))))))
   (ak (aZ (aI kK (ai (pv 0) rfl) (aE aY (ai (pv 1) rfl) ah (fun _ _=>rfl)) (aM _))
    (ak (aG (aA (Dj T) hr (by rfl) T.Bo T.vN.kp T.Bp .nil aQ (aa (pv 0) (aa (pv 1) (aa (aC (by rfl) m2 r2) (aa dO (aa (aE aY (ai (pv 1) rfl) ah (fun _ _=>rfl)) af))))))))
    (ak (aG (aA (sQ T) hr (by rfl) T.tT T.qv.kp T.tU .nil aQ (aa (pv 0) (aa (pv 1) (aa ah af))))))))))),?_⟩
  refine ⟨_,rfl,A.w,_,_,_,_,rfl,R.cj,T.aw,T.Qk6,rfl,_,rfl,ca,_,d,_,_,rfl,cJ,T.aq,T.Qkj,rfl,b,_,_,_,rfl,rfl,hS,rfl,_,_,rfl,rfl,_,rfl,?_⟩
  refine dM (fun q1=> ?_) fun q1=> ?_
  ·have h1:=iE.mp q1
   refine ⟨_,rfl,A,cas,W,i,ca,c,l,rfl,R,hi,hc,ho,fun H' R' F'=>k H' ?_ F'⟩
   unfold Vbcnag.settle
   rw [if_pos h1]
   exact R'
  ·have h1:¬W.now < l.half:=fun z=>q1 (iE.mpr z)
   refine ⟨_,rfl,A.w,_,_,_,_,rfl,R.cj,T.aw,T.Qk6,rfl,_,rfl,ca,_,d,_,_,rfl,cJ,T.aq,T.Qkj,rfl,b,_,_,_,rfl,rfl,hS,rfl,_,_,rfl,rfl,_,rfl,?_⟩
   refine dM (fun q2=> ?_) fun q2=> ?_
   ·have h2:=iE.mp q2
    refine ⟨_,rfl,_,rfl,_,rfl,ca,_,d,_,_,rfl,cJ,T.aq,T.Qkj,rfl,b,_,_,_,rfl,rfl,hS,rfl,_,rfl,ca,_,d,_,_,rfl,cJ,T.aq,T.Qkj,rfl,b,_,_,_,rfl,rfl,hS,rfl,
     A,cas,W,i,ca,c,4,some l.server,l.late,l,rfl,R,hb,hi,hc,h2,ho,fun H' R' F'=>k H' ?_ F'⟩
    unfold Vbcnag.settle
    rw [if_neg h1,if_pos h2]
    exact R'
   ·have h2:¬W.now < l.late:=fun z=>q2 (iE.mpr z)
    refine ⟨_,rfl,A.w,_,_,_,_,rfl,R.cj,T.aw,T.Qk6,rfl,_,rfl,ca,_,d,_,_,rfl,cJ,T.aq,T.Qkj,rfl,b,_,_,_,rfl,rfl,hS,rfl,_,_,rfl,rfl,_,rfl,?_⟩
    refine dM (fun q3=> ?_) fun q3=> ?_
    ·have h3:=iE.mp q3
     refine ⟨_,rfl,_,rfl,_,rfl,ca,_,d,_,_,rfl,cJ,T.aq,T.Qkj,rfl,b,_,_,_,rfl,rfl,hS,rfl,
      A,cas,W,i,ca,c,5,none,l.till,l,rfl,R,hb,hi,hc,h3,ho,fun H' R' F'=>k H' ?_ F'⟩
     unfold Vbcnag.settle
     rw [if_neg h1,if_neg h2,if_pos h3]
     exact R'
    ·have h3:¬W.now < l.till:=fun z=>q3 (iE.mpr z)
     refine ⟨_,rfl,_,rfl,A,cas,W,i,ca,c,0,rfl,R,hb,hi,hc,Nat.zero_le _,fun H' R' F'=>k H' ?_ F'⟩
     unfold Vbcnag.settle
     rw [if_neg h1,if_neg h2,if_neg h3]
     exact R'
end
end Rl
namespace Rl
open PySem PySem.Spec PyProof.Rows L2
open Vbcnag (Mark Msg Under Offer Lease Client Relay Assigned Written)
theorem Mz {now:Nat}{c:Client}{o:Offer}(h1:c.phase=1)(h2:c.best=some o):Vbcnag.acts now c=Vbcnag.askFor now 0 o c:=by
 unfold Vbcnag.acts
 rw [h1,h2]
 cases c.lease <;>rfl
theorem MB {now:Nat}{c:Client}(h1:c.phase=1)(h2:c.best=none):Vbcnag.acts now c=Vbcnag.seek now (min (c.tries + 1) 10) c:=by
 unfold Vbcnag.acts
 rw [h1,h2]
 cases c.lease <;>rfl
theorem Ki {now:Nat}{c:Client}{o:Offer}(h1:c.phase=2)(h2:c.best=some o):Vbcnag.acts now c=if c.tries < 3 then Vbcnag.askFor now (c.tries + 1) o c else Vbcnag.seek now 0 c:=by
 unfold Vbcnag.acts
 rw [h1,h2]
 cases c.lease <;>rfl
theorem Kj {now:Nat}{c:Client}{l:Lease}(h1:c.phase=6)(h2:c.lease=some l):Vbcnag.acts now c=if c.tries < 2 then Vbcnag.comeBack now (c.tries + 1) l c else Vbcnag.settle now l c:=by
 unfold Vbcnag.acts
 rw [h1,h2]
 cases c.best <;>rfl
theorem Kk {now:Nat}{c:Client}{l:Lease}(h1:c.phase=3∨c.phase=4∨c.phase=5)(h2:c.lease=some l):Vbcnag.acts now c=Vbcnag.settle now l c:=by
 unfold Vbcnag.acts
 rcases h1 with h1|h1|h1 <;>rw [h1,h2] <;>cases c.best <;>rfl
section
variable {P:Program}{w:World}{K:PySem.W.Frag}{mg:Str→Option Value}{base:Heap}{t:iU}
def Kl (p:Client→Prop)(C:Cs):Sp:=fun vs H Q _=>∃ (A:Ad)(cas:List Addr)(W:VW)(i:Nat)(ca:Addr)(c:Client),
 vs= [.ref A.w,.ref ca] ∧Rep C H A cas W∧W.bag.length≤10000∧cas[i]?=some ca∧W.clients[i]?=some c∧sF c∧p c∧
 ∀H',Rep C H' A cas (Vbcnag.done W (Vbcnag.acts W.now c))→dv A cas H H'→Q .bu H'
theorem xC (T:Txt K mg t):a7 P w K mg base dY 5 t.cw t.gS gL (Kl (fun c=>c.phase=1) (cs t)):=by
 refine T.km.ok wF (fun vs H Q E h=> ?_) (fun de A0 outer s H vs Q E hr h=> ?_)
 ·obtain ⟨A,cas,W,i,ca,c,rfl,_⟩:=h
  rfl
 ·obtain ⟨A,cas,W,i,ca,c,rfl,R,hb,hi,hc,hg,hp,k⟩:=h
  obtain ⟨d,pl,be,le,cJ,da⟩:=R.fM hc hi
  obtain ⟨Dk,og,oh⟩:=T.iz
  refine ⟨_,ak (aZ (bD (fR (ai (pv 1) rfl))) (ak (aG (aA (Kg T) (hr.mono (by decide)) (by rfl) T.JL T.FJ.kp T.JM .nil aQ (aa (pv 0) (aa (pv 1) (aa ah af)))))) (ak (aG (aA (sQ T) (hr.mono (by decide)) (by rfl) T.tT T.qv.kp T.tU .nil aQ (aa (pv 0) (aa (pv 1) (aa (aU (yY rfl) (by rfl) T.Qly PyProof.Rows.boot_min (aa (bW dz (ai (pv 1) rfl) ah) (aa (aC (by rfl) og oh) af))) af))))))),?_⟩
  refine ⟨_,rfl,ca,_,d,_,_,rfl,cJ,T.aq,T.Qkk,rfl,_,rfl,?_⟩
  have B0:=da.be
  cases MC:c.best with
  |none=>
   rw [MC] at B0
   have e:be= .bu:=B0
   subst e
   refine bf ?_
   refine ⟨_,rfl,_,rfl,_,rfl,ca,_,d,_,_,rfl,cJ,T.aq,T.Qko,rfl,_,_,rfl,rfl,_,_,rfl,A,cas,W,i,ca,c,min (c.tries + 1) 10,?_,R,hb,hi,hc,Nat.min_le_right _ _,fun H' R' F'=>k H' ?_ F'⟩
   ·have e:(if (10:Int) < (c.tries:Int) + 1 then (10:Int) else (c.tries:Int) + 1)=((min (c.tries + 1) 10:Nat):Int):=by split <;>omega
    show [V.ref A.w,V.ref ca,V.int (if (10:Int) < (c.tries:Int) + 1 then (10:Int) else (c.tries:Int) + 1)] =_
    rw [e]
    rfl
   ·rw [MB hp MC]
    exact R'
  |some o=>
   rw [MC] at B0
   obtain ⟨b,e,AI⟩:=B0
   subst e
   refine a8 ?_
   refine ⟨_,rfl,_,rfl,A,cas,W,i,ca,c,0,o,rfl,R,hb,hi,hc,Nat.zero_le _,MC,fun H' R' F'=>k H' ?_ F'⟩
   rw [Mz hp MC]
   exact R'
theorem yC (T:Txt K mg t):a7 P w K mg base dY 5 t.cO t.iY iK (Kl (fun c=>c.phase=2) (cs t)):=by
 refine T.lW.ok yq (fun vs H Q E h=> ?_) (fun de A0 outer s H vs Q E hr h=> ?_)
 ·obtain ⟨A,cas,W,i,ca,c,rfl,_⟩:=h
  rfl
 ·obtain ⟨A,cas,W,i,ca,c,rfl,R,hb,hi,hc,hg,hp,k⟩:=h
  obtain ⟨d,pl,be,le,cJ,da⟩:=R.fM hc hi
  obtain ⟨o,MC⟩:=Option.isSome_iff_exists.mp (hg.ask hp)
  obtain ⟨FW,sR,sS⟩:=T.j9
  refine ⟨_,ak (aZ (aI kK (ai (pv 1) rfl) (aC (by rfl) sR sS) (aM _)) (ak (aG (aA (Kg T) (hr.mono (by decide)) (by rfl) T.JL T.FJ.kp T.JM .nil aQ (aa (pv 0) (aa (pv 1) (aa (bW dz (ai (pv 1) rfl) ah) af)))))) (ak (aG (aA (sQ T) (hr.mono (by decide)) (by rfl) T.tT T.qv.kp T.tU .nil aQ (aa (pv 0) (aa (pv 1) (aa ah af))))))),?_⟩
  refine ⟨_,rfl,ca,_,d,_,_,rfl,cJ,T.aq,T.Qko,rfl,_,_,rfl,rfl,_,rfl,?_⟩
  refine dM (fun q1=> ?_) fun q1=> ?_
  ·have h1:c.tries < 3:=iE (b:=3)|>.mp q1
   refine ⟨_,rfl,_,rfl,_,rfl,ca,_,d,_,_,rfl,cJ,T.aq,T.Qko,rfl,_,_,rfl,rfl,A,cas,W,i,ca,c,c.tries + 1,o,rfl,R,hb,hi,hc,by omega,MC,fun H' R' F'=>k H' ?_ F'⟩
   rw [Ki hp MC,if_pos h1]
   exact R'
  ·have h1:¬c.tries < 3:=fun z=>q1 (iE (b:=3)|>.mpr z)
   refine ⟨_,rfl,_,rfl,A,cas,W,i,ca,c,0,rfl,R,hb,hi,hc,Nat.zero_le _,fun H' R' F'=>k H' ?_ F'⟩
   rw [Ki hp MC,if_neg h1]
   exact R'
theorem bp {a b:Nat}:decide (V.int (a:Int)=V.int (b:Int))=true ↔ a=b:=by
 rw [decide_eq_true_iff]
 constructor
 ·intro h
  injection h with h
  omega
 ·intro h
  rw [h]
theorem QD (T:Txt K mg t):a7 P w K mg base dY 6 t.rE t.FH FD (Kl (fun c=>c.phase≠0) (cs t)):=by
 refine T.JP.ok OZ (fun vs H Q E h=> ?_) (fun de A0 outer s H vs Q E hr h=> ?_)
 ·obtain ⟨A,cas,W,i,ca,c,rfl,_⟩:=h
  rfl
 ·obtain ⟨A,cas,W,i,ca,c,rfl,R,hb,hi,hc,hg,hp,k⟩:=h
  obtain ⟨d,pl,be,le,cJ,da⟩:=R.fM hc hi
  have h6:=hg.Y4
  obtain ⟨MD,BB,BC⟩:=T.vO
  obtain ⟨Km,xD,xE⟩:=T.xf
  obtain ⟨Dl,oj,om⟩:=T.iA
  obtain ⟨sT,gh,gi⟩:=T.gf
  refine ⟨_,ak (aZ (aI cf (ai (pv 1) rfl) (aC (by rfl) BB BC) (aM _)) (ak (aG (aA (xC T) (hr.mono (by decide)) (by rfl) T.pF T.km.kp T.pG .nil aQ (aa (pv 0) (aa (pv 1) af))))) (ak (aZ (aI cf (ai (pv 1) rfl) (aC (by rfl) xD xE) (aM _)) (ak (aG (aA (yC T) (hr.mono (by decide)) (by rfl) T.rS T.lW.kp T.rT .nil aQ (aa (pv 0) (aa (pv 1) af))))) (ak (aZ (PW.pt (gq (aI cf (ai (pv 1) rfl) (aC (by rfl) gh gi) (aM _)) (eF (aI kK (ai (pv 1) rfl) (aC (by rfl) oj om) (aM _))))) (ak (aG (aA (FV T) (hr.mono (by decide)) (by rfl) T.nt T.j6.kp T.nv .nil aQ (aa (pv 0) (aa (pv 1) (aa (bW dz (ai (pv 1) rfl) ah) af)))))) (ak (aG (aA (zO T) (hr.mono (by decide)) (by rfl) T.wO T.rR.kp T.wQ .nil aQ (aa (pv 0) (aa (pv 1) af)))))))))),?_⟩
  refine ⟨_,rfl,ca,_,d,_,_,rfl,cJ,T.aq,T.Qkl,rfl,rfl,_,rfl,?_⟩
  refine dM (fun q1=> ?_) fun q1=> ?_
  ·have h1:c.phase=1:=bp (b:=1)|>.mp q1
   exact ⟨_,rfl,_,rfl,A,cas,W,i,ca,c,rfl,R,hb,hi,hc,hg,h1,k⟩
  ·have h1:¬c.phase=1:=fun z=>q1 (bp (b:=1)|>.mpr z)
   refine ⟨_,rfl,ca,_,d,_,_,rfl,cJ,T.aq,T.Qkl,rfl,rfl,_,rfl,?_⟩
   refine dM (fun q2=> ?_) fun q2=> ?_
   ·have h2:c.phase=2:=bp (b:=2)|>.mp q2
    exact ⟨_,rfl,_,rfl,A,cas,W,i,ca,c,rfl,R,hb,hi,hc,hg,h2,k⟩
   ·have h2:¬c.phase=2:=fun z=>q2 (bp (b:=2)|>.mpr z)
    obtain ⟨l,hl⟩:=Option.isSome_iff_exists.mp (hg.held (by omega))
    refine ⟨_,rfl,ca,_,d,_,_,rfl,cJ,T.aq,T.Qkl,rfl,rfl,_,rfl,?_⟩
    refine dM (fun q3=> ?_) fun q3=> ?_
    ·have h3:c.phase=6:=bp (b:=6)|>.mp q3
     refine ⟨_,rfl,ca,_,d,_,_,rfl,cJ,T.aq,T.Qko,rfl,_,_,rfl,rfl,_,rfl,?_⟩
     refine dM (fun q4=> ?_) fun q4=> ?_
     ·have h4:c.tries < 2:=iE (b:=2)|>.mp q4
      refine ⟨_,rfl,_,rfl,_,rfl,ca,_,d,_,_,rfl,cJ,T.aq,T.Qko,rfl,_,_,rfl,rfl,A,cas,W,i,ca,c,c.tries + 1,l,rfl,R,hb,hi,hc,by omega,hl,fun H' R' F'=>k H' ?_ F'⟩
      rw [Kj h3 hl,if_pos h4]
      exact R'
     ·have h4:¬c.tries < 2:=fun z=>q4 (iE (b:=2)|>.mpr z)
      refine ⟨_,rfl,_,rfl,A,cas,W,i,ca,c,l,rfl,R,hb,hi,hc,hl,fun H' R' F'=>k H' ?_ F'⟩
      rw [Kj h3 hl,if_neg h4]
      exact R'
    ·have h3:¬c.phase=6:=fun z=>q3 (bp (b:=6)|>.mpr z)
     refine bf ?_
     refine ⟨_,rfl,_,rfl,A,cas,W,i,ca,c,l,rfl,R,hb,hi,hc,hl,fun H' R' F'=>k H' ?_ F'⟩
     rw [Kk (by omega) hl]
     exact R'
end
end Rl
namespace Rl
open PySem PySem.Spec PyProof.Rows L2
open Vbcnag (Mark Msg Under Offer Lease Client Relay Assigned Written)
abbrev vv:=Nat×Addr×Nat
structure WS (cas:List Addr) (cl:List Client) (ws:List vv):Prop where
 at_:∀x∈ws,cas[x.1]?=some x.2.1∧∃c,cl[x.1]?=some c∧c.due=some x.2.2
 ord:ws.Pairwise fun x y=>∀c d,cl[x.1]?=some c→cl[y.1]?=some d→c.host < d.host
 all:∀ (i:Nat)(c:Client)(d:Nat),cl[i]?=some c→c.due=some d→∃x∈ws,x.1=i
theorem FX {α:Type}{R:α→α→Prop}{l:List α}(h:l.Pairwise R){p q:Nat}{x y:α}(hpq:p < q)(hx:l[p]?=some x)(hy:l[q]?=some y):R x y:=by
 obtain ⟨h1,e1⟩:=List.getElem?_eq_some_iff.mp hx
 obtain ⟨h2,e2⟩:=List.getElem?_eq_some_iff.mp hy
 have:=List.pairwise_iff_getElem.mp h p q h1 h2 hpq
 rw [e1,e2] at this
 exact this
theorem WS.soonest {cas:List Addr}{W:VW}{ws:List vv}(S:WS cas W.clients ws){p:Nat}{x:vv}{c:Client}(hp:ws[p]?=some x)(QE:∀y∈ws,x.2.2≤y.2.2)(QF:∀ (q:Nat)(y:vv),q < p→ws[q]?=some y→y.2.2≠x.2.2)(hc:W.clients[x.1]?=some c):
  Vbcnag.soonest (Vbcnag.dues W)=some (x.2.2,c.host)∧c.due=some x.2.2:=by
 obtain ⟨_,c0,hc0,hd0⟩:=S.at_ x (List.mem_of_getElem? hp)
 rw [hc] at hc0
 cases hc0
 refine ⟨EF (fu.mpr ⟨c,List.mem_of_getElem? hc,hd0,rfl⟩) fun z hz=> ?_,hd0⟩
 obtain ⟨t,h⟩:=z
 obtain ⟨c',hm,hd,hh⟩:=fu.mp hz
 obtain ⟨i,hi⟩:=List.getElem?_of_mem hm
 obtain ⟨y,hy,NG⟩:=S.all i c' t hi hd
 obtain ⟨_,c1,yc,Ze⟩:=S.at_ y hy
 rw [NG,hi] at yc
 cases yc
 rw [hd] at Ze
 have et:t=y.2.2:=Option.some.inj Ze
 have hle:=QE y hy
 unfold fo
 show x.2.2 < t∨(x.2.2=t∧c.host≤h)
 by_cases q:x.2.2=t
 ·refine .inr ⟨q,?_⟩
  obtain ⟨r,hr⟩:=List.getElem?_of_mem hy
  by_cases e:r < p
  ·exact absurd (by rw [←et,q]) (QF r y e hr)
  ·by_cases e2:r=p
   ·rw [e2,hp] at hr
    cases hr
    rw [NG,hi] at hc
    cases hc
    rw [hh]
    exact Nat.le_refl _
   ·have:=FX S.ord (show p < r by omega) hp hr c c' hc (by rw [NG];exact hi)
    rw [←hh]
    omega
 ·exact .inl (by omega)
theorem WS.set {cas:List Addr}{cl:List Client}{ws:List vv}(S:WS cas cl ws){p:Nat}{x:vv}{c c':Client}{d':Nat}(hp:ws[p]?=some x)(hc:cl[x.1]?=some c)(hh:c'.host=c.host)(hd:c'.due=some d'):
  WS cas (cl.set x.1 c') (ws.set p (x.1,x.2.1,d')):=by
 have pz:∀ (q:Nat)(y:vv),q≠p→ws[q]?=some y→y.1≠x.1:=fun q y hq hy e=>by
  rcases Nat.lt_or_gt_of_ne hq with z|z
  ·exact absurd (FX S.ord z hy hp c c (by rw [e];exact hc) hc) (Nat.lt_irrefl _)
  ·exact absurd (FX S.ord z hp hy c c hc (by rw [e];exact hc)) (Nat.lt_irrefl _)
 have dy:=(List.getElem?_eq_some_iff.mp hp).1
 have NH:∀ (i:Nat)(a:Client),(cl.set x.1 c')[i]?=some a→∃b,cl[i]?=some b∧b.host=a.host:=fun i a ha=>by
  by_cases q:x.1=i
  ·rw [←q,iD hc] at ha
   cases ha
   exact ⟨c,by rw [←q];exact hc,hh.symm⟩
  ·rw [List.getElem?_set_ne q] at ha
   exact ⟨a,ha,rfl⟩
 have ix:∀ (q:Nat)(y:vv),(ws.set p (x.1,x.2.1,d'))[q]?=some y→∃z,ws[q]?=some z∧z.1=y.1:=fun q y hy=>by
  by_cases e:p=q
  ·rw [←e,List.getElem?_set_self dy] at hy
   cases hy
   exact ⟨x,by rw [←e];exact hp,rfl⟩
  ·rw [List.getElem?_set_ne e] at hy
   exact ⟨y,hy,rfl⟩
 refine ⟨fun y hy=> ?_,?_,fun i a d ha had=> ?_⟩
 ·obtain ⟨q,hq⟩:=List.getElem?_of_mem hy
  by_cases e:p=q
  ·rw [←e,List.getElem?_set_self dy] at hq
   cases hq
   exact ⟨(S.at_ x (List.mem_of_getElem? hp)).1,c',iD hc,hd⟩
  ·rw [List.getElem?_set_ne e] at hq
   obtain ⟨h1,b,h2,h3⟩:=S.at_ y (List.mem_of_getElem? hq)
   refine ⟨h1,b,?_,h3⟩
   rw [List.getElem?_set_ne (Ne.symm (pz q y (Ne.symm e) hq))]
   exact h2
 ·rw [List.pairwise_iff_getElem]
  intro i j hi hj Tg a b ha hb
  obtain ⟨z1,e1,f1⟩:=ix i _ (List.getElem?_eq_getElem hi)
  obtain ⟨z2,e2,f2⟩:=ix j _ (List.getElem?_eq_getElem hj)
  obtain ⟨a',ha',ea⟩:=NH _ a ha
  obtain ⟨b',Ry,eb⟩:=NH _ b hb
  have:=FX S.ord Tg e1 e2 a' b' (by rw [f1];exact ha') (by rw [f2];exact Ry)
  omega
 ·by_cases q:x.1=i
  ·exact ⟨(x.1,x.2.1,d'),List.mem_of_getElem? (List.getElem?_set_self dy),q⟩
  ·rw [List.getElem?_set_ne q] at ha
   obtain ⟨y,hy,NG⟩:=S.all i a d ha had
   obtain ⟨r,hr⟩:=List.getElem?_of_mem hy
   have hrp:p≠r:=fun e=>q (by rw [←NG];rw [e] at hp;rw [hp] at hr;cases hr;rfl)
   exact ⟨y,List.mem_of_getElem? (by rw [List.getElem?_set_ne hrp];exact hr),NG⟩
def kE (cas:List Addr)(cl:List Client)(n:Int):Option vv:=(cl.findIdx? fun c=>decide ((c.host:Int)=n)).bind fun i=>(cas[i]?).bind fun a=>(cl[i]?).bind fun c=>c.due.map fun d=>(i,a,d)
theorem FY:∀ {cl:List Client}{i:Nat}{c:Client},(cl.map (·.host)).Nodup→cl[i]?=some c→(cl.findIdx? fun x:Client=>decide ((x.host:Int)=(c.host:Int)))=some i
 | [],i,c,_,h=>by simp at h
 |x::cl,0,c,nd,h=>by
  have e:x=c:=Option.some.inj h
  subst e
  rw [List.findIdx?_cons,if_pos (by simp)]
 |x::cl,i + 1,c,nd,h=>by
  rw [List.map_cons,List.nodup_cons] at nd
  have hl:cl[i]?=some c:=h
  have ne:¬x.host=c.host:=fun q=>nd.1 (by rw [q];exact List.mem_map_of_mem (List.mem_of_getElem? hl))
  rw [List.findIdx?_cons,if_neg (by simp;omega),FY nd.2 hl]
  rfl
theorem ui {cas:List Addr}{cl:List Client}{i:Nat}{c:Client}{a:Addr}(nd:(cl.map (·.host)).Nodup)(h:cl[i]?=some c)(ha:cas[i]?=some a):kE cas cl (c.host:Int)=(c.due.map fun d=>(i,a,d)):=by
 unfold kE
 rw [FY nd h]
 simp only [Option.bind_some,ha,h]
theorem Kn {cas:List Addr}{cl:List Client}{ns:List Int}(nd:(cl.map (·.host)).Nodup)(hl:cas.length=cl.length)(hp:ns.Perm (cl.map fun c:Client=>(c.host:Int)))(hs:ns.Pairwise (· ≤ ·)):WS cas cl (ns.filterMap (kE cas cl)):=by
 have mem:∀n∈ns,∃ (i:Nat)(c:Client)(a:Addr),cl[i]?=some c∧cas[i]?=some a∧(c.host:Int)=n:=fun n hn=>by
  have:=hp.mem_iff.mp hn
  obtain ⟨c,hc,e⟩:=List.mem_map.mp this
  obtain ⟨i,hi⟩:=List.getElem?_of_mem hc
  have dy:=(List.getElem?_eq_some_iff.mp hi).1
  exact ⟨i,c,cas[i]'(by omega),hi,List.getElem?_eq_getElem _,e⟩
 have ent:∀n∈ns,∀x,kE cas cl n=some x→cas[x.1]?=some x.2.1∧∃c:Client,cl[x.1]?=some c∧c.due=some x.2.2∧(c.host:Int)=n:=fun n hn x hx=>by
  obtain ⟨i,c,a,h1,h2,h3⟩:=mem n hn
  rw [←h3,ui nd h1 h2] at hx
  cases hd:c.due with
  |none=>rw [hd] at hx;cases hx
  |some d=>
   rw [hd] at hx
   cases hx
   exact ⟨h2,c,h1,hd,h3⟩
 have ndn:ns.Nodup:=by
  refine hp.nodup_iff.mpr ?_
  have:(cl.map fun c:Client=>(c.host:Int))=(cl.map (·.host)).map (fun n:Nat=>(n:Int)):=by simp
  rw [this]
  exact (List.pairwise_map.mpr (nd.imp fun h q=>h (by omega)))
 have lt:ns.Pairwise (· < ·):=(hs.and ndn).imp fun h=>by omega
 refine ⟨fun x hx=> ?_,?_,fun i c d hi hd=> ?_⟩
 ·obtain ⟨n,hn,e⟩:=List.mem_filterMap.mp hx
  obtain ⟨h1,c,h2,h3,_⟩:=ent n hn x e
  exact ⟨h1,c,h2,h3⟩
 ·rw [List.pairwise_filterMap]
  refine List.Pairwise.imp_of_mem (fun {n m} hn hm dy x hx y hy c d hc hd=> ?_) lt
  obtain ⟨_,c',h2,_,h4⟩:=ent n hn x hx
  obtain ⟨_,d',k2,_,k4⟩:=ent m hm y hy
  rw [hc] at h2
  rw [hd] at k2
  cases h2
  cases k2
  omega
 ·have hn:(c.host:Int)∈ns:=hp.mem_iff.mpr (List.mem_map.mpr ⟨c,List.mem_of_getElem? hi,rfl⟩)
  have dy:=(List.getElem?_eq_some_iff.mp hi).1
  have ha:cas[i]?=some (cas[i]'(by omega)):=List.getElem?_eq_getElem _
  exact ⟨(i,cas[i]'(by omega),d),List.mem_filterMap.mpr ⟨_,hn,by rw [ui nd hi ha,hd];rfl⟩,rfl⟩
theorem oo:∀ {cas:List Addr}{cl:List Client},cas.length=cl.length→(ba cas cl).map (·.1)=(cl.map fun c:Client=>(c.host:Int)).map Sum.inl
 | [],[],_=>rfl
 | [],_::_,h=>by simp at h
 |_::_,[],h=>by simp at h
 |a::cas,c::cl,h=>by
  have ih:=oo (cas:=cas) (cl:=cl) (by simpa using h)
  unfold ba at ih ⊢
  rw [List.zipWith_cons_cons,List.map_cons,List.map_cons,List.map_cons,ih]
theorem xF:∀ {cas:List Addr}{cl:List Client}{i:Nat}{a:Addr}{c:Client},(cl.map (·.host)).Nodup→cas[i]?=some a→cl[i]?=some c→cN (ba cas cl) (Sum.inl (c.host:Int))=some (.ref a)
 | [],_,i,a,c,_,h,_=>by simp at h
 |_::_,[],i,a,c,_,_,h=>by simp at h
 |b::cas,d::cl,0,a,c,nd,ha,hc=>by
  have e1:b=a:=Option.some.inj ha
  have e2:d=c:=Option.some.inj hc
  subst e1 e2
  exact cA rfl
 |b::cas,d::cl,i + 1,a,c,nd,ha,hc=>by
  rw [List.map_cons,List.nodup_cons] at nd
  have hl:cl[i]?=some c:=hc
  have ne:¬d.host=c.host:=fun q=>nd.1 (by rw [q];exact List.mem_map_of_mem (List.mem_of_getElem? hl))
  unfold ba
  rw [List.zipWith_cons_cons,cB (fun q=>ne (by have:=Sum.inl.inj q;omega))]
  exact xF (i:=i) nd.2 ha hl
theorem Rep.len {C:Cs}{H:Hp}{A:Ad}{cas:List Addr}{W:VW}(R:Rep C H A cas W):cas.length=W.clients.length:=(cb.mp R.ca).1
theorem Rep.there {C:Cs}{H:Hp}{A:Ad}{cas:List Addr}{W:VW}(R:Rep C H A cas W){b:Addr}(h:A.mut cas b):∃o,H b=some o:=by
 rcases h with h|h|h|h|h|h|h|h|h
 ·rw [h];exact ⟨_,R.cj⟩
 ·rw [h];obtain ⟨_,q,_⟩:=R.rl;exact ⟨_,q⟩
 ·rw [h];obtain ⟨_,q,_⟩:=R.hd;exact ⟨_,q⟩
 ·rw [h];exact ⟨_,R.cd⟩
 ·rw [h];obtain ⟨_,q,_⟩:=R.rs;exact ⟨_,q⟩
 ·rw [h];obtain ⟨_,q,_⟩:=R.ag;exact ⟨_,q⟩
 ·rw [h];exact ⟨_,R.wr⟩
 ·rw [h];obtain ⟨_,q,_⟩:=R.bg;exact ⟨_,q⟩
 ·obtain ⟨i,hi⟩:=List.getElem?_of_mem h
  have dy:=(List.getElem?_eq_some_iff.mp hi).1
  have hc:W.clients[i]?=some (W.clients[i]'(by rw [←R.len];exact dy)):=List.getElem?_eq_getElem _
  obtain ⟨d,pl,be,le,e,_⟩:=R.fM hc hi
  exact ⟨_,e⟩
theorem Rep.fresh {C:Cs}{H:Hp}{A:Ad}{cas:List Addr}{W:VW}(R:Rep C H A cas W){b:Addr}(h:H b=none):¬A.mut cas b:=fun q=>by
 obtain ⟨o,e⟩:=R.there q
 rw [h] at e
 cases e
end Rl
namespace Rl
open PySem PySem.Spec PyProof.Rows L2
open Vbcnag (Mark Msg Under Offer Lease Client Relay Assigned Written)
theorem Dm {α:Type}{P:α→Prop}:∀ {l:List α},(∃x∈l,P x)→∃ (p:Nat)(x:α),l[p]?=some x∧P x∧∀ (q:Nat)(y:α),q < p→l[q]?=some y→¬P y
 | [],⟨x,h,_⟩=>by cases h
 |a::l,⟨x,h,hx⟩=>by
  by_cases ha:P a
  ·exact ⟨0,a,rfl,ha,fun q y hq _=>absurd hq (Nat.not_lt_zero _)⟩
  ·have hl:x∈l:=by
    cases h with
    |head=>exact absurd hx ha
    |tail _ h=>exact h
   obtain ⟨p,y,h1,h2,h3⟩:=Dm ⟨x,hl,hx⟩
   refine ⟨p + 1,y,h1,h2,fun q z hq hz=> ?_⟩
   cases q with
   |zero=>
    have e:a=z:=Option.some.inj hz
    rw [←e]
    exact ha
   |succ q=>exact h3 q z (by omega) hz
section
variable {P:Program}{w:World}{K:PySem.W.Frag}{mg:Str→Option Value}{base:Heap}{t:iU}
theorem Rep.other {C:Cs}{H:Hp}{A:Ad}{cas:List Addr}{W:VW}(R:Rep C H A cas W){F:Addr}{xs:List V}(hF:H F=some (.lst xs))(nm:¬A.mut cas F)(o:HO):Rep C (L2.upd H F o) A cas W:=by
 have kk:c9 C H (L2.upd H F o):=c9.upd hF (fun q=>q)
 have at_:∀ {b:Addr}{u:HO},A.mut cas b→H b=some u→L2.upd H F o b=some u:=fun {b u} hb e=>by
  rw [az (show b≠F from fun q=>nm (by rw [←q];exact hb))]
  exact e
 obtain ⟨ras,h1,h2⟩:=R.rl
 obtain ⟨kvs,h3,h4,h5⟩:=R.hd
 obtain ⟨bs,h6,h7⟩:=R.rs
 obtain ⟨ks,h8,h9⟩:=R.ag
 obtain ⟨bas,sO,B6⟩:=R.bg
 exact ⟨at_ (.inl rfl) R.cj,⟨ras,at_ (.inr (.inl rfl)) h1,Paired.bV h2 fun a b f=>f.keep kk⟩,⟨kvs,at_ (.inr (.inr (.inl rfl))) h3,h4,h5⟩,at_ (.inr (.inr (.inr (.inl rfl)))) R.cd,
  cb.mpr ⟨(cb.mp R.ca).1,fun i a b ha hb=>((cb.mp R.ca).2 i a b ha hb).keep kk fun u e=>at_ (Ad.gp ha) e⟩,⟨bs,at_ (.inr (.inr (.inr (.inr (.inl rfl))))) h6,h7⟩,⟨ks,at_ (.inr (.inr (.inr (.inr (.inr (.inl rfl)))))) h8,Paired.bV h9 fun a b f=>f.keep kk⟩,
  at_ (.inr (.inr (.inr (.inr (.inr (.inr (.inl rfl))))))) R.wr,⟨bas,at_ (.inr (.inr (.inr (.inr (.inr (.inr (.inr (.inl rfl)))))))) sO,Paired.bV B6 fun a b f=>f.keep kk⟩,R.n1,R.n2,R.n3,R.hn⟩
theorem HI {W:VW}{t:Nat}{c:Client}(h:W.bag.length≤W.cap):(fh W t c).bag.length≤W.cap:=by
 unfold fh Vbcnag.done
 rw [fe]
 show (W.bag ++ List.take (W.cap - W.bag.length) _).length≤W.cap
 rw [List.length_append,List.length_take]
 omega
def ME (C:Cs)(lid e:Nat)(W:VW)(A:Ad)(cas:List Addr)(H:Hp)(D F:Addr):Nat→L2.St→Hp→Prop:=fun m σ Hk=>∃ (Wk:VW)(kk:Nat)(ws:List vv)(x0:Int)(v6:Option V),
 σ= [some (.ref A.w),some (nV e),some (.ref D),some (.ref F),some (nV kk),some (.int x0),v6,none,none] ∧sL lid e W Wk kk∧Rep C Hk A cas Wk∧Wk.cap=W.cap∧Wk.bag.length≤W.cap∧Hk D=some (.lst (ws.map fun x=>V.ref x.2.1))∧Hk F=some (.lst (ws.map fun x=>nV x.2.2))∧
 WS cas Wk.clients ws∧ws.length≤64∧((ws= [] ∧x0=(e:Int) + 1)∨((∃x∈ws,x0=(x.2.2:Int))∧∀y∈ws,x0≤(y.2.2:Int)))∧m=mu e Wk.clients∧dv A cas H Hk
theorem xG {σ:L2.St}{H:Hp}{A B:Hp→Prop}(h:A H):SN σ H (fun b H3=>if b=true then A H3 else B H3):=a8 (A:=A H) (B:=B H) h
def MF (C:Cs):Sp:=fun vs H Q _=>∃ (A:Ad)(cas:List Addr)(W:VW)(e lid:Nat),vs= [.ref A.w,nV e] ∧Rep C H A cas W∧W.cap≤10000∧W.bag.length≤W.cap∧W.clients.length≤64∧qj W∧mu e W.clients < lid∧
 ∀H' W' n,Vbcnag.ticks lid e W=({W' with now:=e},n)→Rep C H' A cas W'→dv A cas H H'→Q (nV n) H'
theorem BD (T:Txt K mg t):a7 P w K mg base dY 8 t.di t.jZ jQ (MF (cs t)):=by
 refine T.ny.ok cp (fun vs H Q E h=> ?_) (fun de A0 outer s H vs Q E hr h=> ?_)
 ·obtain ⟨A,cas,W,e,lid,rfl,_⟩:=h
  rfl
 ·obtain ⟨A,cas,W,e,lid,rfl,R,LY,Ko,hlen,hg,hmu,k⟩:=h
  have hu:=fE hr
  refine ⟨_,ae (wq (i:=2) (own:= [("host",7)]) rfl cp.nd rfl rfl (Av rfl rfl rfl (by decide +kernel)) (oz (aU (Ea rfl) (by rfl) T.Ql0 PyProof.Rows.boot_sorted (aa (ai (pv 0) rfl) af))) (jw (show Ax mZ (ay dN) _ _=true by decide +kernel)) (fun _ _ _ _ _=>dP (i:=7) cp.nd rfl (Or.inl rfl)) (fun _ _ _ _ _=>As (bD (fR (lx K rfl (AA hu (lx K rfl (pv 0) rfl) (pv 7) (fun _ _=>rfl)) rfl)))) (fun _ _ _ _ _=>(AA hu (lx K rfl (pv 0) rfl) (pv 7) (fun _ _=>rfl))))
   (ae (wq (i:=3) (own:= [("client",8)]) rfl cp.nd rfl rfl (Av rfl rfl rfl (by decide +kernel)) (oz (pv 2)) (jw (show Ax mZ (ay dN) _ _=true by decide +kernel)) (fun _ _ _ _ _=>dP (i:=8) cp.nd rfl (Or.inl rfl)) (fun _ _ _ _ _=>vB) (fun _ _ _ _ _=>(lx K rfl (pv 8) rfl)))
   (ae (aS (i:=4) cp.nd rfl (Or.inl rfl) ah)
   (ae (aS (i:=5) cp.nd rfl (Or.inl rfl) (Fy rfl (by rfl) T.Qly (pv 3) (bW dz (pv 1) ah)))
   (ae (qL PassesOwn.never (aI wa (pv 5) (pv 1) (aM _)) (ae (aL (pv 0) (pv 5) rfl)
   (ae (aS (i:=6) cp.nd rfl (Or.inl rfl) (gm PySem.F.plainAttrs_list PySem.F.slot_list_index PySem.F.type_list_index Jc (pv 3) (aa (pv 5) af)))
   (ae (aG (aA (QD T) (hr.mono (by decide)) (by rfl) T.NA T.JP.kp T.NB .nil aQ (aa (pv 0) (aa (aE aJ (pv 2) (pv 6) (fun _ _=>rfl)) af))))
   (ae (IQ (ai (aE aJ (pv 2) (pv 6) (fun _ _=>rfl)) rfl) (IP (pv 3) (pv 6) set_list))
   (ae (DQ (i:=4) cp.nd rfl (Or.inl rfl) ah DR)
   (ak (aS (i:=5) cp.nd rfl (Or.inl rfl) (aU (Ot rfl) (by rfl) T.Qly PyProof.Rows.boot_min (aa (pv 3) af))))))))))
   (ak (aH (pv 4))))))),?_⟩
  have S0:=R.hn
  have CK:=eC T
  refine ⟨_,rfl,A.w,_,_,_,_,rfl,R.cj,T.aw,T.Qk4,rfl,A.cd,_,_,rfl,R.cd,oo R.len,fun ns p Kp Zf hp=>⟨p,rfl,⟨_,bT.of ab⟩,fun D hD=> ?_⟩⟩
  have S1:=aj.ao (o:=HO.lst (ns.map V.int)) hp
  have HE:L2.upd H p (HO.lst (ns.map V.int)) p=some (.lst (ns.map V.int)):=ab
  generalize L2.upd H p (HO.lst (ns.map V.int))=H1 at *
  have SD:∀l,aj H1 (L2.upd H1 D (.lst l)):=fun l=>aj.ao hD
  have hnl:ns.length≤64:=by
   rw [Kp.length_eq,List.length_map]
   exact hlen
  refine Aw (K:=K) (a:=p) (xs:=ns.map V.int) (fun i H'=>H'=L2.upd H1 D (.lst (((ns.take i).filterMap (kE cas W.clients)).map fun x=>V.ref x.2.1))) rfl (fun i H' _ lj=> ?_) (fun i x H' hx lj=> ?_) (fun H2 MH=> ?_)
  ·rw [lj]
   exact bT.of (SD _ _ _ HE)
  ·subst lj
   obtain ⟨n,hn,rfl⟩:∃n,ns[i]?=some n∧x=V.int n:=by
    rw [List.getElem?_map] at hx
    cases q:ns[i]? with
    |none=>rw [q] at hx;cases hx
    |some n=>rw [q] at hx;exact ⟨n,rfl,(Option.some.inj hx).symm⟩
   obtain ⟨ci,hci⟩:=List.getElem?_of_mem (List.mem_of_getElem? hn)
   have Aq:=Kp.mem_iff.mp (List.mem_of_getElem? hn)
   obtain ⟨c,hc,hcn⟩:=List.mem_map.mp Aq
   obtain ⟨j,hj⟩:=List.getElem?_of_mem hc
   obtain ⟨ca,cJ,d,pl,be,le,ml,da⟩:=R.cli hj
   subst hcn
   have aiz:=xF S0 cJ hj
   have SS:=S1.trans (SD (((ns.take i).filterMap (kE cas W.clients)).map fun x=>V.ref x.2.1))
   have DG:fC (L2.upd H1 D (.lst (((ns.take i).filterMap (kE cas W.clients)).map fun x=>V.ref x.2.1))) A.cd (V.int (c.host:Int)) (some (.ref ca)):=by
    rw [←aiz]
    exact fC.k (k:=Sum.inl (c.host:Int)) (SS _ _ R.cd)
   have tk:ns.take (i + 1)=ns.take i ++ [(c.host:Int)] :=by rw [List.take_add_one,hn];rfl
   have MI:=ui (cas:=cas) S0 hj cJ
   refine ⟨rfl,_,rfl,A.w,_,_,_,_,rfl,SS _ _ R.cj,T.aw,T.Qk4,rfl,_,rfl,A.cd,_,rfl,DG,ca,_,d,_,_,rfl,SS _ _ ml,T.aq,T.Qkh,rfl,_,rfl,?_⟩
   cases hd:c.due with
   |none=>
    refine bf ?_
    rw [hd] at MI
    rw [tk,List.filterMap_append,List.filterMap_cons,MI]
    simp
   |some du=>
    refine a8 ?_
    rw [hd] at MI
    refine ⟨_,rfl,A.w,_,_,_,_,rfl,SS _ _ R.cj,T.aw,T.Qk4,rfl,_,rfl,A.cd,_,rfl,DG,_,ab,?_,?_⟩
    ·rw [List.length_map]
     have h1:=List.length_filterMap_le (kE cas W.clients) (ns.take i)
     rw [List.length_take] at h1
     exact Nat.lt_of_le_of_lt (show _≤64 by omega) (by decide)
    ·rw [bS,tk,List.filterMap_append,List.filterMap_cons,MI]
     simp
  ·rw [List.length_map,List.take_length] at MH
   have WS0:=Kn (cas:=cas) S0 R.len Kp Zf
   have zk:(ns.filterMap (kE cas W.clients)).length≤64:=Nat.le_trans (List.length_filterMap_le _ _) hnl
   generalize ns.filterMap (kE cas W.clients)=HJ at MH WS0 zk
   have S2:aj H H2:=by
    rw [MH]
    exact S1.trans (SD _)
   have HH:H2 D=some (.lst (HJ.map fun x=>V.ref x.2.1)):=by
    rw [MH]
    exact ab
   have hDH:H D=none:=S1.free hD
   clear MH
   refine ⟨_,rfl,D,rfl,⟨_,bT.of HH⟩,fun F hF=> ?_⟩
   have SF:∀l,aj H2 (L2.upd H2 F (.lst l)):=fun l=>aj.ao hF
   refine Aw (K:=K) (a:=D) (xs:=HJ.map fun x=>V.ref x.2.1) (fun i H'=>H'=L2.upd H2 F (.lst ((HJ.take i).map fun x=>nV x.2.2))) rfl (fun i H' _ lj=> ?_) (fun i x H' hx lj=> ?_) (fun H3 GO=> ?_)
   ·rw [lj]
    exact bT.of (SF _ _ _ HH)
   ·subst lj
    obtain ⟨y,hy,rfl⟩:∃y,HJ[i]?=some y∧x=V.ref y.2.1:=by
     rw [List.getElem?_map] at hx
     cases q:HJ[i]? with
     |none=>rw [q] at hx;cases hx
     |some n=>rw [q] at hx;exact ⟨n,rfl,(Option.some.inj hx).symm⟩
    obtain ⟨Y5,c,hyc,hyd⟩:=WS0.at_ y (List.mem_of_getElem? hy)
    obtain ⟨d,pl,be,le,ml,da⟩:=R.fM hyc Y5
    have SS:=S2.trans (SF ((HJ.take i).map fun x=>nV x.2.2))
    refine ⟨rfl,?_⟩
    refine xG ?_
    refine ⟨_,rfl,y.2.1,_,d,_,_,rfl,SS _ _ ml,T.aq,T.Qkh,rfl,_,ab,?_,?_⟩
    ·rw [List.length_map,List.length_take]
     exact Nat.lt_of_le_of_lt (show _≤64 by omega) (by decide)
    ·rw [bS,List.take_add_one,hy,List.map_append,hyd]
     rfl
   ·rw [List.length_map,List.take_length] at GO
    have S3:aj H H3:=by
     rw [GO]
     exact S2.trans (SF _)
    have hw3:H3 D=some (.lst (HJ.map fun x=>V.ref x.2.1)):=by
     rw [GO]
     exact SF _ _ _ HH
    have hd3:H3 F=some (.lst (HJ.map fun x=>nV x.2.2)):=by
     rw [GO]
     exact ab
    have hFH:H F=none:=S2.free hF
    have hDF:D≠F:=aF HH hF
    have R3:=R.same S3
    have F3:dv A cas H H3:=aj.dq S3
    have mD:=R.fresh hDH
    have mF:=R.fresh hFH
    clear GO
    have hmm:∀ws:List vv,(ws.map fun x=>nV x.2.2)=(ws.map fun x=>(x.2.2:Int)).map V.int:=fun ws=>by rw [List.map_map];rfl
    refine ⟨_,rfl,_,rfl,_,_,rfl,rfl,F,HJ.map (fun x=>(x.2.2:Int)),rfl,bT.of (by rw [←hmm];exact hd3),?_⟩
    have st0:∀x0:Int,((HJ= [] ∧x0=(e:Int) + 1)∨((∃x∈HJ,x0=(x.2.2:Int))∧∀y∈HJ,x0≤(y.2.2:Int)))→ME (cs t) lid e W A cas H D F (mu e W.clients) [some (.ref A.w),some (nV e),some (.ref D),some (.ref F),some (nV 0),some (.int x0),none,none,none] H3:=fun x0 hx=>
     ⟨W,0,HJ,x0,none,rfl,sL.start hg hmu,R3,rfl,Ko,hw3,hd3,WS0,zk,hx,rfl,F3⟩
    refine (fun turn=>⟨fun z=>⟨ME (cs t) lid e W A cas H D F,⟨_,st0 _ (.inl ⟨List.map_eq_nil_iff.mp z,rfl⟩)⟩,turn⟩,fun m hm hle=>⟨ME (cs t) lid e W A cas H D F,⟨_,st0 m (.inr ⟨(let ⟨x,hx,e1⟩:=List.mem_map.mp hm;⟨x,hx,e1.symm⟩),fun y hy=>hle _ (List.mem_map.mpr ⟨y,hy,rfl⟩)⟩)⟩,turn⟩⟩) ?_
    ·rintro m σ Hk ⟨Wk,kk,ws,x0,v6,rfl,Me,Rk,hck,hbk,hDk,hFk,Zg,aiC,hx0,rfl,Fk⟩
     refine ⟨_,rfl,_,rfl,_,_,rfl,rfl,_,rfl,?_⟩
     refine dM (fun hle=> ?_) fun hle=> ?_
     ·have OT:x0≤(e:Int):=of_decide_eq_true hle
      obtain ⟨hex,fj⟩:(∃x∈ws,x0=(x.2.2:Int))∧∀y∈ws,x0≤(y.2.2:Int):=by
       rcases hx0 with ⟨_,q⟩|q
       ·omega
       ·exact q
      obtain ⟨p,x,NI,hxx,aiD⟩:=Dm hex
      subst hxx
      obtain ⟨hxa,c,Ly,hxd⟩:=Zg.at_ x (List.mem_of_getElem? NI)
      have hte:x.2.2≤e:=by omega
      have QE:∀y∈ws,x.2.2≤y.2.2:=fun y hy=>by have:=fj y hy;omega
      have hf2:∀ (q:Nat)(y:vv),q < p→ws[q]?=some y→y.2.2≠x.2.2:=fun q y hq hy z=>aiD q y hq hy (by rw [z])
      obtain ⟨Zh,_⟩:=Zg.soonest NI QE hf2 Ly
      have Zi:=Me.good.cl c (List.mem_of_getElem? Ly)
      have Y6:=jf Zi hxd
      have aiF:=Me.act Ly Zh hxd hte
      have aiG:=xp Me.good Ly hxd hte
      obtain ⟨ea1,ea2,ea3,_⟩:=sJ (t:=x.2.2) Me.good Ly Y6
      obtain ⟨did,t2,ht2,apx⟩:=nX x.2.2 Zi Y6
      refine ⟨fun σ' H'=>∃m',m' < mu e Wk.clients∧ME (cs t) lid e W A cas H D F m' σ' H',fun _ _ h=>h,?_⟩
      refine ⟨_,rfl,_,rfl,A.w,_,_,_,rfl,Rk.cj,T.aw,T.Qk6,lt1000 rfl,?_⟩
      have R4:=Rk.Kc CK x.2.2
      have F4:dv A cas Hk (L2.upd Hk A.w (.ins (cs t).W A.dw (A.fs x.2.2 Wk.servers Wk.cap))):=dv.upd (.inl rfl)
      have QG:=F4 _ _ hDk mD
      have hF4:=F4 _ _ hFk mF
      generalize Zj:L2.upd Hk A.w _=H4
      have hH:L2.upd Hk A.w (.ins (cs t).W A.dw (A.fs x.2.2 Wk.servers Wk.cap))=H4:=Zj
      rw [hH] at R4 F4 QG hF4
      clear hH Zj
      refine ⟨_,rfl,.inl ⟨rfl,_,bT.of hF4⟩,_,rfl,F,_,_,p,nV x.2.2,rfl,rfl,bT.of hF4,rfl,?_,?_,?_,?_,?_⟩
      ·rw [List.all_map]
       exact List.all_eq_true.mpr fun y _=>rfl
      ·rw [List.getElem?_map,NI]
       rfl
      ·show ((x.2.2:Int)==(x.2.2:Int))=true
       exact beq_self_eq_true _
      ·intro q z hq hz
       rw [List.getElem?_map] at hz
       cases hy:ws[q]? with
       |none=>rw [hy] at hz;cases hz
       |some y=>
        rw [hy] at hz
        cases hz
        have:=hf2 q y hq hy
        show ((y.2.2:Int)==(x.2.2:Int))=false
        exact beq_eq_false_iff_ne.mpr (by omega)
      ·
       have Rn:∀ {Hx:Hp},(ws.map fun x=>V.ref x.2.1)[p]?=some (V.ref x.2.1):=by
        intro _
        rw [List.getElem?_map,NI]
        rfl
       refine ⟨_,rfl,_,rfl,_,rfl,D,_,_,_,rfl,rfl,bT.of QG,gI (Rn (Hx:=H4)),A,cas,{Wk with now:=x.2.2},x.1,x.2.1,c,rfl,R4,Nat.le_trans hbk LY,hxa,Ly,Zi,Y6,fun H5 R5 F5=> ?_⟩
       have R5':Rep (cs t) H5 A cas (fh Wk x.2.2 c):=R5
       have hD5:=F5 _ _ QG mD
       have hF5:=F5 _ _ hF4 mF
       have hc5:(fh Wk x.2.2 c).clients[x.1]?=some (Vbcnag.acts x.2.2 c).1:=by
        rw [ea1]
        exact iD Ly
       obtain ⟨d5,pl5,be5,le5,aiH,apz⟩:=R5'.fM hc5 hxa
       refine ⟨_,rfl,_,rfl,D,_,_,_,rfl,rfl,bT.of hD5,gI (Rn (Hx:=H5)),x.2.1,_,d5,_,_,rfl,aiH,T.aq,T.Qkh,rfl,_,rfl,_,rfl,F,_,_,p,rfl,rfl,hF5,?_,?_⟩
       ·unfold Iz
        have:p < ws.length:=(List.getElem?_eq_some_iff.mp NI).1
        rw [List.length_map,if_pos (by omega),if_pos (by omega)]
        rfl
       ·have Rf:((ws.map fun x=>nV x.2.2).set p (oV (Vbcnag.acts x.2.2 c).1.due))=((ws.set p (x.1,x.2.1,t2)).map fun x=>nV x.2.2):=by
         rw [List.map_set,ht2]
         rfl
        have hws:(ws.set p (x.1,x.2.1,t2)).map (fun x=>V.ref x.2.1)=ws.map fun x=>V.ref x.2.1:=by
         rw [List.map_set]
         apply List.ext_getElem?
         intro q
         rw [List.getElem?_set]
         split
         ·rename_i hq
          subst hq
          have hl:=(List.getElem?_eq_some_iff.mp NI).1
          rw [List.length_map,if_pos hl,Rn (Hx:=H5)]
         ·rfl
        have R6:=Rep.other R5' hF5 mF (.lst ((ws.set p (x.1,x.2.1,t2)).map fun x=>nV x.2.2))
        have WS6:=Zg.set NI Ly did.host ht2
        rw [←ea1] at WS6
        have hD6:L2.upd H5 F (.lst ((ws.set p (x.1,x.2.1,t2)).map fun x=>nV x.2.2)) D=some (.lst ((ws.set p (x.1,x.2.1,t2)).map fun x=>V.ref x.2.1)):=by
         rw [az hDF,hws]
         exact hD5
        have F6:dv A cas H (L2.upd H5 F (.lst ((ws.set p (x.1,x.2.1,t2)).map fun x=>nV x.2.2))):=fun b o hb nm=>by
         rw [az (aF hb hFH)]
         exact (Fk.trans (F4.trans F5)) b o hb nm
        have dB:p < ws.length:=(List.getElem?_eq_some_iff.mp NI).1
        refine ⟨_,rfl,_,_,rfl,rfl,?_⟩
        rw [show ((ws.map fun x=>nV x.2.2).set p (oV (Vbcnag.acts x.2.2 c).1.due))=((ws.set p (x.1,x.2.1,t2)).map fun x=>nV x.2.2) from Rf]
        refine ⟨_,rfl,F,(ws.set p (x.1,x.2.1,t2)).map (fun x=>(x.2.2:Int)),rfl,bT.of (by rw [←hmm];exact ab),(by rw [List.length_map,List.length_set];omega),fun m' OO aiI=> ?_⟩
        obtain ⟨y,hy,ey⟩:=List.mem_map.mp OO
        exact ⟨_,aiG,fh Wk x.2.2 c,kk + 1,ws.set p (x.1,x.2.1,t2),m',some (nV p),rfl,aiF,R6,ea3.trans hck,(by rw [←hck];exact HI (by rw [hck];exact hbk)),hD6,ab,WS6,(by rw [List.length_set];exact aiC),
         .inr ⟨⟨y,hy,ey.symm⟩,fun z hz=>aiI _ (List.mem_map.mpr ⟨z,hz,rfl⟩)⟩,rfl,F6⟩
     ·have OT:¬x0≤(e:Int):=fun q=>hle (decide_eq_true q)
      have JB:=Me.ends fun c hc d hd=>by
       obtain ⟨i,hi⟩:=List.getElem?_of_mem hc
       obtain ⟨y,hy,NG⟩:=Zg.all i c d hi hd
       obtain ⟨_,c1,yc,Ze⟩:=Zg.at_ y hy
       rw [NG,hi] at yc
       cases yc
       rw [hd] at Ze
       have ed:d=y.2.2:=Option.some.inj Ze
       rcases hx0 with ⟨q,_⟩|⟨_,q⟩
       ·rw [q] at hy
        cases hy
       ·have:=q y hy
        omega
      exact ⟨_,rfl,k Hk Wk kk JB Rk Fk⟩
end
end Rl
namespace Rl
open PySem PySem.Spec PyProof.Rows L2
open Vbcnag (Mark Msg Under Offer Lease Client Relay Assigned Written)
def a3 (g:VW→List Int→Prop)(f:VW→List Int→VW×List Int)(K:PySem.W.Frag)(C:Cs):Sp:=fun vs H Q _=>∃ (A:Ad)(cas:List Addr)(W:VW)(nm:Addr)(ns:List Int),
 vs= [.ref A.w,.ref nm] ∧Rep C H A cas W∧bC W∧bT K H nm (ns.map V.int)∧¬A.mut cas nm∧g W ns∧
 ∀ (H':Hp)(yD:List Addr)(p:Addr),Rep C H' A yD (f W ns).1→dv A cas H H'→(∀b∈yD,b∈cas∨H b=none)→H' p=some (.lst ((f W ns).2.map V.int))→H p=none→Q (.ref p) H'
theorem zP {cas:List Addr}{W:VW}{n:Nat}(hl:cas.length=W.clients.length)(h:Vbcnag.clientOf W n=none):cN (ba cas W.clients) (Sum.inl (n:Int))=none:=by
 cases q:cN (ba cas W.clients) (Sum.inl (n:Int)) with
 |none=>rfl
 |some v=>
  have m:=L5 q
  rw [oo hl] at m
  obtain ⟨i,hi,e⟩:=List.mem_map.mp m
  obtain ⟨c,hc,e2⟩:=List.mem_map.mp hi
  have e3:i=(n:Int):=Sum.inl.inj e
  exact absurd (List.mem_map.mpr ⟨c,hc,by omega⟩) (kC h)
theorem xH {h:Int}(a:Vbcnag.isHost h=true):∃n:Nat,h=(n:Int):=⟨h.toNat,by have:=bh.mp a;omega⟩
theorem bX {H:Hp}{a p:Addr}{o:HO}(h:L2.upd H a o p=none):H p=none:=by
 by_cases z:p=a
 ·rw [z,ab] at h
  cases h
 ·rw [az z] at h
  exact h
theorem Rep.find {C:Cs}{H:Hp}{A:Ad}{cas:List Addr}{W:VW}(R:Rep C H A cas W)(n:Nat):(Vbcnag.clientOf W n=none∧fC H A.cd (V.int (n:Int)) none)∨
  ∃ (i:Nat)(ca:Addr)(c:Client)(d:Addr)(pl be le:V),Vbcnag.clientOf W n=some c∧c.host=n∧W.clients[i]?=some c∧cas[i]?=some ca∧H ca=some (.ins C.C d (qH c pl be le))∧HC H c pl be le∧fC H A.cd (V.int (n:Int)) (some (.ref ca)):=by
 have qI:∀o,cN (ba cas W.clients) (Sum.inl (n:Int))=o→fC H A.cd (V.int (n:Int)) o:=fun o e=>by
  rw [←e]
  exact fC.k (k:=Sum.inl (n:Int)) R.cd
 cases hc:Vbcnag.clientOf W n with
 |none=>exact .inl ⟨rfl,qI _ (zP R.len hc)⟩
 |some c=>
  obtain ⟨Rv,yg⟩:=je hc
  obtain ⟨i,hi⟩:=List.getElem?_of_mem Rv
  obtain ⟨ca,cJ,d,pl,be,le,ml,da⟩:=R.cli hi
  have hv:=xF R.hn cJ hi
  rw [yg] at hv
  exact .inr ⟨i,ca,c,d,pl,be,le,rfl,yg,hi,cJ,ml,da,qI _ hv⟩
theorem ll {W:VW}{n:Nat}{f:Client→VW×List Int}(hh:Vbcnag.isHost (n:Int)=true)(hc:Vbcnag.clientOf W n=none):Vbcnag.withClient W (n:Int) f=(W,[-2]):=by
 unfold Vbcnag.withClient
 rw [hh,Int.toNat_natCast,hc]
 rfl
theorem ff {W:VW}{n:Nat}{c:Client}{f:Client→VW×List Int}(hh:Vbcnag.isHost (n:Int)=true)(hc:Vbcnag.clientOf W n=some c):Vbcnag.withClient W (n:Int) f=f c:=by
 unfold Vbcnag.withClient
 rw [hh,Int.toNat_natCast,hc]
 rfl
section
variable {P:Program}{w:World}{K:PySem.W.Frag}{mg:Str→Option Value}{base:Heap}{t:iU}
abbrev g1:VW→List Int→Prop:=fun _ ns=>∃h,ns= [h] ∧Vbcnag.isHost h=true
def o6:VW→List Int→VW×List Int:=fun W ns=>Vbcnag.inWorld W (.unplug (ns.headD 0))
theorem HK (T:Txt K mg t):a7 P w K mg base dY 8 t.dF t.rH rk (a3 g1 o6 K (cs t)):=by
 refine T.wX.ok zt (fun vs H Q E h=> ?_) (fun de A0 outer s H vs Q E hr h=> ?_)
 ·obtain ⟨A,cas,W,nm,ns,rfl,_⟩:=h
  rfl
 ·obtain ⟨A,cas,W,nm,ns,rfl,R,wg,hS,px,⟨h0,rfl,hh⟩,k⟩:=h
  obtain ⟨n,rfl⟩:=xH hh
  have hu:=fE hr
  have CK:=eC T
  refine ⟨_,ae (aS (i:=2) zt.nd rfl (Or.inl rfl) (fS hu (ai (pv 0) rfl) (aE aJ (pv 1) ah (fun _ _=>rfl)) ⟨rfl,rfl,rfl,rfl⟩))
   (ae (aZ (PW.pt (qJ (bD (fQ (pv 2))) (lr (bD (fQ (ai (pv 2) rfl)))))) (ak (aH (aT (aa (dg bP ah) af)))) aR)
   (ae (aL (pv 2) dO rfl)
   (ak (aH (aT (aa ah af)))))),?_⟩
  rcases R.find n with ⟨hc,DG⟩|⟨i,ca,c,d,pl,be,le,hc,yg,hi,cJ,ml,da,DG⟩
  ·have hf:o6 W [(n:Int)] =(W,[-2]):=ll hh hc
   rw [hf] at k
   refine ⟨_,rfl,A.w,_,_,_,_,rfl,R.cj,T.aw,T.Qk4,rfl,A.cd,rfl,.inl ⟨_,.inl R.cd⟩,_,rfl,nm,_,_,_,rfl,rfl,hS,rfl,_,DG,?_⟩
   refine ⟨_,rfl,_,rfl,a8 ?_⟩
   refine a8 ?_
   exact ⟨_,rfl,(by show 1≤sizeLine;decide),fun p hp=>k _ cas p (R.same (aj.ao hp)) (aj.dq (aj.ao hp)) (fun b h=> .inl h) ab hp⟩
  ·refine ⟨_,rfl,A.w,_,_,_,_,rfl,R.cj,T.aw,T.Qk4,rfl,A.cd,rfl,.inl ⟨_,.inl R.cd⟩,_,rfl,nm,_,_,_,rfl,rfl,hS,rfl,_,DG,?_⟩
   refine ⟨_,rfl,_,rfl,bf ?_⟩
   refine ⟨_,rfl,ca,_,d,_,_,rfl,ml,T.aq,T.Qkm,rfl,_,rfl,?_⟩
   have dB:=da.pl
   cases hp:c.place with
   |none=>
    have hf:o6 W [(n:Int)] =(W,[-2]):=(ff hh hc).trans (if_pos hp)
    rw [hf] at k
    rw [hp] at dB
    have e:pl= .bu:=dB
    subst e
    refine a8 ?_
    exact ⟨_,rfl,(by show 1≤sizeLine;decide),fun p hp=>k _ cas p (R.same (aj.ao hp)) (aj.dq (aj.ao hp)) (fun b h=> .inl h) ab hp⟩
   |some m=>
    have hf:o6 W [(n:Int)] =({W with clients:=W.clients.set i {c with place:=none} },[0]):=by
     refine (ff hh hc).trans ((if_neg (by rw [hp];exact fun q=>nomatch q)).trans ?_)
     rw [br (d:={c with place:=none}) R.hn hi rfl]
    rw [hf] at k
    rw [hp] at dB
    obtain ⟨b,e,_⟩:=dB
    subst e
    refine bf ?_
    refine ⟨_,rfl,ca,_,d,_,rfl,ml,T.aq,T.Qkm,lt1000 rfl,?_⟩
    have R1:=R.setC CK (c':={c with place:=none}) cJ hi rfl ml ⟨rfl,da.be,da.le⟩
    exact ⟨(by show 1≤sizeLine;decide),fun p hp=>k _ cas p (Rep.same R1 (aj.ao hp)) ((dv.upd (Ad.gp cJ)).trans (aj.dq (aj.ao hp))) (fun b h=> .inl h) ab (bX hp)⟩
def HL:VW→List Int→VW×List Int:=fun W ns=>Vbcnag.inWorld W (.off (ns.headD 0))
theorem Dn (T:Txt K mg t):a7 P w K mg base dY 8 t.bZ t.lN lD (a3 g1 HL K (cs t)):=by
 refine T.qy.ok uF (fun vs H Q E h=> ?_) (fun de A0 outer s H vs Q E hr h=> ?_)
 ·obtain ⟨A,cas,W,nm,ns,rfl,_⟩:=h
  rfl
 ·obtain ⟨A,cas,W,nm,ns,rfl,R,wg,hS,px,⟨h0,rfl,hh⟩,k⟩:=h
  obtain ⟨n,rfl⟩:=xH hh
  have hu:=fE hr
  have CK:=eC T
  obtain ⟨Kq,vd,ve⟩:=T.zG
  refine ⟨_,ae (aS (i:=2) uF.nd rfl (Or.inl rfl) (fS hu (ai (pv 0) rfl) (aE aJ (pv 1) ah (fun _ _=>rfl)) ⟨rfl,rfl,rfl,rfl⟩))
   (ae (aZ (bD (fQ (pv 2))) (ak (aH (aT (aa (dg bP ah) af)))) aR)
   (ae (aZ (aI cf (ai (pv 2) rfl) (aC (by rfl) vd ve) (aM _)) (ak (aH (aT (aa (dg bP ah) af)))) aR)
   (ae (aL (pv 2) (aC (by rfl) vd ve) rfl)
   (ae (aL (pv 2) ah rfl)
   (ae (aL (pv 2) ah rfl)
   (ae (aL (pv 2) ah rfl)
   (ae (aL (pv 2) dO rfl)
   (ae (aL (pv 2) dO rfl)
   (ak (aH (aT (aa ah af)))))))))))),?_⟩
  rcases R.find n with ⟨hc,DG⟩|⟨i,ca,c,d,pl,be,le,hc,yg,hi,cJ,ml,da,DG⟩
  ·have hf:HL W [(n:Int)] =(W,[-2]):=ll hh hc
   rw [hf] at k
   refine ⟨_,rfl,A.w,_,_,_,_,rfl,R.cj,T.aw,T.Qk4,rfl,A.cd,rfl,.inl ⟨_,.inl R.cd⟩,_,rfl,nm,_,_,_,rfl,rfl,hS,rfl,_,DG,?_⟩
   refine ⟨_,rfl,_,rfl,a8 ?_⟩
   exact ⟨_,rfl,(by show 1≤sizeLine;decide),fun p hp=>k _ cas p (R.same (aj.ao hp)) (aj.dq (aj.ao hp)) (fun b h=> .inl h) ab hp⟩
  ·refine ⟨_,rfl,A.w,_,_,_,_,rfl,R.cj,T.aw,T.Qk4,rfl,A.cd,rfl,.inl ⟨_,.inl R.cd⟩,_,rfl,nm,_,_,_,rfl,rfl,hS,rfl,_,DG,?_⟩
   refine ⟨_,rfl,_,rfl,bf ?_⟩
   refine ⟨_,rfl,ca,_,d,_,_,rfl,ml,T.aq,T.Qkl,rfl,rfl,_,rfl,?_⟩
   refine dM (fun q1=> ?_) fun q1=> ?_
   ·have h1:c.phase=0:=bp (b:=0)|>.mp q1
    have hf:HL W [(n:Int)] =(W,[-3]):=(ff hh hc).trans (if_pos h1)
    rw [hf] at k
    exact ⟨_,rfl,(by show 1≤sizeLine;decide),fun p hp=>k _ cas p (R.same (aj.ao hp)) (aj.dq (aj.ao hp)) (fun b h=> .inl h) ab hp⟩
   ·have h1:¬c.phase=0:=fun z=>q1 (bp (b:=0)|>.mpr z)
    have hf:HL W [(n:Int)] =({W with clients:=W.clients.set i {c with phase:=0,number:=0,sent:=0,tries:=0,due:=none,best:=none} },[0]):=by
     refine (ff hh hc).trans ((if_neg h1).trans ?_)
     rw [br (d:={c with phase:=0,number:=0,sent:=0,tries:=0,due:=none,best:=none}) R.hn hi rfl]
    rw [hf] at k
    refine ⟨_,rfl,ca,_,d,_,rfl,ml,T.aq,T.Qkl,lt1000 rfl,_,rfl,ca,_,d,_,rfl,ab,T.aq,T.Qkf,lt1000 rfl,_,rfl,ca,_,d,_,rfl,ab,T.aq,T.Qkn,lt1000 rfl,
     _,rfl,ca,_,d,_,rfl,ab,T.aq,T.Qko,lt1000 rfl,_,rfl,ca,_,d,_,rfl,ab,T.aq,T.Qkh,lt1000 rfl,_,rfl,ca,_,d,_,rfl,ab,T.aq,T.Qkk,lt1000 rfl,?_⟩
    rw [bS,bS,bS,bS,bS]
    have R1:=R.setC CK (c':={c with phase:=0,number:=0,sent:=0,tries:=0,due:=none,best:=none}) cJ hi rfl ml ⟨da.pl,rfl,da.le⟩
    exact ⟨(by show 1≤sizeLine;decide),fun p hp=>k _ cas p (Rep.same R1 (aj.ao hp)) ((dv.upd (Ad.gp cJ)).trans (aj.dq (aj.ao hp))) (fun b h=> .inl h) ab (bX hp)⟩
def o7:VW→List Int→VW×List Int:=fun W ns=>Vbcnag.inWorld W (.forget (ns.headD 0))
theorem HM (T:Txt K mg t):a7 P w K mg base dY 8 t.dG t.rJ rm (a3 g1 o7 K (cs t)):=by
 refine T.wZ.ok zu (fun vs H Q E h=> ?_) (fun de A0 outer s H vs Q E hr h=> ?_)
 ·obtain ⟨A,cas,W,nm,ns,rfl,_⟩:=h
  rfl
 ·obtain ⟨A,cas,W,nm,ns,rfl,R,wg,hS,px,⟨h0,rfl,hh⟩,k⟩:=h
  obtain ⟨n,rfl⟩:=xH hh
  have hu:=fE hr
  have CK:=eC T
  obtain ⟨Kq,vd,ve⟩:=T.zG
  refine ⟨_,ae (aS (i:=2) zu.nd rfl (Or.inl rfl) (fS hu (ai (pv 0) rfl) (aE aJ (pv 1) ah (fun _ _=>rfl)) ⟨rfl,rfl,rfl,rfl⟩))
   (ae (aZ (bD (fQ (pv 2))) (ak (aH (aT (aa (dg bP ah) af)))) aR)
   (ae (aZ (aI v9 (ai (pv 2) rfl) (aC (by rfl) vd ve) (aM _)) (ak (aH (aT (aa (dg bP ah) af)))) aR)
   (ae (aL (pv 2) dO rfl)
   (ak (aH (aT (aa ah af))))))),?_⟩
  rcases R.find n with ⟨hc,DG⟩|⟨i,ca,c,d,pl,be,le,hc,yg,hi,cJ,ml,da,DG⟩
  ·have hf:o7 W [(n:Int)] =(W,[-2]):=ll hh hc
   rw [hf] at k
   refine ⟨_,rfl,A.w,_,_,_,_,rfl,R.cj,T.aw,T.Qk4,rfl,A.cd,rfl,.inl ⟨_,.inl R.cd⟩,_,rfl,nm,_,_,_,rfl,rfl,hS,rfl,_,DG,?_⟩
   refine ⟨_,rfl,_,rfl,a8 ?_⟩
   exact ⟨_,rfl,(by show 1≤sizeLine;decide),fun p hp=>k _ cas p (R.same (aj.ao hp)) (aj.dq (aj.ao hp)) (fun b h=> .inl h) ab hp⟩
  ·refine ⟨_,rfl,A.w,_,_,_,_,rfl,R.cj,T.aw,T.Qk4,rfl,A.cd,rfl,.inl ⟨_,.inl R.cd⟩,_,rfl,nm,_,_,_,rfl,rfl,hS,rfl,_,DG,?_⟩
   refine ⟨_,rfl,_,rfl,bf ?_⟩
   refine ⟨_,rfl,ca,_,d,_,_,rfl,ml,T.aq,T.Qkl,rfl,rfl,_,rfl,?_⟩
   by_cases h1:c.phase=0
   ·have hf:o7 W [(n:Int)] =({W with clients:=W.clients.set i {c with lease:=none} },[0]):=by
     refine (ff hh hc).trans ((if_neg (fun q=>q h1)).trans ?_)
     rw [br (d:={c with lease:=none}) R.hn hi rfl]
    rw [hf] at k
    refine Jo (show nV c.phase=V.int 0 by rw [h1];rfl) ?_
    refine ⟨_,rfl,ca,_,d,_,rfl,ml,T.aq,T.Qkj,lt1000 rfl,?_⟩
    have R1:=R.setC CK (c':={c with lease:=none}) cJ hi rfl ml ⟨da.pl,da.be,rfl⟩
    exact ⟨(by show 1≤sizeLine;decide),fun p hp=>k _ cas p (Rep.same R1 (aj.ao hp)) ((dv.upd (Ad.gp cJ)).trans (aj.dq (aj.ao hp))) (fun b h=> .inl h) ab (bX hp)⟩
   ·have hf:o7 W [(n:Int)] =(W,[-3]):=(ff hh hc).trans (if_pos h1)
    rw [hf] at k
    have pz:decide (nV c.phase=V.int 0)=false:=decide_eq_false fun q=>h1 (bp (b:=0)|>.mp (decide_eq_true q))
    rw [pz]
    refine a8 ?_
    exact ⟨_,rfl,(by show 1≤sizeLine;decide),fun p hp=>k _ cas p (R.same (aj.ao hp)) (aj.dq (aj.ao hp)) (fun b h=> .inl h) ab hp⟩
end
end Rl
namespace Rl
open PySem PySem.Spec PyProof.Rows L2
open Vbcnag (Mark Msg Under Offer Lease Client Relay Assigned Written)
theorem bC.QH {W:VW}(g:bC W):W.bag.length≤10000:=Nat.le_trans g.bag g.cap.2
section
variable {P:Program}{w:World}{K:PySem.W.Frag}{mg:Str→Option Value}{base:Heap}{t:iU}
def QI:VW→List Int→VW×List Int:=fun W ns=>Vbcnag.inWorld W (.on (ns.headD 0))
theorem EL (T:Txt K mg t):a7 P w K mg base dY 8 t.c5 t.oW oN (a3 g1 QI K (cs t)):=by
 refine T.tX.ok wH (fun vs H Q E h=> ?_) (fun de A0 outer s H vs Q E hr h=> ?_)
 ·obtain ⟨A,cas,W,nm,ns,rfl,_⟩:=h
  rfl
 ·obtain ⟨A,cas,W,nm,ns,rfl,R,wg,hS,px,⟨h0,rfl,hh⟩,k⟩:=h
  obtain ⟨n,rfl⟩:=xH hh
  have hu:=fE hr
  have CK:=eC T
  obtain ⟨Kq,vd,ve⟩:=T.zG
  refine ⟨_,ae (aS (i:=2) wH.nd rfl (Or.inl rfl) (fS hu (ai (pv 0) rfl) (aE aJ (pv 1) ah (fun _ _=>rfl)) ⟨rfl,rfl,rfl,rfl⟩))
   (ae (aZ (bD (fQ (pv 2))) (ak (aH (aT (aa (dg bP ah) af)))) aR)
   (ae (aZ (aI v9 (ai (pv 2) rfl) (aC (by rfl) vd ve) (aM _)) (ak (aH (aT (aa (dg bP ah) af)))) aR)
   (ae (aZ (PW.pt (gq (bD (fR (ai (pv 2) rfl))) (eF (aI qN (aE aY (ai (pv 2) rfl) ah (fun _ _=>rfl)) (ai (pv 0) rfl) (aM _))))) (ak (aG (aA (FV T) (hr.mono (by decide)) (by rfl) T.nt T.j6.kp T.nv .nil aQ (aa (pv 0) (aa (pv 2) (aa ah af)))))) (ak (aG (aA (sQ T) (hr.mono (by decide)) (by rfl) T.tT T.qv.kp T.tU .nil aQ (aa (pv 0) (aa (pv 2) (aa ah af)))))))
   (ak (aH (aT (aa ah af))))))),?_⟩
  rcases R.find n with ⟨hc,DG⟩|⟨i,ca,c,d,pl,be,le,hc,yg,hi,cJ,ml,da,DG⟩
  ·have hf:QI W [(n:Int)] =(W,[-2]):=ll hh hc
   rw [hf] at k
   refine ⟨_,rfl,A.w,_,_,_,_,rfl,R.cj,T.aw,T.Qk4,rfl,A.cd,rfl,.inl ⟨_,.inl R.cd⟩,_,rfl,nm,_,_,_,rfl,rfl,hS,rfl,_,DG,?_⟩
   refine ⟨_,rfl,_,rfl,a8 ?_⟩
   exact ⟨_,rfl,(by show 1≤sizeLine;decide),fun p hp=>k _ cas p (R.same (aj.ao hp)) (aj.dq (aj.ao hp)) (fun b h=> .inl h) ab hp⟩
  ·refine ⟨_,rfl,A.w,_,_,_,_,rfl,R.cj,T.aw,T.Qk4,rfl,A.cd,rfl,.inl ⟨_,.inl R.cd⟩,_,rfl,nm,_,_,_,rfl,rfl,hS,rfl,_,DG,?_⟩
   refine ⟨_,rfl,_,rfl,bf ?_⟩
   refine ⟨_,rfl,ca,_,d,_,_,rfl,ml,T.aq,T.Qkl,rfl,rfl,_,rfl,?_⟩
   by_cases h1:c.phase=0
   ·refine Jo (show nV c.phase=V.int 0 by rw [h1];rfl) ?_
    have fin:∀ (y:Vbcnag.Done)(H':Hp),QI W [(n:Int)] =(Vbcnag.done W y,[0])→Rep (cs t) H' A cas (Vbcnag.done W y)→dv A cas H H'→(∀b,H' b=none→H b=none)→∀p,H' p=none→Q (.ref p) (L2.upd H' p (.lst [V.int 0])):=fun y H' hf R' F' fr p hp=>by
     rw [hf] at k
     exact k _ cas p (R'.same (aj.ao hp)) (F'.trans (aj.dq (aj.ao hp))) (fun b h=> .inl h) ab (fr p hp)
    have fr:∀ {W':VW}{H':Hp},Rep (cs t) H' A cas W'→dv A cas H H'→∀b,H' b=none→H b=none:=fun {W' H'} R' F' b hb=>by
     cases q:H b with
     |none=>rfl
     |some o=>
      by_cases hm:A.mut cas b
      ·obtain ⟨o',yf⟩:=R'.there hm
       rw [hb] at yf
       cases yf
      ·rw [F' b o q hm] at hb
       cases hb
    have iG:QI W [(n:Int)] =(Vbcnag.done W (match c.lease with
      |none=>Vbcnag.seek W.now 0 c
      |some l=>if W.now < l.till then Vbcnag.comeBack W.now 0 l c else Vbcnag.seek W.now 0 c),[0]):=(ff hh hc).trans (if_neg (fun q=>q h1))
    refine ⟨_,rfl,ca,_,d,_,_,rfl,ml,T.aq,T.Qkj,rfl,_,rfl,?_⟩
    have hle:=da.le
    cases hl:c.lease with
    |none=>
     rw [hl] at hle iG
     have e:le= .bu:=hle
     subst e
     refine bf ?_
     refine bf ?_
     refine ⟨_,rfl,_,rfl,A,cas,W,i,ca,c,0,rfl,R,wg.QH,cJ,hi,Nat.zero_le _,fun H' R' F'=> ?_⟩
     exact ⟨(by show 1≤sizeLine;decide),fin _ H' iG R' F' (fr R' F')⟩
    |some l=>
     rw [hl] at hle iG
     obtain ⟨b,e,AI⟩:=hle
     subst e
     refine a8 ?_
     refine ⟨_,rfl,ca,_,d,_,_,rfl,ml,T.aq,T.Qkj,rfl,b,_,_,_,rfl,rfl,bb.of AI,rfl,_,rfl,A.w,_,_,_,_,rfl,R.cj,T.aw,T.Qk6,rfl,_,_,rfl,rfl,_,rfl,?_⟩
     refine dM (fun q2=> ?_) fun q2=> ?_
     ·have h2:W.now < l.till:=iE.mp q2
      refine ⟨_,rfl,_,rfl,A,cas,W,i,ca,c,0,l,rfl,R,wg.QH,cJ,hi,Nat.zero_le _,hl,fun H' R' F'=> ?_⟩
      exact ⟨(by show 1≤sizeLine;decide),fin _ H' (iG.trans (by dsimp only;rw [if_pos h2])) R' F' (fr R' F')⟩
     ·have h2:¬W.now < l.till:=fun z=>q2 (iE.mpr z)
      refine ⟨_,rfl,_,rfl,A,cas,W,i,ca,c,0,rfl,R,wg.QH,cJ,hi,Nat.zero_le _,fun H' R' F'=> ?_⟩
      exact ⟨(by show 1≤sizeLine;decide),fin _ H' (iG.trans (by dsimp only;rw [if_neg h2])) R' F' (fr R' F')⟩
   ·have hf:QI W [(n:Int)] =(W,[-3]):=(ff hh hc).trans (if_pos h1)
    rw [hf] at k
    have pz:decide (nV c.phase=V.int 0)=false:=decide_eq_false fun q=>h1 (bp (b:=0)|>.mp (decide_eq_true q))
    rw [pz]
    refine a8 ?_
    exact ⟨_,rfl,(by show 1≤sizeLine;decide),fun p hp=>k _ cas p (R.same (aj.ao hp)) (aj.dq (aj.ao hp)) (fun b h=> .inl h) ab hp⟩
abbrev Kr:VW→List Int→Prop:=fun _ ns=>∃h,ns= [h] ∧Vbcnag.within h 0 20000=true
def FZ:VW→List Int→VW×List Int:=fun W ns=>Vbcnag.inWorld W (.tick (ns.headD 0))
theorem Rep.jt {C:Cs}{H H':Hp}{A:Ad}{cas:List Addr}{W':VW}(R':Rep C H' A cas W')(F':dv A cas H H'){b:Addr}(hb:H' b=none):H b=none:=by
 cases q:H b with
 |none=>rfl
 |some o=>
  by_cases hm:A.mut cas b
  ·obtain ⟨o',yf⟩:=R'.there hm
   rw [hb] at yf
   cases yf
  ·rw [F' b o q hm] at hb
   cases hb
theorem MJ (T:Txt K mg t):a7 P w K mg base dY 9 t.gC t.Bj A3 (a3 Kr FZ K (cs t)):=by
 refine T.Ez.ok A4 (fun vs H Q E h=> ?_) (fun de A0 outer s H vs Q E hr h=> ?_)
 ·obtain ⟨A,cas,W,nm,ns,rfl,_⟩:=h
  rfl
 ·obtain ⟨A,cas,W,nm,ns,rfl,R,wg,hS,px,⟨h0,rfl,hh⟩,k⟩:=h
  obtain ⟨n,rfl⟩:∃n:Nat,h0=(n:Int):=⟨h0.toNat,by have:=bh.mp hh;omega⟩
  have CK:=eC T
  obtain ⟨Zk,Ks,Kt⟩:=T.C6
  refine ⟨_,ae (aS (i:=2) A4.nd rfl (Or.inl rfl) (bW dz (ai (pv 0) rfl) (aE aJ (pv 1) ah (fun _ _=>rfl))))
   (ae (aZ (aI qN (pv 2) (aC (by rfl) Ks Kt) (aM _)) (ak (aH (aT (aa (dg bP ah) af)))) aR)
   (ae (aS (i:=3) A4.nd rfl (Or.inl rfl) (aA (BD T) (hr.mono (by decide)) (by rfl) T.uJ T.ny.kp T.uK .nil aQ (aa (pv 0) (aa (pv 2) af))))
   (ae (aL (pv 0) (pv 2) rfl)
   (ak (aH (aT (aa ah (aa (pv 2) (aa (pv 3) af))))))))),?_⟩
  refine ⟨_,rfl,A.w,_,_,_,_,rfl,R.cj,T.aw,T.Qk6,rfl,_,rfl,nm,_,_,_,rfl,rfl,hS,rfl,_,_,rfl,rfl,?_⟩
  refine ⟨_,rfl,_,_,rfl,rfl,_,rfl,?_⟩
  have iG:FZ W [(n:Int)] =if Vbcnag.TIMES < W.now + n then (W,[-2]) else ((Vbcnag.ticks ((n + 1) * (W.clients.length + 1)) (W.now + n) W).1,0::Vbcnag.nums [(Vbcnag.ticks ((n + 1) * (W.clients.length + 1)) (W.now + n) W).1.now,(Vbcnag.ticks ((n + 1) * (W.clients.length + 1)) (W.now + n) W).2]):=by
   show (if Vbcnag.within (n:Int) 0 20000=false then _ else _)=_
   rw [hh]
   rfl
  refine dM (fun q1=> ?_) fun q1=> ?_
  ·have h1:Vbcnag.TIMES < W.now + n:=by
    have:=of_decide_eq_true q1
    unfold Vbcnag.TIMES
    omega
   rw [if_pos h1] at iG
   rw [iG] at k
   exact ⟨_,rfl,(by show 1≤sizeLine;decide),fun p hp=>k _ cas p (R.same (aj.ao hp)) (aj.dq (aj.ao hp)) (fun b h=> .inl h) ab hp⟩
  ·have h1:¬Vbcnag.TIMES < W.now + n:=fun z=>q1 (decide_eq_true (by unfold Vbcnag.TIMES at z;omega))
   rw [if_neg h1] at iG
   rw [iG] at k
   refine ⟨_,rfl,_,rfl,A,cas,W,W.now + n,(n + 1) * (W.clients.length + 1),rfl,R,wg.cap.2,wg.bag,wg.sM,wg.t,xq wg.Hu,fun H' W' kk he R' F'=> ?_⟩
   rw [he] at k
   refine ⟨_,rfl,_,rfl,A.w,_,_,_,rfl,R'.cj,T.aw,T.Qk6,lt1000 rfl,?_⟩
   have R2:=R'.Kc CK (W.now + n)
   exact ⟨_,rfl,_,rfl,(by show 3≤sizeLine;decide),fun p hp=>k _ cas p (Rep.same R2 (aj.ao hp)) ((F'.trans (dv.upd (.inl rfl))).trans (aj.dq (aj.ao hp))) (fun b h=> .inl h) ab (R'.jt F' (bX hp))⟩
end
end Rl
namespace Rl
open PySem PySem.Spec PyProof.Rows L2
open Vbcnag (Mark Msg Under Offer Lease Client Relay Assigned Written)
theorem eD {a b c a' b' c':Nat}:cC a b c=cC a' b' c' ↔ a=a'∧b=b'∧c=c':=by
 unfold cC
 constructor
 ·intro h
  injection h with h1 h
  injection h with h2 h
  injection h with h3 _
  have e1:=Sum.inl.inj h1
  have e2:=Sum.inl.inj h2
  have e3:=Sum.inl.inj h3
  omega
 ·rintro ⟨rfl,rfl,rfl⟩
  rfl
def isA (s h r:Nat)(y:Assigned):Bool:=decide (y.server=s∧y.host=h∧y.relay=r)
theorem BE {H:Hp}{p:List Key×V}{y:Assigned}(a:fw H p y)(s h r:Nat):decide (p.1=cC s h r)=isA s h r y:=by
 unfold isA
 rw [a.1]
 by_cases q:y.server=s∧y.host=h∧y.relay=r
 ·rw [decide_eq_true q,decide_eq_true (eD.mpr q)]
 ·rw [decide_eq_false q,decide_eq_false (fun z=>q (eD.mp z))]
theorem BF {H:Hp}(s h r:Nat):∀ {kvs:List (List Key×V)}{l:List Assigned},Paired (fw H) kvs l→(kvs.any fun kv=>decide (kv.1=cC s h r))=l.any (isA s h r)
 |_,_,.nil=>rfl
 |_,_,.cons a t=>by rw [List.any_cons,List.any_cons,BE a,BF s h r t]
theorem Dq {H:Hp}(s h r:Nat){kvs:List (List Key×V)}{l:List Assigned}(P:Paired (fw H) kvs l):(cN kvs (cC s h r)).isSome=l.any (isA s h r):=by
 rw [←jx,BF s h r P]
theorem F0 {H:Hp}{x:Assigned}{v:V}(hx:fw H (cC x.server x.host x.relay,v) x):∀ {kvs:List (List Key×V)}{l:List Assigned},Paired (fw H) kvs l→
  Paired (fw H) (kvs.map fun kv=>if kv.1=cC x.server x.host x.relay then (kv.1,v) else kv) (l.map fun y=>if isA x.server x.host x.relay y=true then x else y)
 |_,_,.nil=> .nil
 |_,_,.cons (a:=p) (b:=y) a t=>by
  rw [List.map_cons,List.map_cons]
  refine .cons ?_ (F0 hx t)
  have e:=BE a x.server x.host x.relay
  by_cases q:p.1=cC x.server x.host x.relay
  ·rw [if_pos q,←e,if_pos (decide_eq_true q),q]
   exact hx
  ·rw [if_neg q,←e,if_neg (by simpa using q)]
   exact a
theorem MK {H:Hp}{x:Assigned}{v:V}(hx:fw H (cC x.server x.host x.relay,v) x){kvs:List (List Key×V)}{l:List Assigned}(P:Paired (fw H) kvs l):
  Paired (fw H) (putK kvs (cC x.server x.host x.relay) v) (if l.any (isA x.server x.host x.relay)=true then l.map (fun y=>if isA x.server x.host x.relay y=true then x else y) else l ++ [x]):=by
 unfold putK
 rw [BF _ _ _ P]
 split
 ·exact F0 hx P
 ·exact Paired.vc P hx
theorem Dr {H:Hp}(s h r:Nat):∀ {kvs:List (List Key×V)}{l:List Assigned},Paired (fw H) kvs l→Paired (fw H) (wt kvs (cC s h r)) (l.filter fun y=> !isA s h r y)
 |_,_,.nil=> .nil
 |_,_,.cons (a:=p) (b:=y) a t=>by
  have e:=BE a s h r
  have ih:=Dr s h r t
  unfold wt at ih ⊢
  rw [List.filter_cons,List.filter_cons,←e]
  by_cases q:p.1=cC s h r
  ·rw [if_neg (by simp [q]),if_neg (by simp [q])]
   exact ih
  ·rw [if_pos (by simp [q]),if_pos (by simp [q])]
   exact .cons a ih
section
variable {P:Program}{w:World}{K:PySem.W.Frag}{mg:Str→Option Value}{base:Heap}{t:iU}
abbrev BG:VW→List Int→Prop:=fun W ns=>∃s h r a l:Nat,ns= [(s:Int),(h:Int),(r:Int),(a:Int),(l:Int)] ∧
 (Vbcnag.isServer W (s:Int) && (Vbcnag.isHost (h:Int) && (Vbcnag.isRelay W (r:Int) && (Vbcnag.within (a:Int) 0 (Vbcnag.ADDRS - 1) && Vbcnag.within (l:Int) 1 1000000000))))=true
def o8:VW→List Int→VW×List Int:=fun W ns=>match ns with
 | [s,h,r,a,l] =>Vbcnag.inWorld W (.assign s h r a l)
 |_=>(W,[])
theorem HN (T:Txt K mg t):a7 P w K mg base dY 8 t.f_assign t.rK rn (a3 BG o8 K (cs t)):=by
 refine T.w6.ok zw (fun vs H Q E h=> ?_) (fun de A0 outer s H vs Q E hr h=> ?_)
 ·obtain ⟨A,cas,W,nm,ns,rfl,_⟩:=h
  rfl
 ·obtain ⟨A,cas,W,nm,ns,rfl,R,wg,hS,px,⟨sv,ho,re,ad,ln,rfl,hh⟩,k⟩:=h
  have hu:=fE hr
  obtain ⟨kvs,Ku,hP⟩:=R.ag
  have iG:o8 W [(sv:Int),(ho:Int),(re:Int),(ad:Int),(ln:Int)] =(if W.assigned.any (isA sv ho re)=true then ({W with assigned:=W.assigned.map fun y=>if isA sv ho re y=true then {server:=sv,host:=ho,relay:=re,addr:=ad,len:=ln} else y},[0])
    else if 128≤W.assigned.length then (W,[-2]) else ({W with assigned:=W.assigned ++ [{server:=sv,host:=ho,relay:=re,addr:=ad,len:=ln}] },[0])):=by
   show (if _=false then _ else _)=_
   rw [hh]
   rfl
  have hlen:kvs.length=W.assigned.length:=Paired.length hP
  obtain ⟨IB,vw,vx⟩:=T.mH
  refine ⟨_,ae (aS (i:=2) zw.nd rfl (Or.inl rfl) (bx (aa (aE aJ (pv 1) ah (fun _ _=>rfl)) (aa (aE aJ (pv 1) ah (fun _ _=>rfl)) (aa (aE aJ (pv 1) ah (fun _ _=>rfl)) af)))))
   (ae (aZ (PW.pt (gq (bD (tG hu (pv 2) (ai (pv 0) rfl))) (eF (aI cf (aU GZ (by rfl) T.Qlv PySem.boot_len (aa (ai (pv 0) rfl) af)) (aC (by rfl) vw vx) (aM _))))) (ak (aH (aT (aa (dg bP ah) af)))) aR)
   (ae (vC hu (ai (pv 0) rfl) (pv 2) (bx (aa (aE aJ (pv 1) ah (fun _ _=>rfl)) (aa (aE aJ (pv 1) ah (fun _ _=>rfl)) af))) rfl)
   (ak (aH (aT (aa ah af)))))),?_⟩
  refine ⟨_,rfl,nm,_,_,_,rfl,rfl,hS,rfl,_,rfl,nm,_,_,_,rfl,rfl,hS,rfl,_,rfl,nm,_,_,_,rfl,rfl,hS,rfl,(by show 3≤sizeLine;decide),fun q hq=> ?_⟩
  have S1:=aj.ao (o:=HO.tup [V.int (sv:Int),V.int (ho:Int),V.int (re:Int)]) hq
  have EM:L2.upd H q (HO.tup [V.int (sv:Int),V.int (ho:Int),V.int (re:Int)]) q=some (.tup ((cC sv ho re).map kV)):=ab
  generalize L2.upd H q (HO.tup [V.int (sv:Int),V.int (ho:Int),V.int (re:Int)])=H1 at *
  have R1:=R.same S1
  have BH:=S1 _ _ Ku
  have Zl:Paired (fw H1) kvs W.assigned:=Paired.bV hP fun a b f=>f.keep (aj.keep (C:=cs t) S1)
  have DG:=fC.t BH EM
  have xI:=Dq sv ho re hP
  refine ⟨_,rfl,_,rfl,A.w,_,_,_,_,rfl,R1.cj,T.aw,T.Qk1,rfl,A.ag,_,rfl,DG,_,rfl,?_⟩
  have zm:bT K H1 nm _:=S1.seq hS
  have dy:kvs.length < sizeLine:=by
   rw [hlen]
   exact Nat.lt_of_le_of_lt wg.asg (by decide)
  have aiJ:(W.assigned.any (isA sv ho re)=false∧128≤W.assigned.length∧o8 W [(sv:Int),(ho:Int),(re:Int),(ad:Int),(ln:Int)] =(W,[-2]))∨
    ((W.assigned.any (isA sv ho re)=true∨(W.assigned.any (isA sv ho re)=false∧¬128≤W.assigned.length))∧o8 W [(sv:Int),(ho:Int),(re:Int),(ad:Int),(ln:Int)] =
     ({W with assigned:=if W.assigned.any (isA sv ho re)=true then W.assigned.map (fun y=>if isA sv ho re y=true then {server:=sv,host:=ho,relay:=re,addr:=ad,len:=ln} else y) else W.assigned ++ [{server:=sv,host:=ho,relay:=re,addr:=ad,len:=ln}] },[0])):=by
   cases ha:W.assigned.any (isA sv ho re) with
   |true=>
    rw [ha,if_pos rfl] at iG
    exact .inr ⟨.inl rfl,by rw [if_pos rfl];exact iG⟩
   |false=>
    rw [ha,if_neg Bool.false_ne_true] at iG
    by_cases hl:128≤W.assigned.length
    ·rw [if_pos hl] at iG
     exact .inl ⟨rfl,hl,iG⟩
    ·rw [if_neg hl] at iG
     exact .inr ⟨.inr ⟨rfl,hl⟩,by rw [if_neg Bool.false_ne_true];exact iG⟩
  rcases aiJ with ⟨ha,hl,hf⟩|⟨Zm,hf⟩
  ·rw [hf] at k
   rw [xI,ha]
   refine a8 ?_
   refine ⟨_,rfl,A.w,_,_,_,_,rfl,R1.cj,T.aw,T.Qk1,rfl,A.ag,_,rfl,BH,rfl,_,rfl,?_⟩
   have:W.assigned.length=128:=Nat.le_antisymm wg.asg hl
   rw [show decide (V.int (kvs.length:Int)=V.int 128)=true from decide_eq_true (by rw [hlen,this];rfl)]
   refine a8 ?_
   exact ⟨_,rfl,(by show 1≤sizeLine;decide),fun p hp=>k _ cas p (R1.same (aj.ao hp)) ((aj.dq S1).trans (aj.dq (aj.ao hp))) (fun b h=> .inl h) ab (S1.free hp)⟩
  ·rw [hf] at k
   rw [xI]
   have put:∀z,H1 z=none→∀p,L2.upd (L2.upd H1 z (.tup [V.int (ad:Int),V.int (ln:Int)])) A.ag (.dT (putK kvs (cC sv ho re) (.ref z))) p=none→
     Q (.ref p) (L2.upd (L2.upd (L2.upd H1 z (.tup [V.int (ad:Int),V.int (ln:Int)])) A.ag (.dT (putK kvs (cC sv ho re) (.ref z)))) p (.lst [V.int 0])):=fun z hz p hp=>by
    have S2:=aj.ao (o:=HO.tup [V.int (ad:Int),V.int (ln:Int)]) hz
    have Eb:Paired (fw (L2.upd H1 z (.tup [V.int (ad:Int),V.int (ln:Int)]))) kvs W.assigned:=Paired.bV Zl fun a b f=>f.keep (aj.keep (C:=cs t) S2)
    have R3:=(R1.same S2).NF (MK (x:={server:=sv,host:=ho,relay:=re,addr:=ad,len:=ln}) (v:= .ref z) ⟨rfl,z,rfl,ab⟩ Eb)
    exact k _ cas p (Rep.same R3 (aj.ao hp)) (((aj.dq (S1.trans S2)).trans (dv.upd (.inr (.inr (.inr (.inr (.inr (.inl rfl)))))))).trans (aj.dq (aj.ao hp))) (fun b h=> .inl h) ab (S1.free (S2.free (bX hp)))
   have tail:∀z,H1 z=none→aj H1 (L2.upd H1 z (.tup [V.int (ad:Int),V.int (ln:Int)])):=fun z hz=>aj.ao hz
   rcases Zm with ha|⟨ha,hl⟩
   ·rw [ha]
    refine bf ?_
    refine bf ?_
    refine ⟨_,rfl,nm,_,_,_,rfl,rfl,zm,rfl,_,rfl,nm,_,_,_,rfl,rfl,zm,rfl,(by show 2≤sizeLine;decide),fun z hz=> ?_⟩
    exact ⟨_,rfl,A.w,_,_,_,_,rfl,tail z hz _ _ R1.cj,T.aw,T.Qk1,rfl,_,rfl,A.ag,_,rfl,wu.t (tail z hz _ _ BH) (tail z hz _ _ EM) dy,(by show 1≤sizeLine;decide),put z hz⟩
   ·rw [ha]
    refine a8 ?_
    refine ⟨_,rfl,A.w,_,_,_,_,rfl,R1.cj,T.aw,T.Qk1,rfl,A.ag,_,rfl,BH,rfl,_,rfl,?_⟩
    rw [show decide (V.int (kvs.length:Int)=V.int 128)=false from decide_eq_false (fun q=>hl (by injection q with q;omega))]
    refine bf ?_
    refine ⟨_,rfl,nm,_,_,_,rfl,rfl,zm,rfl,_,rfl,nm,_,_,_,rfl,rfl,zm,rfl,(by show 2≤sizeLine;decide),fun z hz=> ?_⟩
    exact ⟨_,rfl,A.w,_,_,_,_,rfl,tail z hz _ _ R1.cj,T.aw,T.Qk1,rfl,_,rfl,A.ag,_,rfl,wu.t (tail z hz _ _ BH) (tail z hz _ _ EM) dy,(by show 1≤sizeLine;decide),put z hz⟩
abbrev uj:VW→List Int→Prop:=fun W ns=>∃s h r:Nat,ns= [(s:Int),(h:Int),(r:Int)] ∧(Vbcnag.isServer W (s:Int) && (Vbcnag.isHost (h:Int) && Vbcnag.isRelay W (r:Int)))=true
def o9:VW→List Int→VW×List Int:=fun W ns=>match ns with
 | [s,h,r] =>Vbcnag.inWorld W (.withdraw s h r)
 |_=>(W,[])
theorem Ds (T:Txt K mg t):a7 P w K mg base dY 8 t.b0 t.lO lE (a3 uj o9 K (cs t)):=by
 refine T.qz.ok uG (fun vs H Q E h=> ?_) (fun de A0 outer s H vs Q E hr h=> ?_)
 ·obtain ⟨A,cas,W,nm,ns,rfl,_⟩:=h
  rfl
 ·obtain ⟨A,cas,W,nm,ns,rfl,R,wg,hS,px,⟨sv,ho,re,rfl,hh⟩,k⟩:=h
  have hu:=fE hr
  obtain ⟨kvs,Ku,hP⟩:=R.ag
  have iG:o9 W [(sv:Int),(ho:Int),(re:Int)] =(if W.assigned.any (isA sv ho re)=false then (W,[-2]) else ({W with assigned:=W.assigned.filter fun y=> !isA sv ho re y},[0])):=by
   show (if _=false then _ else _)=_
   rw [hh]
   rfl
  refine ⟨_,ae (aS (i:=2) uG.nd rfl (Or.inl rfl) (bx (aa (aE aJ (pv 1) ah (fun _ _=>rfl)) (aa (aE aJ (pv 1) ah (fun _ _=>rfl)) (aa (aE aJ (pv 1) ah (fun _ _=>rfl)) af)))))
   (ae (aZ (bD (tG hu (pv 2) (ai (pv 0) rfl))) (ak (aH (aT (aa (dg bP ah) af)))) aR)
   (ae (aG (Ju hu (ai (pv 0) rfl) (pv 2) ⟨rfl,rfl,rfl,rfl⟩))
   (ak (aH (aT (aa ah af)))))),?_⟩
  refine ⟨_,rfl,nm,_,_,_,rfl,rfl,hS,rfl,_,rfl,nm,_,_,_,rfl,rfl,hS,rfl,_,rfl,nm,_,_,_,rfl,rfl,hS,rfl,(by show 3≤sizeLine;decide),fun q hq=> ?_⟩
  have S1:=aj.ao (o:=HO.tup [V.int (sv:Int),V.int (ho:Int),V.int (re:Int)]) hq
  have EM:L2.upd H q (HO.tup [V.int (sv:Int),V.int (ho:Int),V.int (re:Int)]) q=some (.tup ((cC sv ho re).map kV)):=ab
  generalize L2.upd H q (HO.tup [V.int (sv:Int),V.int (ho:Int),V.int (re:Int)])=H1 at *
  have R1:=R.same S1
  have BH:=S1 _ _ Ku
  have Zl:Paired (fw H1) kvs W.assigned:=Paired.bV hP fun a b f=>f.keep (aj.keep (C:=cs t) S1)
  have DG:=fC.t BH EM
  have xI:=Dq sv ho re hP
  refine ⟨_,rfl,_,rfl,A.w,_,_,_,_,rfl,R1.cj,T.aw,T.Qk1,rfl,A.ag,_,rfl,DG,_,rfl,?_⟩
  cases hv:cN kvs (cC sv ho re) with
  |none=>
   rw [hv] at xI
   rw [if_pos (show W.assigned.any (isA sv ho re)=false from xI.symm)] at iG
   rw [iG] at k
   refine a8 ?_
   exact ⟨_,rfl,(by show 1≤sizeLine;decide),fun p hp=>k _ cas p (R1.same (aj.ao hp)) ((aj.dq S1).trans (aj.dq (aj.ao hp))) (fun b h=> .inl h) ab (S1.free hp)⟩
  |some v=>
   rw [hv] at xI
   rw [if_neg (show ¬W.assigned.any (isA sv ho re)=false from fun z=>by rw [←xI] at z;cases z)] at iG
   rw [iG] at k
   refine bf ?_
   refine ⟨_,rfl,A.w,_,_,_,_,rfl,R1.cj,T.aw,T.Qk1,rfl,A.ag,rfl,.inr ⟨_,.inl BH⟩,_,rfl,kvs,cC sv ho re,q,v,BH,rfl,EM,hv,?_⟩
   have R3:=R1.NF (Dr sv ho re Zl)
   exact ⟨(by show 1≤sizeLine;decide),fun p hp=>k _ cas p (Rep.same R3 (aj.ao hp)) (((aj.dq S1).trans (dv.upd (.inr (.inr (.inr (.inr (.inr (.inl rfl)))))))).trans (aj.dq (aj.ao hp))) (fun b h=> .inl h) ab (S1.free (bX hp))⟩
abbrev Kv:VW→List Int→Prop:=fun W ns=>∃s x:Nat,ns= [(s:Int),(x:Int)] ∧(Vbcnag.isServer W (s:Int) && Vbcnag.within (x:Int) 0 1)=true
def F8:VW→List Int→VW×List Int:=fun W ns=>match ns with
 | [s,x] =>Vbcnag.inWorld W (.rest s x)
 |_=>(W,[])
theorem ML (T:Txt K mg t):a7 P w K mg base dY 8 t.gB t.Bi A2 (a3 Kv F8 K (cs t)):=by
 refine T.Ey.ok Mo (fun vs H Q E h=> ?_) (fun de A0 outer s H vs Q E hr h=> ?_)
 ·obtain ⟨A,cas,W,nm,ns,rfl,_⟩:=h
  rfl
 ·obtain ⟨A,cas,W,nm,ns,rfl,R,wg,hS,px,⟨sv,x,rfl,hh⟩,k⟩:=h
  obtain ⟨bs,NJ,RA,hbs⟩:=R.rs
  have vR:sv < W.servers:=by
   rw [Bool.and_eq_true] at hh
   have:=bh.mp hh.1
   omega
  have iG:F8 W [(sv:Int),(x:Int)] =({W with resting:=if (x:Int)=1 then sv::(W.resting.filter fun t=>t !=sv) else W.resting.filter fun t=>t !=sv},[0]):=by
   show (if _=false then _ else _)=_
   rw [hh]
   rfl
  rw [iG] at k
  refine ⟨_,ae (IQ (iH cf (aE aJ (pv 1) ah (fun _ _=>rfl)) ah (aM _)) (IP (ai (pv 0) rfl) (aE aJ (pv 1) ah (fun _ _=>rfl)) set_list))
   (ak (aH (aT (aa ah af)))),?_⟩
  refine ⟨_,rfl,nm,_,_,_,rfl,rfl,hS,rfl,rfl,_,rfl,A.w,_,_,_,_,rfl,R.cj,T.aw,T.Qk8,rfl,_,rfl,nm,_,_,_,rfl,rfl,hS,rfl,A.rs,_,_,sv,rfl,rfl,NJ,?_,?_⟩
  ·unfold Iz
   rw [List.length_map,if_pos (by omega),if_pos (by omega)]
   rfl
  ·have hx:decide (V.int (x:Int)=V.int 1)=decide (x=1):=by
    by_cases q:x=1
    ·rw [decide_eq_true q,decide_eq_true (by rw [q];rfl)]
    ·rw [decide_eq_false q,decide_eq_false (fun z=>q (by injection z with z;omega))]
   have e1:(bs.map V.bl).set sv (V.bl (decide (V.int (x:Int)=V.int 1)))=(bs.set sv (decide (x=1))).map V.bl:=by
    rw [hx,List.map_set]
   have R1:=R.Za (bs:=bs.set sv (decide (x=1))) (l:=if (x:Int)=1 then sv::(W.resting.filter fun t=>t !=sv) else W.resting.filter fun t=>t !=sv) (by rw [List.length_set];exact RA) (fun s' b hb=>by
    by_cases q:sv=s'
    ·subst q
     rw [List.getElem?_set_self (by omega)] at hb
     cases hb
     by_cases z:x=1
     ·rw [if_pos (by omega),decide_eq_true z]
      simp
     ·rw [if_neg (by omega),decide_eq_false z]
      simp
    ·rw [List.getElem?_set_ne q] at hb
     rw [hbs s' b hb]
     have ne:¬s'=sv:=fun z=>q z.symm
     split
     ·simp [ne]
     ·simp [ne])
   rw [←e1] at R1
   exact ⟨(by show 1≤sizeLine;decide),fun p hp=>k _ cas p (Rep.same R1 (aj.ao hp)) ((dv.upd (.inr (.inr (.inr (.inr (.inl rfl)))))).trans (aj.dq (aj.ao hp))) (fun b h=> .inl h) ab (bX hp)⟩
end
end Rl
namespace L2
open PySem PySem.Spec PyProof.Rows
theorem F9 {d:Addr}{o:Obj}{kvs:List (Key×V)}{g:TG}{tt:TT}{te:TE}{vs:List Nat}{σ:St}{H1:Hp}{D:Addr}{Qd:Hp→Prop}(Pv:Nat→Hp→Prop)(h0:Pv 0 (upd H1 D (.lst [])))(hl:∀i H,i≤kvs.length→Pv i H→H d=some (.iw o (.dK kvs)))
  (hs:∀i k x H,kvs[i]?=some (k,x)→Pv i H→g x (wipe σ vs) H fun σ2 H2=>wipe σ2 vs=wipe σ vs∧tt σ2 H2 fun b H3=>
   if b=true then te σ2 H3 fun y H4=>∃acc,H4 D=some (.lst acc)∧acc.length < sizeLine∧Pv (i + 1) (upd H4 D (.lst (acc ++ [y]))) else Pv (i + 1) H3)(hd:∀H,Pv kvs.length H→Qd H):
  ∃W:Nat→Nat→Hp→Prop,(∃m,W 0 m (upd H1 D (.lst [])))∧∀i m H,W i m H→
   ((S8 d o kvs).stop i H∧Qd H)∨((S8 d o kvs).go i H∧∃Nx:Hp→Prop,(∀H',Nx H'→∃m',m' < m∧W (i + 1) m' H')∧∀x H',(S8 d o kvs).Iw i H x H'→g x (wipe σ vs) H' fun σ2 H2=>wipe σ2 vs=wipe σ vs∧tt σ2 H2 fun b H3=>
    if b=true then te σ2 H3 fun y H4=>∃acc,H4 D=some (.lst acc)∧acc.length < sizeLine∧Nx (upd H4 D (.lst (acc ++ [y]))) else Nx H3):=by
 refine ⟨fun i m H=>m=kvs.length - i∧i≤kvs.length∧Pv i H,⟨kvs.length,by simp,Nat.zero_le _,h0⟩,?_⟩
 rintro i m H ⟨rfl,hi,p⟩
 have q:=hl i H hi p
 by_cases dy:i < kvs.length
 ·refine .inr ⟨⟨q,dy⟩,Pv (i + 1),fun H' p'=>⟨kvs.length - (i + 1),by omega,rfl,dy,p'⟩,fun x H' y=> ?_⟩
  obtain ⟨e,k,y⟩:=y
  subst e
  exact hs i k x _ y p
 ·have e:i=kvs.length:=by omega
  subst e
  exact .inl ⟨⟨q,Nat.le_refl _⟩,hd H p⟩
end L2
namespace Rl
open PySem PySem.Spec PyProof.Rows L2
open Vbcnag (Mark Msg Under Offer Lease Client Relay Assigned Written)
section
variable {P:Program}{w:World}{K:PySem.W.Frag}{mg:Str→Option Value}{base:Heap}{t:iU}
theorem cZ {H:Hp}{a b:Addr}{o:HO}(h:H a=some o)(n:H b=none):b≠a:=fun q=>by
 rw [q,h] at n
 cases n
def aiL (C:Cs):Sp:=fun vs H Q _=>∃ (A:Ad)(cas:List Addr)(W:VW)(r c:Nat),vs= [.ref A.w,nV r,nV c] ∧Rep C H A cas W∧W.clients.length≤64∧
 ∀H',aj H H'→Q (.bl (W.clients.any fun x=>x.place==some {relay:=r,circuit:=c})) H'
theorem zQ {cas:List Addr}{cl:List Client}{i:Nat}{k:Key}{x:V}(h:(ba cas cl)[i]?=some (k,x)):∃a c,cas[i]?=some a∧cl[i]?=some c∧x= .ref a:=by
 unfold ba at h
 rw [List.getElem?_zipWith] at h
 cases ha:cas[i]? with
 |none=>rw [ha] at h;cases h
 |some a=>
  cases hc:cl[i]? with
  |none=>rw [ha,hc] at h;cases h
  |some c=>
   rw [ha,hc] at h
   have e:=Option.some.inj h
   exact ⟨a,c,rfl,rfl,(congrArg Prod.snd e).symm⟩
theorem mn {cas:List Addr}{cl:List Client}(h:cas.length=cl.length):(ba cas cl).length=cl.length:=by
 unfold ba
 rw [List.length_zipWith,h,Nat.min_self]
def plD:Option Mark→PyData
 |none=> .none
 |some m=> .tuple [.int (m.relay:Int),.int (m.circuit:Int)]
theorem BI {K:PySem.W.Frag}{H:Hp}{p:Option Mark}{v:V}(h:Dd H p v):Dp K H v (plD p)∧SeqAt.shaped (plD p)=true:=by
 cases p with
 |none=>
  have e:v= .bu:=h
  subst e
  exact ⟨.bu,rfl⟩
 |some m=>
  obtain ⟨b,rfl,hb⟩:=h
  exact ⟨.tup (bb.of hb) (.cons (.int _) (.cons (.int _) .nil)),rfl⟩
theorem Ga (p:Option Mark)(m:Mark):PyData.eqv (plD p) (plD (some m))=(p==some m):=by
 cases p with
 |none=>rfl
 |some q=>
  show ((q.relay:Int)==(m.relay:Int) && ((q.circuit:Int)==(m.circuit:Int) && true))=_
  have e:(some q==some m)=decide (q=m):=by
   by_cases z:q=m
   ·subst z;simp
   ·rw [decide_eq_false z]
    simpa using z
  rw [e]
  by_cases z:q=m
  ·subst z;simp
  ·rw [decide_eq_false z]
   cases q with
   |mk a b=>
    cases m with
    |mk c d=>
     rw [Bool.and_true,Bool.and_eq_false_iff]
     by_cases y:a=c
     ·right
      subst y
      have:¬b=d:=fun x=>z (by rw [x])
      simpa using (fun x:(b:Int)=(d:Int)=>this (by omega))
     ·left
      simpa using (fun x:(a:Int)=(c:Int)=>y (by omega))
theorem uk (T:Txt K mg t):a7 P w K mg base dY 1 t.bH t.fA fz (aiL (cs t)):=by
 refine T.iC.ok gw (fun vs H Q E h=> ?_) (fun de A0 outer s H vs Q E hr h=> ?_)
 ·obtain ⟨A,cas,W,r,c,rfl,_⟩:=h
  rfl
 ·obtain ⟨A,cas,W,r,c,rfl,R,hlen,k⟩:=h
  have hu:=fE hr
  refine ⟨_,ak (aH (aU (Ov rfl) (by rfl) T.Qlu PyProof.Rows.boot_any (aa (AD (Fs (own:= [("client",3)]) rfl gw.nd (zf (ai (pv 0) rfl)) (jw (show Ax mC (ay cG) _ _=true by decide +kernel)) (fun _ _ _ _ _=>dP (i:=3) gw.nd rfl (Or.inl rfl)) (fun _ _ _ _ _=>vB) (fun _ _ _ _ _=>(iH (Mb K rfl hr.units) (lx K rfl (pv 3) rfl) (bx (aa (pv 1) (aa (pv 2) af))) (aM _))))) af))),?_⟩
  refine ⟨A.cd,_,R.cd,trivial,fun od=> ?_⟩
  have qI:L2.upd H A.cd (.iw od (.dK (ba cas W.clients))) A.cd=some (.iw od (.dK (ba cas W.clients))):=ab
  have HP:∀b o,b≠A.cd→H b=some o→L2.upd H A.cd (.iw od (.dK (ba cas W.clients))) b=some o:=fun b o n e=>by
   rw [az n]
   exact e
  have back:∀H',aj (L2.upd H A.cd (.iw od (.dK (ba cas W.clients)))) H'→aj H (L2.upd H' A.cd (.dK (ba cas W.clients))):=fun H' S b o e=>by
   by_cases z:b=A.cd
   ·subst z
    rw [R.cd] at e
    rw [←Option.some.inj e]
    exact ab
   ·rw [az z]
    exact S b o (HP b o z e)
  generalize L2.upd H A.cd (.iw od (.dK (ba cas W.clients)))=H0 at *
  refine ⟨_,rfl,A.w,_,_,_,_,rfl,HP _ _ (aW R.cj R.cd (fun q=>nomatch q)) R.cj,T.aw,T.Qk4,rfl,A.cd,od,_,rfl,qI,fun D hD=> ?_⟩
  refine F9 (fun i H'=>H' D=some (.lst ((W.clients.take i).map fun x=>V.bl (x.place==some {relay:=r,circuit:=c})))∧aj H0 H') ⟨ab,aj.ao hD⟩ (fun i H' _ lj=>lj.2 _ _ qI) (fun i ky x H' hx lj=> ?_) (fun H' lj=> ?_)
  ·obtain ⟨um,S⟩:=lj
   obtain ⟨ca,cl,cJ,Fp,rfl⟩:=zQ hx
   obtain ⟨d,pl,be,le,ml,da⟩:=R.fM Fp cJ
   have Kw:=S _ _ (HP _ _ (aW ml R.cd (fun q=>nomatch q)) ml)
   refine ⟨rfl,?_⟩
   refine xG ?_
   refine ⟨_,rfl,ca,_,d,_,_,rfl,Kw,T.aq,T.Qkm,rfl,_,rfl,_,rfl,(by show 2≤sizeLine;decide),fun z hz=> ?_⟩
   have Sz:=aj.ao (o:=HO.tup [nV r,nV c]) hz
   have kk:c9 (cs t) H (L2.upd H' z (.tup [nV r,nV c])):=fun b o f e=>by
    have:b≠A.cd:=fun q=>by
     subst q
     rw [R.cd] at e
     rw [←Option.some.inj e] at f
     exact f
    exact Sz _ _ (S _ _ (HP _ _ this e))
   obtain ⟨d1,d2⟩:=BI (K:=K) (da.pl.keep kk)
   obtain ⟨e1,e2⟩:=BI (K:=K) (H:=L2.upd H' z (.tup [nV r,nV c])) (p:=some {relay:=r,circuit:=c}) (v:= .ref z) ⟨z,rfl,ab⟩
   refine ⟨_,_,d1,e1,d2,e2,_,Sz _ _ um,?_,?_,?_⟩
   ·rw [List.length_map,List.length_take]
    exact Nat.lt_of_le_of_lt (show _≤64 by omega) (by decide)
   ·rw [ab,Ga,List.take_add_one,Fp,List.map_append]
    rfl
   ·intro b o e
    rw [az (aF e hD)]
    exact (S.trans Sz) b o e
  ·obtain ⟨um,S⟩:=lj
   rw [mn R.len,List.take_length] at um
   have nD:D≠A.cd:=cZ qI hD
   refine ⟨S _ _ qI,D,W.clients.map fun x=>x.place==some {relay:=r,circuit:=c},rfl,bT.of (by rw [az nD,um,List.map_map];rfl),?_⟩
   have e:((W.clients.map fun x=>x.place==some {relay:=r,circuit:=c}).any id)=W.clients.any fun x=>x.place==some {relay:=r,circuit:=c}:=by
    rw [List.any_map]
    rfl
   rw [e]
   exact k _ (back _ S)
end
end Rl
namespace Rl
open PySem PySem.Spec PyProof.Rows L2
open Vbcnag (Mark Msg Under Offer Lease Client Relay Assigned Written)
theorem Kx {H:Hp}{a b:Addr}{x y:HO}(n:a≠b):L2.upd (L2.upd H a x) b y=L2.upd (L2.upd H b y) a x:=by
 funext c
 unfold L2.upd
 by_cases e:c=b
 ·subst e
  simp [Ne.symm n]
 ·simp [e]
theorem Ky {a b a' b':Nat}:uf a b=uf a' b' ↔ a=a'∧b=b':=by
 unfold uf
 constructor
 ·intro h
  injection h with h1 h
  injection h with h2 h
  have e1:=Sum.inl.inj h1
  have e2:=Sum.inl.inj h2
  omega
 ·rintro ⟨rfl,rfl⟩
  rfl
theorem EN {W:VW}{k:Mark}{l:Nat}(h:Vbcnag.below W k=none)(m:Mark):Vbcnag.below {W with relays:=W.relays ++ [{above:=some k,limit:=l}] } m=if m=k then some W.relays.length else Vbcnag.below W m:=by
 unfold Vbcnag.below at *
 show List.findIdx? _ (W.relays ++ _)=_
 rw [List.findIdx?_append]
 by_cases q:m=k
 ·subst q
  rw [h,if_pos rfl]
  simp
 ·rw [if_neg q]
  have:List.findIdx? (fun r:Relay=>r.above==some m) [{above:=some k,limit:=l}] =none:=by
   have:¬k=m:=fun z=>q z.symm
   simp [this]
  rw [this]
  simp
section
variable {C:Cs}{H H':Hp}{A:Ad}{cas:List Addr}{W:VW}
theorem Rep.MM (R:Rep C H A cas W){ras:List Addr}{l:List Relay}{kvs:List (List Key×V)}(h:Paired (ke C H) ras l)(hk:kvs.length≤l.length)(hv:∀m:Mark,cN kvs (uf m.relay m.circuit)=(Vbcnag.below {W with relays:=l} m).map nV):
  Rep C (L2.upd (L2.upd H A.rl (.lst (ras.map V.ref))) A.hd (.dT kvs)) A cas {W with relays:=l}:=by
 obtain ⟨apC,h1,h2⟩:=R.rl
 obtain ⟨aiM,h3,h4,h5⟩:=R.hd
 obtain ⟨bs,h6,h7⟩:=R.rs
 obtain ⟨ks,h8,h9⟩:=R.ag
 obtain ⟨bas,sO,B6⟩:=R.bg
 have n0:A.hd≠A.rl:=aW h3 h1 (fun q=>nomatch q)
 have at_:∀ {b:Addr}{o:HO},H b=some o→b≠A.rl→b≠A.hd→L2.upd (L2.upd H A.rl (.lst (ras.map V.ref))) A.hd (.dT kvs) b=some o:=fun {b o} e n n'=>by
  rw [az n',az n]
  exact e
 have k1:c9 C H (L2.upd H A.rl (.lst (ras.map V.ref))):=c9.upd h1 (fun q=>q)
 have kk:c9 C H (L2.upd (L2.upd H A.rl (.lst (ras.map V.ref))) A.hd (.dT kvs)):=k1.trans (c9.upd (u:= .dT aiM) (by rw [az n0];exact h3) (fun q=>q))
 refine ⟨at_ R.cj (aW R.cj h1 (fun q=>nomatch q)) (aW R.cj h3 (fun q=>nomatch q)),⟨ras,(by rw [az (Ne.symm n0)];exact ab),Paired.bV h fun a b f=>f.keep kk⟩,⟨kvs,ab,hk,hv⟩,at_ R.cd (aW R.cd h1 (fun q=>nomatch q)) (aW R.cd h3 (fun q=>nomatch q)),
  Paired.bV R.ca fun a b f=>f.keep kk fun o e=> ?_,⟨bs,at_ h6 (Ne.symm R.n1.1) (aW h6 h3 (fun q=>nomatch q)),h7⟩,⟨ks,at_ h8 (aW h8 h1 (fun q=>nomatch q)) (Ne.symm R.n2.1),Paired.bV h9 fun a b f=>f.keep kk⟩,at_ R.wr (aW R.wr h1 (fun q=>nomatch q)) (Ne.symm R.n2.2.1),
  ⟨bas,at_ sO (Ne.symm R.n1.2.1) (aW sO h3 (fun q=>nomatch q)),Paired.bV B6 fun a b f=>f.keep kk⟩,R.n1,R.n2,R.n3,R.hn⟩
 obtain ⟨d,pl,be,le,e1,_⟩:=f
 exact at_ e (aW e1 h1 (fun q=>nomatch q)) (aW e1 h3 (fun q=>nomatch q))
end
section
variable {P:Program}{w:World}{K:PySem.W.Frag}{mg:Str→Option Value}{base:Heap}{t:iU}
abbrev EO:VW→List Int→Prop:=fun W ns=>∃p c l:Nat,ns= [(p:Int),(c:Int),(l:Int)] ∧(Vbcnag.isRelay W (p:Int) && (Vbcnag.isCircuit (c:Int) && Vbcnag.within (l:Int) 1 16))=true
def xJ:VW→List Int→VW×List Int:=fun W ns=>match ns with
 | [p,c,l] =>Vbcnag.inWorld W (.relay p c l)
 |_=>(W,[])
theorem BJ (T:Txt K mg t):a7 P w K mg base dY 8 t.bI t.j2 jU (a3 EO xJ K (cs t)):=by
 refine T.nL.ok iR (fun vs H Q E h=> ?_) (fun de A0 outer s H vs Q E hr h=> ?_)
 ·obtain ⟨A,cas,W,nm,ns,rfl,_⟩:=h
  rfl
 ·obtain ⟨A,cas,W,nm,ns,rfl,R,wg,hS,px,⟨pa,ci,li,rfl,hh⟩,k⟩:=h
  have hu:=fE hr
  obtain ⟨kvs,Gb,Kz,B2⟩:=R.hd
  have iG:xJ W [(pa:Int),(ci:Int),(li:Int)] =(if (Vbcnag.below W {relay:=pa,circuit:=ci}).isSome=true∨W.clients.any (fun x=>x.place==some {relay:=pa,circuit:=ci})=true then (W,[-2])
    else if 64≤W.relays.length then (W,[-3]) else if W.bag≠ [] then (W,[-4])
    else ({W with relays:=W.relays ++ [{above:=some {relay:=pa,circuit:=ci},limit:=li}] },0::Vbcnag.nums [W.relays.length])):=by
   show (if _=false then _ else _)=_
   rw [hh]
   rfl
  obtain ⟨Lz,yE,yF⟩:=T.pO
  refine ⟨_,ae (aS (i:=2) iR.nd rfl (Or.inl rfl) (aE aJ (pv 1) ah (fun _ _=>rfl)))
   (ae (aS (i:=3) iR.nd rfl (Or.inl rfl) (aE aJ (pv 1) ah (fun _ _=>rfl)))
   (ae (aZ (PW.pt (qJ (bD (AB hu (bx (aa (pv 2) (aa (pv 3) af))) (ai (pv 0) rfl))) (lr (mM (aA (uk T) (hr.mono (by decide)) (by rfl) T.mE T.iC.kp T.mG .nil aQ (aa (pv 0) (aa (pv 2) (aa (pv 3) af)))))))) (ak (aH (aT (aa (dg bP ah) af)))) aR)
   (ae (aZ (aI cf (aU aP (by rfl) T.Qlv PySem.boot_len (aa (ai (pv 0) rfl) af)) (aC (by rfl) yE yF) (aM _)) (ak (aH (aT (aa (dg bP ah) af)))) aR)
   (ae (aZ (aI qN (aU aP (by rfl) T.Qlv PySem.boot_len (aa (ai (pv 0) rfl) af)) ah (aM _)) (ak (aH (aT (aa (dg bP ah) af)))) aR)
   (ae (aS (i:=4) iR.nd rfl (Or.inl rfl) (aU aP (by rfl) T.Qlv PySem.boot_len (aa (ai (pv 0) rfl) af)))
   (ae (aG (gm PySem.F.plainAttrs_list PySem.F.slot_list_append PySem.F.type_list_append kL (ai (pv 0) rfl) (aa (jM T.Qhk (Df T) (hr.mono (by decide)) (by rfl) T.Bn T.lV .nil aQ (aa (pv 2) (aa (pv 3) (aa (aE aJ (pv 1) ah (fun _ _=>rfl)) af)))) af)))
   (ae (vC hu (ai (pv 0) rfl) (bx (aa (pv 2) (aa (pv 3) af))) (pv 4) rfl)
   (ak (aH (aT (aa ah (aa (pv 4) af)))))))))))),?_⟩
  refine ⟨_,rfl,nm,_,_,_,rfl,rfl,hS,rfl,_,rfl,nm,_,_,_,rfl,rfl,hS,rfl,?_⟩
  refine ⟨_,rfl,_,rfl,(by show 2≤sizeLine;decide),fun q hq=> ?_⟩
  have S1:=aj.ao (o:=HO.tup [V.int (pa:Int),V.int (ci:Int)]) hq
  have EM:L2.upd H q (HO.tup [V.int (pa:Int),V.int (ci:Int)]) q=some (.tup ((uf pa ci).map kV)):=ab
  generalize L2.upd H q (HO.tup [V.int (pa:Int),V.int (ci:Int)])=H1 at *
  have R1:=R.same S1
  have DG:=fC.t (S1 _ _ Gb) EM
  rw [B2 {relay:=pa,circuit:=ci}] at DG
  refine ⟨_,rfl,A.w,_,_,_,_,rfl,R1.cj,T.aw,T.Qk5,rfl,A.hd,_,rfl,DG,_,rfl,?_⟩
  have refuse:∀ (H':Hp)(x:Int),aj H H'→xJ W [(pa:Int),(ci:Int),(li:Int)] =(W,[x])→∀p,H' p=none→Q (.ref p) (L2.upd H' p (.lst [V.int x])):=fun H' x S hf p hp=>by
   rw [hf] at k
   exact k _ cas p ((R.same S).same (aj.ao hp)) ((aj.dq S).trans (aj.dq (aj.ao hp))) (fun b h=> .inl h) ab (S.free hp)
  cases hb:Vbcnag.below W {relay:=pa,circuit:=ci} with
  |some q0=>
   refine a8 ?_
   refine a8 ?_
   exact ⟨_,rfl,(by show 1≤sizeLine;decide),refuse _ _ S1 (iG.trans (if_pos (.inl (by rw [hb];rfl))))⟩
  |none=>
   rw [hb] at iG
   refine bf ?_
   refine ⟨_,rfl,_,rfl,_,rfl,A,cas,W,pa,ci,rfl,R1,wg.sM,fun H2 S2=> ?_⟩
   refine ⟨_,rfl,?_⟩
   have NK:=S1.trans S2
   have R2:=R1.same S2
   cases ha:W.clients.any (fun x=>x.place==some {relay:=pa,circuit:=ci}) with
   |true=>
    rw [ha] at iG
    refine a8 ?_
    exact ⟨_,rfl,(by show 1≤sizeLine;decide),refuse _ _ NK (iG.trans (if_pos (.inr rfl)))⟩
   |false=>
    rw [ha,if_neg (by simp)] at iG
    refine bf ?_
    obtain ⟨ras,da,tp⟩:=R2.rl
    obtain ⟨bas,mJ,tm⟩:=R2.bg
    have Gd:(ras.map V.ref).length=W.relays.length:=by rw [List.length_map];exact Paired.length tp
    have NL:(bas.map V.ref).length=W.bag.length:=De tm
    refine ⟨_,rfl,A.w,_,_,_,_,rfl,R2.cj,T.aw,T.Qk7,rfl,A.rl,_,rfl,.inl (bT.of da),rfl,_,rfl,?_⟩
    by_cases LA:64≤W.relays.length
    ·rw [if_pos LA] at iG
     have e64:W.relays.length=64:=Nat.le_antisymm wg.C9 LA
     rw [show decide (V.int ((ras.map V.ref).length:Int)=V.int 64)=true from decide_eq_true (by rw [Gd,e64];rfl)]
     refine a8 ?_
     exact ⟨_,rfl,(by show 1≤sizeLine;decide),refuse _ _ NK iG⟩
    ·rw [if_neg LA] at iG
     rw [show decide (V.int ((ras.map V.ref).length:Int)=V.int 64)=false from decide_eq_false (fun q=>LA (by injection q with q;omega))]
     refine bf ?_
     refine ⟨_,rfl,A.w,_,_,_,_,rfl,R2.cj,T.aw,T.Qk2,rfl,A.bg,_,rfl,.inl (bT.of mJ),_,_,rfl,rfl,_,rfl,?_⟩
     refine dM (fun hc=> ?_) fun hc=> ?_
     ·have pz:W.bag≠ [] :=fun q=>by
       have:=of_decide_eq_true hc
       rw [NL,q] at this
       simp at this
      rw [if_pos pz] at iG
      exact ⟨_,rfl,(by show 1≤sizeLine;decide),refuse _ _ NK iG⟩
     ·have he:¬W.bag≠ [] :=fun q=>hc (decide_eq_true (by
       have:=List.length_pos_iff.mpr q
       rw [NL]
       omega))
      rw [if_neg he] at iG
      rw [iG] at k
      have IA:=NK.seq hS
      refine ⟨_,rfl,A.w,_,_,_,_,rfl,R2.cj,T.aw,T.Qk7,rfl,A.rl,_,rfl,.inl (bT.of da),?_⟩
      refine ⟨_,rfl,A.w,_,_,_,_,rfl,R2.cj,T.aw,T.Qk7,rfl,.inl ⟨rfl,_,bT.of da⟩,_,rfl,_,rfl,_,rfl,nm,_,_,_,rfl,rfl,IA,rfl,fun x dx hx Zn pz=> ?_⟩
      refine ⟨x,dx,_,_,_,rfl,ab,fun H3 QJ Zo=>⟨rfl,?_⟩⟩
      have S3:aj H2 H3:=fun b o e=>Zo b o (by rw [az (aF e hx),az (aF e Zn)];exact e) (aF e hx)
      clear Zo
      have R3:=R2.same S3
      have QK:=S3 _ _ da
      have aiO:Paired (ke (cs t) H3) ras W.relays:=Paired.bV tp fun a b f=>f.keep (aj.keep S3)
      refine ⟨A.rl,_,_,rfl,rfl,QK,(by rw [Gd];exact Nat.lt_of_le_of_lt wg.C9 (by decide)),?_⟩
      have n1:A.w≠A.rl:=aW R3.cj QK (fun q=>nomatch q)
      refine ⟨_,rfl,_,rfl,A.w,_,_,_,_,rfl,(by rw [az n1];exact R3.cj),T.aw,T.Qk5,rfl,_,rfl,_,rfl,(by show 2≤sizeLine;decide),fun z hz=> ?_⟩
      have nz:z≠A.rl:=fun q=>by
       rw [q,ab] at hz
       cases hz
      rw [Kx (Ne.symm nz)]
      rw [az nz] at hz
      have S4:=aj.ao (o:=HO.tup [V.int (pa:Int),V.int (ci:Int)]) hz
      have RB:L2.upd H3 z (HO.tup [V.int (pa:Int),V.int (ci:Int)]) z=some (.tup ((uf pa ci).map kV)):=ab
      generalize L2.upd H3 z (HO.tup [V.int (pa:Int),V.int (ci:Int)])=H4 at *
      have R4:=R3.same S4
      have hx4:=S4 _ _ QJ
      have Zp:=S4 _ _ (S3 _ _ (NK _ _ Gb))
      have aiP:=S4 _ _ QK
      have n2:A.hd≠A.rl:=aW Zp aiP (fun q=>nomatch q)
      have aiQ:Paired (ke (cs t) H4) ras W.relays:=Paired.bV aiO fun a b f=>f.keep (aj.keep S4)
      refine ⟨A.hd,_,rfl,wu.t (k:=uf pa ci) (by rw [az n2];exact Zp) (by rw [az nz];exact RB) (Nat.lt_of_le_of_lt (Nat.le_trans Kz wg.C9) (by decide)),?_⟩
      have R5:=R4.MM (ras:=ras ++ [x]) (l:=W.relays ++ [{above:=some {relay:=pa,circuit:=ci},limit:=li}]) (kvs:=putK kvs (uf pa ci) (V.int ((ras.map V.ref).length:Int))) (Paired.vc aiQ (show ke (cs t) H4 x {above:=some {relay:=pa,circuit:=ci},limit:=li} from ⟨dx,hx4⟩))
       (by rw [List.length_append];exact Nat.le_trans (mV ..) (Nat.add_le_add_right Kz 1)) (fun m=>by
        rw [Jg,EN hb,B2 m]
        by_cases q:m={relay:=pa,circuit:=ci}
        ·subst q
         rw [if_pos rfl,if_pos rfl,Gd]
         rfl
        ·rw [if_neg q,if_neg (fun z=>q (by obtain ⟨a,b⟩:=Ky.mp z;cases m;cases a;cases b;rfl))])
      rw [List.map_append] at R5
      refine ⟨_,rfl,(by show 2≤sizeLine;decide),fun p hp=> ?_⟩
      have S14:=(NK.trans S3).trans S4
      refine k _ cas p (Rep.same R5 (aj.ao hp)) (((aj.dq S14).trans ((dv.upd (.inr (.inl rfl))).trans (dv.upd (.inr (.inr (.inl rfl)))))).trans (aj.dq (aj.ao hp))) (fun b h=> .inl h) ?_ (S14.free (bX (bX hp)))
      rw [ab,Gd]
      rfl
end
end Rl
namespace Rl
open PySem PySem.Spec PyProof.Rows L2
open Vbcnag (Mark Msg Under Offer Lease Client Relay Assigned Written)
theorem Dt {cas:List Addr}{cl:List Client}(h:cas.length=cl.length)(x:Addr)(c:Client):ba (cas ++ [x]) (cl ++ [c])=ba cas cl ++ [((Sum.inl (c.host:Int):Key),V.ref x)] :=by
 unfold ba
 rw [List.zipWith_append h]
 rfl
section
variable {C:Cs}{H H':Hp}{A:Ad}{cas:List Addr}{W:VW}
theorem Rep.aiR (R:Rep C H A cas W){x:Addr}{c:Client}(hx:dI C H x c)(hn:x ∉ cas)(hh:c.host ∉ W.clients.map (·.host)):
  Rep C (L2.upd H A.cd (.dK (ba (cas ++ [x]) (W.clients ++ [c])))) A (cas ++ [x]) {W with clients:=W.clients ++ [c] }:=by
 have h0:=R.cd
 generalize hk:ba (cas ++ [x]) (W.clients ++ [c])=kvs
 have kk:c9 C H (L2.upd H A.cd (.dK kvs)):=c9.upd h0 (fun q=>q)
 have at_:∀ {b:Addr}{o:HO},H b=some o→b≠A.cd→L2.upd H A.cd (.dK kvs) b=some o:=fun {b o} e n=>by
  rw [az n]
  exact e
 obtain ⟨ras,h1,h2⟩:=R.rl
 obtain ⟨EK,h3,h4,h5⟩:=R.hd
 obtain ⟨bs,h6,h7⟩:=R.rs
 obtain ⟨ks,h8,h9⟩:=R.ag
 obtain ⟨bas,sO,B6⟩:=R.bg
 have ck:∀ {a:Addr}{b:Client},dI C H a b→dI C (L2.upd H A.cd (.dK kvs)) a b:=fun {a b} f=>f.keep kk fun o e=>by
  obtain ⟨d,pl,be,le,e1,_⟩:=f
  exact at_ e (aW e1 h0 (fun q=>nomatch q))
 refine ⟨at_ R.cj (aW R.cj h0 (fun q=>nomatch q)),⟨ras,at_ h1 (aW h1 h0 (fun q=>nomatch q)),Paired.bV h2 fun a b f=>f.keep kk⟩,⟨EK,at_ h3 (aW h3 h0 (fun q=>nomatch q)),h4,h5⟩,(by rw [ab,←hk]),
  Paired.vc (Paired.bV R.ca fun a b f=>ck f) (ck hx),⟨bs,at_ h6 (aW h6 h0 (fun q=>nomatch q)),h7⟩,⟨ks,at_ h8 (aW h8 h0 (fun q=>nomatch q)),Paired.bV h9 fun a b f=>f.keep kk⟩,at_ R.wr (aW R.wr h0 (fun q=>nomatch q)),
  ⟨bas,at_ sO (aW sO h0 (fun q=>nomatch q)),Paired.bV B6 fun a b f=>f.keep kk⟩,R.n1,R.n2,jG R.n3 hn,?_⟩
 show ((W.clients ++ [c]).map (·.host)).Nodup
 rw [List.map_append]
 exact jG R.hn hh
end
section
variable {P:Program}{w:World}{K:PySem.W.Frag}{mg:Str→Option Value}{base:Heap}{t:iU}
abbrev KA:VW→List Int→Prop:=fun W ns=>∃h r c:Nat,ns= [(h:Int),(r:Int),(c:Int)] ∧(Vbcnag.isHost (h:Int) && (Vbcnag.isRelay W (r:Int) && Vbcnag.isCircuit (c:Int)))=true
def zR:VW→List Int→VW×List Int:=fun W ns=>match ns with
 | [h,r,c] =>Vbcnag.inWorld W (.plug h r c)
 |_=>(W,[])
theorem MN (T:Txt K mg t):a7 P w K mg base dY 8 t.gA t.Bh A1 (a3 KA zR K (cs t)):=by
 refine T.Eu.ok rj (fun vs H Q E h=> ?_) (fun de A0 outer s H vs Q E hr h=> ?_)
 ·obtain ⟨A,cas,W,nm,ns,rfl,_⟩:=h
  rfl
 ·obtain ⟨A,cas,W,nm,ns,rfl,R,wg,hS,px,⟨ho,re,ci,rfl,hh⟩,k⟩:=h
  have hu:=fE hr
  have CK:=eC T
  obtain ⟨kvs,Gb,Kz,B2⟩:=R.hd
  have iG:zR W [(ho:Int),(re:Int),(ci:Int)] =(if (Vbcnag.clientOf W ho).any (fun x=>x.place.isSome)=true then (W,[-2]) else if (Vbcnag.below W {relay:=re,circuit:=ci}).isSome=true then (W,[-3])
    else match Vbcnag.clientOf W ho with
     |some x=>(Vbcnag.setClient W {x with place:=some {relay:=re,circuit:=ci} },[0])
     |none=>if 64≤W.clients.length then (W,[-4]) else ({W with clients:=W.clients ++ [{host:=ho,place:=some {relay:=re,circuit:=ci} }] },[0])):=by
   show (if _=false then _ else _)=_
   rw [hh]
   rfl
  obtain ⟨KC,xK,xM⟩:=T.nT
  refine ⟨_,ae (aS (i:=2) rj.nd rfl (Or.inl rfl) (aE aJ (pv 1) ah (fun _ _=>rfl)))
   (ae (aS (i:=3) rj.nd rfl (Or.inl rfl) (bx (aa (aE aJ (pv 1) ah (fun _ _=>rfl)) (aa (aE aJ (pv 1) ah (fun _ _=>rfl)) af))))
   (ae (aS (i:=4) rj.nd rfl (Or.inl rfl) (fS hu (ai (pv 0) rfl) (pv 2) ⟨rfl,rfl,rfl,rfl⟩))
   (ae (aZ (PW.pt (gq (bD (fR (pv 4))) (eF (bD (fR (ai (pv 4) rfl)))))) (ak (aH (aT (aa (dg bP ah) af)))) aR)
   (ae (aZ (bD (AB hu (pv 3) (ai (pv 0) rfl))) (ak (aH (aT (aa (dg bP ah) af)))) aR)
   (ae (aZ (bD (fQ (pv 4))) (ae (aZ (aI cf (aU zg (by rfl) T.Qlv PySem.boot_len (aa (ai (pv 0) rfl) af)) (aC (by rfl) xK xM) (aM _)) (ak (aH (aT (aa (dg bP ah) af)))) aR)
   (ae (aS (i:=4) rj.nd rfl (Or.inl rfl) (jM T.Qhi (HD T) (hr.mono (by decide)) (by rfl) T.CV T.pE .nil aQ (aa (pv 2) af)))
   (ak (vC hu (ai (pv 0) rfl) (pv 2) (pv 4) rfl)))) aR)
   (ae (aL (pv 4) (pv 3) rfl)
   (ak (aH (aT (aa ah af)))))))))),?_⟩
  refine ⟨_,rfl,nm,_,_,_,rfl,rfl,hS,rfl,_,rfl,nm,_,_,_,rfl,rfl,hS,rfl,_,rfl,nm,_,_,_,rfl,rfl,hS,rfl,(by show 2≤sizeLine;decide),fun q hq=> ?_⟩
  have S1:=aj.ao (o:=HO.tup [V.int (re:Int),V.int (ci:Int)]) hq
  have EM:L2.upd H q (HO.tup [V.int (re:Int),V.int (ci:Int)]) q=some (.tup ((uf re ci).map kV)):=ab
  generalize L2.upd H q (HO.tup [V.int (re:Int),V.int (ci:Int)])=H1 at *
  have R1:=R.same S1
  have DG:=fC.t (S1 _ _ Gb) EM
  rw [B2 {relay:=re,circuit:=ci}] at DG
  have refuse:∀ (x:Int),zR W [(ho:Int),(re:Int),(ci:Int)] =(W,[x])→∀p,H1 p=none→Q (.ref p) (L2.upd H1 p (.lst [V.int x])):=fun x hf p hp=>by
   rw [hf] at k
   exact k _ cas p (R1.same (aj.ao hp)) ((aj.dq S1).trans (aj.dq (aj.ao hp))) (fun b h=> .inl h) ab (S1.free hp)
  rcases R1.find ho with ⟨hc,DC⟩|⟨i,ca,c,d,pl,be,le,hc,yg,hi,cJ,ml,da,DC⟩
  ·rw [hc,if_neg (by simp)] at iG
   refine ⟨_,rfl,A.w,_,_,_,_,rfl,R1.cj,T.aw,T.Qk4,rfl,A.cd,rfl,.inl ⟨_,.inl R1.cd⟩,_,rfl,_,DC,?_⟩
   refine ⟨_,rfl,_,rfl,bf ?_⟩
   refine bf ?_
   refine ⟨_,rfl,_,rfl,A.w,_,_,_,_,rfl,R1.cj,T.aw,T.Qk5,rfl,A.hd,_,rfl,DG,_,rfl,?_⟩
   cases hb:Vbcnag.below W {relay:=re,circuit:=ci} with
   |some q0=>
    refine a8 ?_
    exact ⟨_,rfl,(by show 1≤sizeLine;decide),refuse _ (iG.trans (if_pos (by rw [hb];rfl)))⟩
   |none=>
    rw [hb,if_neg (by simp)] at iG
    refine bf ?_
    refine ⟨_,rfl,_,rfl,a8 ?_⟩
    refine ⟨_,rfl,A.w,_,_,_,_,rfl,R1.cj,T.aw,T.Qk4,rfl,A.cd,_,rfl,R1.cd,rfl,_,rfl,?_⟩
    have Kz:(ba cas W.clients).length=W.clients.length:=mn R.len
    by_cases LA:64≤W.clients.length
    ·have hf1:=iG.trans (if_pos LA)
     have e64:W.clients.length=64:=Nat.le_antisymm wg.sM LA
     rw [show decide (V.int ((ba cas W.clients).length:Int)=V.int 64)=true from decide_eq_true (by rw [Kz,e64];rfl)]
     refine a8 ?_
     exact ⟨_,rfl,(by show 1≤sizeLine;decide),refuse _ hf1⟩
    ·have hf1:=iG.trans (if_neg LA)
     rw [hf1] at k
     rw [show decide (V.int ((ba cas W.clients).length:Int)=V.int 64)=false from decide_eq_false (fun q=>LA (by injection q with q;omega))]
     refine bf ?_
     refine ⟨_,rfl,fun x dx hx Zn pz=> ?_⟩
     refine ⟨x,dx,ho,rfl,ab,fun H3 QJ Zo=>⟨rfl,?_⟩⟩
     have S3:aj H1 H3:=fun b o e=>Zo b o (by rw [az (aF e hx),az (aF e Zn)];exact e) (aF e hx)
     clear Zo
     have R3:=R1.same S3
     have Ly:x ∉ cas:=fun m=>by
      obtain ⟨o,yf⟩:=R1.there (b:=x) (.inr (.inr (.inr (.inr (.inr (.inr (.inr (.inr m))))))))
      rw [hx] at yf
      cases yf
     have R4:=R3.aiR (x:=x) (c:={host:=ho}) ⟨dx,.bu,.bu,.bu,QJ,rfl,rfl,rfl⟩ Ly (kC hc)
     rw [Dt R.len] at R4
     refine ⟨_,rfl,_,rfl,A.w,_,_,_,_,rfl,R3.cj,T.aw,T.Qk4,rfl,_,rfl,A.cd,_,rfl,wu.k (k:=Sum.inl (ho:Int)) R3.cd (by rw [Kz];exact Nat.lt_of_le_of_lt wg.sM (by decide)),?_⟩
     rw [Jh _ (zP R.len hc)]
     have ncd:x≠A.cd:=aW QJ R3.cd (fun q=>nomatch q)
     have hx4:L2.upd H3 A.cd (HO.dK (ba cas W.clients ++ [((Sum.inl (ho:Int):Key),V.ref x)])) x=some (.ins t.aN dx (qH {host:=ho} .bu .bu .bu)):=by
      rw [az ncd]
      exact QJ
     refine ⟨_,rfl,_,rfl,x,_,dx,_,rfl,hx4,T.aq,T.Qkm,lt1000 rfl,?_⟩
     have hgx:(cas ++ [x])[W.clients.length]?=some x:=by
      rw [←R.len]
      simp
     have Zi:(W.clients ++ [({host:=ho}:Client)])[W.clients.length]?=some {host:=ho}:=by simp
     have hq4:L2.upd H3 A.cd (HO.dK (ba cas W.clients ++ [((Sum.inl (ho:Int):Key),V.ref x)])) q=some (.tup [nV re,nV ci]):=by
      have LB:=S3 _ _ EM
      rw [az (aW LB R3.cd (fun q=>nomatch q))]
      exact LB
     have R5:=R4.setC CK (c':={host:=ho,place:=some {relay:=re,circuit:=ci} }) (pl:= .ref q) (be:= .bu) (le:= .bu) hgx Zi rfl hx4 ⟨⟨q,rfl,hq4⟩,rfl,rfl⟩
     have aiT:(W.clients ++ [({host:=ho}:Client)]).set W.clients.length {host:=ho,place:=some {relay:=re,circuit:=ci} }=W.clients ++ [{host:=ho,place:=some {relay:=re,circuit:=ci} }] :=by
      rw [List.set_append_right _ _ (Nat.le_refl _),Nat.sub_self]
      rfl
     have eW:({W with clients:=(W.clients ++ [({host:=ho}:Client)]).set W.clients.length {host:=ho,place:=some {relay:=re,circuit:=ci} } }:VW)={W with clients:=W.clients ++ [{host:=ho,place:=some {relay:=re,circuit:=ci} }] }:=by rw [aiT]
     have R6:=eW ▸ R5
     have S13:=S1.trans S3
     refine ⟨(by show 1≤sizeLine;decide),fun p hp=>k _ (cas ++ [x]) p (Rep.same R6 (aj.ao hp)) (fun b o e n=> ?_) (fun b h=> ?_) ab (S13.free (bX (bX hp)))⟩
     ·have hb3:=S13 _ _ e
      have nx:b≠x:=fun z=>by
       rw [z,S1.free hx] at e
       cases e
      have nc:b≠A.cd:=fun z=>n (.inr (.inr (.inr (.inl z))))
      have e2:L2.upd (L2.upd H3 A.cd (HO.dK (ba cas W.clients ++ [((Sum.inl (ho:Int):Key),V.ref x)]))) x (.ins t.aN dx (qH {host:=ho,place:=some {relay:=re,circuit:=ci} } (.ref q) .bu .bu)) b=some o:=by
       rw [az nx,az nc]
       exact hb3
      rw [az (aF e2 hp)]
      exact e2
     ·rcases List.mem_append.mp h with h|h
      ·exact .inl h
      ·exact .inr (by rw [List.mem_singleton.mp h];exact S1.free hx)
  ·rw [hc] at iG
   refine ⟨_,rfl,A.w,_,_,_,_,rfl,R1.cj,T.aw,T.Qk4,rfl,A.cd,rfl,.inl ⟨_,.inl R1.cd⟩,_,rfl,_,DC,?_⟩
   refine ⟨_,rfl,_,rfl,a8 ?_⟩
   refine ⟨_,rfl,ca,_,d,_,_,rfl,ml,T.aq,T.Qkm,rfl,_,rfl,?_⟩
   have dB:=da.pl
   cases hp:c.place with
   |some m=>
    rw [hp] at dB
    obtain ⟨b,e,_⟩:=dB
    subst e
    refine a8 ?_
    exact ⟨_,rfl,(by show 1≤sizeLine;decide),refuse _ (iG.trans (if_pos (by show c.place.isSome=true;rw [hp];rfl)))⟩
   |none=>
    rw [hp] at dB
    have e:pl= .bu:=dB
    subst e
    rw [if_neg (by show ¬c.place.isSome=true;rw [hp];simp)] at iG
    refine bf ?_
    refine ⟨_,rfl,_,rfl,A.w,_,_,_,_,rfl,R1.cj,T.aw,T.Qk5,rfl,A.hd,_,rfl,DG,_,rfl,?_⟩
    cases hb:Vbcnag.below W {relay:=re,circuit:=ci} with
    |some q0=>
     refine a8 ?_
     exact ⟨_,rfl,(by show 1≤sizeLine;decide),refuse _ (iG.trans (if_pos (by rw [hb];rfl)))⟩
    |none=>
     rw [hb,if_neg (by simp)] at iG
     have hf:zR W [(ho:Int),(re:Int),(ci:Int)] =({W with clients:=W.clients.set i {c with place:=some {relay:=re,circuit:=ci} } },[0]):=by
      rw [iG]
      show (Vbcnag.setClient W {c with place:=some {relay:=re,circuit:=ci} },[0])=_
      rw [br (d:={c with place:=some {relay:=re,circuit:=ci} }) R.hn hi rfl]
     rw [hf] at k
     refine bf ?_
     refine ⟨_,rfl,_,rfl,bf ?_⟩
     refine ⟨_,rfl,_,rfl,ca,_,d,_,rfl,ml,T.aq,T.Qkm,lt1000 rfl,?_⟩
     have R2:=R1.setC CK (c':={c with place:=some {relay:=re,circuit:=ci} }) (pl:= .ref q) cJ hi rfl ml ⟨⟨q,rfl,EM⟩,da.be,da.le⟩
     exact ⟨(by show 1≤sizeLine;decide),fun p hp=>k _ cas p (Rep.same R2 (aj.ao hp)) (((aj.dq S1).trans (dv.upd (Ad.gp cJ))).trans (aj.dq (aj.ao hp))) (fun b h=> .inl h) ab (S1.free (bX hp))⟩
end
end Rl
namespace Rl
open PySem PySem.Spec PyProof.Rows L2
open Vbcnag (Mark Msg Under Offer Lease Client Relay Assigned Written)
section
variable {P:Program}{w:World}{K:PySem.W.Frag}{mg:Str→Option Value}{base:Heap}{t:iU}
def first (servers cap now:Nat):VW:={now:=now,servers:=servers,cap:=cap,relays:= [{above:=none,limit:=16}] }
def MO (C:Cs):Sp:=fun vs H Q _=>∃ (p d:Addr)(sv cap now:Nat),vs= [.ref p,nV sv,nV cap,nV now] ∧H p=some (.ins C.W d [])∧sv≤4∧
 ∀ (H':Hp)(A:Ad),A.w=p→Rep C H' A [] (first sv cap now)→(∀b o,H b=some o→b≠p→H' b=some o)→(∀b,A.mut [] b→b=p∨H b=none)→Q .bu H'
def zT (p:Addr)(H H':Hp):Prop:=∀b o,H b=some o→b≠p→H' b=some o
theorem zT.trans {p:Addr}{H H1 H2:Hp}(a:zT p H H1)(b:zT p H1 H2):zT p H H2:=fun c o h n=>b c o (a c o h n) n
theorem zT.set {p:Addr}{H:Hp}{o:HO}:zT p H (L2.upd H p o):=fun b x e n=>by
 rw [az n]
 exact e
theorem zT.same {p:Addr}{H H':Hp}(S:aj H H'):zT p H H':=fun b o e _=>S b o e
theorem zT.none {p:Addr}{H H':Hp}(B:zT p H H'){b:Addr}(n:b≠p)(h:H' b=none):H b=none:=by
 cases q:H b with
 |none=>rfl
 |some o=>
  rw [B b o q n] at h
  cases h
theorem QL (n:Nat):(List.replicate (n:Int).toNat [V.bl false]).flatten=(List.replicate n false).map V.bl:=by
 rw [Int.toNat_natCast,List.map_replicate]
 induction n with
 |zero=>rfl
 |succ n ih=>
  rw [List.replicate_succ,List.replicate_succ,List.flatten_cons,ih]
  rfl
theorem jH {p a:Addr}{H H':Hp}{o u v:HO}(hp:H p=some u)(ha:H a=none)(e:L2.upd (L2.upd H a o) p v=H'):zT p H H'∧H' a=some o∧H' p=some v∧a≠p:=by
 have n:a≠p:=fun z=>by
  rw [z,hp] at ha
  cases ha
 subst e
 refine ⟨fun b x hb nb=> ?_,?_,ab,n⟩
 ·rw [az nb,az (aF hb ha)]
  exact hb
 ·rw [az n]
  exact ab
theorem KD (T:Txt K mg t):a7 P w K mg base dY 3 t.cu t.iW iJ (MO (cs t)):=by
 refine T.rP.ok yo (fun vs H Q E h=> ?_) (fun de A0 outer s H vs Q E hr h=> ?_)
 ·obtain ⟨p,d,sv,cap,now,rfl,_⟩:=h
  rfl
 ·obtain ⟨p,d,sv,cap,now,rfl,h0,vR,k⟩:=h
  obtain ⟨LC,yG,yH⟩:=T.pM
  refine ⟨_,ae (aL (pv 0) (pv 3) rfl)
   (ae (aL (pv 0) (pv 1) rfl)
   (ae (aL (pv 0) (pv 2) rfl)
   (ae (aL (pv 0) (aT (aa (jM T.Qhk (Df T) (hr.mono (by decide)) (by rfl) T.Bn T.lV .nil aQ (aa dO (aa dO (aa (aC (by rfl) yG yH) af)))) af)) rfl)
   (ae (aL (pv 0) wx rfl)
   (ae (aL (pv 0) Jl rfl)
   (ae (aL (pv 0) (bW Oq (aT (aa Fc af)) (pv 1)) rfl)
   (ae (aL (pv 0) wx rfl)
   (ae (aL (pv 0) wx rfl)
   (ak (aL (pv 0) (aT af) rfl)))))))))),?_⟩
  refine ⟨_,rfl,_,rfl,p,_,d,_,rfl,h0,T.aw,T.Qk6,lt1000 rfl,_,rfl,_,rfl,p,_,d,_,rfl,ab,T.aw,T.Qk9,lt1000 rfl,_,rfl,_,rfl,p,_,d,_,rfl,ab,T.aw,T.Qk3,lt1000 rfl,?_⟩
  rw [bS,bS]
  generalize yd:L2.upd H p _=H1
  have B1:zT p H H1:=yd ▸ zT.set
  have p1:H1 p=some (.ins t.aX d [("now",nV now),("servers",nV sv),("cap",nV cap)]):=yd ▸ ab
  clear yd
  refine fun x dx hx Zn pz=>⟨x,dx,_,_,_,rfl,ab,fun H2 hx2 hk2=>⟨rfl,(by show 1≤sizeLine;decide),fun rl da=> ?_⟩⟩
  have S2:aj H1 H2:=fun b o e=>hk2 b o (by rw [az (aF e hx),az (aF e Zn)];exact e) (aF e hx)
  clear hk2
  have p2:=S2 _ _ p1
  have x2:x≠p:=fun z=>by
   rw [z,p1] at hx
   cases hx
  refine ⟨_,rfl,p,_,d,_,rfl,(aj.ao da) _ _ p2,T.aw,T.Qk7,lt1000 rfl,?_⟩
  generalize GO:L2.upd (L2.upd H2 rl _) p _=H3
  obtain ⟨B3,r3,p3,n3⟩:=jH p2 da GO
  clear GO
  refine fun hd Gb=>⟨_,rfl,p,_,d,_,rfl,(aj.ao Gb) _ _ p3,T.aw,T.Qk5,lt1000 rfl,?_⟩
  generalize Zj:L2.upd (L2.upd H3 hd _) p _=H4
  obtain ⟨B4,r4,p4,n4⟩:=jH p3 Gb Zj
  clear Zj
  refine fun cd qI=>⟨_,rfl,p,_,d,_,rfl,(aj.ao qI) _ _ p4,T.aw,T.Qk4,lt1000 rfl,?_⟩
  generalize hH5:L2.upd (L2.upd H4 cd _) p _=H5
  obtain ⟨B5,r5,p5,n5⟩:=jH p4 qI hH5
  clear hH5
  refine ⟨(by show 1≤sizeLine;decide),fun l0 hl0=>⟨_,rfl,l0,(sv:Int),_,rfl,rfl,ab,(by omega),(by omega),(by simp;exact Nat.le_trans vR (by decide)),fun rs NJ=> ?_⟩⟩
  have S6:=aj.ao (o:=HO.lst [V.bl false]) hl0
  generalize L2.upd H5 l0 (HO.lst [V.bl false])=H6 at *
  have p6:=S6 _ _ p5
  refine ⟨_,rfl,p,_,d,_,rfl,(aj.ao NJ) _ _ p6,T.aw,T.Qk8,lt1000 rfl,?_⟩
  generalize hH7:L2.upd (L2.upd H6 rs _) p _=H7
  obtain ⟨B7,r7,p7,n7⟩:=jH p6 NJ hH7
  clear hH7
  refine fun ag Ku=>⟨_,rfl,p,_,d,_,rfl,(aj.ao Ku) _ _ p7,T.aw,T.Qk1,lt1000 rfl,?_⟩
  generalize hH8:L2.upd (L2.upd H7 ag _) p _=H8
  obtain ⟨B8,r8,p8,n8⟩:=jH p7 Ku hH8
  clear hH8
  refine fun wr HQ=>⟨_,rfl,p,_,d,_,rfl,(aj.ao HQ) _ _ p8,T.aw,T.Qla,lt1000 rfl,?_⟩
  generalize hH9:L2.upd (L2.upd H8 wr _) p _=H9
  obtain ⟨B9,r9,p9,n9⟩:=jH p8 HQ hH9
  clear hH9
  refine ⟨(by show 0≤sizeLine;decide),fun bg mJ=>⟨_,rfl,p,_,d,_,rfl,(aj.ao mJ) _ _ p9,T.aw,T.Qk2,lt1000 rfl,?_⟩⟩
  generalize hHA:L2.upd (L2.upd H9 bg _) p _=HA
  obtain ⟨BA,rA,pA,nA⟩:=jH p9 mJ hHA
  clear hHA
  have T9:=BA
  have T8:=B9.trans T9
  have T7:=B8.trans T8
  have T6:=B7.trans T7
  have T5:=(zT.same (p:=p) S6).trans T6
  have T4:=B5.trans T5
  have T3:=B4.trans T4
  have T2:=B3.trans T3
  have U1:=B1
  have U2:=U1.trans (zT.same S2)
  have U3:=U2.trans B3
  have U4:=U3.trans B4
  have U5:=U4.trans B5
  have U6:=U5.trans (zT.same S6)
  have U7:=U6.trans B7
  have U8:=U7.trans B8
  have U9:=U8.trans B9
  have er:=QL sv
  rw [er] at r7
  have rlA:=T3 _ _ r3 n3
  have hdA:=T4 _ _ r4 n4
  have cdA:=T5 _ _ r5 n5
  have rsA:=T7 _ _ r7 n7
  have agA:=T8 _ _ r8 n8
  have wrA:=T9 _ _ r9 n9
  have xA:=T2 _ _ hx2 x2
  refine k HA ⟨p,d,rl,hd,cd,rs,ag,wr,bg⟩ rfl ⟨pA,⟨[x],rlA,.cons ⟨dx,xA⟩ .nil⟩,⟨[],hdA,Nat.zero_le _,fun m=>rfl⟩,cdA,.nil,⟨List.replicate sv false,rsA,List.length_replicate,fun s' b hb=> ?_⟩,⟨[],agA,.nil⟩,wrA,⟨[],rA,.nil⟩,
   ⟨?_,?_,?_⟩,⟨?_,?_,?_⟩,List.nodup_nil,List.nodup_nil⟩ (U9.trans BA) (fun b hb=> ?_)
  ·have:=List.mem_of_getElem? hb
   have e:=(List.mem_replicate.mp this).2
   rw [e]
   rfl
  ·exact aF ((zT.same (p:=p) S6) _ _ ((B4.trans B5) _ _ r3 n3) n3) NJ
  ·exact aF (((((B4.trans B5).trans (zT.same (p:=p) S6)).trans B7).trans (B8.trans B9)) _ _ r3 n3) mJ
  ·exact aF ((B8.trans B9) _ _ r7 n7) mJ
  ·exact aF (((B5.trans (zT.same (p:=p) S6)).trans B7) _ _ r4 n4) Ku
  ·exact aF ((((B5.trans (zT.same (p:=p) S6)).trans B7).trans B8) _ _ r4 n4) HQ
  ·exact aF r8 HQ
  ·rcases hb with q|q|q|q|q|q|q|q|q
   ·exact .inl q
   ·subst q
    exact .inr (U2.none n3 da)
   ·subst q
    exact .inr (U3.none n4 Gb)
   ·subst q
    exact .inr (U4.none n5 qI)
   ·subst q
    exact .inr (U6.none n7 NJ)
   ·subst q
    exact .inr (U7.none n8 Ku)
   ·subst q
    exact .inr (U8.none n9 HQ)
   ·subst q
    exact .inr (U9.none nA mJ)
   ·cases q
end
end Rl
namespace L2
theorem Ge {α:Type}(A:List α)(v:α)(C:List α){i:Int}(h:i=(A.length:Int)):Cj (A ++ v::C) i=some v:=by
 subst h
 unfold Cj Iz
 rw [if_pos (by omega),if_pos (by rw [List.length_append,List.length_cons];omega)]
 simp
theorem MP (A B C:List V){i j:Int}(h:i=(A.length:Int))(h':j=((A.length + B.length:Nat):Int)):qt (A ++ (B ++ C)) (some i) (some j)=B:=by
 subst h h'
 unfold qt
 rw [HT.vA,HT.vA]
 have e1:min A.length (A ++ (B ++ C)).length=A.length:=by rw [List.length_append];omega
 have e2:min (A.length + B.length) (A ++ (B ++ C)).length=A.length + B.length:=by rw [List.length_append,List.length_append];omega
 rw [e1,e2,List.drop_left,Nat.add_sub_cancel_left,List.take_left]
end L2
namespace Rl
open PySem PySem.Spec PyProof.Rows L2
section
variable {P:Program}{w:World}{K:PySem.W.Frag}{mg:Str→Option Value}{base:Heap}{t:iU}
def KG (H H':Hp)(ta:Addr)(c:Int×List Int):Prop:=∃nm,H' ta=some (.tup [.int c.1,.ref nm])∧H' nm=some (.lst (c.2.map V.int))∧H nm=none
def MQ (K:PySem.W.Frag):Sp:=fun vs H Q _=>∃ (a:Addr)(cs:List (Int×List Int)),vs= [.ref a] ∧bT K H a ((enc cs).map V.int)∧cs.length≤400∧
 ∀ (H':Hp)(p:Addr)(Du:List Addr),aj H H'→H' p=some (.lst (Du.map V.ref))→H p=none→Paired (KG H H') Du cs→Q (.ref p) H'
theorem HR (pre:List (Int×List Int))(c:Int×List Int)(r:List (Int×List Int)):enc (pre ++ c::r)=enc pre ++ (c.1::(c.2.length:Int)::(c.2 ++ (0::enc r))):=by
 rw [qA]
 show enc pre ++ (Bv c ++ enc r)=_
 unfold Bv
 simp
def SInv (H:Hp)(a S:Addr)(cs:List (Int×List Int)):Nat→L2.St→Hp→Prop:=fun m σ Hk=>∃ (pre post:List (Int×List Int))(Du:List Addr)(v3:Option V),
 cs=pre ++ post∧m=post.length∧σ= [some (.ref a),some (.ref S),some (.int ((enc pre).length:Int)),v3] ∧aj H Hk∧Hk S=some (.lst (Du.map V.ref))∧Paired (fun ta c=>KG H Hk ta c∧∀nm,Hk ta=some (.tup [.int c.1,.ref nm])→nm≠S) Du pre
theorem xN (T:Txt K mg t):a7 P w K mg base dY 1 t.cz t.gX gQ (MQ K):=by
 refine T.kx.ok ez (fun vs H Q E h=> ?_) (fun de A0 outer s H vs Q E hr h=> ?_)
 ·obtain ⟨a,cs,rfl,_⟩:=h
  rfl
 ·obtain ⟨a,cs,rfl,hS,hlen,k⟩:=h
  refine ⟨_,ae (aS (i:=1) ez.nd rfl (Or.inl rfl) (aT af))
   (ae (aS (i:=2) ez.nd rfl (Or.inl rfl) ah)
   (ae (qL PassesOwn.never (aI kK (pv 2) (aU aP (by rfl) T.Qlv PySem.boot_len (aa (pv 0) af)) (aM _)) (ae (aS (i:=3) ez.nd rfl (Or.inl rfl) (qQ Ak (pv 0) (qP (bW dz (pv 2) ah)) (qP (bW dz (bW dz (pv 2) ah) (aE aJ (pv 0) (bW dz (pv 2) ah) (fun _ _=>rfl))))))
   (ae (aG (gm PySem.F.plainAttrs_list PySem.F.slot_list_append PySem.F.type_list_append kL (pv 1) (aa (bx (aa (aE aJ (pv 0) (pv 2) (fun _ _=>rfl)) (aa (pv 3) af))) af)))
   (ak (DQ (i:=2) ez.nd rfl (Or.inl rfl) (bW dz (aU aP (by rfl) T.Qlv PySem.boot_len (aa (pv 3) af)) ah) DR)))))
   (ak (aH (pv 1))))),?_⟩
  refine ⟨(by show 0≤sizeLine;decide),fun S Jw=> ?_⟩
  refine ⟨SInv H a S cs,⟨cs.length,[],cs,[],none,rfl,rfl,rfl,aj.ao Jw,ab,.nil⟩,?_⟩
  rintro m σ Hk ⟨pre,post,Du,v3,Nl,hm,rfl,Sk,IC,hP⟩
  have hSa:=Sk.seq hS
  refine ⟨_,rfl,_,rfl,a,_,rfl,.inl hSa,_,_,rfl,rfl,_,rfl,?_⟩
  rw [List.length_map]
  cases post with
  |nil=>
   rw [List.append_nil] at Nl
   subst Nl
   rw [decide_eq_false (Int.lt_irrefl _)]
   refine bf ?_
   exact ⟨_,rfl,k Hk S Du Sk IC Jw (Paired.bV hP fun a b f=>f.1)⟩
  |cons c r=>
   have hx:enc cs=enc pre ++ (c.1::(c.2.length:Int)::(c.2 ++ (0::enc r))):=by rw [Nl,HR]
   have dy:(enc pre).length < (enc cs).length:=by
    rw [hx,List.length_append,List.length_cons]
    omega
   rw [decide_eq_true (by omega)]
   refine a8 ?_
   have hx1:(enc cs).map V.int=(enc pre).map V.int ++ (V.int c.1::(V.int (c.2.length:Int)::(c.2.map V.int ++ (V.int 0::(enc r).map V.int)))):=by
    rw [hx]
    simp
   have hx2:(enc cs).map V.int=((enc pre).map V.int ++ [V.int c.1]) ++ (V.int (c.2.length:Int)::(c.2.map V.int ++ (V.int 0::(enc r).map V.int))):=by
    rw [hx1]
    simp
   have QJ:(enc cs).map V.int=((enc pre).map V.int ++ [V.int c.1,V.int (c.2.length:Int)]) ++ (c.2.map V.int ++ (V.int 0::(enc r).map V.int)):=by
    rw [hx1]
    simp
   refine ⟨SInv H a S cs|>fun f σ' H'=>∃m',m' < m∧f m' σ' H',fun σ' H' h=>h,?_⟩
   refine ⟨_,rfl,_,rfl,_,_,rfl,rfl,_,rfl,_,rfl,_,_,rfl,rfl,_,rfl,_,rfl,?_⟩
   refine ⟨_,_,rfl,rfl,a,_,_,V.int (c.2.length:Int),rfl,rfl,hSa,(by rw [hx2];exact Ge _ _ _ (by simp)),_,_,rfl,rfl,_,rfl,a,_,rfl,hSa,fun nm px=> ?_⟩
   rw [show qt ((enc cs).map V.int) (some (((enc pre).length:Int) + 2)) (some (((enc pre).length:Int) + 2 + (c.2.length:Int)))=c.2.map V.int from by
    rw [QJ]
    exact MP _ _ _ (by simp) (by simp)]
   have S2:=aj.ao (o:=HO.lst (c.2.map V.int)) px
   have Zq:L2.upd Hk nm (HO.lst (c.2.map V.int)) nm=some (.lst (c.2.map V.int)):=ab
   have nS:nm≠S:=cZ IC px
   generalize L2.upd Hk nm (HO.lst (c.2.map V.int))=H2 at *
   have IA:=S2 _ _ IC
   have aiX:=S2.seq hSa
   refine ⟨_,rfl,.inl ⟨rfl,_,bT.of IA⟩,_,rfl,_,rfl,a,_,_,V.int c.1,rfl,rfl,aiX,(by rw [hx1];exact Ge _ _ _ (by simp)),_,rfl,(by show 2≤sizeLine;decide),fun z hz=> ?_⟩
   have S3:=aj.ao (o:=HO.tup [V.int c.1,.ref nm]) hz
   have QM:L2.upd H2 z (HO.tup [V.int c.1,.ref nm]) z=some (.tup [V.int c.1,.ref nm]):=ab
   have zS:z≠S:=cZ IA hz
   generalize L2.upd H2 z (HO.tup [V.int c.1,.ref nm])=H3 at *
   have hS3:=S3 _ _ IA
   have dB:Du.length=pre.length:=Paired.length hP
   have Zr:pre.length < 400:=by
    have:=congrArg List.length Nl
    rw [List.length_append,List.length_cons] at this
    omega
   refine ⟨S,_,_,rfl,rfl,hS3,(by rw [List.length_map,dB];exact Nat.lt_of_lt_of_le Zr (by decide)),?_⟩
   have nzn:z≠nm:=cZ Zq hz
   have Zs:L2.upd H3 S (HO.lst (Du.map V.ref ++ [V.ref z])) nm=some (.lst (c.2.map V.int)):=by
    rw [az nS]
    exact S3 _ _ Zq
   have RB:L2.upd H3 S (HO.lst (Du.map V.ref ++ [V.ref z])) z=some (.tup [V.int c.1,.ref nm]):=by
    rw [az zS]
    exact QM
   have S4:aj H (L2.upd H3 S (HO.lst (Du.map V.ref ++ [V.ref z]))):=fun b o e=>by
    rw [az (aF e Jw)]
    exact S3 _ _ (S2 _ _ (Sk _ _ e))
   refine ⟨_,rfl,_,rfl,nm,_,rfl,.inl (bT.of Zs),_,_,rfl,rfl,?_⟩
   refine ⟨_,_,rfl,rfl,?_⟩
   refine ⟨r.length,(by rw [hm,List.length_cons];omega),pre ++ [c],r,Du ++ [z],some (.ref nm),(by rw [Nl,List.append_assoc];rfl),rfl,?_,S4,(by rw [List.map_append];exact ab),Paired.vc (Paired.bV hP fun a b f=> ?_) ⟨⟨nm,RB,Zs,Sk.free px⟩,fun nm' e=> ?_⟩⟩
   ·have e:((enc pre).length:Int) + (((c.2.map V.int).length:Int) + 3)=((enc (pre ++ [c])).length:Int):=by
     rw [qA]
     show _=((enc pre ++ (Bv c ++ [])).length:Int)
     unfold Bv
     simp
     omega
    rw [←e]
    rfl
   ·obtain ⟨⟨nm0,f1,f2,f3⟩,f4⟩:=f
    have up:∀b o,b≠S→Hk b=some o→L2.upd H3 S (HO.lst (Du.map V.ref ++ [V.ref z])) b=some o:=fun b o n e=>by
     rw [az n]
     exact S3 _ _ (S2 _ _ e)
    have g1:=up _ _ (aW f1 IC (fun q=>nomatch q)) f1
    refine ⟨⟨nm0,g1,up _ _ (f4 _ f1) f2,f3⟩,fun nm' e=> ?_⟩
    rw [g1] at e
    cases e
    exact f4 _ f1
   ·rw [RB] at e
    cases e
    exact nS
end
end Rl
namespace Rl
open PySem PySem.Spec PyProof.Rows L2
section
variable {P:Program}{w:World}{K:PySem.W.Frag}{mg:Str→Option Value}{base:Heap}{t:iU}
def uo (C:Cs)(H:Hp)(A:Ad)(cas:List Addr):Option VW→V→Prop
 |none,v=>v= .bu
 |some W,v=>v= .ref A.w∧Rep C H A cas W
def BK (A:Ad)(cas:List Addr):Option VW→Addr→Prop
 |none,_=>False
 |some _,b=>A.mut cas b
theorem uo.other {C:Cs}{H:Hp}{A:Ad}{cas:List Addr}{s:Option VW}{v:V}(h:uo C H A cas s v){F:Addr}{xs:List V}(hF:H F=some (.lst xs))(nm:¬BK A cas s F)(o:HO):uo C (L2.upd H F o) A cas s v:=by
 cases s with
 |none=>exact h
 |some W=>exact ⟨h.1,h.2.other hF nm o⟩
def KH (K:PySem.W.Frag)(C:Cs):Sp:=fun vs H Q _=>∃ (n:Nat)(s:Option VW)(A:Ad)(cas:List Addr)(wv:V)(p:Int)(ns:List Int)(nm:Addr),
 vs= [wv,.int p,.ref nm] ∧n < 400∧zN n s∧uo C H A cas s wv∧H nm=some (.lst (ns.map V.int))∧¬BK A cas s nm∧VbcnagNeutral.asked1 (ka (p,ns))=true∧
 ∀ (H':Hp)(ta ra:Addr)(Zt:V)(A':Ad)(yD:List Addr),H' ta=some (.tup [Zt,.ref ra])→H' ra=some (.lst ((cE s (p,ns)).2.map V.int))→uo C H' A' yD (cE s (p,ns)).1 Zt→(∀b o,H b=some o→¬BK A cas s b→H' b=some o)→
  (∀b,BK A' yD (cE s (p,ns)).1 b→BK A cas s b∨H b=none)→H ra=none→Q (.ref ta) H'
def NM (K:PySem.W.Frag):Sp:=fun vs H Q _=>∃ (a:Addr)(l:List Int),vs= [.ref a] ∧bT K H a (l.map V.int)∧PyVbcnag.answers_asked l=true∧
 ∀H' p,aj H H'→H' p=some (.lst ((PyVbcnag.answers l).map V.int))→H p=none→Q (.ref p) H'
def aiY (C:Cs)(H0:Hp)(a G:Addr)(cs:List (Int×List Int)):Nat→L2.St→Hp→Prop:=fun i σ Hk=>∃ (A:Ad)(cas:List Addr)(wv:V)(v3 v4 v5:Option V),
 σ= [some (.ref a),some wv,some (.ref G),v3,v4,v5] ∧zN i (fm none (cs.take i))∧uo C Hk A cas (fm none (cs.take i)) wv∧Hk G=some (.lst ((cW none (cs.take i)).map V.int))∧(∀b o,H0 b=some o→b≠G→Hk b=some o)∧∀b,BK A cas (fm none (cs.take i)) b→H0 b=none
theorem ER (BL:Txt K mg t→a7 P w K mg base dY 40 t.kl t.wK wJ (KH K (cs t)))(T:Txt K mg t):a7 P w K mg base dY 41 t.e9 t.jo oQ (NM K):=by
 refine T.ub.ok fD (fun vs H Q E h=> ?_) (fun de A0 outer s H vs Q E hr h=> ?_)
 ·obtain ⟨a,l,rfl,_⟩:=h
  rfl
 ·obtain ⟨a,l,rfl,hS,ES,k⟩:=h
  obtain ⟨cl,hl,hlen,aiZ,Zu,hsz⟩:=C7 ES
  subst hl
  refine ⟨_,ae (aS (i:=1) fD.nd rfl (Or.inl rfl) dO)
   (ae (aS (i:=2) fD.nd rfl (Or.inl rfl) (aT af))
   (ae (v7 PassesOwn.never rfl (oz (aA (xN T) (hr.mono (by decide)) (by rfl) T.pK T.kx.kp T.pL .nil aQ (aa (pv 0) af))) (DP rfl (kJ (dP (i:=3) fD.nd rfl (Or.inl rfl)) (kJ (dP (i:=4) fD.nd rfl (Or.inl rfl)) Ac))) (ae (aS (i:=5) fD.nd rfl (Or.inl rfl) (aA (BL T) (hr.mono (by decide)) (by rfl) T.J2 T.ED.kp T.J3 .nil aQ (aa (pv 1) (aa (pv 3) (aa (pv 4) af)))))
   (ae (aS (i:=1) fD.nd rfl (Or.inl rfl) (aE aY (pv 5) ah (fun _ _=>rfl)))
   (ae (aG (gm PySem.F.plainAttrs_list PySem.F.slot_list_append PySem.F.type_list_append kL (pv 2) (aa (aU aP (by rfl) T.Qlv PySem.boot_len (aa (aE aY (pv 5) ah (fun _ _=>rfl)) af)) af)))
   (ak (aG (gm PySem.F.plainAttrs_list PySem.F.slot_list_extend PySem.F.type_list_extend kM (pv 2) (aa (aE aY (pv 5) ah (fun _ _=>rfl)) af))))))))
   (ak (aH (pv 2))))),?_⟩
  refine ⟨(by show 0≤sizeLine;decide),fun G hG=> ?_⟩
  have S1:=aj.ao (o:=HO.lst []) hG
  have G1:L2.upd H G (HO.lst []) G=some (.lst []):=ab
  generalize L2.upd H G (HO.lst [])=H1 at *
  refine ⟨_,rfl,a,cl,rfl,S1.seq hS,hlen,fun H2 p Du S2 hp hpn hP=>⟨p,rfl,⟨_,bT.of hp⟩,?_⟩⟩
  have NK:=S1.trans S2
  have hpG:p≠G:=cZ G1 hpn
  have hPl:=cb.mp hP
  refine v8 (K:=K) (a:=p) (xs:=Du.map V.ref) (aiY (cs t) H2 a G cl) ?_ (fun i σ Hk _ hk=> ?_) (fun i x σ Hk hx hk=> ?_) (fun σ Hk hk=> ?_)
  ·exact ⟨⟨p,p,p,p,p,p,p,p,p⟩,[],.bu,none,none,none,rfl,trivial,rfl,S2 _ _ G1,fun b o e _=>e,fun b h=>h.elim⟩
  ·obtain ⟨A,cas,wv,v3,v4,v5,rfl,hg,mx,NN,zb,hm⟩:=hk
   exact bT.of (zb _ _ hp hpG)
  ·obtain ⟨A,cas,wv,v3,v4,v5,rfl,hg,mx,NN,zb,hm⟩:=hk
   rw [List.getElem?_map] at hx
   obtain ⟨ta,Ca,rfl⟩:∃ta,Du[i]?=some ta∧x=V.ref ta:=by
    cases q:Du[i]? with
    |none=>rw [q] at hx;cases hx
    |some ta=>rw [q] at hx;exact ⟨ta,rfl,(Option.some.inj hx).symm⟩
   have hil:i < cl.length:=by
    rw [←hPl.1]
    exact (List.getElem?_eq_some_iff.mp Ca).1
   have hc:cl[i]?=some cl[i] :=List.getElem?_eq_getElem hil
   obtain ⟨nm,h1,h2,h3⟩:=hPl.2 i ta _ Ca hc
   generalize cl[i] =c at *
   have NO:cl.take (i + 1)=cl.take i ++ [c] :=by rw [List.take_add_one,hc];rfl
   have Zv:=aiZ c (List.mem_of_getElem? hc)
   have n1:nm≠G:=fun q=>by
    rw [q,G1] at h3
    cases h3
   have h1k:=zb _ _ h1 (aW h1 (S2 _ _ G1) (fun q=>nomatch q))
   have h2k:=zb _ _ h2 n1
   refine ⟨ta,_,rfl,bb.of h1k,rfl,_,_,rfl,_,_,rfl,rfl,?_⟩
   have nmm:¬BK A cas (fm none (cl.take i)) nm:=fun q=>by
    have:=hm _ q
    rw [h2] at this
    cases this
   have nmG:¬BK A cas (fm none (cl.take i)) G:=fun q=>by
    have:=hm _ q
    rw [S2 _ _ G1] at this
    cases this
   refine ⟨_,rfl,_,rfl,_,rfl,i,fm none (cl.take i),A,cas,wv,c.1,c.2,nm,rfl,(by omega),hg,mx,h2k,nmm,Zv,fun H' tb ra Zt A' yD e1 e2 e3 e4 e5 e6=> ?_⟩
   have hw:(cE (fm none (cl.take i)) (c.1,c.2)).1=fm none (cl.take (i + 1)):=by
    rw [NO,sE]
    rfl
   have ht:cW none (cl.take (i + 1))=cW none (cl.take i) ++ (((cE (fm none (cl.take i)) (c.1,c.2)).2.length:Int)::(cE (fm none (cl.take i)) (c.1,c.2)).2):=by
    rw [NO,jE]
    show _ ++ (_::(_ ++ []))=_
    rw [List.append_nil]
   have hG':=e4 _ _ NN nmG
   have nra:ra≠G:=cZ NN e6
   have hG3:(cW none (cl.take (i + 1))).length≤10000000:=by
    refine Nat.le_trans ?_ hsz
    rw [Zu,Bw]
    have e:=congrArg List.length (show cW none cl=cW none (cl.take (i + 1)) ++ cW (fm none (cl.take (i + 1))) (cl.drop (i + 1)) by rw [←jE,List.take_append_drop])
    rw [List.length_append] at e
    show _≤(cW none cl).length
    omega
   rw [ht,List.length_append,List.length_cons] at hG3
   refine ⟨_,rfl,tb,_,_,_,rfl,rfl,bb.of e1,rfl,?_⟩
   refine ⟨_,rfl,.inl ⟨rfl,_,bT.of hG'⟩,_,rfl,tb,_,_,_,rfl,rfl,bb.of e1,rfl,ra,_,rfl,.inl (bT.of e2),G,_,_,rfl,rfl,hG',?_,?_⟩
   ·rw [List.length_map]
    exact Nat.lt_of_le_of_lt (show _≤10000000 by omega) (by decide)
   have e1':L2.upd H' G (HO.lst ((cW none (cl.take i)).map V.int ++ [V.int (((cE (fm none (cl.take i)) (c.1,c.2)).2.map V.int).length:Int)])) tb=some (.tup [Zt,.ref ra]):=by
    rw [az (aW e1 hG' (fun q=>nomatch q))]
    exact e1
   have e2':L2.upd H' G (HO.lst ((cW none (cl.take i)).map V.int ++ [V.int (((cE (fm none (cl.take i)) (c.1,c.2)).2.map V.int).length:Int)])) ra=some (.lst ((cE (fm none (cl.take i)) (c.1,c.2)).2.map V.int)):=by
    rw [az nra]
    exact e2
   refine ⟨_,rfl,.inl ⟨rfl,_,bT.of ab⟩,_,rfl,tb,_,_,_,rfl,rfl,bb.of e1',rfl,G,ra,_,_,rfl,rfl,ab,e2',?_,?_⟩
   ·simp only [List.length_append,List.length_map,List.length_cons,List.length_nil]
    exact Nat.le_trans (show _≤10000000 by omega) (by decide)
   rw [bS]
   refine ⟨A',yD,Zt,some (.int c.1),some (.ref nm),some (.ref tb),rfl,?_,?_,?_,fun b o e n=> ?_,fun b hb=> ?_⟩
   ·rw [←hw]
    exact Hz hg _
   ·rw [←hw]
    have nG':¬BK A' yD (cE (fm none (cl.take i)) (c.1,c.2)).1 G:=fun q=>by
     rcases e5 G q with z|z
     ·exact nmG z
     ·rw [NN] at z
      cases z
    exact uo.other e3 hG' nG' _
   ·rw [ab,ht,List.map_append,List.append_assoc,List.length_map]
    rfl
   ·rw [az n]
    exact e4 _ _ (zb _ _ e n) fun q=>by
     have:=hm _ q
     rw [e] at this
     cases this
   ·rw [←hw] at hb
    rcases e5 b hb with q|q
    ·exact hm _ q
    ·cases z:H2 b with
     |none=>rfl
     |some o=>
      by_cases bG:b=G
      ·rw [bG,NN] at q
       cases q
      ·rw [zb _ _ z bG] at q
       cases q
  ·obtain ⟨A,cas,wv,v3,v4,v5,rfl,hg,mx,NN,zb,hm⟩:=hk
   rw [List.length_map,hPl.1,List.take_length] at NN
   refine ⟨_,rfl,k Hk G (fun b o e=>zb b o (NK _ _ e) (aF e hG)) ?_ hG⟩
   rw [NN,Zu,Bw]
   rfl
end
end Rl
namespace Rl
open PySem PySem.Spec PyProof.Rows L2
section
variable {P:Program}{w:World}{K:PySem.W.Frag}{mg:Str→Option Value}{base:Heap}{t:iU}
theorem BM (T:Txt K mg t)(s:Shared)(us:List Value)(hu:us.length=(["calls"] :List Str).length):BindsTo s t.jo ⟨us,[]⟩ ((["calls"] :List Str).zip us):=by
 obtain ⟨oc,od,kV,doc,pm,an,de,ct,LQ,h1,h2⟩:=T.ub.ex
 rw [h1]
 exact match us,hu with| [_],_=> .of_eq rfl
end
end Rl
namespace Rl
open PySem PySem.Spec PyProof.Rows L2
open Vbcnag (Mark Msg Under Offer Lease Client Relay Assigned Written)
theorem kf {a b:Nat}:decide (nV a=nV b)=decide (a=b):=by
 by_cases h:a=b
 ·rw [h,decide_eq_true rfl,decide_eq_true rfl]
 ·rw [decide_eq_false h,decide_eq_false (fun q=>h (by injection q with q;omega))]
section
variable {P:Program}{w:World}{K:PySem.W.Frag}{mg:Str→Option Value}{base:Heap}{t:iU}
def gj (s:Nat)(u:Under):Offer:={server:=s,addr:=u.msg.addr,len:=u.msg.len}
def KI (C:Cs):Sp:=fun vs H Q _=>∃ (m:Addr)(u:Under)(o:Option Offer)(bv:V)(s:Nat),vs= [.ref m,bv] ∧fL C H m u∧HB H o bv∧u.msg.server=some s∧Q (.bl (Vbcnag.better (gj s u) o)) H
theorem BN (T:Txt K mg t):a7 P w K mg base dY 1 t.dj t.j0 jR (KI (cs t)):=by
 refine T.nB.ok AV (fun vs H Q E h=> ?_) (fun de A0 outer s H vs Q E hr h=> ?_)
 ·obtain ⟨m,u,o,bv,sv,rfl,_⟩:=h
  rfl
 ·obtain ⟨m,u,o,bv,sv,rfl,⟨dm,pp,mm,xs,hM,hp,hm,uq⟩,hof,vR,k⟩:=h
  rw [vR] at hM
  refine ⟨_,ae (aZ (bD (fQ (pv 1))) (ak (aH Fc)) aR)
   (ae (aZ (aI cf (ai (pv 0) rfl) (aE aY (pv 1) ah (fun _ _=>rfl)) (aM _)) (ak (aH (iH kK (ai (pv 0) rfl) (aE aY (pv 1) ah (fun _ _=>rfl)) (aM _)))) aR)
   (ak (aH (iH qN (ai (pv 0) rfl) (aE aY (pv 1) ah (fun _ _=>rfl)) (aM _))))),?_⟩
  cases o with
  |none=>
   have e:bv= .bu:=hof
   subst e
   exact ⟨_,rfl,_,rfl,a8 k⟩
  |some o=>
   obtain ⟨b,rfl,hb⟩:=hof
   refine ⟨_,rfl,_,rfl,bf ?_⟩
   refine ⟨_,rfl,m,_,dm,_,_,rfl,hM,T.au,T.Qkt,rfl,_,rfl,b,_,_,_,rfl,rfl,bb.of hb,rfl,rfl,_,rfl,?_⟩
   refine dM (fun q=> ?_) fun q=> ?_
   ·have h1:u.msg.len=o.len:=bp.mp q
    refine ⟨_,rfl,m,_,dm,_,_,rfl,hM,T.au,T.Qkx,rfl,_,rfl,b,_,_,_,rfl,rfl,bb.of hb,rfl,_,_,rfl,rfl,?_⟩
    have e:Vbcnag.better (gj sv u) (some o)=decide ((sv:Int) < (o.server:Int)):=by
     unfold Vbcnag.better gj
     dsimp only
     rw [h1,decide_eq_false (Nat.lt_irrefl _),beq_self_eq_true,Bool.false_or,Bool.true_and]
     exact decide_eq_decide.mpr (by omega)
    rw [e] at k
    exact k
   ·have h1:¬u.msg.len=o.len:=fun z=>q (bp.mpr z)
    refine ⟨_,rfl,m,_,dm,_,_,rfl,hM,T.au,T.Qkt,rfl,_,rfl,b,_,_,_,rfl,rfl,bb.of hb,rfl,_,_,rfl,rfl,?_⟩
    have e:Vbcnag.better (gj sv u) (some o)=decide ((o.len:Int) < (u.msg.len:Int)):=by
     unfold Vbcnag.better gj
     dsimp only
     rw [beq_eq_false_iff_ne.mpr h1,Bool.false_and,Bool.or_false]
     exact decide_eq_decide.mpr (by omega)
    rw [e] at k
    exact k
def c8 (s:Nat)(u:Under)(c:Client):Client:=if c.phase=1∧Vbcnag.better (gj s u) c.best=true then {c with best:=some (gj s u)} else c
def MR (C:Cs):Sp:=fun vs H Q _=>∃ (A:Ad)(cas:List Addr)(W:VW)(i:Nat)(ca:Addr)(c:Client)(m:Addr)(u:Under)(s:Nat),vs= [.ref ca,.ref m] ∧Rep C H A cas W∧cas[i]?=some ca∧W.clients[i]?=some c∧fL C H m u∧u.msg.server=some s∧
 ∀H',Rep C H' A cas {W with clients:=W.clients.set i (c8 s u c)}→dv A cas H H'→Q .bu H'
theorem xO {α:Type}:∀ {l:List α}{i:Nat}{c:α},l[i]?=some c→l.set i c=l
 | [],_,_,h=>by simp at h
 |x::l,0,c,h=>by
  have e:x=c:=Option.some.inj h
  rw [e]
  rfl
 |x::l,i + 1,c,h=>by
  have hh:l[i]?=some c:=h
  show x::l.set i c=x::l
  rw [xO hh]
theorem yI (T:Txt K mg t):a7 P w K mg base dY 2 t.cP t.iZ iL (MR (cs t)):=by
 refine T.lX.ok yr (fun vs H Q E h=> ?_) (fun de A0 outer s H vs Q E hr h=> ?_)
 ·obtain ⟨A,cas,W,i,ca,c,m,u,sv,rfl,_⟩:=h
  rfl
 ·obtain ⟨A,cas,W,i,ca,c,m,u,sv,rfl,R,hi,hc,MA,vR,k⟩:=h
  have CK:=eC T
  obtain ⟨d,pl,be,le,cJ,da⟩:=R.fM hc hi
  have same:c8 sv u c=c→Q .bu H:=fun e=>k H (by rw [e,xO hc];exact R) dv.refl
  obtain ⟨MD,BB,BC⟩:=T.vO
  refine ⟨_,ak (aZ (PW.pt (gq (aI cf (ai (pv 0) rfl) (aC (by rfl) BB BC) (aM _)) (eF (mM (aA (BN T) (hr.mono (by decide)) (by rfl) T.uL T.nB.kp T.uM .nil aQ (aa (pv 1) (aa (ai (pv 0) rfl) af))))))) (ak (aL (pv 0) (bx (aa (ai (pv 1) rfl) (aa (ai (pv 1) rfl) (aa (ai (pv 1) rfl) af)))) rfl)) aR),?_⟩
  refine ⟨_,rfl,ca,_,d,_,_,rfl,cJ,T.aq,T.Qkl,rfl,rfl,_,rfl,?_⟩
  refine dM (fun q=> ?_) fun q=> ?_
  ·have h1:c.phase=1:=bp (b:=1)|>.mp q
   refine ⟨_,rfl,_,rfl,ca,_,d,_,_,rfl,cJ,T.aq,T.Qkk,rfl,m,u,c.best,be,sv,rfl,MA,da.be,vR,?_⟩
   refine ⟨_,rfl,?_⟩
   refine dM (fun q2=> ?_) fun q2=> ?_
   ·have MS:Vbcnag.better (gj sv u) c.best=true:=q2
    obtain ⟨dm,pp,mm,xs,hM,hp,hm,uq⟩:=MA
    rw [vR] at hM
    refine ⟨_,rfl,m,_,dm,_,_,rfl,hM,T.au,T.Qkx,rfl,_,rfl,m,_,dm,_,_,rfl,hM,T.au,T.Qkp,rfl,_,rfl,m,_,dm,_,_,rfl,hM,T.au,T.Qkt,rfl,(by show 3≤sizeLine;decide),fun b hb=> ?_⟩
    have S1:=aj.ao (o:=HO.tup [nV sv,nV u.msg.addr,nV u.msg.len]) hb
    have Ke:L2.upd H b (HO.tup [nV sv,nV u.msg.addr,nV u.msg.len]) b=some (HO.tup [nV sv,nV u.msg.addr,nV u.msg.len]):=ab
    have BO:=S1 _ _ cJ
    refine ⟨_,rfl,ca,_,d,_,rfl,BO,T.aq,T.Qkk,lt1000 rfl,?_⟩
    have e:c8 sv u c={c with best:=some (gj sv u)}:=if_pos ⟨h1,MS⟩
    rw [e] at k
    refine k _ ((R.same S1).setC CK (c':={c with best:=some (gj sv u)}) hi hc rfl BO ⟨da.pl.keep (aj.keep (C:=cs t) S1),⟨b,rfl,Ke⟩,da.le.keep (aj.keep (C:=cs t) S1)⟩) ((aj.dq S1).trans (dv.upd (Ad.gp hi)))
   ·exact same (if_neg fun z=>q2 z.2)
  ·have h1:¬c.phase=1:=fun z=>q (bp (b:=1)|>.mpr z)
   exact same (if_neg fun z=>h1 z.1)
end
end Rl
namespace Rl
open PySem PySem.Spec PyProof.Rows L2
open Vbcnag (Mark Msg Under Offer Lease Client Relay Assigned Written)
theorem Gf (n:Nat)(l:List Nat):LV (nV n) (l.map nV)=decide (n∈l):=by
 induction l with
 |nil=>rfl
 |cons a l ih=>
  have e:LV (nV n) ((a::l).map nV)=(((a:Int)==(n:Int))||LV (nV n) (l.map nV)):=rfl
  rw [e,ih]
  by_cases h:n=a
  ·subst h
   rw [beq_self_eq_true,Bool.true_or,decide_eq_true (List.mem_cons_self ..)]
  ·rw [beq_eq_false_iff_ne.mpr (fun q=>h (by omega)),Bool.false_or]
   exact decide_eq_decide.mpr ⟨fun q=>List.mem_cons_of_mem _ q,fun q=>(List.mem_cons.mp q).resolve_left h⟩
theorem KJ {W:VW}{i:Nat}{c c':Client}{y:Vbcnag.Done}(nd:(W.clients.map (·.host)).Nodup)(hc:W.clients[i]?=some c)(h1:c'.host=c.host)(h2:y.1.host=c.host):Vbcnag.done {W with clients:=W.clients.set i c'} y=Vbcnag.done W y:=by
 rw [o5 nd hc h2,o5 (W:={W with clients:=W.clients.set i c'}) (c:=c') (by show ((W.clients.set i c').map (·.host)).Nodup;rw [js hc h1];exact nd) (iD hc) (by rw [h2,h1])]
 show ({W with clients:=(W.clients.set i c').set i y.1,bag:=_}:VW)=_
 rw [List.set_set]
theorem zU {W:VW}{i:Nat}{c:Client}(nd:(W.clients.map (·.host)).Nodup)(hc:W.clients[i]?=some c):Vbcnag.done W (c,[])=W:=by
 rw [o5 nd hc rfl,xO hc]
 have e0:Vbcnag.outOf c [] = [] :=by
  unfold Vbcnag.outOf
  split <;>rfl
 show ({W with clients:=W.clients,bag:=W.bag ++ (Vbcnag.outOf c []).take _}:VW)=W
 rw [e0,List.take_nil,List.append_nil]
section
variable {P:Program}{w:World}{K:PySem.W.Frag}{mg:Str→Option Value}{base:Heap}{t:iU}
def Zw (C:Cs):Sp:=fun vs H Q _=>∃ (ca:Addr)(c:Client)(m:Addr)(u:Under)(s:Nat),vs= [.ref ca,.ref m] ∧dI C H ca c∧sF c∧fL C H m u∧u.msg.server=some s∧
 ∀H',aj H H'→Q (.bl (Vbcnag.wanted c s u.msg.addr)) H'
theorem yJ (T:Txt K mg t):a7 P w K mg base dY 1 t.cQ t.i3 iM (Zw (cs t)):=by
 refine T.lY.ok yt (fun vs H Q E h=> ?_) (fun de A0 outer s H vs Q E hr h=> ?_)
 ·obtain ⟨ca,c,m,u,sv,rfl,_⟩:=h
  rfl
 ·obtain ⟨ca,c,m,u,sv,rfl,⟨d,pl,be,le,cJ,da⟩,cg,⟨dm,pp,mm,xs,hM,hp,hm,uq⟩,vR,k⟩:=h
  rw [vR] at hM
  obtain ⟨sT,gh,gi⟩:=T.gf
  obtain ⟨ET,qC,qD⟩:=T.md
  obtain ⟨KL,xP,xQ⟩:=T.sr
  obtain ⟨Km,xD,xE⟩:=T.xf
  refine ⟨_,ae (aZ (aI cf (ai (pv 0) rfl) (aC (by rfl) xD xE) (aM _)) (ak (aH (IM (iH cf (ai (pv 1) rfl) (aE aY (ai (pv 0) rfl) ah (fun _ _=>rfl)) (aM _)) (IL (iH cf (ai (pv 1) rfl) (aE aY (ai (pv 0) rfl) ah (fun _ _=>rfl)) (aM _)))))) aR)
   (ak (aH (IM (iH y6 (ai (pv 0) rfl) (bx (aa (aC (by rfl) xP xQ) (aa (aC (by rfl) qC qD) (aa (aC (by rfl) gh gi) af)))) (by with_unfolding_all rfl)) (IL (iH cf (ai (pv 1) rfl) (aE aY (ai (pv 0) rfl) ah (fun _ _=>rfl)) (aM _)))))),?_⟩
  refine ⟨_,rfl,ca,_,d,_,_,rfl,cJ,T.aq,T.Qkl,rfl,rfl,_,rfl,?_⟩
  refine dM (fun q=> ?_) fun q=> ?_
  ·have h1:c.phase=2:=bp (b:=2)|>.mp q
   obtain ⟨o,ho⟩:=Option.isSome_iff_exists.mp (cg.ask h1)
   have B0:=da.be
   rw [ho] at B0
   obtain ⟨b,e,hb⟩:=B0
   subst e
   have hw:Vbcnag.wanted c sv u.msg.addr=(decide (nV sv=nV o.server) && decide (nV u.msg.addr=nV o.addr)):=by
    unfold Vbcnag.wanted
    rw [if_pos h1,ho,kf,kf]
    show (o.server==sv && o.addr==u.msg.addr)=_
    rw [Bool.eq_iff_iff]
    simp only [Bool.and_eq_true,beq_iff_eq,decide_eq_true_eq]
    constructor <;>rintro ⟨h1,h2⟩ <;>exact ⟨h1.symm,h2.symm⟩
   rw [hw] at k
   refine ⟨_,rfl,m,_,dm,_,_,rfl,hM,T.au,T.Qkx,rfl,_,rfl,ca,_,d,_,_,rfl,cJ,T.aq,T.Qkk,rfl,b,_,_,_,rfl,rfl,bb.of hb,rfl,rfl,_,rfl,?_⟩
   refine dM (fun q2=> ?_) fun q2=> ?_
   ·have MS:decide (nV sv=nV o.server)=true:=q2
    rw [MS,Bool.true_and] at k
    refine ⟨_,rfl,m,_,dm,_,_,rfl,hM,T.au,T.Qkp,rfl,_,rfl,ca,_,d,_,_,rfl,cJ,T.aq,T.Qkk,rfl,b,_,_,_,rfl,rfl,bb.of hb,rfl,rfl,?_⟩
    exact k H (aj.refl H)
   ·have MS:decide (nV sv=nV o.server)=false:=Bool.eq_false_iff.mpr q2
    rw [MS,Bool.false_and] at k
    exact k H (aj.refl H)
  ·have h1:¬c.phase=2:=fun z=>q (bp (b:=2)|>.mpr z)
   refine ⟨_,rfl,ca,_,d,_,_,rfl,cJ,T.aq,T.Qkl,rfl,(by show 3≤sizeLine;decide),fun q3 LB=> ?_⟩
   have S1:=aj.ao (o:=HO.tup [V.int 4,V.int 5,V.int 6]) LB
   have h3:L2.upd H q3 (HO.tup [V.int 4,V.int 5,V.int 6]) q3=some (.tup [V.int 4,V.int 5,V.int 6]):=ab
   generalize L2.upd H q3 (HO.tup [V.int 4,V.int 5,V.int 6])=H1 at *
   refine ⟨q3,_,rfl,.inr (bb.of h3),rfl,rfl,_,rfl,?_⟩
   have Ro:LV (nV c.phase) [V.int 4,V.int 5,V.int 6] =decide (c.phase∈ [4,5,6]):=Gf c.phase [4,5,6]
   show if LV (nV c.phase) [V.int 4,V.int 5,V.int 6] =true then _ else _
   rw [Ro]
   refine dM (fun q2=> ?_) fun q2=> ?_
   ·have QN:c.phase=4∨c.phase=5∨c.phase=6:=by simpa using q2
    obtain ⟨l,hl⟩:=Option.isSome_iff_exists.mp (cg.held (by omega))
    have hle:=da.le
    rw [hl] at hle
    obtain ⟨b,e,hb⟩:=hle
    subst e
    have hw:Vbcnag.wanted c sv u.msg.addr=decide (nV u.msg.addr=nV l.addr):=by
     unfold Vbcnag.wanted
     rw [if_neg h1,if_pos QN,hl,kf]
     show (l.addr==u.msg.addr)=_
     rw [Bool.eq_iff_iff]
     simp only [beq_iff_eq,decide_eq_true_eq]
     exact eq_comm
    rw [hw] at k
    refine ⟨_,rfl,m,_,dm,_,_,rfl,S1 _ _ hM,T.au,T.Qkp,rfl,_,rfl,ca,_,d,_,_,rfl,S1 _ _ cJ,T.aq,T.Qkj,rfl,b,_,_,_,rfl,rfl,bb.of (S1 _ _ hb),rfl,rfl,?_⟩
    exact k H1 S1
   ·have QN:¬ (c.phase=4∨c.phase=5∨c.phase=6):=fun z=>q2 (by simpa using z)
    have hw:Vbcnag.wanted c sv u.msg.addr=false:=by
     unfold Vbcnag.wanted
     rw [if_neg h1,if_neg QN]
    rw [hw] at k
    exact k H1 S1
def dX (s:Nat)(u:Under)(c:Client):Lease:={server:=s,addr:=u.msg.addr,half:=c.sent + u.msg.len / 2,late:=c.sent + u.msg.len * 7 / 8,till:=c.sent + u.msg.len}
def jI (now s:Nat)(u:Under)(c:Client):Vbcnag.Done:=if Vbcnag.wanted c s u.msg.addr=true∧now < c.sent + u.msg.len then Vbcnag.settle now (dX s u c) {c with best:=none,lease:=some (dX s u c)} else (c,[])
def BP (f:Nat→Under→Client→Vbcnag.Done)(p:Under→Prop)(C:Cs):Sp:=fun vs H Q _=>∃ (A:Ad)(cas:List Addr)(W:VW)(i:Nat)(ca:Addr)(c:Client)(m:Addr)(u:Under),vs= [.ref A.w,.ref ca,.ref m] ∧Rep C H A cas W∧W.bag.length≤10000∧cas[i]?=some ca∧W.clients[i]?=some c∧sF c∧fL C H m u∧p u∧
 ∀H',Rep C H' A cas (Vbcnag.done W (f W.now u c))→dv A cas H H'→Q .bu H'
theorem oq (T:Txt K mg t)(sv:Nat):a7 P w K mg base dY 6 t.dA t.jB jy (BP (fun now u c=>jI now sv u c) (fun u=>u.msg.server=some sv) (cs t)):=by
 refine T.qw.ok jS (fun vs H Q E h=> ?_) (fun de A0 outer s H vs Q E hr h=> ?_)
 ·obtain ⟨A,cas,W,i,ca,c,m,u,rfl,_⟩:=h
  rfl
 ·obtain ⟨A,cas,W,i,ca,c,m,u,rfl,R,mJ,hi,hc,cg,MA,vR,k⟩:=h
  have CK:=eC T
  have CA:=R.fM hc hi
  obtain ⟨d,pl,be,le,cJ,da⟩:=id CA
  obtain ⟨dm,pp,mm,xs,hM,hp,hm,uq⟩:=id MA
  rw [vR] at hM
  have same:∀H1,aj H H1→jI W.now sv u c=(c,[])→Q .bu H1:=fun H1 S e=>k H1 (by show Rep _ _ _ _ (Vbcnag.done W (jI W.now sv u c));rw [e,zU R.hn hc];exact R.same S) (aj.dq S)
  refine ⟨_,ae (aS (i:=3) jS.nd rfl (Or.inl rfl) (bW dz (ai (pv 1) rfl) (ai (pv 2) rfl)))
   (ak (aZ (PW.pt (gq (mM (aA (yJ T) (hr.mono (by decide)) (by rfl) T.rX T.lY.kp T.rY .nil aQ (aa (pv 1) (aa (pv 2) af)))) (eF (aI qN (pv 3) (ai (pv 0) rfl) (aM _))))) (ae (aS (i:=4) jS.nd rfl (Or.inl rfl) (bW dz (ai (pv 1) rfl) (bW Ae (ai (pv 2) rfl) ah)))
   (ae (aS (i:=5) jS.nd rfl (Or.inl rfl) (bW dz (ai (pv 1) rfl) (bW Ae (bW Oa (ai (pv 2) rfl) ah) ah)))
   (ae (aL (pv 1) dO rfl)
   (ae (aL (pv 1) (bx (aa (ai (pv 2) rfl) (aa (ai (pv 2) rfl) (aa (pv 4) (aa (pv 5) (aa (pv 3) af)))))) rfl)
   (ak (aG (aA (zO T) (hr.mono (by decide)) (by rfl) T.wO T.rR.kp T.wQ .nil aQ (aa (pv 0) (aa (pv 1) af))))))))) aR)),?_⟩
  refine ⟨_,rfl,ca,_,d,_,_,rfl,cJ,T.aq,T.Qkn,rfl,_,rfl,m,_,dm,_,_,rfl,hM,T.au,T.Qkt,rfl,_,_,rfl,rfl,?_⟩
  refine ⟨_,rfl,_,rfl,ca,c,m,u,sv,rfl,CA,cg,MA,vR,fun H1 S1=> ?_⟩
  refine ⟨_,rfl,?_⟩
  refine dM (fun q=> ?_) fun q=> ?_
  ·have q':Vbcnag.wanted c sv u.msg.addr=true:=q
   refine ⟨_,rfl,_,rfl,A.w,_,_,_,_,rfl,S1 _ _ R.cj,T.aw,T.Qk6,rfl,_,_,rfl,rfl,_,rfl,?_⟩
   refine dM (fun q2=> ?_) fun q2=> ?_
   ·have MS:W.now < c.sent + u.msg.len:=by
     have:=of_decide_eq_true q2
     omega
    have BO:=S1 _ _ cJ
    have mK:=S1 _ _ hM
    have R1:=R.same S1
    have e0:jI W.now sv u c=Vbcnag.settle W.now (dX sv u c) {c with best:=none,lease:=some (dX sv u c)}:=if_pos ⟨q',MS⟩
    refine ⟨_,rfl,ca,_,d,_,_,rfl,BO,T.aq,T.Qkn,rfl,_,rfl,m,_,dm,_,_,rfl,mK,T.au,T.Qkt,rfl,_,_,rfl,rfl,⟨by decide,by decide⟩,_,_,rfl,rfl,?_⟩
    refine ⟨_,rfl,ca,_,d,_,_,rfl,BO,T.aq,T.Qkn,rfl,_,rfl,m,_,dm,_,_,rfl,mK,T.au,T.Qkt,rfl,_,_,rfl,rfl,.inr ⟨by decide,by decide⟩,_,_,rfl,rfl,⟨by decide,by decide⟩,_,_,rfl,rfl,?_⟩
    refine ⟨_,rfl,ca,_,d,_,rfl,BO,T.aq,T.Qkk,lt1000 rfl,?_⟩
    have nm:m≠ca:=aW mK BO (fun z=>CK.cm (by injection z with z;exact z.symm))
    generalize yK:L2.upd H1 ca _=H2
    have MH:L2.upd H1 ca (.ins (cs t).C d (qH {c with best:=none} pl .bu le))=H2:=yK
    have LD:=(az (o:=HO.ins (cs t).C d (qH {c with best:=none} pl .bu le)) nm).trans mK
    have ug:L2.upd H1 ca (.ins (cs t).C d (qH {c with best:=none} pl .bu le)) ca=some (.ins (cs t).C d (qH {c with best:=none} pl .bu le)):=ab
    have R2:=R1.setC CK (c':={c with best:=none}) hi hc rfl BO ⟨da.pl.keep (aj.keep (C:=cs t) S1),rfl,da.le.keep (aj.keep (C:=cs t) S1)⟩
    have F2:dv A cas H (L2.upd H1 ca (.ins (cs t).C d (qH {c with best:=none} pl .bu le))):=(aj.dq S1).trans (dv.upd (Ad.gp hi))
    have nf:¬Fix (cs t) (.ins (cs t).C d (qH c pl be le)):=fun z=>by
     rcases z with z|z
     ·exact CK.cr z
     ·exact CK.cm z
    have ai1:Dd H2 c.place pl:=by
     rw [←MH]
     exact (da.pl.keep (aj.keep (C:=cs t) S1)).keep (c9.upd BO nf)
    rw [MH] at LD ug R2 F2
    clear MH yK
    refine ⟨_,rfl,m,_,dm,_,_,rfl,LD,T.au,T.Qkx,rfl,_,rfl,m,_,dm,_,_,rfl,LD,T.au,T.Qkp,rfl,_,rfl,_,rfl,_,rfl,(by show 5≤sizeLine;decide),fun b hb=> ?_⟩
    have eH:(c.sent:Int) + (u.msg.len:Int) / 2=((c.sent + u.msg.len / 2:Nat):Int):=by omega
    have eL:(c.sent:Int) + (u.msg.len:Int) * 7 / 8=((c.sent + u.msg.len * 7 / 8:Nat):Int):=by omega
    have eT:(c.sent:Int) + (u.msg.len:Int)=((c.sent + u.msg.len:Nat):Int):=by omega
    generalize yL:L2.upd H2 b _=H3
    have GO:L2.upd H2 b (HO.tup [nV sv,nV u.msg.addr,nV (c.sent + u.msg.len / 2),nV (c.sent + u.msg.len * 7 / 8),nV (c.sent + u.msg.len)])=H3:=by
     rw [←yL]
     show L2.upd H2 b (HO.tup [V.int sv,V.int u.msg.addr,V.int ((c.sent + u.msg.len / 2:Nat):Int),V.int ((c.sent + u.msg.len * 7 / 8:Nat):Int),V.int ((c.sent + u.msg.len:Nat):Int)])=_
     rw [←eH,←eL,←eT]
     rfl
    have S3:aj H2 H3:=by rw [←GO];exact aj.ao hb
    have hb3:H3 b=some (HO.tup [nV sv,nV u.msg.addr,nV (c.sent + u.msg.len / 2),nV (c.sent + u.msg.len * 7 / 8),nV (c.sent + u.msg.len)]):=by rw [←GO];exact ab
    clear GO yL
    have Zx:=S3 _ _ ug
    refine ⟨_,rfl,ca,_,d,_,rfl,Zx,T.aq,T.Qkj,lt1000 rfl,?_⟩
    have R3:=(R2.same S3).setC CK (c':={c with best:=none,lease:=some (dX sv u c)}) hi (iD hc) rfl Zx ⟨ai1.keep (aj.keep (C:=cs t) S3),rfl,⟨b,rfl,hb3⟩⟩
    have R4:Rep (cs t) (L2.upd H3 ca (.ins (cs t).C d (qH {c with best:=none,lease:=some (dX sv u c)} pl .bu (.ref b)))) A cas {W with clients:=W.clients.set i {c with best:=none,lease:=some (dX sv u c)} }:=by
     have e:(W.clients.set i {c with best:=none}).set i {c with best:=none,lease:=some (dX sv u c)}=W.clients.set i {c with best:=none,lease:=some (dX sv u c)}:=List.set_set ..
     rw [←e]
     exact R3
    refine ⟨_,rfl,_,rfl,A,cas,{W with clients:=W.clients.set i {c with best:=none,lease:=some (dX sv u c)} },i,ca,{c with best:=none,lease:=some (dX sv u c)},dX sv u c,rfl,R4,mJ,hi,iD hc,rfl,fun H5 R5 F5=> ?_⟩
    refine k H5 ?_ (((F2.trans (aj.dq S3)).trans (dv.upd (Ad.gp hi))).trans F5)
    show Rep _ _ _ _ (Vbcnag.done W (jI W.now sv u c))
    rw [e0,←KJ (c':={c with best:=none,lease:=some (dX sv u c)}) R.hn hc rfl (me W.now (dX sv u c) (c:={c with best:=none,lease:=some (dX sv u c)}) rfl).1.host]
    exact R5
   ·have MS:¬W.now < c.sent + u.msg.len:=fun z=>q2 (decide_eq_true (by omega))
    exact same H1 S1 (if_neg fun z=>MS z.2)
  ·exact same H1 S1 (if_neg fun z=>q z.1)
end
end Rl
namespace Rl
open PySem PySem.Spec PyProof.Rows L2
open Vbcnag (Mark Msg Under Offer Lease Client Relay Assigned Written)
theorem Dv {now:Nat}{c:Client}{m:Msg}(h:c.phase=0∨m.number≠c.number):Vbcnag.hears now c m=(c,[]):=if_pos h
theorem MT {now s:Nat}{c:Client}{u:Under}(h:¬ (c.phase=0∨u.msg.number≠c.number))(hk:u.msg.kind=2)(hs:u.msg.server=some s):Vbcnag.hears now c u.msg=(c8 s u c,[]):=by
 unfold Vbcnag.hears
 rw [if_neg h,hk,hs]
 unfold c8
 show (if c.phase=1∧Vbcnag.better (gj s u) c.best=true then _ else _)=_
 split <;>rfl
theorem MU {now s:Nat}{c:Client}{u:Under}(h:¬ (c.phase=0∨u.msg.number≠c.number))(hk:u.msg.kind=4)(hs:u.msg.server=some s):Vbcnag.hears now c u.msg=jI now s u c:=by
 unfold Vbcnag.hears
 rw [if_neg h,hk,hs]
 rfl
theorem Gg {now:Nat}{c:Client}{m:Msg}(h:¬ (c.phase=0∨m.number≠c.number))(hk:m.kind=5):Vbcnag.hears now c m=if c.phase=2∨c.phase=4∨c.phase=5∨c.phase=6 then Vbcnag.seek now 0 c else (c,[]):=by
 unfold Vbcnag.hears
 rw [if_neg h,hk]
 cases m.server <;>rfl
theorem EU {now:Nat}{c:Client}{m:Msg}(h2:m.kind≠2)(h4:m.kind≠4)(h5:m.kind≠5):Vbcnag.hears now c m=(c,[]):=by
 unfold Vbcnag.hears
 split
 ·rfl
 ·split
  ·rename_i e _
   exact absurd e h2
  ·rename_i e _
   exact absurd e h4
  ·rename_i e
   exact absurd e h5
  ·rfl
section
variable {P:Program}{w:World}{K:PySem.W.Frag}{mg:Str→Option Value}{base:Heap}{t:iU}
theorem MV (T:Txt K mg t):a7 P w K mg base dY 7 t.lL t.Bg AS (BP (fun now u c=>Vbcnag.hears now c u.msg) (fun u=>u.msg.server.isSome=true) (cs t)):=by
 refine T.Et.ok Mm (fun vs H Q E h=> ?_) (fun de A0 outer s H vs Q E hr h=> ?_)
 ·obtain ⟨A,cas,W,i,ca,c,m,u,rfl,_⟩:=h
  rfl
 ·obtain ⟨A,cas,W,i,ca,c,m,u,rfl,R,mJ,hi,hc,cg,MA,vR,k⟩:=h
  obtain ⟨sv,vR⟩:=Option.isSome_iff_exists.mp vR
  have CK:=eC T
  obtain ⟨d,pl,be,le,cJ,da⟩:=R.fM hc hi
  obtain ⟨dm,pp,mm,xs,hM,hp,hm,uq⟩:=id MA
  have oq:∀T:Txt K mg t,a7 P w K mg base dY 6 t.dA t.jB jy (BP (fun now u c=>jI now sv u c) (fun u=>u.msg.server=some sv) (cs t)):=fun T=>oq T sv
  have same:∀H1,aj H H1→Vbcnag.hears W.now c u.msg=(c,[])→Q .bu H1:=fun H1 S e=>k H1 (by show Rep _ _ _ _ (Vbcnag.done W (Vbcnag.hears W.now c u.msg));rw [e,zU R.hn hc];exact R.same S) (aj.dq S)
  have KN:Vbcnag.hears W.now c u.msg=(c,[])→Q .bu H:=same H (aj.refl H)
  obtain ⟨MW,BQ,BR⟩:=T.Bu
  obtain ⟨Zy,KO,KP⟩:=T.J5
  obtain ⟨sT,gh,gi⟩:=T.gf
  obtain ⟨ET,qC,qD⟩:=T.md
  obtain ⟨KL,xP,xQ⟩:=T.sr
  obtain ⟨Km,xD,xE⟩:=T.xf
  obtain ⟨ai2,MX,MY⟩:=T.Pe
  obtain ⟨Kq,vd,ve⟩:=T.zG
  refine ⟨_,ae (aZ (PW.pt (qJ (aI cf (ai (pv 1) rfl) (aC (by rfl) vd ve) (aM _)) (lr (aI v9 (ai (pv 2) rfl) (ai (pv 1) rfl) (aM _))))) (ak qK) aR)
   (ak (aZ (aI cf (ai (pv 2) rfl) (aC (by rfl) BQ BR) (aM _)) (ak (aG (aA (yI T) (hr.mono (by decide)) (by rfl) T.rV T.lX.kp T.rW .nil aQ (aa (pv 1) (aa (pv 2) af))))) (ak (aZ (aI cf (ai (pv 2) rfl) (aC (by rfl) KO KP) (aM _)) (ak (aG (aA (oq T) (hr.mono (by decide)) (by rfl) T.wR T.qw.kp T.wU .nil aQ (aa (pv 0) (aa (pv 1) (aa (pv 2) af)))))) (ak (aZ (PW.pt (gq (aI cf (ai (pv 2) rfl) (aC (by rfl) MX MY) (aM _)) (eF (aI y6 (ai (pv 1) rfl) (bx (aa (aC (by rfl) xD xE) (aa (aC (by rfl) xP xQ) (aa (aC (by rfl) qC qD) (aa (aC (by rfl) gh gi) af))))) (by with_unfolding_all rfl))))) (ak (aG (aA (sQ T) (hr.mono (by decide)) (by rfl) T.tT T.qv.kp T.tU .nil aQ (aa (pv 0) (aa (pv 1) (aa ah af)))))) aR)))))),?_⟩
  refine ⟨_,rfl,ca,_,d,_,_,rfl,cJ,T.aq,T.Qkl,rfl,rfl,_,rfl,?_⟩
  refine dM (fun q=> ?_) fun q=> ?_
  ·have h1:c.phase=0:=bp (b:=0)|>.mp q
   exact a8 (KN (Dv (.inl h1)))
  have h1:¬c.phase=0:=fun z=>q (bp (b:=0)|>.mpr z)
  refine ⟨_,rfl,m,_,dm,_,_,rfl,hM,T.au,T.Qkv,rfl,_,rfl,ca,_,d,_,_,rfl,cJ,T.aq,T.Qkf,rfl,rfl,_,rfl,?_⟩
  rw [kf]
  by_cases h2:¬u.msg.number=c.number
  ·rw [decide_eq_false h2]
   exact a8 (KN (Dv (.inr h2)))
  have h2:=Decidable.not_not.mp h2
  rw [decide_eq_true h2]
  refine bf ?_
  have hn:¬ (c.phase=0∨u.msg.number≠c.number):=fun z=>z.elim h1 (fun z=>z h2)
  refine ⟨_,rfl,m,_,dm,_,_,rfl,hM,T.au,T.Qks,rfl,rfl,_,rfl,?_⟩
  refine dM (fun q2=> ?_) fun q2=> ?_
  ·have k2:u.msg.kind=2:=bp (b:=2)|>.mp q2
   refine ⟨_,rfl,_,rfl,A,cas,W,i,ca,c,m,u,sv,rfl,R,hi,hc,MA,vR,fun H1 R1 F1=> ?_⟩
   refine k H1 ?_ F1
   show Rep _ _ _ _ (Vbcnag.done W (Vbcnag.hears W.now c u.msg))
   have NP:(c8 sv u c).host=c.host:=by
    unfold c8
    split <;>rfl
   have e0:Vbcnag.outOf (c8 sv u c) [] = [] :=by
    unfold Vbcnag.outOf
    split <;>rfl
   rw [MT hn k2 vR,o5 (y:=(c8 sv u c,[])) R.hn hc NP]
   show Rep _ _ _ _ {W with clients:=W.clients.set i (c8 sv u c),bag:=W.bag ++ (Vbcnag.outOf (c8 sv u c) []).take _}
   rw [e0,List.take_nil,List.append_nil]
   exact R1
  have k2:u.msg.kind≠2:=fun z=>q2 (bp (b:=2)|>.mpr z)
  refine ⟨_,rfl,m,_,dm,_,_,rfl,hM,T.au,T.Qks,rfl,rfl,_,rfl,?_⟩
  refine dM (fun q4=> ?_) fun q4=> ?_
  ·have k4:u.msg.kind=4:=bp (b:=4)|>.mp q4
   refine ⟨_,rfl,_,rfl,_,rfl,A,cas,W,i,ca,c,m,u,rfl,R,mJ,hi,hc,cg,MA,vR,fun H1 R1 F1=> ?_⟩
   refine k H1 ?_ F1
   show Rep _ _ _ _ (Vbcnag.done W (Vbcnag.hears W.now c u.msg))
   rw [MU hn k4 vR]
   exact R1
  have k4:u.msg.kind≠4:=fun z=>q4 (bp (b:=4)|>.mpr z)
  refine ⟨_,rfl,m,_,dm,_,_,rfl,hM,T.au,T.Qks,rfl,rfl,_,rfl,?_⟩
  refine dM (fun q5=> ?_) fun q5=> ?_
  ·have k5:u.msg.kind=5:=bp (b:=5)|>.mp q5
   refine ⟨_,rfl,ca,_,d,_,_,rfl,cJ,T.aq,T.Qkl,rfl,(by show 4≤sizeLine;decide),fun q3 LB=> ?_⟩
   have S1:=aj.ao (o:=HO.tup [V.int 2,V.int 4,V.int 5,V.int 6]) LB
   have h3:L2.upd H q3 (HO.tup [V.int 2,V.int 4,V.int 5,V.int 6]) q3=some (.tup [V.int 2,V.int 4,V.int 5,V.int 6]):=ab
   generalize L2.upd H q3 (HO.tup [V.int 2,V.int 4,V.int 5,V.int 6])=H1 at *
   refine ⟨q3,_,rfl,.inr (bb.of h3),rfl,rfl,_,rfl,?_⟩
   have Ro:LV (nV c.phase) [V.int 2,V.int 4,V.int 5,V.int 6] =decide (c.phase∈ [2,4,5,6]):=Gf c.phase [2,4,5,6]
   show if LV (nV c.phase) [V.int 2,V.int 4,V.int 5,V.int 6] =true then _ else _
   rw [Ro]
   refine dM (fun q6=> ?_) fun q6=> ?_
   ·have QN:c.phase=2∨c.phase=4∨c.phase=5∨c.phase=6:=by simpa using q6
    refine ⟨_,rfl,_,rfl,A,cas,W,i,ca,c,0,rfl,R.same S1,mJ,hi,hc,Nat.zero_le _,fun H2 R2 F2=> ?_⟩
    refine k H2 ?_ ((aj.dq S1).trans F2)
    show Rep _ _ _ _ (Vbcnag.done W (Vbcnag.hears W.now c u.msg))
    rw [Gg hn k5,if_pos QN]
    exact R2
   ·have QN:¬ (c.phase=2∨c.phase=4∨c.phase=5∨c.phase=6):=fun z=>q6 (by simpa using z)
    exact same H1 S1 ((Gg hn k5).trans (if_neg QN))
  ·have k5:u.msg.kind≠5:=fun z=>q5 (bp (b:=5)|>.mpr z)
   exact KN (EU k2 k4 k5)
end
end Rl
namespace Rl
open PySem PySem.Spec PyProof.Rows L2
open Vbcnag (Mark Msg Under Offer Lease Client Relay Assigned Written)
theorem zV {x y:Written}:cC x.server x.host x.addr=cC y.server y.host y.addr ↔ d3 x=d3 y:=by
 rw [eD]
 constructor
 ·rintro ⟨h1,h2,h3⟩
  show (_,_,_)=(_,_,_)
  rw [h1,h2,h3]
 ·intro q
  injection q with q1 q
  injection q with q2 q3
  exact ⟨q1,q2,q3⟩
def gH (x:Written):List Written→Nat
 | [] =>x.till
 |y::l=>if y.server=x.server∧y.host=x.host∧y.addr=x.addr then max y.till x.till else gH x l
theorem KQ (x:Written):∀l:List Written,(((cN (bL l) (cC x.server x.host x.addr)).getD (nV x.till))=nV x.till∧gH x l=x.till)∨∃n,cN (bL l) (cC x.server x.host x.addr)=some (nV n)∧gH x l=max n x.till
 | [] => .inl ⟨rfl,rfl⟩
 |y::l=>by
  unfold bL gH
  rw [List.map_cons]
  by_cases h:y.server=x.server∧y.host=x.host∧y.addr=x.addr
  ·rw [if_pos h,cA (eD.mpr h)]
   exact .inr ⟨y.till,rfl,rfl⟩
  ·rw [if_neg h,cB (fun q=>h (eD.mp q))]
   exact KQ x l
theorem Gh {x:Written}:∀ {l:List Written},d3 x ∉ l.map d3→(bL l).any (fun kv=>decide (kv.1=cC x.server x.host x.addr))=false∧Vbcnag.write x l=l ++ [x] ∧gH x l=x.till
 | [],_=>⟨rfl,rfl,rfl⟩
 |y::l,h=>by
  rw [List.map_cons,List.mem_cons] at h
  have pz:¬ (y.server=x.server∧y.host=x.host∧y.addr=x.addr):=fun q=>h (.inl (by
   obtain ⟨q1,q2,q3⟩:=q
   show (_,_,_)=(_,_,_)
   rw [q1,q2,q3]))
  obtain ⟨h1,h2,h3⟩:=Gh (l:=l) fun q=>h (.inr q)
  refine ⟨?_,?_,?_⟩
  ·unfold bL at h1 ⊢
   rw [List.map_cons,List.any_cons,h1,Bool.or_false]
   exact decide_eq_false fun q=>pz (eD.mp q)
  ·unfold Vbcnag.write
   rw [if_neg pz,h2]
   rfl
  ·unfold gH
   rw [if_neg pz,h3]
theorem KR {x:Written}{v:V}:∀ {l:List Written},d3 x ∉ l.map d3→(bL l).map (fun kv=>if kv.1=cC x.server x.host x.addr then (kv.1,v) else kv)=bL l
 | [],_=>rfl
 |y::l,h=>by
  rw [List.map_cons,List.mem_cons] at h
  have pz:¬cC y.server y.host y.addr=cC x.server x.host x.addr:=fun q=>h (.inl (zV.mp q).symm)
  have ih:=KR (v:=v) (l:=l) fun q=>h (.inr q)
  unfold bL at ih ⊢
  rw [List.map_cons,List.map_cons,ih,if_neg pz]
theorem QO {x:Written}:∀ {l:List Written},(l.map d3).Nodup→putK (bL l) (cC x.server x.host x.addr) (nV (gH x l))=bL (Vbcnag.write x l):=by
 have Zz:∀ {l:List Written},(l.map d3).Nodup→d3 x∈l.map d3→(bL l).any (fun kv=>decide (kv.1=cC x.server x.host x.addr))=true∧
   (bL l).map (fun kv=>if kv.1=cC x.server x.host x.addr then (kv.1,nV (gH x l)) else kv)=bL (Vbcnag.write x l):=by
  intro l
  induction l with
  |nil=>intro _ h;cases h
  |cons y l ih=>
   intro nd hm
   rw [List.map_cons,List.nodup_cons] at nd
   by_cases h:y.server=x.server∧y.host=x.host∧y.addr=x.addr
   ·have e:d3 x=d3 y:=by
     obtain ⟨q1,q2,q3⟩:=h
     show (_,_,_)=(_,_,_)
     rw [q1,q2,q3]
    have hk:cC y.server y.host y.addr=cC x.server x.host x.addr:=eD.mpr h
    constructor
    ·show (decide (cC y.server y.host y.addr=cC x.server x.host x.addr)||_)=true
     rw [decide_eq_true hk,Bool.true_or]
    ·unfold gH Vbcnag.write
     rw [if_pos h,if_pos h]
     have hr:=KR (x:=x) (v:=nV (max y.till x.till)) (l:=l) (by rw [e];exact nd.1)
     unfold bL at hr ⊢
     rw [List.map_cons,List.map_cons,List.map_cons,if_pos hk]
     show _::List.map _ (List.map _ l)=_
     rw [hr]
   ·have e:d3 x≠d3 y:=fun q=>h (eD.mp (zV.mpr q.symm))
    have hk:¬cC y.server y.host y.addr=cC x.server x.host x.addr:=fun q=>h (eD.mp q)
    have OO:d3 x∈l.map d3:=by
     rw [List.map_cons,List.mem_cons] at hm
     exact hm.resolve_left e
    obtain ⟨i1,i2⟩:=ih nd.2 OO
    constructor
    ·show (decide (cC y.server y.host y.addr=cC x.server x.host x.addr)||(bL l).any _)=true
     rw [i1,Bool.or_true]
    ·unfold gH Vbcnag.write
     rw [if_neg h,if_neg h]
     show (if cC y.server y.host y.addr=cC x.server x.host x.addr then _ else _)::(bL l).map _=_::bL (Vbcnag.write x l)
     rw [i2,if_neg hk]
 intro l nd
 unfold putK
 by_cases h:d3 x∈l.map d3
 ·obtain ⟨h1,h2⟩:=Zz nd h
  rw [if_pos h1,h2]
 ·obtain ⟨h1,h2,h3⟩:=Gh h
  rw [if_neg (by rw [h1];exact Bool.false_ne_true),h2,h3]
  unfold bL
  rw [List.map_append]
  rfl
theorem fL.parts {C:Cs}{H:Hp}{m:Addr}{u:Under}(h:fL C H m u):∃d p mk xs,H m=some (.ins C.M d (Y8 (.ref p) (nV u.msg.host) (nV u.msg.number) (nV u.msg.kind) (oV u.msg.server) (nV u.msg.addr) (nV u.msg.len) (nV u.msg.hops) (.ref mk)))∧
 H p=some (.tup (cF u.place))∧H mk=some (.tup xs)∧Paired (cH H) u.msg.marks xs:=h
theorem cH.keep {C:Cs}{H H':Hp}(k:c9 C H H'){m:Mark}{v:V}(h:cH H m v):cH H' m v:=by
 obtain ⟨b,e,q⟩:=h
 exact ⟨b,e,k.tup q⟩
theorem bj {C:Cs}{H H':Hp}(k:c9 C H H'){l:List Mark}{xs:List V}(h:Paired (cH H) l xs):Paired (cH H') l xs:=Paired.bV h fun m v f=>f.keep k
section
variable {P:Program}{w:World}{K:PySem.W.Frag}{mg:Str→Option Value}{base:Heap}{t:iU}
def zW (u:Under)(pl:Vbcnag.Place)(hops:Nat)(mk:List Mark):Under:={place:=pl,msg:={u.msg with hops:=hops,marks:=mk} }
def Gi (C:Cs):Sp:=fun vs H Q _=>∃ (A:Ad)(cas:List Addr)(W:VW)(m:Addr)(u:Under)(pa ma:Addr)(pl:Vbcnag.Place)(hops:Nat)(mk:List Mark)(xs:List V),vs= [.ref A.w,.ref m,.ref pa,nV hops,.ref ma] ∧Rep C H A cas W∧W.bag.length≤10000∧fL C H m u∧
 H pa=some (.tup (cF pl))∧H ma=some (.tup xs)∧Paired (cH H) mk xs∧∀H',Rep C H' A cas (Vbcnag.puts W [zW u pl hops mk]).1→dv A cas H H'→Q .bu H'
theorem ur (T:Txt K mg t):a7 P w K mg base dY 3 t.fZ t.rF qZ (Gi (cs t)):=by
 refine T.nE.ok Hd (fun vs H Q E h=> ?_) (fun de A0 outer s H vs Q E hr h=> ?_)
 ·obtain ⟨A,cas,W,m,u,pa,ma,pl,hops,mk,xs,rfl,_⟩:=h
  rfl
 ·obtain ⟨A,cas,W,m,u,pa,ma,pl,hops,mk,xs,rfl,R,hb,MA,hpa,HS,uq,k⟩:=h
  obtain ⟨dm,pp,mm,ys,hM,_⟩:=MA.parts
  refine ⟨_,ak (aG (aA (xy T) (hr.mono (by decide)) (by rfl) T.zx T.wL.kp T.zy .nil aQ (aa (pv 0) (aa (jM T.Qhj (By T) (hr.mono (by decide)) (by rfl) T.k7 T.eB .nil aQ (aa (pv 2) (aa (ai (pv 1) rfl) (aa (ai (pv 1) rfl) (aa (ai (pv 1) rfl) (aa (ai (pv 1) rfl) (aa (ai (pv 1) rfl) (aa (ai (pv 1) rfl) (aa (pv 3) (aa (pv 4) af)))))))))) af)))),?_⟩
  refine ⟨_,rfl,_,rfl,_,rfl,m,_,dm,_,_,rfl,hM,T.au,T.Qkr,rfl,_,rfl,m,_,dm,_,_,rfl,hM,T.au,T.Qkv,rfl,_,rfl,m,_,dm,_,_,rfl,hM,T.au,T.Qks,rfl,_,rfl,m,_,dm,_,_,rfl,hM,T.au,T.Qkx,rfl,
   _,rfl,m,_,dm,_,_,rfl,hM,T.au,T.Qkp,rfl,_,rfl,m,_,dm,_,_,rfl,hM,T.au,T.Qkt,rfl,_,rfl,_,rfl,?_⟩
  intro x dx nx HF Rz
  refine ⟨x,dx,_,_,_,_,_,_,_,_,_,rfl,ab,fun H5 h5 k5=>⟨rfl,?_⟩⟩
  have S5:=aj.made nx HF k5
  refine ⟨A,cas,W,x,zW u pl hops mk,rfl,R.same S5,hb,⟨dx,pa,ma,xs,h5,S5 _ _ hpa,S5 _ _ HS,bj (aj.keep (C:=cs t) S5) uq⟩,fun H6 R6 F6=> ?_⟩
  exact k H6 R6 ((aj.dq S5).trans F6)
def mq (u:Under)(s kind addr len:Nat):Under:={place:= .down 0,msg:={u.msg with kind:=kind,server:=some s,addr:=addr,len:=len,hops:=0} }
def KS (C:Cs):Sp:=fun vs H Q _=>∃ (A:Ad)(cas:List Addr)(W:VW)(m:Addr)(u:Under)(s kind addr len:Nat),vs= [.ref A.w,.ref m,nV kind,nV addr,nV len] ∧Rep C H A cas W∧W.bag.length≤10000∧fL C H m u∧u.place= .server s∧
 ∀H',Rep C H' A cas (Vbcnag.puts W [mq u s kind addr len]).1→dv A cas H H'→Q .bu H'
theorem pb (T:Txt K mg t):a7 P w K mg base dY 3 t.f7 t.rG rg (KS (cs t)):=by
 refine T.k9.ok Hf (fun vs H Q E h=> ?_) (fun de A0 outer s H vs Q E hr h=> ?_)
 ·obtain ⟨A,cas,W,m,u,sv,kind,addr,len,rfl,_⟩:=h
  rfl
 ·obtain ⟨A,cas,W,m,u,sv,kind,addr,len,rfl,R,hb,MA,dB,k⟩:=h
  obtain ⟨dm,pp,mm,ys,hM,hp,hm,uq⟩:=MA.parts
  rw [dB] at hp
  obtain ⟨KU,xR,xS⟩:=T.Bt
  refine ⟨_,ak (aG (aA (xy T) (hr.mono (by decide)) (by rfl) T.zx T.wL.kp T.zy .nil aQ (aa (pv 0) (aa (jM T.Qhj (By T) (hr.mono (by decide)) (by rfl) T.k7 T.eB .nil aQ (aa (bx (aa (aC (by rfl) xR xS) (aa ah (aa ah af)))) (aa (ai (pv 1) rfl) (aa (ai (pv 1) rfl) (aa (pv 2) (aa (aE aY (ai (pv 1) rfl) ah (fun _ _=>rfl)) (aa (pv 3) (aa (pv 4) (aa ah (aa (ai (pv 1) rfl) af)))))))))) af)))),?_⟩
  refine ⟨_,rfl,(by show 3≤sizeLine;decide),fun z hz=> ?_⟩
  have S1:=aj.ao (o:=HO.tup [V.int 2,V.int 0,V.int 0]) hz
  have qk:L2.upd H z (HO.tup [V.int 2,V.int 0,V.int 0]) z=some (.tup (cF (.down 0))):=ab
  generalize L2.upd H z (HO.tup [V.int 2,V.int 0,V.int 0])=H1 at *
  have mK:=S1 _ _ hM
  refine ⟨_,rfl,m,_,dm,_,_,rfl,mK,T.au,T.Qkr,rfl,_,rfl,m,_,dm,_,_,rfl,mK,T.au,T.Qkv,rfl,_,rfl,_,rfl,m,_,dm,_,_,rfl,mK,T.au,T.Qkw,rfl,pp,_,_,_,rfl,rfl,bb.of (S1 _ _ hp),rfl,
   _,rfl,_,rfl,_,rfl,m,_,dm,_,_,rfl,mK,T.au,T.Qku,rfl,?_⟩
  intro x dx nx HF Rz
  refine ⟨x,dx,_,_,_,_,_,_,_,_,_,rfl,ab,fun H5 h5 k5=>⟨rfl,?_⟩⟩
  have S5:=aj.made nx HF k5
  have Qx:=S1.trans S5
  refine ⟨A,cas,W,x,mq u sv kind addr len,rfl,R.same Qx,hb,⟨dx,z,mm,ys,h5,S5 _ _ qk,Qx _ _ hm,bj (aj.keep (C:=cs t) Qx) uq⟩,fun H6 R6 F6=> ?_⟩
  exact k H6 R6 ((aj.dq Qx).trans F6)
def MZ (C:Cs):Sp:=fun vs H Q _=>∃ (A:Ad)(cas:List Addr)(W:VW)(m:Addr)(u:Under)(s len:Nat),vs= [.ref A.w,.ref m,nV len] ∧Rep C H A cas W∧(W.written.map d3).Nodup∧W.written.length < sizeLine∧fL C H m u∧u.place= .server s∧
 ∀H',Rep C H' A cas {W with written:=Vbcnag.write {server:=s,host:=u.msg.host,addr:=u.msg.addr,till:=W.now + len} W.written}→dv A cas H H'→Q .bu H'
theorem yM (T:Txt K mg t):a7 P w K mg base dY 2 t.cS t.i6 iO (MZ (cs t)):=by
 refine T.l4.ok kj (fun vs H Q E h=> ?_) (fun de A0 outer s H vs Q E hr h=> ?_)
 ·obtain ⟨A,cas,W,m,u,sv,len,rfl,_⟩:=h
  rfl
 ·obtain ⟨A,cas,W,m,u,sv,len,rfl,R,nd,dy,MA,dB,k⟩:=h
  obtain ⟨dm,pp,mm,ys,hM,hp,hm,uq⟩:=MA.parts
  rw [dB] at hp
  have hu:=fE hr
  refine ⟨_,ae (aS (i:=3) kj.nd rfl (Or.inl rfl) (bx (aa (aE aY (ai (pv 1) rfl) ah (fun _ _=>rfl)) (aa (ai (pv 1) rfl) (aa (ai (pv 1) rfl) af)))))
   (ae (aS (i:=4) kj.nd rfl (Or.inl rfl) (bW dz (ai (pv 0) rfl) (pv 2)))
   (ak (vC hu (ai (pv 0) rfl) (pv 3) (aU (yX rfl) (by rfl) T.Qlx PyProof.Rows.boot_max (aa (pv 4) (aa (Jm hu (ai (pv 0) rfl) (pv 3) (pv 4) ⟨rfl,rfl,rfl,rfl⟩) af))) rfl))),?_⟩
  refine ⟨_,rfl,m,_,dm,_,_,rfl,hM,T.au,T.Qkw,rfl,pp,_,_,_,rfl,rfl,bb.of hp,rfl,_,rfl,m,_,dm,_,_,rfl,hM,T.au,T.Qkr,rfl,_,rfl,m,_,dm,_,_,rfl,hM,T.au,T.Qkp,rfl,(by show 3≤sizeLine;decide),fun q hq=> ?_⟩
  have S1:=aj.ao (o:=HO.tup [nV sv,nV u.msg.host,nV u.msg.addr]) hq
  have EM:L2.upd H q (HO.tup [nV sv,nV u.msg.host,nV u.msg.addr]) q=some (.tup ((cC sv u.msg.host u.msg.addr).map kV)):=ab
  generalize L2.upd H q (HO.tup [nV sv,nV u.msg.host,nV u.msg.addr])=H1 at *
  have R1:=R.same S1
  have DG:=fC.t R1.wr EM
  refine ⟨_,rfl,A.w,_,_,_,_,rfl,R1.cj,T.aw,T.Qk6,rfl,_,rfl,_,_,rfl,rfl,?_⟩
  have eE:(W.now:Int) + (len:Int)=((W.now + len:Nat):Int):=by omega
  refine ⟨_,rfl,_,rfl,A.w,_,_,_,_,rfl,R1.cj,T.aw,T.Qla,rfl,A.wr,rfl,.inr ⟨_,.inl R1.wr⟩,_,rfl,_,rfl,_,DG,?_⟩
  have zk:(bL W.written).length < sizeLine:=by
   unfold bL
   rw [List.length_map]
   exact dy
  have fin:∀v:Int,v=((gH {server:=sv,host:=u.msg.host,addr:=u.msg.addr,till:=W.now + len} W.written:Nat):Int)→Q .bu (L2.upd H1 A.wr (.dT (putK (bL W.written) (cC sv u.msg.host u.msg.addr) (V.int v)))):=fun v hv=>by
   subst hv
   have hp:=QO (x:={server:=sv,host:=u.msg.host,addr:=u.msg.addr,till:=W.now + len}) nd
   have Rp:putK (bL W.written) (cC sv u.msg.host u.msg.addr) (V.int ((gH {server:=sv,host:=u.msg.host,addr:=u.msg.addr,till:=W.now + len} W.written:Nat):Int))=_:=hp
   rw [Rp]
   exact k _ (R1.Y9 _) ((aj.dq S1).trans (dv.upd (.inr (.inr (.inr (.inr (.inr (.inr (.inl rfl)))))))))
  obtain ⟨j,hj,he⟩:∃j:Int,(cN (bL W.written) (cC sv u.msg.host u.msg.addr)).getD (V.int ((W.now:Int) + (len:Int)))=V.int j∧(if j >(W.now:Int) + (len:Int) then j else (W.now:Int) + (len:Int))=((gH {server:=sv,host:=u.msg.host,addr:=u.msg.addr,till:=W.now + len} W.written:Nat):Int):=by
   rcases KQ {server:=sv,host:=u.msg.host,addr:=u.msg.addr,till:=W.now + len} W.written with ⟨h1,h2⟩|⟨n,h1,h2⟩
   ·refine ⟨(W.now:Int) + (len:Int),?_,?_⟩
    ·have Nz:=h1
     unfold nV at Nz
     dsimp only at Nz
     rw [←eE] at Nz
     exact Nz
    ·rw [h2]
     show (if _ then _ else _)=((W.now + len:Nat):Int)
     split <;>omega
   ·refine ⟨(n:Int),?_,?_⟩
    ·have Nz:cN (bL W.written) (cC sv u.msg.host u.msg.addr)=some (nV n):=h1
     rw [Nz]
     rfl
    ·rw [h2]
     show (if _ then _ else _)=((max n (W.now + len):Nat):Int)
     rw [eE]
     clear h2
     generalize W.now + len=z
     rcases Nat.le_total n z with q|q
     ·rw [Nat.max_eq_right q]
      split <;>omega
     ·rw [Nat.max_eq_left q]
      split <;>omega
  exact ⟨(W.now:Int) + (len:Int),j,congrArg (fun z=> [V.int ((W.now:Int) + (len:Int)),z]) hj,_,rfl,A.w,_,_,_,_,rfl,R1.cj,T.aw,T.Qla,rfl,_,rfl,A.wr,_,rfl,wu.t R1.wr EM zk,fin _ he⟩
end
end Rl
namespace Rl
open PySem PySem.Spec PyProof.Rows L2
open Vbcnag (Mark Msg Under Offer Lease Client Relay Assigned Written)
theorem Rep.keep {C:Cs}{H H':Hp}{A:Ad}{cas:List Addr}{W:VW}(K:C.Ok)(R:Rep C H A cas W)(F:dv A cas H H'):c9 C H H':=by
 intro b o fx hb
 refine F b o hb fun hm=> ?_
 have no:∀ {o':HO},H b=some o'→¬Fix C o'→False:=fun {o'} h n=>n (by rw [hb] at h;cases h;exact fx)
 rcases hm with e|e|e|e|e|e|e|e|e
 ·subst e
  exact no R.cj fun q=>by
   rcases q with q|q
   ·exact K.wr q
   ·exact K.wm q
 ·subst e
  obtain ⟨_,h,_⟩:=R.rl
  exact no h fun q=>q
 ·subst e
  obtain ⟨_,h,_⟩:=R.hd
  exact no h fun q=>q
 ·subst e
  exact no R.cd fun q=>q
 ·subst e
  obtain ⟨_,h,_⟩:=R.rs
  exact no h fun q=>q
 ·subst e
  obtain ⟨_,h,_⟩:=R.ag
  exact no h fun q=>q
 ·subst e
  exact no R.wr fun q=>q
 ·subst e
  obtain ⟨_,h,_⟩:=R.bg
  exact no h fun q=>q
 ·obtain ⟨i,hi⟩:=List.getElem?_of_mem e
  have P:=cb.mp R.ca
  have dy:i < W.clients.length:=by
   rw [←P.1]
   exact (List.getElem?_eq_some_iff.mp hi).1
  obtain ⟨d,pl,be,le,h,_⟩:=P.2 i b _ hi (List.getElem?_eq_getElem dy)
  exact no h fun q=>by
   rcases q with q|q
   ·exact K.cr q
   ·exact K.cm q
def AsO (H:Hp):Option Assigned→V→Prop
 |none,v=>v= .bu
 |some a,v=>∃b,v= .ref b∧H b=some (.tup [nV a.addr,nV a.len])
def qE (W:VW)(s:Nat)(u:Under):Option Assigned→VW×List Under
 |some a=>if a.addr=u.msg.addr then ({W with written:=Vbcnag.write {server:=s,host:=u.msg.host,addr:=a.addr,till:=W.now + a.len} W.written},[mq u s 4 a.addr a.len]) else (W,[mq u s 5 0 0])
 |none=>if u.msg.server.isSome=true then (W,[mq u s 5 0 0]) else (W,[])
section
variable {P:Program}{w:World}{K:PySem.W.Frag}{mg:Str→Option Value}{base:Heap}{t:iU}
def KW (C:Cs):Sp:=fun vs H Q _=>∃ (A:Ad)(cas:List Addr)(W:VW)(m:Addr)(u:Under)(s:Nat)(a:Option Assigned)(av:V),vs= [.ref A.w,.ref m,av] ∧Rep C H A cas W∧W.bag.length≤10000∧(W.written.map d3).Nodup∧W.written.length < sizeLine∧fL C H m u∧u.place= .server s∧AsO H a av∧
 ∀H',Rep C H' A cas (Vbcnag.puts (qE W s u a).1 (qE W s u a).2).1→dv A cas H H'→Q .bu H'
theorem vy (T:Txt K mg t):a7 P w K mg base dY 4 t.bQ t.f6 fU (KW (cs t)):=by
 refine T.jC.ok vq (fun vs H Q E h=> ?_) (fun de A0 outer s H vs Q E hr h=> ?_)
 ·obtain ⟨A,cas,W,m,u,sv,a,av,rfl,_⟩:=h
  rfl
 ·obtain ⟨A,cas,W,m,u,sv,a,av,rfl,R,hb,nd,dy,MA,dB,ha,k⟩:=h
  obtain ⟨dm,pp,mm,ys,hM,hp,hm,uq⟩:=MA.parts
  have CK:=eC T
  obtain ⟨ai2,MX,MY⟩:=T.Pe
  obtain ⟨Zy,KO,KP⟩:=T.J5
  refine ⟨_,ak (aZ (bD (fQ (pv 2))) (ak (aZ (bD (fR (ai (pv 1) rfl))) (ak (aG (aA (pb T) (hr.mono (by decide)) (by rfl) T.nH T.k9.kp T.nI .nil aQ (aa (pv 0) (aa (pv 1) (aa (aC (by rfl) MX MY) (aa ah (aa ah af)))))))) aR)) (ak (aZ (aI cf (aE aY (pv 2) ah (fun _ _=>rfl)) (ai (pv 1) rfl) (aM _)) (ae (aG (aA (yM T) (hr.mono (by decide)) (by rfl) T.sf T.l4.kp T.si .nil aQ (aa (pv 0) (aa (pv 1) (aa (aE aY (pv 2) ah (fun _ _=>rfl)) af)))))
   (ak (aG (aA (pb T) (hr.mono (by decide)) (by rfl) T.nH T.k9.kp T.nI .nil aQ (aa (pv 0) (aa (pv 1) (aa (aC (by rfl) KO KP) (aa (aE aY (pv 2) ah (fun _ _=>rfl)) (aa (aE aY (pv 2) ah (fun _ _=>rfl)) af))))))))) (ak (aG (aA (pb T) (hr.mono (by decide)) (by rfl) T.nH T.k9.kp T.nI .nil aQ (aa (pv 0) (aa (pv 1) (aa (aC (by rfl) MX MY) (aa ah (aa ah af))))))))))),?_⟩
  cases a with
  |none=>
   have e:av= .bu:=ha
   subst e
   refine ⟨_,rfl,_,rfl,a8 ?_⟩
   refine ⟨_,rfl,m,_,dm,_,_,rfl,hM,T.au,T.Qkx,rfl,_,rfl,?_⟩
   cases hs:u.msg.server with
   |none=>
    have er:qE W sv u none=(W,[]):=if_neg (by rw [hs];exact Bool.false_ne_true)
    rw [er] at k
    exact bf (k H R dv.refl)
   |some x=>
    have er:qE W sv u none=(W,[mq u sv 5 0 0]):=if_pos (by rw [hs];rfl)
    rw [er] at k
    refine a8 ?_
    exact ⟨_,rfl,_,rfl,A,cas,W,m,u,sv,5,0,0,rfl,R,hb,MA,dB,fun H1 R1 F1=>k H1 R1 F1⟩
  |some a=>
   obtain ⟨b,rfl,qB⟩:=ha
   refine ⟨_,rfl,_,rfl,bf ?_⟩
   refine ⟨_,rfl,b,_,_,_,rfl,rfl,bb.of qB,rfl,_,rfl,m,_,dm,_,_,rfl,hM,T.au,T.Qkp,rfl,rfl,_,rfl,?_⟩
   refine dM (fun q=> ?_) fun q=> ?_
   ·have h1:a.addr=u.msg.addr:=bp.mp q
    have er:qE W sv u (some a)=({W with written:=Vbcnag.write {server:=sv,host:=u.msg.host,addr:=u.msg.addr,till:=W.now + a.len} W.written},[mq u sv 4 a.addr a.len]):=(if_pos h1).trans (by rw [h1])
    rw [er] at k
    refine ⟨_,rfl,_,rfl,_,rfl,b,_,_,_,rfl,rfl,bb.of qB,rfl,A,cas,W,m,u,sv,a.len,rfl,R,nd,dy,MA,dB,fun H1 R1 F1=> ?_⟩
    have kk:=R.keep CK F1
    have ZA:=kk.tup qB
    exact ⟨_,rfl,_,rfl,_,rfl,b,_,_,_,rfl,rfl,bb.of ZA,rfl,_,rfl,b,_,_,_,rfl,rfl,bb.of ZA,rfl,A,cas,_,m,u,sv,4,a.addr,a.len,rfl,R1,hb,MA.keep kk,dB,fun H2 R2 F2=>k H2 R2 (F1.trans F2)⟩
   ·have h1:¬a.addr=u.msg.addr:=fun z=>q (bp.mpr z)
    have er:qE W sv u (some a)=(W,[mq u sv 5 0 0]):=if_neg h1
    rw [er] at k
    exact ⟨_,rfl,_,rfl,A,cas,W,m,u,sv,5,0,0,rfl,R,hb,MA,dB,fun H1 R1 F1=>k H1 R1 F1⟩
def bY (W:VW)(u:Under):VW:=(Vbcnag.puts (Vbcnag.handled W u).1 (Vbcnag.handled W u).2).1
def ot (p:VW→Under→Prop)(C:Cs):Sp:=fun vs H Q _=>∃ (A:Ad)(cas:List Addr)(W:VW)(m:Addr)(u:Under),vs= [.ref A.w,.ref m] ∧Rep C H A cas W∧bC W∧W.written.length < sizeLine∧fL C H m u∧iB W.relays.length W.servers u∧p W u∧
 ∀H',Rep C H' A cas (bY W u)→dv A cas H H'→Q .bu H'
theorem Gj {H:Hp}(s h r:Nat):∀ {kvs:List (List Key×V)}{l:List Assigned},Paired (fw H) kvs l→AsO H (l.find? fun a=>a.server==s && (a.host==h && a.relay==r)) ((cN kvs (cC s h r)).getD .bu)
 |_,_,.nil=>rfl
 |p::kvs,y::l,.cons a t=>by
  by_cases q:y.server=s∧y.host=h∧y.relay=r
  ·have e:(y.server==s && (y.host==h && y.relay==r))=true:=by
    obtain ⟨q1,q2,q3⟩:=q
    rw [q1,q2,q3,beq_self_eq_true,beq_self_eq_true,beq_self_eq_true]
    rfl
   rw [List.find?_cons,e,cA (by rw [a.1];exact eD.mpr q)]
   exact a.2
  ·have e:(y.server==s && (y.host==h && y.relay==r))=false:=by
    rw [Bool.eq_false_iff]
    intro z
    simp only [Bool.and_eq_true,beq_iff_eq] at z
    exact q z
   rw [List.find?_cons,e,cB (by rw [a.1];exact fun z=>q (eD.mp z))]
   exact Gj s h r t
theorem zX {W:VW}{s:Nat}{m:Msg}(h:W.resting.contains s=true∨m.marks= []):Vbcnag.served W s m=(W,[]):=by
 unfold Vbcnag.served
 dsimp only
 split
 ·rfl
 ·rcases h with h|h
  ·rename_i q
   exact absurd h q
  ·rw [h]
   rfl
def vf (W:VW)(s:Nat)(m:Msg)(first:Mark):Option Assigned:=W.assigned.find? fun a=>a.server==s && (a.host==m.host && a.relay==first.relay)
theorem KY {W:VW}{s:Nat}{u:Under}{first:Mark}(h:¬W.resting.contains s=true)(hl:u.msg.marks.getLast?=some first)(hk:u.msg.kind=1):
  Vbcnag.served W s u.msg=(W,match vf W s u.msg first with|some a=> [mq u s 2 a.addr a.len] |none=> []):=by
 unfold Vbcnag.served vf
 dsimp only
 rw [if_neg h,hl,hk]
 dsimp only
 cases W.assigned.find? _ <;>rfl
theorem KZ {W:VW}{s:Nat}{u:Under}{first:Mark}(h:¬W.resting.contains s=true)(hl:u.msg.marks.getLast?=some first)(hk:u.msg.kind=3):
  Vbcnag.served W s u.msg=if u.msg.server.any (fun t=>t !=s)=true then (W,[]) else qE W s u (vf W s u.msg first):=by
 unfold Vbcnag.served vf
 dsimp only
 rw [if_neg h,hl,hk]
 dsimp only
 cases W.assigned.find? _ <;>rfl
theorem Dx {W:VW}{s:Nat}{u:Under}(h1:u.msg.kind≠1)(h3:u.msg.kind≠3):Vbcnag.served W s u.msg=(W,[]):=by
 unfold Vbcnag.served
 dsimp only
 split
 ·rfl
 ·split
  ·rfl
  ·split
   ·rename_i e _
    exact absurd e h1
   ·rename_i e
    exact absurd e h3
   ·rfl
end
end Rl
namespace Rl
open PySem PySem.Spec PyProof.Rows L2
open Vbcnag (Mark Msg Under Offer Lease Client Relay Assigned Written)
theorem K0 {α:Type}{xs:List α}{v:α}(h:xs.getLast?=some v):Cj xs (-1)=some v:=by
 have pz:xs≠ [] :=fun q=>by rw [q] at h;cases h
 have hl:0 < xs.length:=List.length_pos_iff.mpr pz
 unfold Cj Iz
 rw [if_neg (by omega),if_pos (by omega)]
 show xs[((-1:Int) + (xs.length:Int)).toNat]?=some v
 rw [show ((-1:Int) + (xs.length:Int)).toNat=xs.length - 1 by omega,←List.getLast?_eq_getElem?]
 exact h
theorem Paired.last {α β:Type}{F:α→β→Prop}:∀ {l:List α}{m:List β}{a:α},Paired F l m→l.getLast?=some a→∃b,m.getLast?=some b∧F a b
 |_,_,a,.nil,h=>by cases h
 | [x],_,a,.cons f .nil,h=>by
  have e:x=a:=Option.some.inj h
  exact ⟨_,rfl,e ▸ f⟩
 |x::y::l,_,a,.cons f (.cons f' t),h=>by
  have h':(y::l).getLast?=some a:=by
   rw [←h,List.getLast?_cons_cons]
  obtain ⟨c,h1,h2⟩:=Paired.last (.cons f' t) h'
  exact ⟨c,by rw [List.getLast?_cons_cons];exact h1,h2⟩
section
variable {P:Program}{w:World}{K:PySem.W.Frag}{mg:Str→Option Value}{base:Heap}{t:iU}
theorem K1 (T:Txt K mg t):a7 P w K mg base dY 5 t.i5 t.vL vI (ot (fun _ u=>∃s,u.place= .server s) (cs t)):=by
 refine T.Bq.ok rf (fun vs H Q E h=> ?_) (fun de A0 outer s H vs Q E hr h=> ?_)
 ·obtain ⟨A,cas,W,m,u,rfl,_⟩:=h
  rfl
 ·obtain ⟨A,cas,W,m,u,rfl,R,wg,dy,MA,NQ,⟨sv,dB⟩,k⟩:=h
  obtain ⟨dm,pp,mm,ys,hM,hp,hm,uq⟩:=MA.parts
  rw [dB] at hp
  have hu:=fE hr
  have CK:=eC T
  have hb:W.bag.length≤10000:=Nat.le_trans wg.bag wg.cap.2
  have vR:=NQ.server sv dB
  have hh:bY W u=(Vbcnag.puts (Vbcnag.served W sv u.msg).1 (Vbcnag.served W sv u.msg).2).1:=by
   unfold bY Vbcnag.handled
   rw [dB]
  rw [hh] at k
  have same:∀H1,aj H H1→Vbcnag.served W sv u.msg=(W,[])→Q .bu H1:=fun H1 S e=>by
   rw [e] at k
   exact k H1 (R.same S) (aj.dq S)
  obtain ⟨bs,NJ,RA,hbs⟩:=R.rs
  obtain ⟨bv,hbv⟩:∃b,bs[sv]?=some b:=⟨_,List.getElem?_eq_getElem (by omega)⟩
  have ZC:=hbs sv bv hbv
  have Lv:Cj (bs.map V.bl) (sv:Int)=some (V.bl bv):=gI (by rw [List.getElem?_map,hbv];rfl)
  have y9:ys.length=u.msg.marks.length:=(Paired.length uq).symm
  obtain ⟨RC,HU,HV⟩:=T.uc
  obtain ⟨MW,BQ,BR⟩:=T.Bu
  obtain ⟨ZD,K2,K3⟩:=T.nR
  refine ⟨_,ae (aS (i:=2) rf.nd rfl (Or.inl rfl) (aE aY (ai (pv 1) rfl) ah (fun _ _=>rfl)))
   (ae (aZ (PW.pt (qJ (mM (aE aJ (ai (pv 0) rfl) (pv 2) (fun _ _=>rfl))) (lr (aI cf (aU aP (by rfl) T.Qlv PySem.boot_len (aa (ai (pv 1) rfl) af)) ah (aM _))))) (ak qK) aR)
   (ae (aS (i:=3) rf.nd rfl (Or.inl rfl) (aE aY (ai (pv 1) rfl) (dg bP ah) (fun _ _=>rfl)))
   (ae (aS (i:=4) rf.nd rfl (Or.inl rfl) (fS hu (ai (pv 0) rfl) (bx (aa (pv 2) (aa (ai (pv 1) rfl) (aa (aE aY (pv 3) ah (fun _ _=>rfl)) af)))) ⟨rfl,rfl,rfl,rfl⟩))
   (ak (aZ (aI cf (ai (pv 1) rfl) (aC (by rfl) HU HV) (aM _)) (ak (aZ (bD (fR (pv 4))) (ak (aG (aA (pb T) (hr.mono (by decide)) (by rfl) T.nH T.k9.kp T.nI .nil aQ (aa (pv 0) (aa (pv 1) (aa (aC (by rfl) BQ BR) (aa (aE aY (pv 4) ah (fun _ _=>rfl)) (aa (aE aY (pv 4) ah (fun _ _=>rfl)) af)))))))) aR)) (ak (aZ (PW.pt (gq (aI cf (ai (pv 1) rfl) (aC (by rfl) K2 K3) (aM _)) (eF (PW.pt (qJ (bD (fQ (ai (pv 1) rfl))) (lr (aI cf (ai (pv 1) rfl) (pv 2) (aM _)))))))) (ak (aG (aA (vy T) (hr.mono (by decide)) (by rfl) T.nF T.jC.kp T.nG .nil aQ (aa (pv 0) (aa (pv 1) (aa (pv 4) af)))))) aR))))))),?_⟩
  refine ⟨_,rfl,m,_,dm,_,_,rfl,hM,T.au,T.Qkw,rfl,pp,_,_,_,rfl,rfl,bb.of hp,rfl,?_⟩
  refine ⟨_,rfl,A.w,_,_,_,_,rfl,R.cj,T.aw,T.Qk8,rfl,_,rfl,A.rs,_,_,_,rfl,rfl,bT.of NJ,Lv,bv,rfl,?_⟩
  refine dM (fun q=> ?_) fun q=> ?_
  ·exact a8 (same H (aj.refl H) (zX (.inl (by rw [←ZC];exact q))))
  have hnr:¬W.resting.contains sv=true:=by rw [←ZC];exact q
  refine ⟨_,rfl,m,_,dm,_,_,rfl,hM,T.au,T.Qku,rfl,mm,_,rfl,.inr (bb.of hm),rfl,_,rfl,?_⟩
  cases xT:u.msg.marks with
  |nil=>
   rw [xT] at y9
   rw [show decide (V.int (ys.length:Int)=V.int 0)=true from decide_eq_true (by rw [y9];rfl)]
   exact a8 (same H (aj.refl H) (zX (.inr xT)))
  |cons LF mks=>
   rw [xT] at y9
   rw [show decide (V.int (ys.length:Int)=V.int 0)=false from decide_eq_false (fun z=>by
    injection z with z
    rw [y9,List.length_cons] at z
    omega)]
   refine bf ?_
   obtain ⟨first,hfi⟩:∃f,u.msg.marks.getLast?=some f:=by
    rw [xT]
    exact ⟨_,List.getLast?_cons⟩
   obtain ⟨fv,hfv,fb,rfl,ZE⟩:=Paired.last uq hfi
   refine ⟨_,rfl,m,_,dm,_,_,rfl,hM,T.au,T.Qku,rfl,_,rfl,mm,_,_,_,rfl,rfl,bb.of hm,K0 hfv,?_⟩
   obtain ⟨kvs,Ku,hP⟩:=R.ag
   refine ⟨_,rfl,A.w,_,_,_,_,rfl,R.cj,T.aw,T.Qk1,rfl,A.ag,rfl,.inr ⟨_,.inl Ku⟩,_,rfl,_,rfl,m,_,dm,_,_,rfl,hM,T.au,T.Qkr,rfl,_,rfl,fb,_,_,_,rfl,rfl,bb.of ZE,rfl,(by show 3≤sizeLine;decide),fun z hz=> ?_⟩
   have S1:=aj.ao (o:=HO.tup [nV sv,nV u.msg.host,nV first.relay]) hz
   have qk:L2.upd H z (HO.tup [nV sv,nV u.msg.host,nV first.relay]) z=some (.tup ((cC sv u.msg.host first.relay).map kV)):=ab
   generalize L2.upd H z (HO.tup [nV sv,nV u.msg.host,nV first.relay])=H1 at *
   have R1:=R.same S1
   have RD:=MA.keep (aj.keep (C:=cs t) S1)
   have mK:=S1 _ _ hM
   have Zl:Paired (fw H1) kvs W.assigned:=Paired.bV hP fun a b f=>f.keep (aj.keep (C:=cs t) S1)
   have RE:AsO H1 (vf W sv u.msg first) ((cN kvs (cC sv u.msg.host first.relay)).getD .bu):=Gj sv u.msg.host first.relay Zl
   refine ⟨_,fC.t (S1 _ _ Ku) qk,?_⟩
   generalize (cN kvs (cC sv u.msg.host first.relay)).getD .bu=av at *
   refine ⟨_,rfl,m,_,dm,_,_,rfl,mK,T.au,T.Qks,rfl,rfl,_,rfl,?_⟩
   refine dM (fun q1=> ?_) fun q1=> ?_
   ·have k1:u.msg.kind=1:=bp (b:=1)|>.mp q1
    have G4:=KY (u:=u) hnr hfi k1
    cases ha:vf W sv u.msg first with
    |none=>
     rw [ha] at RE G4
     have e:av= .bu:=RE
     subst e
     exact ⟨_,rfl,_,rfl,bf (same H1 S1 G4)⟩
    |some a=>
     rw [ha] at RE G4
     obtain ⟨b,rfl,qB⟩:=RE
     rw [G4] at k
     refine ⟨_,rfl,_,rfl,a8 ?_⟩
     exact ⟨_,rfl,_,rfl,_,rfl,b,_,_,_,rfl,rfl,bb.of qB,rfl,_,rfl,b,_,_,_,rfl,rfl,bb.of qB,rfl,A,cas,W,m,u,sv,2,a.addr,a.len,rfl,R1,hb,RD,dB,fun H2 R2 F2=>k H2 R2 ((aj.dq S1).trans F2)⟩
   have k1:u.msg.kind≠1:=fun z=>q1 (bp (b:=1)|>.mpr z)
   refine ⟨_,rfl,m,_,dm,_,_,rfl,mK,T.au,T.Qks,rfl,rfl,_,rfl,?_⟩
   refine dM (fun q3=> ?_) fun q3=> ?_
   ·have k3:u.msg.kind=3:=bp (b:=3)|>.mp q3
    have G4:=KZ (u:=u) hnr hfi k3
    have LD:=mK
    refine ⟨_,rfl,m,_,dm,_,_,rfl,mK,T.au,T.Qkx,rfl,_,rfl,?_⟩
    cases hs:u.msg.server with
    |none=>
     rw [if_neg (by rw [hs];exact Bool.false_ne_true)] at G4
     rw [G4] at k
     refine a8 (a8 ?_)
     exact ⟨_,rfl,_,rfl,_,rfl,A,cas,W,m,u,sv,vf W sv u.msg first,av,rfl,R1,hb,wg.Qv,dy,RD,dB,RE,fun H2 R2 F2=>k H2 R2 ((aj.dq S1).trans F2)⟩
    |some x=>
     rw [hs] at LD
     refine bf ?_
     refine ⟨_,rfl,m,_,dm,_,_,rfl,LD,T.au,T.Qkx,rfl,_,rfl,rfl,_,rfl,?_⟩
     refine dM (fun q4=> ?_) fun q4=> ?_
     ·have h4:x=sv:=bp.mp q4
      rw [if_neg (by rw [hs,h4];show ¬ (sv !=sv)=true;simp)] at G4
      rw [G4] at k
      exact ⟨_,rfl,_,rfl,_,rfl,A,cas,W,m,u,sv,vf W sv u.msg first,av,rfl,R1,hb,wg.Qv,dy,RD,dB,RE,fun H2 R2 F2=>k H2 R2 ((aj.dq S1).trans F2)⟩
     ·have h4:¬x=sv:=fun z=>q4 (bp.mpr z)
      rw [if_pos (by rw [hs];show (x !=sv)=true;simpa using h4)] at G4
      exact same H1 S1 G4
   ·have k3:u.msg.kind≠3:=fun z=>q3 (bp (b:=3)|>.mpr z)
    exact same H1 S1 (Dx k1 k3)
end
end Rl
namespace Rl
open PySem PySem.Spec PyProof.Rows L2
open Vbcnag (Mark Msg Under Offer Lease Client Relay Assigned Written)
theorem xU {xs:List V}{k:Nat}(h:k≤xs.length):qt xs (some (k:Int)) none=xs.drop k:=by
 unfold qt
 rw [HT.I0,HT.vA,Nat.min_eq_left h]
 rw [←List.length_drop,List.take_length]
section
variable {P:Program}{w:World}{K:PySem.W.Frag}{mg:Str→Option Value}{base:Heap}{t:iU}
theorem BS (T:Txt K mg t):a7 P w K mg base dY 4 t.dk t.j1 jT (ot (fun _ u=>∃r,u.place= .down r) (cs t)):=by
 refine T.nJ.ok fV (fun vs H Q E h=> ?_) (fun de A0 outer s H vs Q E hr h=> ?_)
 ·obtain ⟨A,cas,W,m,u,rfl,_⟩:=h
  rfl
 ·obtain ⟨A,cas,W,m,u,rfl,R,wg,dy,MA,NQ,⟨rr,dB⟩,k⟩:=h
  obtain ⟨dm,pp,mm,ys,hM,hp,hm,uq⟩:=MA.parts
  rw [dB] at hp
  have hu:=fE hr
  have CK:=eC T
  have hb:W.bag.length≤10000:=Nat.le_trans wg.bag wg.cap.2
  have y9:ys.length=u.msg.marks.length:=(Paired.length uq).symm
  obtain ⟨kvs,Gb,Kz,B2⟩:=R.hd
  obtain ⟨KU,xR,xS⟩:=T.Bt
  obtain ⟨ale,ZF,ZG⟩:=T.NC
  refine ⟨_,ae (aS (i:=2) fV.nd rfl (Or.inl rfl) (aE aY (ai (pv 1) rfl) ah (fun _ _=>rfl)))
   (ae (aZ (PW.pt (qJ (aI cf (aU aP (by rfl) T.Qlv PySem.boot_len (aa (ai (pv 1) rfl) af)) ah (aM _)) (lr (aI v9 (aE aY (aE aY (ai (pv 1) rfl) ah (fun _ _=>rfl)) ah (fun _ _=>rfl)) (pv 2) (aM _))))) (ak qK) aR)
   (ae (aS (i:=3) fV.nd rfl (Or.inl rfl) (aE aY (ai (pv 1) rfl) ah (fun _ _=>rfl)))
   (ae (aZ (bD (AB hu (pv 3) (ai (pv 0) rfl))) (ak (aS (i:=4) fV.nd rfl (Or.inl rfl) (bx (aa (aC (by rfl) xR xS) (aa (AA hu (ai (pv 0) rfl) (pv 3) (fun _ _=>rfl)) (aa ah af)))))) (ak (aS (i:=4) fV.nd rfl (Or.inl rfl) (bx (aa (aC (by rfl) ZF ZG) (aa (pv 2) (aa (aE aY (pv 3) ah (fun _ _=>rfl)) af)))))))
   (ak (aG (aA (ur T) (hr.mono (by decide)) (by rfl) T.rZ T.nE.kp T.r6 .nil aQ (aa (pv 0) (aa (pv 1) (aa (pv 4) (aa (ai (pv 1) rfl) (aa (qQ Oh (ai (pv 1) rfl) (qP ah) Af) af))))))))))),?_⟩
  refine ⟨_,rfl,m,_,dm,_,_,rfl,hM,T.au,T.Qkw,rfl,pp,_,_,_,rfl,rfl,bb.of hp,rfl,?_⟩
  refine ⟨_,rfl,m,_,dm,_,_,rfl,hM,T.au,T.Qku,rfl,mm,_,rfl,.inr (bb.of hm),rfl,_,rfl,?_⟩
  cases xT:u.msg.marks with
  |nil=>
   have hh:bY W u=W:=by
    unfold bY Vbcnag.handled
    rw [dB,xT]
    rfl
   rw [hh] at k
   rw [xT] at y9
   rw [show decide (V.int (ys.length:Int)=V.int 0)=true from decide_eq_true (by rw [y9];rfl)]
   exact a8 (k H R dv.refl)
  |cons LF mks=>
   rw [xT] at y9 uq
   rw [show decide (V.int (ys.length:Int)=V.int 0)=false from decide_eq_false (fun z=>by
    injection z with z
    rw [y9,List.length_cons] at z
    omega)]
   refine bf ?_
   cases uq with
   |cons f0 ft=>
    rename_i v0 K4
    obtain ⟨fb,rfl,ZE⟩:=f0
    refine ⟨_,rfl,m,_,dm,_,_,rfl,hM,T.au,T.Qku,rfl,mm,_,_,_,rfl,rfl,bb.of hm,gI (j:=0) rfl,fb,_,_,_,rfl,rfl,bb.of ZE,rfl,_,rfl,rfl,_,rfl,?_⟩
    rw [kf]
    by_cases K5:¬LF.relay=rr
    ·have hh:bY W u=W:=by
      unfold bY Vbcnag.handled
      rw [dB,xT]
      dsimp only
      rw [if_pos K5]
      rfl
     rw [hh] at k
     rw [decide_eq_false K5]
     exact a8 (k H R dv.refl)
    have K5:=Decidable.not_not.mp K5
    rw [decide_eq_true K5]
    refine bf ?_
    refine ⟨_,rfl,m,_,dm,_,_,rfl,hM,T.au,T.Qku,rfl,mm,_,_,_,rfl,rfl,bb.of hm,gI (j:=0) rfl,?_⟩
    have qr:H fb=some (.tup ((uf LF.relay LF.circuit).map kV)):=ZE
    have DG:=fC.t Gb qr
    rw [B2 LF] at DG
    refine ⟨_,rfl,_,rfl,A.w,_,_,_,_,rfl,R.cj,T.aw,T.Qk5,rfl,A.hd,_,rfl,DG,_,rfl,?_⟩
    have whole:¬ (HT.gk (V.ref fb::K4).length 0 (some 1)=0∧HT.gk (V.ref fb::K4).length (V.ref fb::K4).length none=(V.ref fb::K4).length):=fun z=>by
     have z1:HT.gk (V.ref fb::K4).length 0 (some ((1:Nat):Int))=0:=z.1
     rw [HT.vA,List.length_cons] at z1
     omega
    have fin:∀ (H1:Hp)(z:Addr)(pl:Vbcnag.Place),aj H H1→H1 z=some (.tup (cF pl))→bY W u=(Vbcnag.puts W [zW u pl u.msg.hops mks]).1→∀p,H1 p=none→
      Gi (cs t) [.ref A.w,.ref m,.ref z,nV u.msg.hops,.ref p] (L2.upd H1 p (.tup (qt (V.ref fb::K4) (some 1) none))) Q E:=fun H1 z pl S1 hz hh p HE=>by
     rw [hh] at k
     have ec:qt (V.ref fb::K4) (some 1) none=K4:=xU (k:=1) (by show 1≤K4.length + 1;omega)
     rw [ec]
     have S2:=S1.trans (aj.ao (o:=HO.tup K4) HE)
     exact ⟨A,cas,W,m,u,z,p,pl,u.msg.hops,mks,K4,rfl,R.same S2,hb,MA.keep (aj.keep (C:=cs t) S2),aj.ao HE _ _ hz,ab,bj (aj.keep (C:=cs t) S2) ft,fun H2 R2 F2=>k H2 R2 ((aj.dq S2).trans F2)⟩
    cases LG:Vbcnag.below W LF with
    |none=>
     refine bf ?_
     refine ⟨_,rfl,_,rfl,fb,_,_,_,rfl,rfl,bb.of ZE,rfl,(by show 3≤sizeLine;decide),fun z hz=> ?_⟩
     have S1:=aj.ao (o:=HO.tup [V.int 3,nV rr,nV LF.circuit]) hz
     have qk:L2.upd H z (HO.tup [V.int 3,nV rr,nV LF.circuit]) z=some (.tup (cF (.circuit rr LF.circuit))):=ab
     generalize L2.upd H z (HO.tup [V.int 3,nV rr,nV LF.circuit])=H1 at *
     have mK:=S1 _ _ hM
     refine ⟨_,rfl,_,rfl,_,rfl,_,rfl,m,_,dm,_,_,rfl,mK,T.au,T.Qkq,rfl,_,rfl,m,_,dm,_,_,rfl,mK,T.au,T.Qku,rfl,_,rfl,mm,_,rfl,bb.of (S1 _ _ hm),whole,fun p HE=> ?_⟩
     refine fin H1 z _ S1 qk ?_ p HE
     unfold bY Vbcnag.handled
     rw [dB,xT]
     dsimp only
     rw [if_neg (fun z=>z K5),LG,K5]
     rfl
    |some qq=>
     refine a8 ?_
     rw [LG] at DG
     refine ⟨_,rfl,A.w,_,_,_,_,rfl,R.cj,T.aw,T.Qk5,rfl,_,rfl,A.hd,_,rfl,DG,(by show 3≤sizeLine;decide),fun z hz=> ?_⟩
     have S1:=aj.ao (o:=HO.tup [V.int 2,nV qq,V.int 0]) hz
     have qk:L2.upd H z (HO.tup [V.int 2,nV qq,V.int 0]) z=some (.tup (cF (.down qq))):=ab
     generalize L2.upd H z (HO.tup [V.int 2,nV qq,V.int 0])=H1 at *
     have mK:=S1 _ _ hM
     refine ⟨_,rfl,_,rfl,_,rfl,_,rfl,m,_,dm,_,_,rfl,mK,T.au,T.Qkq,rfl,_,rfl,m,_,dm,_,_,rfl,mK,T.au,T.Qku,rfl,_,rfl,mm,_,rfl,bb.of (S1 _ _ hm),whole,fun p HE=> ?_⟩
     refine fin H1 z _ S1 qk ?_ p HE
     unfold bY Vbcnag.handled
     rw [dB,xT]
     dsimp only
     rw [if_neg (fun z=>z K5),LG]
     rfl
theorem Dy (T:Txt K mg t):a7 P w K mg base dY 8 t.dR t.lM lA (ot (fun _ u=>∃r c,u.place= .circuit r c) (cs t)):=by
 refine T.qx.ok uE (fun vs H Q E h=> ?_) (fun de A0 outer s H vs Q E hr h=> ?_)
 ·obtain ⟨A,cas,W,m,u,rfl,_⟩:=h
  rfl
 ·obtain ⟨A,cas,W,m,u,rfl,R,wg,dy,MA,NQ,⟨rr,cc,dB⟩,k⟩:=h
  obtain ⟨dm,pp,mm,ys,hM,hp,hm,uq⟩:=MA.parts
  rw [dB] at hp
  have hu:=fE hr
  have CK:=eC T
  have hb:W.bag.length≤10000:=Nat.le_trans wg.bag wg.cap.2
  have vR:u.msg.server.isSome=true:=by
   rcases NQ.back with q|q
   ·exact absurd dB (q.2 rr cc)
   ·exact q.1
  refine ⟨_,ae (aS (i:=2) uE.nd rfl (Or.inl rfl) (fS hu (ai (pv 0) rfl) (ai (pv 1) rfl) ⟨rfl,rfl,rfl,rfl⟩))
   (ak (aZ (PW.pt (gq (bD (fR (pv 2))) (eF (aI (Jd hr.units) (ai (pv 2) rfl) (bx (aa (aE aY (ai (pv 1) rfl) ah (fun _ _=>rfl)) (aa (aE aY (ai (pv 1) rfl) ah (fun _ _=>rfl)) af))) (aM _))))) (ak (aG (aA (MV T) (hr.mono (by decide)) (by rfl) T.JQ T.Et.kp T.JR .nil aQ (aa (pv 0) (aa (pv 2) (aa (pv 1) af)))))) aR)),?_⟩
  rcases R.find u.msg.host with ⟨hc,DG⟩|⟨i,ca,c,d,pl,be,le,hc,yg,hi,cJ,ml,da,DG⟩
  ·have hh:bY W u=W:=by
    unfold bY Vbcnag.handled
    rw [dB]
    dsimp only
    rw [hc]
    rfl
   rw [hh] at k
   refine ⟨_,rfl,A.w,_,_,_,_,rfl,R.cj,T.aw,T.Qk4,rfl,A.cd,rfl,.inl ⟨_,.inl R.cd⟩,_,rfl,m,_,dm,_,_,rfl,hM,T.au,T.Qkr,rfl,_,DG,?_⟩
   exact ⟨_,rfl,_,rfl,bf (k H R dv.refl)⟩
  ·have hh:bY W u=if c.place=some {relay:=rr,circuit:=cc} then Vbcnag.done W (Vbcnag.hears W.now c u.msg) else W:=by
    unfold bY Vbcnag.handled
    rw [dB]
    dsimp only
    rw [hc]
    dsimp only
    split <;>rfl
   rw [hh] at k
   refine ⟨_,rfl,A.w,_,_,_,_,rfl,R.cj,T.aw,T.Qk4,rfl,A.cd,rfl,.inl ⟨_,.inl R.cd⟩,_,rfl,m,_,dm,_,_,rfl,hM,T.au,T.Qkr,rfl,_,DG,?_⟩
   refine ⟨_,rfl,_,rfl,a8 ?_⟩
   refine ⟨_,rfl,ca,_,d,_,_,rfl,ml,T.aq,T.Qkm,rfl,_,rfl,m,_,dm,_,_,rfl,hM,T.au,T.Qkw,rfl,pp,_,_,_,rfl,rfl,bb.of hp,rfl,_,rfl,m,_,dm,_,_,rfl,hM,T.au,T.Qkw,rfl,pp,_,_,_,rfl,rfl,bb.of hp,rfl,(by show 2≤sizeLine;decide),fun z hz=> ?_⟩
   have S1:=aj.ao (o:=HO.tup [nV rr,nV cc]) hz
   obtain ⟨d1,d2⟩:=BI (K:=K) (da.pl.keep (aj.keep (C:=cs t) S1))
   obtain ⟨e1,e2⟩:=BI (K:=K) (H:=L2.upd H z (.tup [nV rr,nV cc])) (p:=some {relay:=rr,circuit:=cc}) (v:= .ref z) ⟨z,rfl,ab⟩
   refine ⟨_,_,d1,e1,d2,e2,_,rfl,?_⟩
   rw [Ga]
   generalize L2.upd H z (.tup [nV rr,nV cc])=H1 at *
   by_cases hpc:c.place=some {relay:=rr,circuit:=cc}
   ·rw [if_pos hpc] at k
    rw [hpc,beq_self_eq_true]
    refine a8 ?_
    exact ⟨_,rfl,_,rfl,_,rfl,A,cas,W,i,ca,c,m,u,rfl,R.same S1,hb,cJ,hi,wg.cl c (List.mem_of_getElem? hi),MA.keep (aj.keep (C:=cs t) S1),vR,fun H2 R2 F2=>k H2 R2 ((aj.dq S1).trans F2)⟩
   ·rw [if_neg hpc] at k
    rw [beq_eq_false_iff_ne.mpr hpc]
    exact bf (k H1 (R.same S1) (aj.dq S1))
end
end Rl
namespace Rl
open PySem PySem.Spec PyProof.Rows L2
open Vbcnag (Mark Msg Under Offer Lease Client Relay Assigned Written)
theorem ju:∀ (l:List Under)(m:Under)(W:VW),(Vbcnag.puts W (l ++ [m])).1=(Vbcnag.puts (Vbcnag.puts W l).1 [m]).1
 | [],_,_=>rfl
 |x::l,m,W=>by
  show (if W.bag.length < W.cap then ((Vbcnag.puts {W with bag:=W.bag ++ [x] } (l ++ [m])).1,x::(Vbcnag.puts {W with bag:=W.bag ++ [x] } (l ++ [m])).2) else Vbcnag.puts W (l ++ [m])).1=
   (Vbcnag.puts (if W.bag.length < W.cap then ((Vbcnag.puts {W with bag:=W.bag ++ [x] } l).1,x::(Vbcnag.puts {W with bag:=W.bag ++ [x] } l).2) else Vbcnag.puts W l).1 [m]).1
  split
  ·exact ju l m _
  ·exact ju l m W
theorem sU {W:VW}(g:bC W)(l:List Under):(Vbcnag.puts W l).1.bag.length≤10000:=by
 rw [fe]
 show (W.bag ++ l.take (W.cap - W.bag.length)).length≤10000
 have h1:=g.bag
 have h2:=g.cap.2
 rw [List.length_append,List.length_take]
 omega
section
variable {P:Program}{w:World}{K:PySem.W.Frag}{mg:Str→Option Value}{base:Heap}{t:iU}
def ou (u:Under)(k:Mark)(n:Nat):List Under:=(List.range n).map fun s=>zW u (.server s) (u.msg.hops + 1) (k::u.msg.marks)
theorem kg (u:Under)(k:Mark)(n:Nat):ou u k (n + 1)=ou u k n ++ [zW u (.server n) (u.msg.hops + 1) (k::u.msg.marks)] :=by
 unfold ou
 rw [List.range_succ,List.map_append]
 rfl
theorem EV (T:Txt K mg t):a7 P w K mg base dY 4 t.eU t.oS oI (ot (fun _ u=>∃r c,u.place= .up r c) (cs t)):=by
 refine T.tV.ok gu (fun vs H Q E h=> ?_) (fun de A0 outer s H vs Q E hr h=> ?_)
 ·obtain ⟨A,cas,W,m,u,rfl,_⟩:=h
  rfl
 ·obtain ⟨A,cas,W,m,u,rfl,R,wg,dy,MA,NQ,⟨rr,cc,dB⟩,k⟩:=h
  obtain ⟨dm,pp,mm,ys,hM,hp,hm,uq⟩:=MA.parts
  rw [dB] at hp
  have hu:=fE hr
  have CK:=eC T
  have hb:W.bag.length≤10000:=Nat.le_trans wg.bag wg.cap.2
  have y9:ys.length=u.msg.marks.length:=(Paired.length uq).symm
  obtain ⟨kvs,Gb,Kz,B2⟩:=R.hd
  obtain ⟨hrr,hms⟩:=NQ.up rr cc dB
  obtain ⟨ras,da,QP⟩:=R.rl
  obtain ⟨re,K5⟩:∃x,W.relays[rr]?=some x:=⟨_,List.getElem?_eq_getElem hrr⟩
  obtain ⟨ra,tp,dr,K6⟩:=Paired.at QP K5
  have M0:=mf K5
  have Lv:Cj (ras.map V.ref) (rr:Int)=some (V.ref ra):=gI (by rw [List.getElem?_map,tp];rfl)
  have hh:bY W u=if (Vbcnag.below W {relay:=rr,circuit:=cc}).isNone=true∧(u.msg.hops≠0∨u.msg.marks≠ []) then W else if re.limit≤u.msg.hops then W else
    (Vbcnag.puts W (match re.above with|some a=> [zW u (.up a.relay a.circuit) (u.msg.hops + 1) ({relay:=rr,circuit:=cc}::u.msg.marks)] |none=>ou u {relay:=rr,circuit:=cc} W.servers)).1:=by
   unfold bY Vbcnag.handled
   rw [dB]
   dsimp only
   rw [M0]
   split
   ·rfl
   ·split
    ·rfl
    ·cases re.above <;>rfl
  rw [hh] at k
  obtain ⟨Dz,ow,ox⟩:=T.nQ
  obtain ⟨ZH,K7,K8⟩:=T.J4
  refine ⟨_,ae (aS (i:=2) gu.nd rfl (Or.inl rfl) (bx (aa (aE aY (ai (pv 1) rfl) ah (fun _ _=>rfl)) (aa (aE aY (ai (pv 1) rfl) ah (fun _ _=>rfl)) af))))
   (ae (aS (i:=3) gu.nd rfl (Or.inl rfl) (aE aJ (ai (pv 0) rfl) (aE aY (pv 2) ah (fun _ _=>rfl)) (fun _ _=>rfl)))
   (ae (aZ (PW.pt (gq (bD (tG hu (pv 2) (ai (pv 0) rfl))) (eF (PW.pt (qJ (aI v9 (ai (pv 1) rfl) ah (aM _)) (lr (aI qN (aU aP (by rfl) T.Qlv PySem.boot_len (aa (ai (pv 1) rfl) af)) ah (aM _)))))))) (ak qK) aR)
   (ae (aZ (aI Sf (ai (pv 1) rfl) (ai (pv 3) rfl) (aM _)) (ak qK) aR)
   (ae (aS (i:=4) gu.nd rfl (Or.inl rfl) (bW dz (ai (pv 1) rfl) ah))
   (ae (aS (i:=5) gu.nd rfl (Or.inl rfl) (bW Fm (bx (aa (pv 2) af)) (ai (pv 1) rfl)))
   (ak (aZ (bD (fQ (ai (pv 3) rfl))) (ak (v7 PassesOwn.never rfl (GD (by rfl) T.Qlz (aa (ai (pv 0) rfl) af)) (dP (i:=6) gu.nd rfl (Or.inl rfl)) (ak (aG (aA (ur T) (hr.mono (by decide)) (by rfl) T.rZ T.nE.kp T.r6 .nil aQ (aa (pv 0) (aa (pv 1) (aa (bx (aa (aC (by rfl) ow ox) (aa (pv 6) (aa ah af)))) (aa (pv 4) (aa (pv 5) af)))))))))) (ak (aG (aA (ur T) (hr.mono (by decide)) (by rfl) T.rZ T.nE.kp T.r6 .nil aQ (aa (pv 0) (aa (pv 1) (aa (bx (aa (aC (by rfl) K7 K8) (aa (ai (pv 3) rfl) (aa (ai (pv 3) rfl) af)))) (aa (pv 4) (aa (pv 5) af))))))))))))))),?_⟩
  refine ⟨_,rfl,m,_,dm,_,_,rfl,hM,T.au,T.Qkw,rfl,pp,_,_,_,rfl,rfl,bb.of hp,rfl,_,rfl,m,_,dm,_,_,rfl,hM,T.au,T.Qkw,rfl,pp,_,_,_,rfl,rfl,bb.of hp,rfl,(by show 2≤sizeLine;decide),fun z hz=> ?_⟩
  have S1:=aj.ao (o:=HO.tup [nV rr,nV cc]) hz
  have qk:L2.upd H z (HO.tup [nV rr,nV cc]) z=some (.tup [nV rr,nV cc]):=ab
  generalize L2.upd H z (HO.tup [nV rr,nV cc])=H1 at *
  have R1:=R.same S1
  have mK:=S1 _ _ hM
  have Rx:=S1 _ _ hm
  have ZI:=S1 _ _ K6
  have hzk:H1 z=some (.tup ((uf rr cc).map kV)):=qk
  have DG:=fC.t (S1 _ _ Gb) hzk
  rw [B2 {relay:=rr,circuit:=cc}] at DG
  refine ⟨_,rfl,A.w,_,_,_,_,rfl,R1.cj,T.aw,T.Qk7,rfl,_,rfl,z,_,_,_,rfl,rfl,bb.of qk,rfl,A.rl,_,_,_,rfl,rfl,bT.of (S1 _ _ da),Lv,?_⟩
  refine ⟨_,rfl,_,rfl,A.w,_,_,_,_,rfl,R1.cj,T.aw,T.Qk5,rfl,A.hd,_,rfl,DG,_,rfl,?_⟩
  cases LG:Vbcnag.below W {relay:=rr,circuit:=cc} with
  |some q=>
   refine bf ?_
   have hn:¬ ((Vbcnag.below W {relay:=rr,circuit:=cc}).isNone=true∧(u.msg.hops≠0∨u.msg.marks≠ [])):=fun z=>by
    rw [LG] at z
    exact Bool.false_ne_true z.1
   rw [if_neg hn] at k
   refine ⟨_,rfl,m,_,dm,_,_,rfl,mK,T.au,T.Qkq,rfl,_,rfl,ra,_,dr,_,_,rfl,ZI,T.bB,T.Qkz,rfl,_,_,rfl,rfl,_,rfl,?_⟩
   refine dM (fun q1=> ?_) fun q1=> ?_
   ·have h1:re.limit≤u.msg.hops:=by
     have:=of_decide_eq_true q1
     omega
    rw [if_pos h1] at k
    exact k H1 R1 (aj.dq S1)
   have h1:¬re.limit≤u.msg.hops:=fun z=>q1 (decide_eq_true (by omega))
   rw [if_neg h1] at k
   refine ⟨_,rfl,m,_,dm,_,_,rfl,mK,T.au,T.Qkq,rfl,_,_,rfl,rfl,?_⟩
   refine ⟨_,rfl,(by show 1≤sizeLine;decide),fun z2 K9=> ?_⟩
   have S2:=aj.ao (o:=HO.tup [V.ref z]) K9
   have QM:L2.upd H1 z2 (HO.tup [V.ref z]) z2=some (.tup [V.ref z]):=ab
   generalize L2.upd H1 z2 (HO.tup [V.ref z])=H2 at *
   refine ⟨_,rfl,m,_,dm,_,_,rfl,S2 _ _ mK,T.au,T.Qku,rfl,z2,mm,_,_,rfl,rfl,bb.of QM,bb.of (S2 _ _ Rx),(fun q=>nomatch q),(by
    have:=NQ.marks
    rw [←y9] at this
    show 1 + ys.length≤sizeLine
    exact Nat.le_trans (show _≤33 by omega) (by decide)),fun e=> ?_,fun ne p hp3=> ?_⟩
   ·have S3:=S1.trans S2
    have ID:=S2
    have HS:H2 z2=some (.tup (V.ref z::ys)):=by rw [e];exact QM
    generalize z2=ma at *
    generalize H2=H3 at *
    have La:Paired (cH H3) ({relay:=rr,circuit:=cc}::u.msg.marks) (V.ref z::ys):= .cons ⟨z,rfl,ID _ _ qk⟩ (bj (aj.keep (C:=cs t) S3) uq)
    have R3:=R.same S3
    have QQ:=S3 _ _ hM
    have mr:=S3 _ _ K6
    have Lb:=MA.keep (aj.keep (C:=cs t) S3)
    refine ⟨_,rfl,ra,_,dr,_,_,rfl,mr,T.bB,T.Qk0,rfl,_,rfl,?_⟩
    cases qB:re.above with
    |none=>
     rw [qB] at k
     refine a8 ?_
     have SO:=wg.Rw
     refine ⟨_,rfl,A.w,_,_,_,_,rfl,R3.cj,T.aw,T.Qk9,rfl,(W.servers:Int),rfl,(by omega),(by omega),?_⟩
     refine oA (n:=(W.servers:Int).toNat) (fun i σ Hk=>∃v6,σ= [some (V.ref A.w),some (V.ref m),some (V.ref z),some (V.ref ra),some (nV (u.msg.hops + 1)),some (V.ref ma),v6] ∧Rep (cs t) Hk A cas (Vbcnag.puts W (ou u {relay:=rr,circuit:=cc} i)).1∧dv A cas H3 Hk) ⟨none,rfl,R3,dv.refl⟩ (fun i σ Hk hi hk=> ?_) (fun σ Hk hk=> ?_)
     ·obtain ⟨v6,rfl,Rk,Fk⟩:=hk
      rw [show (0:Int) + (i:Int)=(i:Int) from Int.zero_add _]
      have kk:=R3.keep CK Fk
      refine ⟨_,rfl,_,rfl,_,rfl,(by show 3≤sizeLine;decide),fun q hq=> ?_⟩
      have Sq:=aj.ao (o:=HO.tup [V.int 1,V.int (i:Int),V.int 0]) hq
      have kq:=kk.trans (aj.keep (C:=cs t) Sq)
      exact ⟨_,rfl,_,rfl,A,cas,_,m,u,q,ma,.server i,u.msg.hops + 1,{relay:=rr,circuit:=cc}::u.msg.marks,V.ref z::ys,rfl,Rk.same Sq,sU wg _,Lb.keep kq,ab,kq.tup HS,bj kq La,fun H5 R5 F5=>⟨some (V.int (i:Int)),rfl,(by rw [kg,ju];exact R5),(Fk.trans (aj.dq Sq)).trans F5⟩⟩
     ·obtain ⟨v6,rfl,Rk,Fk⟩:=hk
      rw [Int.toNat_natCast] at Rk
      exact k Hk Rk ((aj.dq S3).trans Fk)
    |some a=>
     rw [qB] at k mr
     refine bf ?_
     refine ⟨_,rfl,_,rfl,_,rfl,ra,_,dr,_,_,rfl,mr,T.bB,T.Qk0,rfl,_,rfl,ra,_,dr,_,_,rfl,mr,T.bB,T.Qky,rfl,(by show 3≤sizeLine;decide),fun q hq=> ?_⟩
     have Sq:=aj.ao (o:=HO.tup [V.int 0,nV a.relay,nV a.circuit]) hq
     exact ⟨_,rfl,_,rfl,A,cas,W,m,u,q,ma,.up a.relay a.circuit,u.msg.hops + 1,{relay:=rr,circuit:=cc}::u.msg.marks,V.ref z::ys,rfl,R3.same Sq,hb,Lb.keep (aj.keep (C:=cs t) Sq),ab,Sq _ _ HS,bj (aj.keep (C:=cs t) Sq) La,fun H5 R5 F5=>k H5 R5 (((aj.dq S3).trans (aj.dq Sq)).trans F5)⟩
   ·have ID:=S2.trans (aj.ao (o:=HO.tup ([V.ref z] ++ ys)) hp3)
    have S3:=S1.trans ID
    have HS:L2.upd H2 p (.tup ([V.ref z] ++ ys)) p=some (.tup (V.ref z::ys)):=ab
    generalize L2.upd H2 p (.tup ([V.ref z] ++ ys))=H3 at *
    generalize p=ma at *
    have La:Paired (cH H3) ({relay:=rr,circuit:=cc}::u.msg.marks) (V.ref z::ys):= .cons ⟨z,rfl,ID _ _ qk⟩ (bj (aj.keep (C:=cs t) S3) uq)
    have R3:=R.same S3
    have QQ:=S3 _ _ hM
    have mr:=S3 _ _ K6
    have Lb:=MA.keep (aj.keep (C:=cs t) S3)
    refine ⟨_,rfl,ra,_,dr,_,_,rfl,mr,T.bB,T.Qk0,rfl,_,rfl,?_⟩
    cases qB:re.above with
    |none=>
     rw [qB] at k
     refine a8 ?_
     have SO:=wg.Rw
     refine ⟨_,rfl,A.w,_,_,_,_,rfl,R3.cj,T.aw,T.Qk9,rfl,(W.servers:Int),rfl,(by omega),(by omega),?_⟩
     refine oA (n:=(W.servers:Int).toNat) (fun i σ Hk=>∃v6,σ= [some (V.ref A.w),some (V.ref m),some (V.ref z),some (V.ref ra),some (nV (u.msg.hops + 1)),some (V.ref ma),v6] ∧Rep (cs t) Hk A cas (Vbcnag.puts W (ou u {relay:=rr,circuit:=cc} i)).1∧dv A cas H3 Hk) ⟨none,rfl,R3,dv.refl⟩ (fun i σ Hk hi hk=> ?_) (fun σ Hk hk=> ?_)
     ·obtain ⟨v6,rfl,Rk,Fk⟩:=hk
      rw [show (0:Int) + (i:Int)=(i:Int) from Int.zero_add _]
      have kk:=R3.keep CK Fk
      refine ⟨_,rfl,_,rfl,_,rfl,(by show 3≤sizeLine;decide),fun q hq=> ?_⟩
      have Sq:=aj.ao (o:=HO.tup [V.int 1,V.int (i:Int),V.int 0]) hq
      have kq:=kk.trans (aj.keep (C:=cs t) Sq)
      exact ⟨_,rfl,_,rfl,A,cas,_,m,u,q,ma,.server i,u.msg.hops + 1,{relay:=rr,circuit:=cc}::u.msg.marks,V.ref z::ys,rfl,Rk.same Sq,sU wg _,Lb.keep kq,ab,kq.tup HS,bj kq La,fun H5 R5 F5=>⟨some (V.int (i:Int)),rfl,(by rw [kg,ju];exact R5),(Fk.trans (aj.dq Sq)).trans F5⟩⟩
     ·obtain ⟨v6,rfl,Rk,Fk⟩:=hk
      rw [Int.toNat_natCast] at Rk
      exact k Hk Rk ((aj.dq S3).trans Fk)
    |some a=>
     rw [qB] at k mr
     refine bf ?_
     refine ⟨_,rfl,_,rfl,_,rfl,ra,_,dr,_,_,rfl,mr,T.bB,T.Qk0,rfl,_,rfl,ra,_,dr,_,_,rfl,mr,T.bB,T.Qky,rfl,(by show 3≤sizeLine;decide),fun q hq=> ?_⟩
     have Sq:=aj.ao (o:=HO.tup [V.int 0,nV a.relay,nV a.circuit]) hq
     exact ⟨_,rfl,_,rfl,A,cas,W,m,u,q,ma,.up a.relay a.circuit,u.msg.hops + 1,{relay:=rr,circuit:=cc}::u.msg.marks,V.ref z::ys,rfl,R3.same Sq,hb,Lb.keep (aj.keep (C:=cs t) Sq),ab,Sq _ _ HS,bj (aj.keep (C:=cs t) Sq) La,fun H5 R5 F5=>k H5 R5 (((aj.dq S3).trans (aj.dq Sq)).trans F5)⟩
  |none=>
   refine a8 ?_
   refine ⟨_,rfl,m,_,dm,_,_,rfl,mK,T.au,T.Qkq,rfl,rfl,_,rfl,?_⟩
   by_cases NP:¬u.msg.hops=0
   ·rw [show decide (nV u.msg.hops=V.int 0)=false from kf.trans (decide_eq_false NP)]
    rw [if_pos ⟨by rw [LG];rfl,.inl NP⟩] at k
    exact a8 (a8 (k H1 R1 (aj.dq S1)))
   have NP:=Decidable.not_not.mp NP
   rw [show decide (nV u.msg.hops=V.int 0)=true from kf.trans (decide_eq_true NP)]
   refine bf ?_
   refine ⟨_,rfl,m,_,dm,_,_,rfl,mK,T.au,T.Qku,rfl,mm,_,rfl,.inr (bb.of Rx),_,_,rfl,rfl,_,rfl,?_⟩
   refine dM (fun q0=> ?_) fun q0=> ?_
   ·have h0:u.msg.marks≠ [] :=fun z=>by
     have:=of_decide_eq_true q0
     rw [y9,z] at this
     exact absurd this (by decide)
    rw [if_pos ⟨by rw [LG];rfl,.inr h0⟩] at k
    exact k H1 R1 (aj.dq S1)
   have h0:u.msg.marks= [] :=by
    apply List.eq_nil_of_length_eq_zero
    have:¬ (0:Int) < (ys.length:Int):=fun z=>q0 (decide_eq_true z)
    omega
   have hn:¬ ((Vbcnag.below W {relay:=rr,circuit:=cc}).isNone=true∧(u.msg.hops≠0∨u.msg.marks≠ [])):=fun z=>z.2.elim (fun y=>y NP) (fun y=>y h0)
   rw [if_neg hn] at k
   refine ⟨_,rfl,m,_,dm,_,_,rfl,mK,T.au,T.Qkq,rfl,_,rfl,ra,_,dr,_,_,rfl,ZI,T.bB,T.Qkz,rfl,_,_,rfl,rfl,_,rfl,?_⟩
   refine dM (fun q1=> ?_) fun q1=> ?_
   ·have h1:re.limit≤u.msg.hops:=by
     have:=of_decide_eq_true q1
     omega
    rw [if_pos h1] at k
    exact k H1 R1 (aj.dq S1)
   have h1:¬re.limit≤u.msg.hops:=fun z=>q1 (decide_eq_true (by omega))
   rw [if_neg h1] at k
   refine ⟨_,rfl,m,_,dm,_,_,rfl,mK,T.au,T.Qkq,rfl,_,_,rfl,rfl,?_⟩
   refine ⟨_,rfl,(by show 1≤sizeLine;decide),fun z2 K9=> ?_⟩
   have S2:=aj.ao (o:=HO.tup [V.ref z]) K9
   have QM:L2.upd H1 z2 (HO.tup [V.ref z]) z2=some (.tup [V.ref z]):=ab
   generalize L2.upd H1 z2 (HO.tup [V.ref z])=H2 at *
   refine ⟨_,rfl,m,_,dm,_,_,rfl,S2 _ _ mK,T.au,T.Qku,rfl,z2,mm,_,_,rfl,rfl,bb.of QM,bb.of (S2 _ _ Rx),(fun q=>nomatch q),(by
    have:=NQ.marks
    rw [←y9] at this
    show 1 + ys.length≤sizeLine
    exact Nat.le_trans (show _≤33 by omega) (by decide)),fun e=> ?_,fun ne p hp3=> ?_⟩
   ·have S3:=S1.trans S2
    have ID:=S2
    have HS:H2 z2=some (.tup (V.ref z::ys)):=by rw [e];exact QM
    generalize z2=ma at *
    generalize H2=H3 at *
    have La:Paired (cH H3) ({relay:=rr,circuit:=cc}::u.msg.marks) (V.ref z::ys):= .cons ⟨z,rfl,ID _ _ qk⟩ (bj (aj.keep (C:=cs t) S3) uq)
    have R3:=R.same S3
    have QQ:=S3 _ _ hM
    have mr:=S3 _ _ K6
    have Lb:=MA.keep (aj.keep (C:=cs t) S3)
    refine ⟨_,rfl,ra,_,dr,_,_,rfl,mr,T.bB,T.Qk0,rfl,_,rfl,?_⟩
    cases qB:re.above with
    |none=>
     rw [qB] at k
     refine a8 ?_
     have SO:=wg.Rw
     refine ⟨_,rfl,A.w,_,_,_,_,rfl,R3.cj,T.aw,T.Qk9,rfl,(W.servers:Int),rfl,(by omega),(by omega),?_⟩
     refine oA (n:=(W.servers:Int).toNat) (fun i σ Hk=>∃v6,σ= [some (V.ref A.w),some (V.ref m),some (V.ref z),some (V.ref ra),some (nV (u.msg.hops + 1)),some (V.ref ma),v6] ∧Rep (cs t) Hk A cas (Vbcnag.puts W (ou u {relay:=rr,circuit:=cc} i)).1∧dv A cas H3 Hk) ⟨none,rfl,R3,dv.refl⟩ (fun i σ Hk hi hk=> ?_) (fun σ Hk hk=> ?_)
     ·obtain ⟨v6,rfl,Rk,Fk⟩:=hk
      rw [show (0:Int) + (i:Int)=(i:Int) from Int.zero_add _]
      have kk:=R3.keep CK Fk
      refine ⟨_,rfl,_,rfl,_,rfl,(by show 3≤sizeLine;decide),fun q hq=> ?_⟩
      have Sq:=aj.ao (o:=HO.tup [V.int 1,V.int (i:Int),V.int 0]) hq
      have kq:=kk.trans (aj.keep (C:=cs t) Sq)
      exact ⟨_,rfl,_,rfl,A,cas,_,m,u,q,ma,.server i,u.msg.hops + 1,{relay:=rr,circuit:=cc}::u.msg.marks,V.ref z::ys,rfl,Rk.same Sq,sU wg _,Lb.keep kq,ab,kq.tup HS,bj kq La,fun H5 R5 F5=>⟨some (V.int (i:Int)),rfl,(by rw [kg,ju];exact R5),(Fk.trans (aj.dq Sq)).trans F5⟩⟩
     ·obtain ⟨v6,rfl,Rk,Fk⟩:=hk
      rw [Int.toNat_natCast] at Rk
      exact k Hk Rk ((aj.dq S3).trans Fk)
    |some a=>
     rw [qB] at k mr
     refine bf ?_
     refine ⟨_,rfl,_,rfl,_,rfl,ra,_,dr,_,_,rfl,mr,T.bB,T.Qk0,rfl,_,rfl,ra,_,dr,_,_,rfl,mr,T.bB,T.Qky,rfl,(by show 3≤sizeLine;decide),fun q hq=> ?_⟩
     have Sq:=aj.ao (o:=HO.tup [V.int 0,nV a.relay,nV a.circuit]) hq
     exact ⟨_,rfl,_,rfl,A,cas,W,m,u,q,ma,.up a.relay a.circuit,u.msg.hops + 1,{relay:=rr,circuit:=cc}::u.msg.marks,V.ref z::ys,rfl,R3.same Sq,hb,Lb.keep (aj.keep (C:=cs t) Sq),ab,Sq _ _ HS,bj (aj.keep (C:=cs t) Sq) La,fun H5 R5 F5=>k H5 R5 (((aj.dq S3).trans (aj.dq Sq)).trans F5)⟩
   ·have ID:=S2.trans (aj.ao (o:=HO.tup ([V.ref z] ++ ys)) hp3)
    have S3:=S1.trans ID
    have HS:L2.upd H2 p (.tup ([V.ref z] ++ ys)) p=some (.tup (V.ref z::ys)):=ab
    generalize L2.upd H2 p (.tup ([V.ref z] ++ ys))=H3 at *
    generalize p=ma at *
    have La:Paired (cH H3) ({relay:=rr,circuit:=cc}::u.msg.marks) (V.ref z::ys):= .cons ⟨z,rfl,ID _ _ qk⟩ (bj (aj.keep (C:=cs t) S3) uq)
    have R3:=R.same S3
    have QQ:=S3 _ _ hM
    have mr:=S3 _ _ K6
    have Lb:=MA.keep (aj.keep (C:=cs t) S3)
    refine ⟨_,rfl,ra,_,dr,_,_,rfl,mr,T.bB,T.Qk0,rfl,_,rfl,?_⟩
    cases qB:re.above with
    |none=>
     rw [qB] at k
     refine a8 ?_
     have SO:=wg.Rw
     refine ⟨_,rfl,A.w,_,_,_,_,rfl,R3.cj,T.aw,T.Qk9,rfl,(W.servers:Int),rfl,(by omega),(by omega),?_⟩
     refine oA (n:=(W.servers:Int).toNat) (fun i σ Hk=>∃v6,σ= [some (V.ref A.w),some (V.ref m),some (V.ref z),some (V.ref ra),some (nV (u.msg.hops + 1)),some (V.ref ma),v6] ∧Rep (cs t) Hk A cas (Vbcnag.puts W (ou u {relay:=rr,circuit:=cc} i)).1∧dv A cas H3 Hk) ⟨none,rfl,R3,dv.refl⟩ (fun i σ Hk hi hk=> ?_) (fun σ Hk hk=> ?_)
     ·obtain ⟨v6,rfl,Rk,Fk⟩:=hk
      rw [show (0:Int) + (i:Int)=(i:Int) from Int.zero_add _]
      have kk:=R3.keep CK Fk
      refine ⟨_,rfl,_,rfl,_,rfl,(by show 3≤sizeLine;decide),fun q hq=> ?_⟩
      have Sq:=aj.ao (o:=HO.tup [V.int 1,V.int (i:Int),V.int 0]) hq
      have kq:=kk.trans (aj.keep (C:=cs t) Sq)
      exact ⟨_,rfl,_,rfl,A,cas,_,m,u,q,ma,.server i,u.msg.hops + 1,{relay:=rr,circuit:=cc}::u.msg.marks,V.ref z::ys,rfl,Rk.same Sq,sU wg _,Lb.keep kq,ab,kq.tup HS,bj kq La,fun H5 R5 F5=>⟨some (V.int (i:Int)),rfl,(by rw [kg,ju];exact R5),(Fk.trans (aj.dq Sq)).trans F5⟩⟩
     ·obtain ⟨v6,rfl,Rk,Fk⟩:=hk
      rw [Int.toNat_natCast] at Rk
      exact k Hk Rk ((aj.dq S3).trans Fk)
    |some a=>
     rw [qB] at k mr
     refine bf ?_
     refine ⟨_,rfl,_,rfl,_,rfl,ra,_,dr,_,_,rfl,mr,T.bB,T.Qk0,rfl,_,rfl,ra,_,dr,_,_,rfl,mr,T.bB,T.Qky,rfl,(by show 3≤sizeLine;decide),fun q hq=> ?_⟩
     have Sq:=aj.ao (o:=HO.tup [V.int 0,nV a.relay,nV a.circuit]) hq
     exact ⟨_,rfl,_,rfl,A,cas,W,m,u,q,ma,.up a.relay a.circuit,u.msg.hops + 1,{relay:=rr,circuit:=cc}::u.msg.marks,V.ref z::ys,rfl,R3.same Sq,hb,Lb.keep (aj.keep (C:=cs t) Sq),ab,Sq _ _ HS,bj (aj.keep (C:=cs t) Sq) La,fun H5 R5 F5=>k H5 R5 (((aj.dq S3).trans (aj.dq Sq)).trans F5)⟩
end
end Rl
namespace Rl
open PySem PySem.Spec PyProof.Rows L2
open Vbcnag (Mark Msg Under Offer Lease Client Relay Assigned Written)
theorem Paired.erase {α β:Type}{F:α→β→Prop}:∀ {l:List α}{m:List β}(i:Nat),Paired F l m→Paired F (l.eraseIdx i) (m.eraseIdx i)
 |_,_,_,.nil=> .nil
 |_,_,0,.cons _ t=>t
 |_,_,i + 1,.cons f t=> .cons f (Paired.erase i t)
theorem Gk {k n:Nat}(h:k < n):seqIndex? (k:Int) n=some k:=by
 refine (Ah (n:=n) (i:=(k:Int)) (j:=k) ?_).1
 unfold Iz
 rw [if_pos (by omega),if_pos (by omega),Int.toNat_natCast]
section
variable {P:Program}{w:World}{K:PySem.W.Frag}{mg:Str→Option Value}{base:Heap}{t:iU}
def HW (C:Cs):Sp:=fun vs H Q _=>∃ (A:Ad)(cas:List Addr)(W:VW)(k:Nat),vs= [.ref A.w,nV k] ∧Rep C H A cas W∧bC W∧W.written.length < sizeLine∧k < W.bag.length∧
 ∀H',Rep C H' A cas (Vbcnag.delivered W k).1→dv A cas H H'→Q .bu H'
theorem ql (T:Txt K mg t):a7 P w K mg base dY 9 t.cR t.i4 iN (HW (cs t)):=by
 refine T.jc.ok pB (fun vs H Q E h=> ?_) (fun de A0 outer s H vs Q E hr h=> ?_)
 ·obtain ⟨A,cas,W,kk,rfl,_⟩:=h
  rfl
 ·obtain ⟨A,cas,W,kk,rfl,R,wg,dy,DA,k⟩:=h
  obtain ⟨bas,mJ,tm⟩:=R.bg
  have hb:W.bag.length≤10000:=Nat.le_trans wg.bag wg.cap.2
  have RA:bas.length=W.bag.length:=Paired.length tm
  obtain ⟨u,IE⟩:∃u,W.bag[kk]?=some u:=⟨_,List.getElem?_eq_getElem DA⟩
  obtain ⟨m,QR,MA⟩:=Paired.at tm IE
  have ai8:(Vbcnag.delivered W kk).1=bY {W with bag:=W.bag.eraseIdx kk} u:=by
   unfold Vbcnag.delivered bY
   rw [IE]
  rw [ai8] at k
  have MG:=wg.msgs u (List.mem_of_getElem? IE)
  have wg1:=mh wg kk
  have R1:=R.EJ (Paired.erase kk tm)
  have k1:c9 (cs t) H (L2.upd H A.bg (.lst ((bas.eraseIdx kk).map V.ref))):=c9.upd mJ (fun q=>q)
  have F1:dv A cas H (L2.upd H A.bg (.lst ((bas.eraseIdx kk).map V.ref))):=dv.upd (.inr (.inr (.inr (.inr (.inr (.inr (.inr (.inl rfl))))))))
  obtain ⟨ZH,K7,K8⟩:=T.J4
  obtain ⟨Dz,ow,ox⟩:=T.nQ
  obtain ⟨KU,xR,xS⟩:=T.Bt
  refine ⟨_,ae (aS (i:=2) pB.nd rfl (Or.inl rfl) (gm PySem.F.plainAttrs_list PySem.F.slot_list_pop PySem.F.type_list_pop Co (ai (pv 0) rfl) (aa (pv 1) af)))
   (ak (aZ (aI cf (aE aY (ai (pv 2) rfl) ah (fun _ _=>rfl)) (aC (by rfl) K7 K8) (aM _)) (ak (aG (aA (EV T) (hr.mono (by decide)) (by rfl) T.zz T.tV.kp T.zA .nil aQ (aa (pv 0) (aa (pv 2) af))))) (ak (aZ (aI cf (aE aY (ai (pv 2) rfl) ah (fun _ _=>rfl)) (aC (by rfl) ow ox) (aM _)) (ak (aG (aA (K1 T) (hr.mono (by decide)) (by rfl) T.FK T.Bq.kp T.FL .nil aQ (aa (pv 0) (aa (pv 2) af))))) (ak (aZ (aI cf (aE aY (ai (pv 2) rfl) ah (fun _ _=>rfl)) (aC (by rfl) xR xS) (aM _)) (ak (aG (aA (BS T) (hr.mono (by decide)) (by rfl) T.uN T.nJ.kp T.uP .nil aQ (aa (pv 0) (aa (pv 2) af))))) (ak (aG (aA (Dy T) (hr.mono (by decide)) (by rfl) T.wV T.qx.kp T.wW .nil aQ (aa (pv 0) (aa (pv 2) af))))))))))),?_⟩
  refine ⟨_,rfl,A.w,_,_,_,_,rfl,R.cj,T.aw,T.Qk2,rfl,.inl ⟨rfl,_,bT.of mJ⟩,_,rfl,A.bg,_,(kk:Int),kk,V.ref m,rfl,rfl,mJ,(by omega),(by omega),Gk (by rw [List.length_map,RA];exact DA),(by rw [List.getElem?_map,QR];rfl),?_⟩
  rw [oE]
  generalize L2.upd H A.bg (.lst ((bas.eraseIdx kk).map V.ref))=H1 at *
  have RD:=MA.keep k1
  obtain ⟨dm,pp,mm,ys,hM,hp,hm,uq⟩:=RD.parts
  have go:∀p:VW→Under→Prop,p {W with bag:=W.bag.eraseIdx kk} u→ot p (cs t) [.ref A.w,.ref m] H1 Q E:=fun p hp=>⟨A,cas,_,m,u,rfl,R1,wg1,dy,RD,MG,hp,fun H2 R2 F2=>k H2 R2 (F1.trans F2)⟩
  cases dB:u.place with
  |up r c=>
   rw [dB] at hp
   refine ⟨_,rfl,m,_,dm,_,_,rfl,hM,T.au,T.Qkw,rfl,pp,_,_,_,rfl,rfl,bb.of hp,rfl,rfl,_,rfl,a8 ?_⟩
   exact ⟨_,rfl,_,rfl,go _ ⟨r,c,dB⟩⟩
  |server sv=>
   rw [dB] at hp
   refine ⟨_,rfl,m,_,dm,_,_,rfl,hM,T.au,T.Qkw,rfl,pp,_,_,_,rfl,rfl,bb.of hp,rfl,rfl,_,rfl,bf ?_⟩
   refine ⟨_,rfl,m,_,dm,_,_,rfl,hM,T.au,T.Qkw,rfl,pp,_,_,_,rfl,rfl,bb.of hp,rfl,rfl,_,rfl,a8 ?_⟩
   exact ⟨_,rfl,_,rfl,go _ ⟨sv,dB⟩⟩
  |down r=>
   rw [dB] at hp
   refine ⟨_,rfl,m,_,dm,_,_,rfl,hM,T.au,T.Qkw,rfl,pp,_,_,_,rfl,rfl,bb.of hp,rfl,rfl,_,rfl,bf ?_⟩
   refine ⟨_,rfl,m,_,dm,_,_,rfl,hM,T.au,T.Qkw,rfl,pp,_,_,_,rfl,rfl,bb.of hp,rfl,rfl,_,rfl,bf ?_⟩
   refine ⟨_,rfl,m,_,dm,_,_,rfl,hM,T.au,T.Qkw,rfl,pp,_,_,_,rfl,rfl,bb.of hp,rfl,rfl,_,rfl,a8 ?_⟩
   exact ⟨_,rfl,_,rfl,go _ ⟨r,dB⟩⟩
  |circuit r c=>
   rw [dB] at hp
   refine ⟨_,rfl,m,_,dm,_,_,rfl,hM,T.au,T.Qkw,rfl,pp,_,_,_,rfl,rfl,bb.of hp,rfl,rfl,_,rfl,bf ?_⟩
   refine ⟨_,rfl,m,_,dm,_,_,rfl,hM,T.au,T.Qkw,rfl,pp,_,_,_,rfl,rfl,bb.of hp,rfl,rfl,_,rfl,bf ?_⟩
   refine ⟨_,rfl,m,_,dm,_,_,rfl,hM,T.au,T.Qkw,rfl,pp,_,_,_,rfl,rfl,bb.of hp,rfl,rfl,_,rfl,bf ?_⟩
   exact ⟨_,rfl,_,rfl,go _ ⟨r,c,dB⟩⟩
end
end Rl
namespace L2
open PySem PySem.Spec PyProof.Rows
theorem QS {X:Cx}{tg l:Expr}{tl tl':TE}(h:PE X l tl)(h':PE X l tl'):PI X tg l (fun σ H R=>Ni X.K tl σ H R∨R8 X.K tl' σ H R):=by
 intro pins s σ H R I q
 rcases q with q|q
 ·exact oz h pins s σ H R I q
 ·exact N7 h' pins s σ H R I q
end L2
namespace Rl
open PySem PySem.Spec PyProof.Rows L2
open Vbcnag (Mark Msg Under Offer Lease Client Relay Assigned Written)
def M3 (v i:V):V:=if v= .bu then i else v
theorem aj.tup {K:PySem.W.Frag}{H H':Hp}(S:aj H H'){a:Addr}{xs:List V}(h:bb K H a xs):bb K H' a xs:=by
 rcases h with (h|⟨o,h⟩)|h
 ·exact .inl (.inl (S _ _ h))
 ·exact .inl (.inr ⟨o,S _ _ h⟩)
 ·exact .inr h
section
variable {P:Program}{w:World}{K:PySem.W.Frag}{mg:Str→Option Value}{base:Heap}{t:iU}
def ai9:Sp:=fun vs H Q _=>∃ (v i:V),vs= [v,i] ∧Q (M3 v i) H
theorem jJ (T:Txt K mg t):a7 P w K mg base dY 1 t.eV t.oT oK ai9:=by
 refine T.gG.ok En (fun vs H Q E h=> ?_) (fun de A0 outer s H vs Q E hr h=> ?_)
 ·obtain ⟨v,i,rfl,_⟩:=h
  rfl
 ·obtain ⟨v,i,rfl,k⟩:=h
  unfold M3 at k
  refine ⟨_,ak (aH (Ce (bD (fQ (pv 0))) (pv 1) (pv 0))),?_⟩
  refine ⟨_,rfl,_,rfl,?_⟩
  by_cases h:v= .bu
  ·rw [if_pos h] at k
   rw [decide_eq_true h]
   exact a8 ⟨_,rfl,k⟩
  ·rw [if_neg h] at k
   rw [decide_eq_false h]
   exact bf ⟨_,rfl,k⟩
def cM (l:List Mark):List Int:=Vbcnag.nums (l.flatMap fun k=> [k.relay,k.circuit])
theorem EW (l:List Mark)(a:Mark):cM (l ++ [a])=cM l ++ [(a.relay:Int),(a.circuit:Int)] :=by
 unfold cM Vbcnag.nums
 rw [List.flatMap_append,List.map_append]
 rfl
theorem jv:∀l:List Mark,(cM l).length=2 * l.length
 | [] =>rfl
 |a::l=>by
  show (cM l).length + 2=_
  rw [jv l,List.length_cons]
  omega
def vS (K:PySem.W.Frag):Sp:=fun vs H Q _=>∃ (p:Addr)(xs:List V)(ms:List Mark),vs= [.ref p] ∧(bT K H p xs∨bb K H p xs)∧Paired (cH H) ms xs∧ms.length≤1000000∧
 ∀H' r,aj H H'→H' r=some (.lst ((Vbcnag.markNums ms).map V.int))→H r=none→Q (.ref r) H'
theorem cX (T:Txt K mg t):a7 P w K mg base dY 1 t.bR t.eA ej (vS K):=by
 refine T.iy.ok lB (fun vs H Q E h=> ?_) (fun de A0 outer s H vs Q E hr h=> ?_)
 ·obtain ⟨p,xs,ms,rfl,_⟩:=h
  rfl
 ·obtain ⟨p,xs,ms,rfl,hS,hP,hlen,k⟩:=h
  have hl:xs.length=ms.length:=(Paired.length hP).symm
  have ZJ:=cb.mp hP
  refine ⟨_,ae (aS (i:=1) lB.nd rfl (Or.inl rfl) (aT (aa (aU aP (by rfl) T.Qlv PySem.boot_len (aa (pv 0) af)) af)))
   (ae (v7 PassesOwn.never rfl (QS (pv 0) (pv 0)) (dP (i:=2) lB.nd rfl (Or.inl rfl)) (ak (aG (gm PySem.F.plainAttrs_list PySem.F.slot_list_extend PySem.F.type_list_extend ly (pv 1) (aa (pv 2) af)))))
   (ak (aH (pv 1)))),?_⟩
  refine ⟨_,rfl,p,xs,rfl,hS,(by show 1≤sizeLine;decide),fun r va=> ?_⟩
  have S1:=aj.ao (o:=HO.lst [V.int (xs.length:Int)]) va
  have Dh:L2.upd H r (HO.lst [V.int (xs.length:Int)]) r=some (.lst (((ms.length:Int)::cM (ms.take 0)).map V.int)):=by rw [ab,hl];rfl
  generalize L2.upd H r (HO.lst [V.int (xs.length:Int)])=H1 at *
  have ZK:∃v2,[some (V.ref p),some (V.ref r),(none:Option V)] = [some (V.ref p),some (V.ref r),v2] ∧H1 r=some (.lst (((ms.length:Int)::cM (ms.take 0)).map V.int))∧aj H H1:=⟨none,rfl,Dh,S1⟩
  have step:∀ (i:Nat)(x:V)(Hk:Hp),xs[i]?=some x→Hk r=some (.lst (((ms.length:Int)::cM (ms.take i)).map V.int))→aj H Hk→∃b,x= .ref b∧∃a c:Int,bb K Hk b [V.int a,V.int c] ∧(((ms.length:Int)::cM (ms.take i)).map V.int).length + 2≤sizeLine∧
    L2.upd Hk r (.lst (((ms.length:Int)::cM (ms.take i)).map V.int ++ [V.int a,V.int c])) r=some (.lst (((ms.length:Int)::cM (ms.take (i + 1))).map V.int))∧aj H (L2.upd Hk r (.lst (((ms.length:Int)::cM (ms.take i)).map V.int ++ [V.int a,V.int c]))):=fun i x Hk hx hk S=>by
   have hi:i < ms.length:=by
    rw [←hl]
    exact (List.getElem?_eq_some_iff.mp hx).1
   obtain ⟨b,e,hb⟩:=ZJ.2 i ms[i] x (List.getElem?_eq_getElem hi) hx
   refine ⟨b,e,ms[i].relay,ms[i].circuit,bb.of (S _ _ hb),?_,?_,fun b o e=> ?_⟩
   ·rw [List.length_map,List.length_cons,jv,List.length_take]
    exact Nat.le_trans (show _≤2000003 by omega) (by decide)
   ·rw [ab,List.take_add_one,List.getElem?_eq_getElem hi]
    show _=some (HO.lst ((_::cM (ms.take i ++ [ms[i]])).map V.int))
    rw [EW,←List.cons_append,List.map_append]
    rfl
   ·rw [az (aF e va)]
    exact S b o e
  have fin:∀Hk,Hk r=some (.lst (((ms.length:Int)::cM (ms.take xs.length)).map V.int))→aj H Hk→Q (.ref r) Hk:=fun Hk hk S=>by
   rw [hl,List.take_length] at hk
   exact k Hk r S hk va
  rcases hS with hS|hS
  ·refine .inl ⟨_,rfl,p,rfl,⟨_,S1.seq hS⟩,?_⟩
   refine v8 (K:=K) (a:=p) (xs:=xs) (fun i σ Hk=>∃v2,σ= [some (V.ref p),some (V.ref r),v2] ∧Hk r=some (.lst (((ms.length:Int)::cM (ms.take i)).map V.int))∧aj H Hk) ZK (fun i σ Hk _ hk=> ?_) (fun i x σ Hk hx hk=> ?_) (fun σ Hk hk=> ?_)
   ·obtain ⟨v2,_,_,S⟩:=hk
    exact S.seq hS
   ·obtain ⟨v2,rfl,hk,S⟩:=hk
    obtain ⟨b,rfl,a,c,h1,h2,h3,h4⟩:=step i x Hk hx hk S
    exact ⟨_,rfl,.inl ⟨rfl,_,bT.of hk⟩,_,rfl,r,b,_,_,rfl,rfl,hk,h1,h2,⟨_,rfl,h3,h4⟩⟩
   ·obtain ⟨v2,rfl,hk,S⟩:=hk
    exact ⟨_,rfl,fin Hk hk S⟩
  ·refine .inr ⟨_,rfl,p,rfl,⟨_,aj.tup S1 hS⟩,?_⟩
   refine LJ (K:=K) (a:=p) (xs:=xs) (fun i σ Hk=>∃v2,σ= [some (V.ref p),some (V.ref r),v2] ∧Hk r=some (.lst (((ms.length:Int)::cM (ms.take i)).map V.int))∧aj H Hk) ZK (fun i σ Hk _ hk=> ?_) (fun i x σ Hk hx hk=> ?_) (fun σ Hk hk=> ?_)
   ·obtain ⟨v2,_,_,S⟩:=hk
    exact aj.tup S hS
   ·obtain ⟨v2,rfl,hk,S⟩:=hk
    obtain ⟨b,rfl,a,c,h1,h2,h3,h4⟩:=step i x Hk hx hk S
    exact ⟨_,rfl,.inl ⟨rfl,_,bT.of hk⟩,_,rfl,r,b,_,_,rfl,rfl,hk,h1,h2,⟨_,rfl,h3,h4⟩⟩
   ·obtain ⟨v2,rfl,hk,S⟩:=hk
    exact ⟨_,rfl,fin Hk hk S⟩
end
end Rl
namespace Rl
open PySem PySem.Spec PyProof.Rows L2
open Vbcnag (Mark Msg Under Offer Lease Client Relay Assigned Written)
theorem Lc (o:Option Nat):M3 (oV o) (V.int (-1))=V.int (Vbcnag.optional o):=by
 cases o with
 |none=>exact if_pos rfl
 |some n=>exact if_neg (fun q=>nomatch q)
theorem aj.own {H Hk:Hp}{r:Addr}{o:HO}(S:aj H Hk)(h:H r=none):aj H (L2.upd Hk r o):=fun b x e=>by
 rw [az (aF e h)]
 exact S b x e
section
variable {P:Program}{w:World}{K:PySem.W.Frag}{mg:Str→Option Value}{base:Heap}{t:iU}
def Ld (C:Cs):Sp:=fun vs H Q _=>∃ (m:Addr)(u:Under),vs= [.ref m] ∧fL C H m u∧u.msg.marks.length≤32∧
 ∀H' r,aj H H'→H' r=some (.lst ((Vbcnag.shown u).map V.int))→H r=none→Q (.ref r) H'
theorem place_len (p:Vbcnag.Place):(cF p).length=3:=by cases p <;>rfl
theorem oy (T:Txt K mg t):a7 P w K mg base dY 2 t.cx t.gT gM (Ld (cs t)):=by
 refine T.iu.ok m3 (fun vs H Q E h=> ?_) (fun de A0 outer s H vs Q E hr h=> ?_)
 ·obtain ⟨m,u,rfl,_⟩:=h
  rfl
 ·obtain ⟨m,u,rfl,MA,y9,k⟩:=h
  obtain ⟨dm,pp,mm,ys,hM,hp,hm,uq⟩:=MA.parts
  have cX:∀T:Txt K mg t,a7 P w K mg base dY 1 t.bR t.eA ej (vS K):=fun T=>Rl.cX T
  refine ⟨_,ae (aS (i:=1) m3.nd rfl (Or.inl rfl) (y4 An (by rfl) T.Qlw PyProof.Rows.boot_list (aa (ai (pv 0) rfl) af)))
   (ae (aG (gm PySem.F.plainAttrs_list PySem.F.slot_list_extend PySem.F.type_list_extend kM (pv 1) (aa (aT (aa (ai (pv 0) rfl) (aa (ai (pv 0) rfl) (aa (ai (pv 0) rfl) (aa (aA (jJ T) (hr.mono (by decide)) (by rfl) T.jq T.gG.kp T.jr .nil aQ (aa (ai (pv 0) rfl) (aa (dg bP ah) af))) af))))) af)))
   (ae (aG (gm PySem.F.plainAttrs_list PySem.F.slot_list_extend PySem.F.type_list_extend kM (pv 1) (aa (aT (aa (ai (pv 0) rfl) (aa (ai (pv 0) rfl) (aa (ai (pv 0) rfl) af)))) af)))
   (ae (aG (gm PySem.F.plainAttrs_list PySem.F.slot_list_extend PySem.F.type_list_extend kM (pv 1) (aa (aA (cX T) (hr.mono (by decide)) (by rfl) T.j7 T.iy.kp T.j8 .nil aQ (aa (ai (pv 0) rfl) af)) af)))
   (ak (aH (pv 1)))))),?_⟩
  refine ⟨_,rfl,m,_,dm,_,_,rfl,hM,T.au,T.Qkw,rfl,pp,_,rfl,.inr (bb.of hp),fun r va=> ?_⟩
  have S1:=aj.ao (o:=HO.lst (cF u.place)) va
  have Dh:L2.upd H r (HO.lst (cF u.place)) r=some (.lst (cF u.place)):=ab
  generalize L2.upd H r (HO.lst (cF u.place))=H1 at *
  have mK:=S1 _ _ hM
  refine ⟨_,rfl,.inl ⟨rfl,_,bT.of Dh⟩,_,rfl,m,_,dm,_,_,rfl,mK,T.au,T.Qkr,rfl,_,rfl,m,_,dm,_,_,rfl,mK,T.au,T.Qkv,rfl,_,rfl,m,_,dm,_,_,rfl,mK,T.au,T.Qks,rfl,
   _,rfl,m,_,dm,_,_,rfl,mK,T.au,T.Qkx,rfl,_,rfl,_,_,rfl,(by show 4≤sizeLine;decide),fun z hz=> ?_⟩
  have S2:=aj.ao (o:=HO.lst [nV u.msg.host,nV u.msg.number,nV u.msg.kind,M3 (oV u.msg.server) (V.int (-1))]) hz
  have K9:L2.upd H1 z (HO.lst [nV u.msg.host,nV u.msg.number,nV u.msg.kind,M3 (oV u.msg.server) (V.int (-1))]) z=some (.lst [nV u.msg.host,nV u.msg.number,nV u.msg.kind,V.int (Vbcnag.optional u.msg.server)]):=by rw [ab,Lc]
  refine ⟨r,z,_,_,rfl,rfl,S2 _ _ Dh,K9,(by rw [place_len];show 7≤sizeLine;decide),?_⟩
  have S3:=aj.own (r:=r) (o:=HO.lst (cF u.place ++ [nV u.msg.host,nV u.msg.number,nV u.msg.kind,V.int (Vbcnag.optional u.msg.server)])) (S1.trans S2) va
  generalize yL:L2.upd _ r (HO.lst (cF u.place ++ [nV u.msg.host,nV u.msg.number,nV u.msg.kind,V.int (Vbcnag.optional u.msg.server)]))=H3
  have ZL:H3 r=some (HO.lst (cF u.place ++ [nV u.msg.host,nV u.msg.number,nV u.msg.kind,V.int (Vbcnag.optional u.msg.server)])):=by rw [←yL];exact ab
  have S3':aj H H3:=by rw [←yL];exact S3
  clear S3 yL
  have QQ:=S3' _ _ hM
  refine ⟨_,rfl,.inl ⟨rfl,_,bT.of ZL⟩,_,rfl,m,_,dm,_,_,rfl,QQ,T.au,T.Qkp,rfl,_,rfl,m,_,dm,_,_,rfl,QQ,T.au,T.Qkt,rfl,_,rfl,m,_,dm,_,_,rfl,QQ,T.au,T.Qkq,rfl,(by show 3≤sizeLine;decide),fun z4 RB=> ?_⟩
  have S4:=aj.ao (o:=HO.lst [nV u.msg.addr,nV u.msg.len,nV u.msg.hops]) RB
  refine ⟨r,z4,_,_,rfl,rfl,S4 _ _ ZL,ab,(by rw [List.length_append,place_len];show 10≤sizeLine;decide),?_⟩
  have S5:=aj.own (r:=r) (o:=HO.lst (cF u.place ++ [nV u.msg.host,nV u.msg.number,nV u.msg.kind,V.int (Vbcnag.optional u.msg.server)] ++ [nV u.msg.addr,nV u.msg.len,nV u.msg.hops])) (S3'.trans S4) va
  generalize QT:L2.upd _ r (HO.lst (cF u.place ++ [nV u.msg.host,nV u.msg.number,nV u.msg.kind,V.int (Vbcnag.optional u.msg.server)] ++ [nV u.msg.addr,nV u.msg.len,nV u.msg.hops]))=H5
  have hr5:H5 r=some (HO.lst (cF u.place ++ [nV u.msg.host,nV u.msg.number,nV u.msg.kind,V.int (Vbcnag.optional u.msg.server)] ++ [nV u.msg.addr,nV u.msg.len,nV u.msg.hops])):=by rw [←QT];exact ab
  have S5':aj H H5:=by rw [←QT];exact S5
  clear S5 QT
  have hM5:=S5' _ _ hM
  refine ⟨_,rfl,.inl ⟨rfl,_,bT.of hr5⟩,_,rfl,m,_,dm,_,_,rfl,hM5,T.au,T.Qku,rfl,mm,ys,u.msg.marks,rfl,.inr (bb.of (S5' _ _ hm)),bj (aj.keep (C:=cs t) S5') uq,Nat.le_trans y9 (by decide),fun H6 q S6 hq RF=> ?_⟩
  have hfl:(Vbcnag.markNums u.msg.marks).length=2 * u.msg.marks.length + 1:=by
   show (cM u.msg.marks).length + 1=_
   rw [jv]
  refine ⟨r,q,_,_,rfl,rfl,S6 _ _ hr5,hq,?_,?_⟩
  ·rw [List.length_append,List.length_append,place_len,List.length_map,hfl]
   exact Nat.le_trans (show _≤100 by show 3 + 4 + 3 + _≤100;omega) (by decide)
  ·refine ⟨_,rfl,k _ r (aj.own (S5'.trans S6) va) ?_ va⟩
   rw [ab]
   congr 1
   congr 1
   unfold Vbcnag.shown
   cases u.place <;>rw [List.append_assoc,List.append_assoc] <;>rfl
end
end Rl
namespace Rl
open PySem PySem.Spec PyProof.Rows L2
open Vbcnag (Mark Msg Under Offer Lease Client Relay Assigned Written)
def ZM:Option Mark→List Int
 |none=> [-1, -1]
 |some p=>Vbcnag.nums [p.relay,p.circuit]
def ofN:Option Offer→List Int
 |none=> [-1,0,0]
 |some o=>Vbcnag.nums [o.server,o.addr,o.len]
def leN:Option Lease→List Int
 |none=> [-1,0,0,0,0]
 |some l=>Vbcnag.nums [l.server,l.addr,l.half,l.late,l.till]
theorem Gm (c:Client):Vbcnag.clientSaid c= [(c.phase:Int),(c.counter:Int),(c.number:Int),(c.sent:Int),(c.tries:Int),Vbcnag.optional c.due] ++ ZM c.place ++ ofN c.best ++ leN c.lease:=by
 unfold Vbcnag.clientSaid ZM ofN leN
 cases c.place <;>cases c.best <;>cases c.lease <;>rfl
theorem EX {v:V}{a b:Addr}(h:v= .ref b):M3 v (.ref a)= .ref b:=by
 rw [h]
 exact if_neg (fun q=>nomatch q)
theorem ZN {K:PySem.W.Frag}{H:Hp}{p:Option Mark}{v:V}{a:Addr}(h:Dd H p v)(ha:bb K H a [V.int (-1),V.int (-1)]):∃b,M3 v (.ref a)= .ref b∧bb K H b ((ZM p).map V.int):=by
 cases p with
 |none=>
  have e:v= .bu:=h
  exact ⟨a,if_pos e,ha⟩
 |some m=>
  obtain ⟨b,e,q⟩:=h
  exact ⟨b,EX e,bb.of q⟩
theorem ZO {K:PySem.W.Frag}{H:Hp}{p:Option Offer}{v:V}{a:Addr}(h:HB H p v)(ha:bb K H a [V.int (-1),V.int 0,V.int 0]):∃b,M3 v (.ref a)= .ref b∧bb K H b ((ofN p).map V.int):=by
 cases p with
 |none=>
  have e:v= .bu:=h
  exact ⟨a,if_pos e,ha⟩
 |some m=>
  obtain ⟨b,e,q⟩:=h
  exact ⟨b,EX e,bb.of q⟩
theorem ZP {K:PySem.W.Frag}{H:Hp}{p:Option Lease}{v:V}{a:Addr}(h:Kb H p v)(ha:bb K H a [V.int (-1),V.int 0,V.int 0,V.int 0,V.int 0]):∃b,M3 v (.ref a)= .ref b∧bb K H b ((leN p).map V.int):=by
 cases p with
 |none=>
  have e:v= .bu:=h
  exact ⟨a,if_pos e,ha⟩
 |some m=>
  obtain ⟨b,e,q⟩:=h
  exact ⟨b,EX e,bb.of q⟩
section
variable {P:Program}{w:World}{K:PySem.W.Frag}{mg:Str→Option Value}{base:Heap}{t:iU}
def Le (C:Cs):Sp:=fun vs H Q _=>∃ (ca:Addr)(c:Client),vs= [.ref ca] ∧dI C H ca c∧
 ∀H' r,aj H H'→H' r=some (.lst ((Vbcnag.clientSaid c).map V.int))→H r=none→Q (.ref r) H'
theorem yN (T:Txt K mg t):a7 P w K mg base dY 2 t.cT t.i7 iP (Le (cs t)):=by
 refine T.l5.ok pC (fun vs H Q E h=> ?_) (fun de A0 outer s H vs Q E hr h=> ?_)
 ·obtain ⟨ca,c,rfl,_⟩:=h
  rfl
 ·obtain ⟨ca,c,rfl,⟨d,pl,be,le,cJ,da⟩,k⟩:=h
  refine ⟨_,ae (aS (i:=1) pC.nd rfl (Or.inl rfl) (aT (aa (ai (pv 0) rfl) (aa (ai (pv 0) rfl) (aa (ai (pv 0) rfl) (aa (ai (pv 0) rfl) (aa (ai (pv 0) rfl) (aa (aA (jJ T) (hr.mono (by decide)) (by rfl) T.jq T.gG.kp T.jr .nil aQ (aa (ai (pv 0) rfl) (aa (dg bP ah) af))) af))))))))
   (ae (aG (gm PySem.F.plainAttrs_list PySem.F.slot_list_extend PySem.F.type_list_extend ly (pv 1) (aa (aA (jJ T) (hr.mono (by decide)) (by rfl) T.jq T.gG.kp T.jr .nil aQ (aa (ai (pv 0) rfl) (aa (aC (v:= .ref t.fc) (by rfl) T.zH rfl) af))) af)))
   (ae (aG (gm PySem.F.plainAttrs_list PySem.F.slot_list_extend PySem.F.type_list_extend ly (pv 1) (aa (aA (jJ T) (hr.mono (by decide)) (by rfl) T.jq T.gG.kp T.jr .nil aQ (aa (ai (pv 0) rfl) (aa (aC (v:= .ref t.dS) (by rfl) T.xg rfl) af))) af)))
   (ae (aG (gm PySem.F.plainAttrs_list PySem.F.slot_list_extend PySem.F.type_list_extend ly (pv 1) (aa (aA (jJ T) (hr.mono (by decide)) (by rfl) T.jq T.gG.kp T.jr .nil aQ (aa (ai (pv 0) rfl) (aa (aC (v:= .ref t.dU) (by rfl) T.xi rfl) af))) af)))
   (ak (aH (pv 1)))))),?_⟩
  refine ⟨_,rfl,ca,_,d,_,_,rfl,cJ,T.aq,T.Qkl,rfl,_,rfl,ca,_,d,_,_,rfl,cJ,T.aq,T.Qkg,rfl,_,rfl,ca,_,d,_,_,rfl,cJ,T.aq,T.Qkf,rfl,_,rfl,ca,_,d,_,_,rfl,cJ,T.aq,T.Qkn,rfl,
   _,rfl,ca,_,d,_,_,rfl,cJ,T.aq,T.Qko,rfl,_,rfl,ca,_,d,_,_,rfl,cJ,T.aq,T.Qkh,rfl,_,rfl,_,_,rfl,(by show 6≤sizeLine;decide),fun r va=> ?_⟩
  generalize QU:L2.upd H r _=H1
  have Dh:H1 r=some (.lst ([(c.phase:Int),(c.counter:Int),(c.number:Int),(c.sent:Int),(c.tries:Int),Vbcnag.optional c.due].map V.int)):=by
   rw [←QU,ab,Lc]
   rfl
  have S1:aj H H1:=by rw [←QU];exact aj.ao va
  clear QU
  obtain ⟨b1,e1,q1⟩:=ZN (K:=K) (a:=t.fc) (da.pl.keep (aj.keep (C:=cs t) S1)) (T.zI H1)
  refine ⟨_,rfl,.inl ⟨rfl,_,bT.of Dh⟩,_,rfl,ca,_,d,_,_,rfl,S1 _ _ cJ,T.aq,T.Qkm,rfl,_,_,rfl,r,b1,_,_,rfl,congrArg (fun z=> [z]) e1,Dh,q1,?_,?_⟩
  ·cases c.place <;>(show 8≤sizeLine;decide)
  rw [←List.map_append]
  generalize yK:L2.upd H1 r _=H2
  have HX:H2 r=some (.lst (([(c.phase:Int),(c.counter:Int),(c.number:Int),(c.sent:Int),(c.tries:Int),Vbcnag.optional c.due] ++ ZM c.place).map V.int)):=by rw [←yK];exact ab
  have S2:aj H H2:=by rw [←yK];exact aj.own S1 va
  clear yK
  obtain ⟨b2,e2,q2⟩:=ZO (K:=K) (a:=t.dS) (da.be.keep (aj.keep (C:=cs t) S2)) (T.xh H2)
  refine ⟨_,rfl,.inl ⟨rfl,_,bT.of HX⟩,_,rfl,ca,_,d,_,_,rfl,S2 _ _ cJ,T.aq,T.Qkk,rfl,_,_,rfl,r,b2,_,_,rfl,congrArg (fun z=> [z]) e2,HX,q2,?_,?_⟩
  ·cases c.place <;>cases c.best <;>(show 11≤sizeLine;decide)
  rw [←List.map_append]
  generalize yL:L2.upd H2 r _=H3
  have ZL:H3 r=some (.lst (([(c.phase:Int),(c.counter:Int),(c.number:Int),(c.sent:Int),(c.tries:Int),Vbcnag.optional c.due] ++ ZM c.place ++ ofN c.best).map V.int)):=by rw [←yL];exact ab
  have S3:aj H H3:=by rw [←yL];exact aj.own S2 va
  clear yL
  obtain ⟨b3,e3,q3⟩:=ZP (K:=K) (a:=t.dU) (da.le.keep (aj.keep (C:=cs t) S3)) (T.xj H3)
  refine ⟨_,rfl,.inl ⟨rfl,_,bT.of ZL⟩,_,rfl,ca,_,d,_,_,rfl,S3 _ _ cJ,T.aq,T.Qkj,rfl,_,_,rfl,r,b3,_,_,rfl,congrArg (fun z=> [z]) e3,ZL,q3,?_,?_⟩
  ·cases c.place <;>cases c.best <;>cases c.lease <;>(show 16≤sizeLine;decide)
  rw [←List.map_append,←Gm]
  exact ⟨_,rfl,k _ r (aj.own S3 va) ab va⟩
end
end Rl
namespace Rl
open PySem PySem.Spec PyProof.Rows L2
open Vbcnag (Mark Msg Under Offer Lease Client Relay Assigned Written)
theorem qF (x:Nat×Nat):∀l:List (Nat×Nat),(Vbcnag.putIn x l).Perm (x::l)
 | [] =>List.Perm.refl _
 |y::l=>by
  unfold Vbcnag.putIn
  split
  ·exact List.Perm.refl _
  ·exact ((qF x l).cons y).trans (List.Perm.swap x y l)
theorem sV (x:Nat×Nat):∀ {l:List (Nat×Nat)},l.Pairwise (fun a b=>a.1≤b.1)→(Vbcnag.putIn x l).Pairwise (fun a b=>a.1≤b.1)
 | [],_=>List.pairwise_singleton _ _
 |y::l,h=>by
  rw [List.pairwise_cons] at h
  unfold Vbcnag.putIn
  split
  ·rename_i hle
   refine List.pairwise_cons.mpr ⟨fun b hb=> ?_,List.pairwise_cons.mpr h⟩
   rcases List.mem_cons.mp hb with e|e
   ·rw [e];exact hle
   ·exact Nat.le_trans hle (h.1 b e)
  ·rename_i hle
   refine List.pairwise_cons.mpr ⟨fun b hb=> ?_,sV x h.2⟩
   rcases List.mem_cons.mp ((qF x l).mem_iff.mp hb) with e|e
   ·rw [e];omega
   ·exact h.1 b e
theorem pd:∀l:List (Nat×Nat),(l.foldr Vbcnag.putIn []).Perm l
 | [] =>List.Perm.refl _
 |x::l=>(qF x _).trans ((pd l).cons x)
theorem vg:∀l:List (Nat×Nat),(l.foldr Vbcnag.putIn []).Pairwise (fun a b=>a.1≤b.1)
 | [] =>List.Pairwise.nil
 |x::l=>sV x (vg l)
theorem vh:∀ {l m:List (Nat×Nat)},l.Perm m→l.Pairwise (fun a b=>a.1≤b.1)→m.Pairwise (fun a b=>a.1≤b.1)→(l.map (·.1)).Nodup→l=m
 | [],m,p,_,_,_=>(List.nil_perm.mp p).symm
 |a::l,[],p,_,_,_=>(by have:=p.length_eq;simp at this)
 |a::l,b::m,p,h1,h2,nd=>by
  have hb:b∈a::l:=p.mem_iff.mpr (List.mem_cons_self ..)
  have ha:a∈b::m:=p.mem_iff.mp (List.mem_cons_self ..)
  rw [List.pairwise_cons] at h1 h2
  rw [List.map_cons,List.nodup_cons] at nd
  have e:a=b:=by
   rcases List.mem_cons.mp hb with q|q
   ·exact q.symm
   ·rcases List.mem_cons.mp ha with q'|q'
    ·exact q'
    ·have:=h1.1 b q
     have:=h2.1 a q'
     have e1:a.1=b.1:=by omega
     exact absurd (by rw [e1];exact List.mem_map_of_mem q) nd.1
  subst e
  rw [vh (List.Perm.cons_inv p) h1.2 h2.2 nd.2]
def iF (x:Nat×Nat):Mark:={relay:=x.1,circuit:=x.2}
def kF (W:VW)(s h:Nat):List (Nat×Nat):=(W.written.filter fun x=>x.server==s && x.host==h).map fun x=>(x.addr,x.till)
theorem M4 {W:VW}(nd:(W.written.map d3).Nodup)(s h:Nat):((kF W s h).map (·.1)).Nodup:=by
 unfold kF
 rw [List.map_map]
 generalize W.written=l at *
 induction l with
 |nil=>exact List.nodup_nil
 |cons y l ih=>
  rw [List.map_cons,List.nodup_cons] at nd
  rw [List.filter_cons]
  split
  ·rename_i hy
   rw [List.map_cons,List.nodup_cons]
   refine ⟨fun q=>nd.1 ?_,ih nd.2⟩
   obtain ⟨z,hz,e⟩:=List.mem_map.mp q
   obtain ⟨qk,K9⟩:=List.mem_filter.mp hz
   simp only [Bool.and_eq_true,beq_iff_eq] at hy K9
   have e':z.addr=y.addr:=e
   refine List.mem_map.mpr ⟨z,qk,?_⟩
   show (z.server,z.host,z.addr)=(y.server,y.host,y.addr)
   rw [e',K9.1,K9.2,hy.1,hy.2]
  ·exact ih nd.2
def pairAt (H:Hp)(b:Addr):Int×Int:=match H b with
 |some (.tup [.int a,.int c])=>(a,c)
 |_=>(0,0)
theorem lp {H:Hp}{b:Addr}{a c:Nat}(h:H b=some (.tup [nV a,nV c])):pairAt H b=((a:Int),(c:Int)):=by
 unfold pairAt
 rw [h]
 rfl
section
variable {P:Program}{w:World}{K:PySem.W.Frag}{mg:Str→Option Value}{base:Heap}{t:iU}
def QV (C:Cs):Sp:=fun vs H Q _=>∃ (A:Ad)(cas:List Addr)(W:VW)(sv ho:Nat),vs= [.ref A.w,nV sv,nV ho] ∧Rep C H A cas W∧(W.written.map d3).Nodup∧W.written.length < sizeLine∧
 ∀ (H':Hp)(r:Addr)(as:List Addr),aj H H'→H' r=some (.lst (as.map V.ref))→Paired (cH H') (((kF W sv ho).foldr Vbcnag.putIn []).map iF) (as.map V.ref)→H r=none→Q (.ref r) H'
theorem yO (T:Txt K mg t):a7 P w K mg base dY 1 t.cU t.i8 iQ (QV (cs t)):=by
 refine T.l6.ok gN (fun vs H Q E h=> ?_) (fun de A0 outer s H vs Q E hr h=> ?_)
 ·obtain ⟨A,cas,W,sv,ho,rfl,_⟩:=h
  rfl
 ·obtain ⟨A,cas,W,sv,ho,rfl,R,nd,dy,k⟩:=h
  have hu:=fE hr
  refine ⟨_,ak (aH (aU Ed (by rfl) T.Ql0 PyProof.Rows.boot_sorted (aa (AD (Fs (own:= [("key",3),("end",4)]) rfl gN.nd (G5 (ai (pv 0) rfl)) (jw (show Ax rh (ay dQ) _ _=true by decide +kernel)) (fun _ _ _ _ _=>Mc (n:=2) K rfl rfl (kJ (dP (i:=3) gN.nd rfl (Or.inl rfl)) (kJ (dP (i:=4) gN.nd rfl (Or.inl rfl)) Ac))) (fun _ _ _ _ _=>As (PW.pt (gq (aI cf (aE (AJ K rfl) (pv 3) ah (fun _ _=>rfl)) (pv 1) (aM _)) (eF (aI cf (aE (AJ K rfl) (pv 3) ah (fun _ _=>rfl)) (pv 2) (aM _)))))) (fun _ _ _ _ _=>(bx (aa (aE (AJ K rfl) (pv 3) ah (fun _ _=>rfl)) (aa (pv 4) af)))))) af))),?_⟩
  refine ⟨A.wr,_,R.wr,trivial,fun od=> ?_⟩
  have HQ:L2.upd H A.wr (.iw od (.dT (bL W.written))) A.wr=some (.iw od (.dT (bL W.written))):=ab
  have HP:∀b o,b≠A.wr→H b=some o→L2.upd H A.wr (.iw od (.dT (bL W.written))) b=some o:=fun b o n e=>by
   rw [az n]
   exact e
  have back:∀H',aj (L2.upd H A.wr (.iw od (.dT (bL W.written)))) H'→aj H (L2.upd H' A.wr (.dT (bL W.written))):=fun H' S b o e=>by
   by_cases z:b=A.wr
   ·subst z
    rw [R.wr] at e
    rw [←Option.some.inj e]
    exact ab
   ·rw [az z]
    exact S b o (HP b o z e)
  have ali:∀b,L2.upd H A.wr (.iw od (.dT (bL W.written))) b=none→H b=none:=fun b hb=>bX hb
  generalize L2.upd H A.wr (.iw od (.dT (bL W.written)))=H0 at *
  have zk:(bL W.written).length=W.written.length:=List.length_map ..
  refine ⟨_,rfl,A.w,_,_,_,_,rfl,HP _ _ (aW R.cj R.wr (fun q=>nomatch q)) R.cj,T.aw,T.Qla,rfl,A.wr,od,_,rfl,HQ,fun D hD=> ?_⟩
  refine Ee (n:=W.written.length) (fun i H'=>∃as:List Addr,H' D=some (.lst (as.map V.ref))∧Paired (cH H') ((kF {W with written:=W.written.take i} sv ho).map iF) (as.map V.ref)∧aj H0 H') ⟨[],ab,.nil,aj.ao hD⟩ (fun i H' hi lj=> ?_) (fun H' lj=> ?_) (fun i x H' H2 hi lj hy=> ?_) (fun H' lj=> ?_)
  ·obtain ⟨as,_,_,S⟩:=lj
   exact ⟨S _ _ HQ,by rw [zk];exact hi⟩
  ·obtain ⟨as,_,_,S⟩:=lj
   exact ⟨S _ _ HQ,by rw [zk];exact Nat.le_refl _⟩
  ·obtain ⟨as,um,hP,S⟩:=lj
   obtain ⟨T0,ky,v,q,B2,rfl,hT0,rfl,hq⟩:=hy
   have Rm:W.written[i]?=some W.written[i] :=List.getElem?_eq_getElem hi
   have QW:=B2
   unfold bL at QW
   rw [List.getElem?_map,Rm] at QW
   have e:=Option.some.inj QW
   have e1:cC W.written[i].server W.written[i].host W.written[i].addr=ky:=congrArg Prod.fst e
   have e2:nV W.written[i].till=v:=congrArg Prod.snd e
   subst e1 e2
   generalize hx:W.written[i] =y at *
   have ST:=aj.ao (o:=HO.tup [V.ref q,nV y.till]) hT0
   have hTt:L2.upd H' T0 (HO.tup [V.ref q,nV y.till]) T0=some (.tup [V.ref q,nV y.till]):=ab
   generalize L2.upd H' T0 (HO.tup [V.ref q,nV y.till])=H2 at *
   have hq2:H2 q=some (.tup [nV y.server,nV y.host,nV y.addr]):=ST _ _ hq
   have S2:=S.trans ST
   have RG:=ST _ _ um
   have Eb:Paired (cH H2) ((kF {W with written:=W.written.take i} sv ho).map iF) (as.map V.ref):=bj (aj.keep (C:=cs t) ST) hP
   have NO:W.written.take (i + 1)=W.written.take i ++ [y] :=by rw [List.take_add_one,Rm];rfl
   have Nm:¬ (y.server=sv∧y.host=ho)→kF {W with written:=W.written.take (i + 1)} sv ho=kF {W with written:=W.written.take i} sv ho:=fun hn=>by
    unfold kF
    dsimp only
    rw [NO,List.filter_append,List.filter_cons,if_neg (by
     intro z
     simp only [Bool.and_eq_true,beq_iff_eq] at z
     exact hn z),List.filter_nil,List.append_nil]
   refine ⟨T0,_,rfl,bb.of hTt,rfl,_,_,rfl,_,_,rfl,rfl,rfl,?_⟩
   refine ⟨_,rfl,q,_,_,_,rfl,rfl,bb.of hq2,rfl,_,rfl,rfl,_,rfl,?_⟩
   refine dM (fun q1=> ?_) fun q1=> ?_
   ·have h1:y.server=sv:=bp.mp q1
    refine ⟨_,rfl,q,_,_,_,rfl,rfl,bb.of hq2,rfl,_,rfl,rfl,_,rfl,?_⟩
    refine dM (fun q2=> ?_) fun q2=> ?_
    ·have h2:y.host=ho:=bp.mp q2
     refine ⟨_,rfl,q,_,_,_,rfl,rfl,bb.of hq2,rfl,_,rfl,(by show 2≤sizeLine;decide),fun p hp=> ?_⟩
     have Sp:=aj.ao (o:=HO.tup [nV y.addr,nV y.till]) hp
     have ZQ:L2.upd H2 p (HO.tup [nV y.addr,nV y.till]) p=some (.tup [nV y.addr,nV y.till]):=ab
     generalize L2.upd H2 p (HO.tup [nV y.addr,nV y.till])=H3 at *
     have L9:as.length≤i:=by
      have h1:=Paired.length hP
      rw [List.length_map,List.length_map] at h1
      have h2:(kF {W with written:=W.written.take i} sv ho).length≤(W.written.take i).length:=by
       unfold kF
       rw [List.length_map]
       exact List.length_filter_le ..
      rw [List.length_take] at h2
      omega
     refine ⟨_,Sp _ _ RG,(by rw [List.length_map];omega),as ++ [p],?_,?_,?_⟩
     ·rw [ab,List.map_append]
      rfl
     ·have ajd:kF {W with written:=W.written.take (i + 1)} sv ho=kF {W with written:=W.written.take i} sv ho ++ [(y.addr,y.till)] :=by
       unfold kF
       dsimp only
       rw [NO,List.filter_append,List.filter_cons,if_pos (by rw [h1,h2,beq_self_eq_true,beq_self_eq_true];rfl),List.filter_nil,List.map_append]
       rfl
      rw [ajd,List.map_append,List.map_append]
      have kD:∀ {b:Addr}{xs:List V},H3 b=some (.tup xs)→L2.upd H3 D (.lst (as.map V.ref ++ [V.ref p])) b=some (.tup xs):=fun {b xs} e=>by
       rw [az (aW e (Sp _ _ RG) (fun q=>nomatch q))]
       exact e
      refine Paired.vc (Paired.bV Eb fun m v f=> ?_) ⟨p,rfl,kD ZQ⟩
      obtain ⟨b,e,hb⟩:=f
      exact ⟨b,e,kD (Sp _ _ hb)⟩
     ·exact aj.own (S2.trans Sp) hD
    ·refine ⟨as,RG,?_,S2⟩
     rw [Nm fun z=>q2 (bp.mpr z.2)]
     exact Eb
   ·refine ⟨as,RG,?_,S2⟩
    rw [Nm fun z=>q1 (bp.mpr z.1)]
    exact Eb
  ·obtain ⟨as,um,hP,S⟩:=lj
   rw [List.take_length] at hP
   have hP:Paired (cH H') ((kF W sv ho).map iF) (as.map V.ref):=hP
   have Sb:=back _ S
   have nD:D≠A.wr:=cZ HQ hD
   have kW:∀ {b:Addr}{xs:List V},H' b=some (.tup xs)→L2.upd H' A.wr (.dT (bL W.written)) b=some (.tup xs):=fun {b xs} e=>by
    rw [az (aW e (S _ _ HQ) (fun q=>nomatch q))]
    exact e
   have QX:L2.upd H' A.wr (.dT (bL W.written)) D=some (.lst (as.map V.ref)):=by rw [az nD];exact um
   have hP3:Paired (cH (L2.upd H' A.wr (.dT (bL W.written)))) ((kF W sv ho).map iF) (as.map V.ref):=Paired.bV hP fun m v ⟨b,e,hb⟩=>⟨b,e,kW hb⟩
   refine ⟨S _ _ HQ,?_⟩
   generalize L2.upd H' A.wr (.dT (bL W.written))=H5 at *
   have fact:∀ {l:List (Nat×Nat)}{bs:List Addr},Paired (cH H5) (l.map iF) (bs.map V.ref)→(∀b∈bs,∃a c:Nat,H5 b=some (.tup [nV a,nV c]))∧l=bs.map fun b=>((pairAt H5 b).1.toNat,(pairAt H5 b).2.toNat):=by
    intro l
    induction l with
    |nil=>
     intro bs h
     cases bs with
     |nil=>exact ⟨fun b hb=>(by cases hb),rfl⟩
     |cons b bs=>cases h
    |cons x l ih=>
     intro bs h
     cases bs with
     |nil=>cases h
     |cons b bs=>
      cases h with
      |cons f tl=>
       obtain ⟨b',e,hb⟩:=f
       cases e
       obtain ⟨i1,i2⟩:=ih tl
       refine ⟨fun c hc=> ?_,?_⟩
       ·rcases List.mem_cons.mp hc with z|z
        ·rw [z]
         exact ⟨_,_,hb⟩
        ·exact i1 c z
       ·rw [List.map_cons,←i2,lp hb]
        rfl
   obtain ⟨fa,fb⟩:=fact hP3
   refine ⟨D,as,pairAt H5,rfl,bT.of QX,fun b hb=> ?_,fun mY p hp hso hpn=> ?_⟩
   ·obtain ⟨a,c,h⟩:=fa b hb
    rw [lp h]
    exact bb.of h
   ·have Sp:=aj.ao (o:=HO.lst (mY.map V.ref)) hpn
    refine k _ p mY (Sb.trans Sp) ab ?_ (Sb.free hpn)
    have e:(kF W sv ho).foldr Vbcnag.putIn [] =mY.map fun b=>((pairAt H5 b).1.toNat,(pairAt H5 b).2.toNat):=by
     refine vh ?_ (vg _) ?_ ?_
     ·refine (pd _).trans ?_
      rw [fb]
      exact (hp.map _).symm
     ·rw [List.pairwise_map]
      refine hso.imp_of_mem fun {a b} ha hb qB=> ?_
      obtain ⟨a1,a2,h1⟩:=fa a (hp.mem_iff.mp ha)
      obtain ⟨b1,b2,h2⟩:=fa b (hp.mem_iff.mp hb)
      rw [lp h1,lp h2] at qB ⊢
      dsimp only at qB ⊢
      omega
     ·exact ((pd (kF W sv ho)).map (·.1)).nodup_iff.mpr (M4 nd sv ho)
    rw [e]
    clear e hso
    have:∀l:List Addr,(∀b∈l,b∈mY)→Paired (cH (L2.upd H5 p (.lst (mY.map V.ref)))) ((l.map fun b=>((pairAt H5 b).1.toNat,(pairAt H5 b).2.toNat)).map iF) (l.map V.ref):=by
     intro l
     induction l with
     |nil=>exact fun _=> .nil
     |cons b l ih=>
      intro hm
      obtain ⟨a,c,h⟩:=fa b (hp.mem_iff.mp (hm b (List.mem_cons_self ..)))
      refine .cons ⟨b,rfl,?_⟩ (ih fun x hx=>hm x (List.mem_cons_of_mem _ hx))
      dsimp only [iF]
      rw [lp h]
      exact Sp _ _ h
    exact this mY fun b hb=>hb
end
end Rl
namespace Rl
open PySem PySem.Spec PyProof.Rows L2
open Vbcnag (Mark Msg Under Offer Lease Client Relay Assigned Written)
section
variable {P:Program}{w:World}{K:PySem.W.Frag}{mg:Str→Option Value}{base:Heap}{t:iU}
def QY (C:Cs):Sp:=fun vs H Q _=>∃ (A:Ad)(cas:List Addr)(W:VW)(r c:Nat),vs= [.ref A.w,nV r,nV c] ∧Rep C H A cas W∧bC W∧r < W.relays.length∧
 ∀ (H':Hp)(p:Addr)(as:List Addr),aj H H'→H' p=some (.lst (as.map V.ref))→Paired (cH H') (Vbcnag.pathUp W.relays.length W {relay:=r,circuit:=c}) (as.map V.ref)→H p=none→Q (.ref p) H'
def ZR (C:Cs)(H:Hp)(A:Ad)(W:VW)(ras:List Addr)(r c:Nat)(M:Addr):Nat→L2.St→Hp→Prop:=fun m σ Hk=>∃ (kc:Mark)(tl:List Mark)(n:Nat)(ra:Addr)(as:List Addr),
 σ= [some (.ref A.w),some (nV r),some (nV c),some (.ref M),some (.ref ra)] ∧m=kc.relay∧kc.relay < n∧kc.relay < W.relays.length∧tl.length + kc.relay≤64∧ras[kc.relay]?=some ra∧
 Vbcnag.pathUp W.relays.length W {relay:=r,circuit:=c}=Vbcnag.pathUp n W kc ++ tl∧Hk M=some (.lst (as.map V.ref))∧Paired (cH Hk) (kc::tl) (as.map V.ref)∧aj H Hk
theorem EY (T:Txt K mg t):a7 P w K mg base dY 1 t.eX t.oU oM (QY (cs t)):=by
 refine T.tW.ok lC (fun vs H Q E h=> ?_) (fun de A0 outer s H vs Q E hr h=> ?_)
 ·obtain ⟨A,cas,W,r,c,rfl,_⟩:=h
  rfl
 ·obtain ⟨A,cas,W,r,c,rfl,R,wg,da,k⟩:=h
  obtain ⟨ras,HY,QP⟩:=R.rl
  have rel:∀i,i < W.relays.length→∃ (ra dr:Addr)(x:Relay),ras[i]?=some ra∧W.relays[i]?=some x∧H ra=some (.ins (cs t).R dr (Y7 (oV (x.above.map (·.relay))) (oV (x.above.map (·.circuit))) (nV x.limit))):=fun i hi=>by
   obtain ⟨x,hx⟩:∃x,W.relays[i]?=some x:=⟨_,List.getElem?_eq_getElem hi⟩
   obtain ⟨ra,tp,dr,K6⟩:=Paired.at QP hx
   exact ⟨ra,dr,x,tp,hx,K6⟩
  have Lv:∀ {i:Nat}{ra:Addr},ras[i]?=some ra→Cj (ras.map V.ref) (i:Int)=some (V.ref ra):=fun {i ra} h=>gI (by rw [List.getElem?_map,h];rfl)
  have ap3:=wg.C9
  refine ⟨_,ae (aS (i:=3) lC.nd rfl (Or.inl rfl) (aT (aa (bx (aa (pv 1) (aa (pv 2) af))) af)))
   (ae (aS (i:=4) lC.nd rfl (Or.inl rfl) (aE aJ (ai (pv 0) rfl) (pv 1) (fun _ _=>rfl)))
   (ae (qL PassesOwn.never (bD (fR (ai (pv 4) rfl))) (ae (aG (gm PySem.F.plainAttrs_list PySem.F.slot_list_insert PySem.F.type_list_insert Md (pv 3) (aa ah (aa (bx (aa (ai (pv 4) rfl) (aa (ai (pv 4) rfl) af))) af))))
   (ak (aS (i:=4) lC.nd rfl (Or.inl rfl) (aE aJ (ai (pv 0) rfl) (ai (pv 4) rfl) (fun _ _=>rfl))))))
   (ak (aH (pv 3))))),?_⟩
  refine ⟨_,rfl,_,rfl,(by show 2≤sizeLine;decide),fun z hz=> ?_⟩
  have S1:=aj.ao (o:=HO.tup [nV r,nV c]) hz
  have qk:L2.upd H z (HO.tup [nV r,nV c]) z=some (.tup [nV r,nV c]):=ab
  generalize L2.upd H z (HO.tup [nV r,nV c])=H1 at *
  refine ⟨(by show 1≤sizeLine;decide),fun M hM=> ?_⟩
  have hM0:H M=none:=S1.free hM
  have S2:=S1.trans (aj.ao (o:=HO.lst [V.ref z]) hM)
  have K9:=aj.ao (o:=HO.lst [V.ref z]) hM _ _ qk
  have LD:L2.upd H1 M (HO.lst [V.ref z]) M=some (.lst [V.ref z]):=ab
  generalize L2.upd H1 M (HO.lst [V.ref z])=H2 at *
  obtain ⟨ra,dr,x,tp,hx,K6⟩:=rel r da
  refine ⟨_,rfl,A.w,_,_,_,_,rfl,S2 _ _ R.cj,T.aw,T.Qk7,rfl,_,rfl,A.rl,_,_,_,rfl,rfl,bT.of (S2 _ _ HY),Lv tp,?_⟩
  refine ⟨ZR (cs t) H A W ras r c M,⟨r,{relay:=r,circuit:=c},[],W.relays.length,ra,[z],rfl,rfl,da,da,(by show 0 + r≤64;omega),tp,(List.append_nil _).symm,LD,.cons ⟨z,rfl,K9⟩ .nil,S2⟩,?_⟩
  rintro m σ Hk ⟨kc,tl,n,ra,as,rfl,hm,hkn,Kz,LA,tp,hpa,hMk,hP,Sk⟩
  obtain ⟨ra',dr,x,ZS,hx,K6⟩:=rel kc.relay Kz
  rw [tp] at ZS
  cases ZS
  have HZ:=Sk _ _ K6
  have M0:=mf hx
  obtain ⟨n',rfl⟩:∃n',n=n' + 1:=⟨n - 1,by omega⟩
  refine ⟨_,rfl,ra,_,dr,_,_,rfl,HZ,T.bB,T.Qk0,rfl,_,rfl,?_⟩
  cases qB:x.above with
  |none=>
   refine bf ?_
   refine ⟨_,rfl,k Hk M as Sk hMk ?_ hM0⟩
   have e:Vbcnag.pathUp (n' + 1) W kc= [kc] :=by
    unfold Vbcnag.pathUp
    rw [M0,qB]
   rw [hpa,e]
   exact hP
  |some a=>
   have HZ:Hk ra=some (.ins (cs t).R dr (Y7 (nV a.relay) (nV a.circuit) (nV x.limit))):=by
    rw [qB] at HZ
    exact HZ
   have dy:a.relay < kc.relay:=by
    have h0:0 < kc.relay:=by
     rcases Nat.eq_zero_or_pos kc.relay with q|q
     ·obtain ⟨y,hy,Y5⟩:=wg.root
      rw [q,hy] at hx
      cases hx
      rw [Y5] at qB
      cases qB
     ·exact q
    obtain ⟨m',h1,h2⟩:=wg.tree kc.relay x hx h0
    rw [qB] at h1
    cases h1
    exact h2
   obtain ⟨rb,db,y,hrb,hy,hRB⟩:=rel a.relay (by omega)
   refine a8 ⟨fun σ' H'=>∃m',m' < m∧ZR (cs t) H A W ras r c M m' σ' H',fun σ' H' h=>h,?_⟩
   refine ⟨_,rfl,.inl ⟨rfl,_,bT.of hMk⟩,_,rfl,ra,_,dr,_,_,rfl,HZ,T.bB,T.Qk0,rfl,_,rfl,ra,_,dr,_,_,rfl,HZ,T.bB,T.Qky,rfl,(by show 2≤sizeLine;decide),fun q hq=> ?_⟩
   have Sq:=aj.ao (o:=HO.tup [nV a.relay,nV a.circuit]) hq
   have hqq:L2.upd Hk q (HO.tup [nV a.relay,nV a.circuit]) q=some (.tup [nV a.relay,nV a.circuit]):=ab
   generalize L2.upd Hk q (HO.tup [nV a.relay,nV a.circuit])=H5 at *
   have hM5:=Sq _ _ hMk
   have L9:as.length=tl.length + 1:=by
    have:=Paired.length hP
    rw [List.length_map] at this
    exact this.symm
   refine ⟨M,_,_,rfl,rfl,hM5,(by rw [List.length_map,L9];exact Nat.lt_of_le_of_lt (show _≤65 by omega) (by decide)),?_⟩
   have S6:=aj.own (o:=HO.lst (V.ref q::as.map V.ref)) (Sk.trans Sq) hM0
   have k6:∀ {b:Addr}{xs:List V},H5 b=some (.tup xs)→L2.upd H5 M (.lst (V.ref q::as.map V.ref)) b=some (.tup xs):=fun {b xs} e=>by
    rw [az (aW e hM5 (fun q=>nomatch q))]
    exact e
   have hM6:L2.upd H5 M (HO.lst (V.ref q::as.map V.ref)) M=some (.lst ((q::as).map V.ref)):=ab
   have hq6:=k6 hqq
   have hP6:Paired (cH (L2.upd H5 M (HO.lst (V.ref q::as.map V.ref)))) (kc::tl) (as.map V.ref):=Paired.bV hP fun m v ⟨b,e,hb⟩=>⟨b,e,k6 (Sq _ _ hb)⟩
   generalize L2.upd H5 M (HO.lst (V.ref q::as.map V.ref))=H6 at *
   have ajf:H6 ra=some (.ins (cs t).R dr (Y7 (nV a.relay) (nV a.circuit) (nV x.limit))):=by
    have:=S6 _ _ K6
    rw [qB] at this
    exact this
   refine ⟨_,rfl,A.w,_,_,_,_,rfl,S6 _ _ R.cj,T.aw,T.Qk7,rfl,_,rfl,ra,_,dr,_,_,rfl,ajf,T.bB,T.Qk0,rfl,A.rl,_,_,_,rfl,rfl,bT.of (S6 _ _ HY),Lv hrb,?_⟩
   refine ⟨a.relay,(by omega),a,kc::tl,n',rb,q::as,rfl,rfl,(by omega),(by omega),(by show tl.length + 1 + a.relay≤64;omega),hrb,?_,hM6,.cons ⟨q,rfl,hq6⟩ hP6,S6⟩
   have e:Vbcnag.pathUp (n' + 1) W kc=Vbcnag.pathUp n' W a ++ [kc] :=by
    conv=>lhs;unfold Vbcnag.pathUp
    rw [M0,qB]
   rw [hpa,e,List.append_assoc]
   rfl
end
end Rl
namespace Rl
open PySem PySem.Spec PyProof.Rows L2
open Vbcnag (Mark Msg Under Offer Lease Client Relay Assigned Written)
section
variable {P:Program}{w:World}{K:PySem.W.Frag}{mg:Str→Option Value}{base:Heap}{t:iU}
def QZ (C:Cs):Sp:=fun vs H Q _=>∃ (A:Ad)(cas:List Addr)(W:VW),vs= [.ref A.w] ∧Rep C H A cas W∧W.bag.length≤W.cap∧Q (.bl (Vbcnag.full W)) H
theorem xV (T:Txt K mg t):a7 P w K mg base dY 1 t.eY t.oX oO (QZ (cs t)):=by
 refine T.o4.ok Er (fun vs H Q E h=> ?_) (fun de A0 outer s H vs Q E hr h=> ?_)
 ·obtain ⟨A,cas,W,rfl,_⟩:=h
  rfl
 ·obtain ⟨A,cas,W,rfl,R,hb,k⟩:=h
  obtain ⟨bas,mJ,tm⟩:=R.bg
  have hlen:=De tm
  refine ⟨_,ak (aH (iH cf (aU aP (by rfl) T.Qlv PySem.boot_len (aa (ai (pv 0) rfl) af)) (ai (pv 0) rfl) (aM _))),?_⟩
  refine ⟨_,rfl,A.w,_,_,_,_,rfl,R.cj,T.aw,T.Qk2,rfl,A.bg,_,rfl,.inl (bT.of mJ),_,rfl,A.w,_,_,_,_,rfl,R.cj,T.aw,T.Qk3,rfl,rfl,?_⟩
  have e:Vbcnag.full W=decide (V.int ((bas.map V.ref).length:Int)=nV W.cap):=by
   unfold Vbcnag.full
   rw [hlen]
   have:decide (V.int (W.bag.length:Int)=nV W.cap)=decide (W.bag.length=W.cap):=kf
   rw [this]
   exact decide_eq_decide.mpr (by omega)
  rw [e] at k
  exact k
abbrev gK:VW→List Int→Prop:=fun W ns=>∃k:Nat,ns= [(k:Int)] ∧k < W.bag.length
theorem mv {W:VW}{k:Nat}(h:k < W.bag.length):Vbcnag.isPlace W (k:Int)=true:=bh.mpr ⟨by omega,by omega⟩
def Gn:VW→List Int→VW×List Int:=fun W ns=>Vbcnag.inWorld W (.lose (ns.headD 0))
theorem M5 (T:Txt K mg t):a7 P w K mg base dY 8 t.gD t.Bk A6 (a3 gK Gn K (cs t)):=by
 refine T.EA.ok Mp (fun vs H Q E h=> ?_) (fun de A0 outer s H vs Q E hr h=> ?_)
 ·obtain ⟨A,cas,W,nm,ns,rfl,_⟩:=h
  rfl
 ·obtain ⟨A,cas,W,nm,ns,rfl,R,wg,hS,px,⟨kk,rfl,DA⟩,k⟩:=h
  obtain ⟨bas,mJ,tm⟩:=R.bg
  have hb:W.bag.length≤10000:=Nat.le_trans wg.bag wg.cap.2
  have RA:bas.length=W.bag.length:=Paired.length tm
  obtain ⟨u,IE⟩:∃u,W.bag[kk]?=some u:=⟨_,List.getElem?_eq_getElem DA⟩
  obtain ⟨m,QR,MA⟩:=Paired.at tm IE
  have hf:Gn W [(kk:Int)] =({W with bag:=W.bag.eraseIdx kk},[0]):=by
   show (if Vbcnag.isPlace W (kk:Int)=false then _ else _)=_
   rw [mv DA,if_neg (by decide)]
   rfl
  rw [hf] at k
  have R1:=R.EJ (Paired.erase kk tm)
  have F1:dv A cas H (L2.upd H A.bg (.lst ((bas.eraseIdx kk).map V.ref))):=dv.upd (.inr (.inr (.inr (.inr (.inr (.inr (.inr (.inl rfl))))))))
  refine ⟨_,ae (aG (gm PySem.F.plainAttrs_list PySem.F.slot_list_pop PySem.F.type_list_pop Co (ai (pv 0) rfl) (aa (aE aJ (pv 1) ah (fun _ _=>rfl)) af)))
   (ak (aH (aT (aa ah af)))),?_⟩
  refine ⟨_,rfl,A.w,_,_,_,_,rfl,R.cj,T.aw,T.Qk2,rfl,.inl ⟨rfl,_,bT.of mJ⟩,_,rfl,nm,_,_,_,rfl,rfl,hS,rfl,A.bg,_,(kk:Int),kk,V.ref m,rfl,rfl,mJ,(by omega),(by omega),Gk (by rw [List.length_map,RA];exact DA),(by rw [List.getElem?_map,QR];rfl),?_⟩
  rw [oE]
  exact ⟨(by show 1≤sizeLine;decide),fun p hp=>k _ cas p (Rep.same R1 (aj.ao hp)) (F1.trans (aj.dq (aj.ao hp))) (fun b h=> .inl h) ab (bX hp)⟩
def vT:VW→List Int→VW×List Int:=fun W ns=>Vbcnag.inWorld W (.double (ns.headD 0))
theorem Ia (T:Txt K mg t):a7 P w K mg base dY 8 t.dH t.rL rp (a3 gK vT K (cs t)):=by
 refine T.w9.ok Hm (fun vs H Q E h=> ?_) (fun de A0 outer s H vs Q E hr h=> ?_)
 ·obtain ⟨A,cas,W,nm,ns,rfl,_⟩:=h
  rfl
 ·obtain ⟨A,cas,W,nm,ns,rfl,R,wg,hS,px,⟨kk,rfl,DA⟩,k⟩:=h
  obtain ⟨bas,mJ,tm⟩:=R.bg
  have hb:W.bag.length≤10000:=Nat.le_trans wg.bag wg.cap.2
  obtain ⟨u,IE⟩:∃u,W.bag[kk]?=some u:=⟨_,List.getElem?_eq_getElem DA⟩
  obtain ⟨m,QR,MA⟩:=Paired.at tm IE
  have hf:vT W [(kk:Int)] =if Vbcnag.full W=true then (W,[-3]) else ({W with bag:=W.bag ++ [u] },[0]):=by
   show (if Vbcnag.isPlace W (kk:Int)=false then _ else _)=_
   rw [mv DA,if_neg (by decide)]
   show (if Vbcnag.full W=true then (W,[-3]) else ({W with bag:=W.bag ++ (W.bag[(kk:Int).toNat]?).toList},[0]))=_
   rw [Int.toNat_natCast,IE]
   rfl
  rw [hf] at k
  refine ⟨_,ae (aZ (mM (aA (xV T) (hr.mono (by decide)) (by rfl) T.tY T.o4.kp T.tZ .nil aQ (aa (pv 0) af))) (ak (aH (aT (aa (dg bP ah) af)))) aR)
   (ae (aG (aA (xy T) (hr.mono (by decide)) (by rfl) T.zx T.wL.kp T.zy .nil aQ (aa (pv 0) (aa (aE aJ (ai (pv 0) rfl) (aE aJ (pv 1) ah (fun _ _=>rfl)) (fun _ _=>rfl)) af))))
   (ak (aH (aT (aa ah af))))),?_⟩
  refine ⟨_,rfl,A,cas,W,rfl,R,wg.bag,_,rfl,?_⟩
  by_cases Ib:Vbcnag.full W=true
  ·rw [if_pos Ib] at k
   rw [Ib]
   refine a8 ?_
   exact ⟨_,rfl,(by show 1≤sizeLine;decide),fun p hp=>k _ cas p (R.same (aj.ao hp)) (aj.dq (aj.ao hp)) (fun b h=> .inl h) ab hp⟩
  ·rw [if_neg Ib] at k
   rw [Bool.eq_false_iff.mpr Ib]
   refine bf ?_
   have dy:W.bag.length < W.cap:=by
    unfold Vbcnag.full at Ib
    simpa using Ib
   refine ⟨_,rfl,_,rfl,A.w,_,_,_,_,rfl,R.cj,T.aw,T.Qk2,rfl,_,rfl,nm,_,_,_,rfl,rfl,hS,rfl,A.bg,_,_,_,rfl,rfl,bT.of mJ,gI (by rw [List.getElem?_map,QR];rfl),A,cas,W,m,u,rfl,R,hb,MA,fun H1 R1 F1=> ?_⟩
   rw [nW,if_pos dy] at R1
   exact ⟨(by show 1≤sizeLine;decide),fun p hp=>k _ cas p (Rep.same R1 (aj.ao hp)) (F1.trans (aj.dq (aj.ao hp))) (fun b h=> .inl h) ab (R1.jt F1 hp)⟩
def Gp:VW→List Int→VW×List Int:=fun W ns=>Vbcnag.inWorld W (.peek (ns.headD 0))
theorem zY (u:Under)(h:u.msg.marks.length≤32):(Vbcnag.shown u).length≤100:=by
 have hf:(Vbcnag.markNums u.msg.marks).length=2 * u.msg.marks.length + 1:=by
  show (cM u.msg.marks).length + 1=_
  rw [jv]
 unfold Vbcnag.shown
 cases u.place <;>simp only [List.length_append,List.length_cons,Vbcnag.nums,List.length_map,List.length_nil,hf] <;>omega
theorem M6 (T:Txt K mg t):a7 P w K mg base dY 8 t.gF t.Bm A9 (a3 gK Gp K (cs t)):=by
 refine T.EC.ok Mq (fun vs H Q E h=> ?_) (fun de A0 outer s H vs Q E hr h=> ?_)
 ·obtain ⟨A,cas,W,nm,ns,rfl,_⟩:=h
  rfl
 ·obtain ⟨A,cas,W,nm,ns,rfl,R,wg,hS,px,⟨kk,rfl,DA⟩,k⟩:=h
  obtain ⟨bas,mJ,tm⟩:=R.bg
  obtain ⟨u,IE⟩:∃u,W.bag[kk]?=some u:=⟨_,List.getElem?_eq_getElem DA⟩
  obtain ⟨m,QR,MA⟩:=Paired.at tm IE
  have MG:=wg.msgs u (List.mem_of_getElem? IE)
  have hf:Gp W [(kk:Int)] =(W,0::Vbcnag.shown u):=by
   show (if Vbcnag.isPlace W (kk:Int)=false then _ else _)=_
   rw [mv DA,if_neg (by decide)]
   show (W,0::((W.bag[(kk:Int).toNat]?).map Vbcnag.shown).getD [])=_
   rw [Int.toNat_natCast,IE]
   rfl
  rw [hf] at k
  refine ⟨_,ak (aH (bW Ap (aT (aa ah af)) (aA (oy T) (hr.mono (by decide)) (by rfl) T.kn T.iu.kp T.ko .nil aQ (aa (aE aJ (ai (pv 0) rfl) (aE aJ (pv 1) ah (fun _ _=>rfl)) (fun _ _=>rfl)) af)))),?_⟩
  refine ⟨(by show 1≤sizeLine;decide),fun z hz=> ?_⟩
  have S1:=aj.ao (o:=HO.lst [V.int 0]) hz
  have qk:L2.upd H z (HO.lst [V.int 0]) z=some (.lst [V.int 0]):=ab
  generalize L2.upd H z (HO.lst [V.int 0])=H1 at *
  refine ⟨_,rfl,A.w,_,_,_,_,rfl,S1 _ _ R.cj,T.aw,T.Qk2,rfl,_,rfl,nm,_,_,_,rfl,rfl,S1.seq hS,rfl,A.bg,_,_,_,rfl,rfl,bT.of (S1 _ _ mJ),gI (by rw [List.getElem?_map,QR];rfl),m,u,rfl,MA.keep (aj.keep (C:=cs t) S1),MG.marks,fun H2 r S2 HX va=> ?_⟩
  have hsl:=zY u MG.marks
  refine ⟨z,r,_,_,rfl,rfl,S2 _ _ qk,HX,(by rw [List.length_map];show 1 + _≤sizeLine;exact Nat.le_trans (show _≤101 by omega) (by decide)),fun p hp=> ?_⟩
  have S3:=(S1.trans S2).trans (aj.ao (o:=HO.lst ([V.int 0] ++ (Vbcnag.shown u).map V.int)) hp)
  exact k _ cas p (R.same S3) (aj.dq S3) (fun b h=> .inl h) ab ((S1.trans S2).free hp)
def sW:VW→List Int→VW×List Int:=fun W ns=>Vbcnag.inWorld W (.client (ns.headD 0))
theorem xW (T:Txt K mg t):a7 P w K mg base dY 8 t.bo t.gU gO (a3 g1 sW K (cs t)):=by
 refine T.kr.ok m4 (fun vs H Q E h=> ?_) (fun de A0 outer s H vs Q E hr h=> ?_)
 ·obtain ⟨A,cas,W,nm,ns,rfl,_⟩:=h
  rfl
 ·obtain ⟨A,cas,W,nm,ns,rfl,R,wg,hS,px,⟨h0,rfl,hh⟩,k⟩:=h
  obtain ⟨n,rfl⟩:=xH hh
  have hu:=fE hr
  refine ⟨_,ae (aS (i:=2) m4.nd rfl (Or.inl rfl) (fS hu (ai (pv 0) rfl) (aE aJ (pv 1) ah (fun _ _=>rfl)) ⟨rfl,rfl,rfl,rfl⟩))
   (ae (aZ (bD (fQ (pv 2))) (ak (aH (aT (aa (dg bP ah) af)))) aR)
   (ak (aH (bW Ap (aT (aa ah af)) (aA (yN T) (hr.mono (by decide)) (by rfl) T.sj T.l5.kp T.sk .nil aQ (aa (pv 2) af)))))),?_⟩
  rcases R.find n with ⟨hc,DG⟩|⟨i,ca,c,d,pl,be,le,hc,yg,hi,cJ,ml,da,DG⟩
  ·have hf:sW W [(n:Int)] =(W,[-2]):=ll hh hc
   rw [hf] at k
   refine ⟨_,rfl,A.w,_,_,_,_,rfl,R.cj,T.aw,T.Qk4,rfl,A.cd,rfl,.inl ⟨_,.inl R.cd⟩,_,rfl,nm,_,_,_,rfl,rfl,hS,rfl,_,DG,?_⟩
   refine ⟨_,rfl,_,rfl,a8 ?_⟩
   exact ⟨_,rfl,(by show 1≤sizeLine;decide),fun p hp=>k _ cas p (R.same (aj.ao hp)) (aj.dq (aj.ao hp)) (fun b h=> .inl h) ab hp⟩
  ·have hf:sW W [(n:Int)] =(W,0::Vbcnag.clientSaid c):=ff hh hc
   rw [hf] at k
   refine ⟨_,rfl,A.w,_,_,_,_,rfl,R.cj,T.aw,T.Qk4,rfl,A.cd,rfl,.inl ⟨_,.inl R.cd⟩,_,rfl,nm,_,_,_,rfl,rfl,hS,rfl,_,DG,?_⟩
   refine ⟨_,rfl,_,rfl,bf ?_⟩
   refine ⟨(by show 1≤sizeLine;decide),fun z hz=> ?_⟩
   have S1:=aj.ao (o:=HO.lst [V.int 0]) hz
   have qk:L2.upd H z (HO.lst [V.int 0]) z=some (.lst [V.int 0]):=ab
   generalize L2.upd H z (HO.lst [V.int 0])=H1 at *
   refine ⟨_,rfl,ca,c,rfl,⟨d,pl,be,le,S1 _ _ ml,da.keep (aj.keep (C:=cs t) S1)⟩,fun H2 r S2 HX va=> ?_⟩
   refine ⟨z,r,_,_,rfl,rfl,S2 _ _ qk,HX,?_,fun p hp=> ?_⟩
   ·rw [List.length_map,Gm]
    cases c.place <;>cases c.best <;>cases c.lease <;>(show 17≤sizeLine;decide)
   ·have S3:=(S1.trans S2).trans (aj.ao (o:=HO.lst ([V.int 0] ++ (Vbcnag.clientSaid c).map V.int)) hp)
    exact k _ cas p (R.same S3) (aj.dq S3) (fun b h=> .inl h) ab ((S1.trans S2).free hp)
end
end Rl
namespace Rl
open PySem PySem.Spec PyProof.Rows L2
open Vbcnag (Mark Msg Under Offer Lease Client Relay Assigned Written)
theorem Lf (l:List (Nat×Nat)):Vbcnag.pairs l=0::Vbcnag.markNums (l.map iF):=by
 unfold Vbcnag.pairs Vbcnag.markNums
 rw [List.length_map,List.flatMap_map]
 rfl
theorem DB:∀ (n:Nat)(W:VW)(k:Mark),(Vbcnag.pathUp n W k).length≤n
 |0,_,_=>Nat.le_refl _
 |n + 1,W,k=>by
  unfold Vbcnag.pathUp
  split
  ·show 1≤n + 1
   omega
  ·rename_i a _
   rw [List.length_append]
   exact Nat.succ_le_succ (DB n W a)
theorem zZ (l:List Mark):(Vbcnag.markNums l).length=2 * l.length + 1:=by
 show (cM l).length + 1=_
 rw [jv]
section
variable {P:Program}{w:World}{K:PySem.W.Frag}{mg:Str→Option Value}{base:Heap}{t:iU}
abbrev xX:VW→List Int→Prop:=fun W ns=>W.written.length≤500000∧∃s h:Nat,ns= [(s:Int),(h:Int)] ∧(Vbcnag.isServer W (s:Int) && Vbcnag.isHost (h:Int))=true
def sX:VW→List Int→VW×List Int:=fun W ns=>match ns with
 | [s,h] =>Vbcnag.inWorld W (.written s h)
 |_=>(W,[])
theorem vz (T:Txt K mg t):a7 P w K mg base dY 8 t.a9 t.f9 fW (a3 xX sX K (cs t)):=by
 refine T.jD.ok vt (fun vs H Q E h=> ?_) (fun de A0 outer s H vs Q E hr h=> ?_)
 ·obtain ⟨A,cas,W,nm,ns,rfl,_⟩:=h
  rfl
 ·obtain ⟨A,cas,W,nm,ns,rfl,R,wg,hS,px,⟨zk,sv,ho,rfl,hh⟩,k⟩:=h
  have cX:∀T:Txt K mg t,a7 P w K mg base dY 1 t.bR t.eA ej (vS K):=fun T=>Rl.cX T
  have hf:sX W [(sv:Int),(ho:Int)] =(W,0::Vbcnag.markNums (((kF W sv ho).foldr Vbcnag.putIn []).map iF)):=by
   show (if (Vbcnag.isServer W (sv:Int) && Vbcnag.isHost (ho:Int))=false then _ else _)=_
   rw [hh,if_neg (by decide)]
   rw [←Lf]
   rfl
  rw [hf] at k
  have dy:W.written.length < sizeLine:=Nat.lt_of_le_of_lt zk (by decide)
  refine ⟨_,ak (aH (bW Ap (aT (aa ah af)) (aA (cX T) (hr.mono (by decide)) (by rfl) T.j7 T.iy.kp T.j8 .nil aQ (aa (aA (yO T) (hr.mono (by decide)) (by rfl) T.sm T.l6.kp T.so .nil aQ (aa (pv 0) (aa (aE aJ (pv 1) ah (fun _ _=>rfl)) (aa (aE aJ (pv 1) ah (fun _ _=>rfl)) af)))) af)))),?_⟩
  refine ⟨(by show 1≤sizeLine;decide),fun z hz=> ?_⟩
  have S1:=aj.ao (o:=HO.lst [V.int 0]) hz
  have qk:L2.upd H z (HO.lst [V.int 0]) z=some (.lst [V.int 0]):=ab
  generalize L2.upd H z (HO.lst [V.int 0])=H1 at *
  refine ⟨_,rfl,_,rfl,nm,_,_,_,rfl,rfl,S1.seq hS,rfl,_,rfl,nm,_,_,_,rfl,rfl,S1.seq hS,rfl,A,cas,W,sv,ho,rfl,R.same S1,wg.Qv,dy,fun H2 r as S2 HX Eb va=> ?_⟩
  have hle:(((kF W sv ho).foldr Vbcnag.putIn []).map iF).length≤500000:=by
   rw [List.length_map,(pd _).length_eq]
   unfold kF
   rw [List.length_map]
   exact Nat.le_trans (List.length_filter_le ..) zk
  refine ⟨r,_,_,rfl,.inl (bT.of HX),Eb,Nat.le_trans hle (by decide),fun H3 q S3 LB RF=> ?_⟩
  refine ⟨z,q,_,_,rfl,rfl,S3 _ _ (S2 _ _ qk),LB,?_,fun p hp=> ?_⟩
  ·rw [List.length_map,zZ]
   show 1 + _≤sizeLine
   exact Nat.le_trans (show _≤1000002 by omega) (by decide)
  ·have S4:=((S1.trans S2).trans S3).trans (aj.ao (o:=HO.lst ([V.int 0] ++ (Vbcnag.markNums (((kF W sv ho).foldr Vbcnag.putIn []).map iF)).map V.int)) hp)
   exact k _ cas p (R.same S4) (aj.dq S4) (fun b h=> .inl h) ab (((S1.trans S2).trans S3).free hp)
abbrev Lg:VW→List Int→Prop:=fun W ns=>∃r c:Nat,ns= [(r:Int),(c:Int)] ∧r < W.relays.length∧(Vbcnag.isRelay W (r:Int) && Vbcnag.isCircuit (c:Int))=true
def Gq:VW→List Int→VW×List Int:=fun W ns=>match ns with
 | [r,c] =>Vbcnag.inWorld W (.path r c)
 |_=>(W,[])
theorem BU (T:Txt K mg t):a7 P w K mg base dY 8 t.bJ t.j3 jV (a3 Lg Gq K (cs t)):=by
 refine T.nN.ok Ba (fun vs H Q E h=> ?_) (fun de A0 outer s H vs Q E hr h=> ?_)
 ·obtain ⟨A,cas,W,nm,ns,rfl,_⟩:=h
  rfl
 ·obtain ⟨A,cas,W,nm,ns,rfl,R,wg,hS,px,⟨rr,cc,rfl,da,hh⟩,k⟩:=h
  have cX:∀T:Txt K mg t,a7 P w K mg base dY 1 t.bR t.eA ej (vS K):=fun T=>Rl.cX T
  have hf:Gq W [(rr:Int),(cc:Int)] =(W,0::Vbcnag.markNums (Vbcnag.pathUp W.relays.length W {relay:=rr,circuit:=cc})):=by
   show (if (Vbcnag.isRelay W (rr:Int) && Vbcnag.isCircuit (cc:Int))=false then _ else _)=_
   rw [hh,if_neg (by decide)]
   rfl
  rw [hf] at k
  refine ⟨_,ak (aH (bW Ap (aT (aa ah af)) (aA (cX T) (hr.mono (by decide)) (by rfl) T.j7 T.iy.kp T.j8 .nil aQ (aa (aA (EY T) (hr.mono (by decide)) (by rfl) T.zB T.tW.kp T.zC .nil aQ (aa (pv 0) (aa (aE aJ (pv 1) ah (fun _ _=>rfl)) (aa (aE aJ (pv 1) ah (fun _ _=>rfl)) af)))) af)))),?_⟩
  refine ⟨(by show 1≤sizeLine;decide),fun z hz=> ?_⟩
  have S1:=aj.ao (o:=HO.lst [V.int 0]) hz
  have qk:L2.upd H z (HO.lst [V.int 0]) z=some (.lst [V.int 0]):=ab
  generalize L2.upd H z (HO.lst [V.int 0])=H1 at *
  refine ⟨_,rfl,_,rfl,nm,_,_,_,rfl,rfl,S1.seq hS,rfl,_,rfl,nm,_,_,_,rfl,rfl,S1.seq hS,rfl,A,cas,W,rr,cc,rfl,R.same S1,wg,da,fun H2 r as S2 HX Eb va=> ?_⟩
  have hle:(Vbcnag.pathUp W.relays.length W {relay:=rr,circuit:=cc}).length≤64:=Nat.le_trans (DB _ _ _) wg.C9
  refine ⟨r,_,_,rfl,.inl (bT.of HX),Eb,Nat.le_trans hle (by decide),fun H3 q S3 LB RF=> ?_⟩
  refine ⟨z,q,_,_,rfl,rfl,S3 _ _ (S2 _ _ qk),LB,?_,fun p hp=> ?_⟩
  ·rw [List.length_map,zZ]
   show 1 + _≤sizeLine
   exact Nat.le_trans (show _≤1000002 by omega) (by decide)
  ·have S4:=((S1.trans S2).trans S3).trans (aj.ao (o:=HO.lst ([V.int 0] ++ (Vbcnag.markNums (Vbcnag.pathUp W.relays.length W {relay:=rr,circuit:=cc})).map V.int)) hp)
   exact k _ cas p (R.same S4) (aj.dq S4) (fun b h=> .inl h) ab (((S1.trans S2).trans S3).free hp)
abbrev g0:VW→List Int→Prop:=fun _ ns=>ns= []
def fState:VW→List Int→VW×List Int:=fun W _=>Vbcnag.inWorld W .state
theorem yP (T:Txt K mg t):a7 P w K mg base dY 8 t.bA t.i9 iS (a3 g0 fState K (cs t)):=by
 refine T.l7.ok yx (fun vs H Q E h=> ?_) (fun de A0 outer s H vs Q E hr h=> ?_)
 ·obtain ⟨A,cas,W,nm,ns,rfl,_⟩:=h
  rfl
 ·obtain ⟨A,cas,W,nm,ns,rfl,R,wg,hS,px,rfl,k⟩:=h
  obtain ⟨bas,mJ,tm⟩:=R.bg
  obtain ⟨ras,HY,QP⟩:=R.rl
  have hu:=fE hr
  refine ⟨_,ak (aH (aT (aa ah (aa (ai (pv 0) rfl) (aa (aU aP (by rfl) T.Qlv PySem.boot_len (aa (ai (pv 0) rfl) af)) (aa (aU aP (by rfl) T.Qlv PySem.boot_len (aa (ai (pv 0) rfl) af)) (aa (aU zg (by rfl) T.Qlv PySem.boot_len (aa (ai (pv 0) rfl) af)) af))))))),?_⟩
  refine ⟨_,rfl,A.w,_,_,_,_,rfl,R.cj,T.aw,T.Qk6,rfl,_,rfl,A.w,_,_,_,_,rfl,R.cj,T.aw,T.Qk2,rfl,A.bg,_,rfl,.inl (bT.of mJ),_,rfl,A.w,_,_,_,_,rfl,R.cj,T.aw,T.Qk7,rfl,A.rl,_,rfl,.inl (bT.of HY),
   _,rfl,A.w,_,_,_,_,rfl,R.cj,T.aw,T.Qk4,rfl,A.cd,_,rfl,R.cd,(by show 5≤sizeLine;decide),fun p hp=> ?_⟩
  refine k _ cas p (R.same (aj.ao hp)) (aj.dq (aj.ao hp)) (fun b h=> .inl h) ?_ hp
  have e1:=De tm
  have e2:(ras.map V.ref).length=W.relays.length:=by rw [List.length_map];exact Paired.length QP
  have e3:=mn (cl:=W.clients) R.len
  rw [ab,e1,e2,e3]
  rfl
def Lh:VW→List Int→VW×List Int:=fun W _=>Vbcnag.inWorld W .next
theorem DD {W:VW}{M:Int}(h1:M∈(W.clients.filterMap (·.due)).map (fun (n:Nat)=>(n:Int)))(h2:∀z∈(W.clients.filterMap (·.due)).map (fun (n:Nat)=>(n:Int)),M≤z):(match Vbcnag.soonest (Vbcnag.dues W) with|some x=>(x.1:Int)|none=> -1)=M:=by
 obtain ⟨d,hd,rfl⟩:=List.mem_map.mp h1
 obtain ⟨c,hc,qI⟩:=List.mem_filterMap.mp hd
 cases hs:Vbcnag.soonest (Vbcnag.dues W) with
 |none=>
  have:=sH hs
  have m:(d,c.host)∈Vbcnag.dues W:=fu.mpr ⟨c,hc,qI,rfl⟩
  rw [this] at m
  cases m
 |some z=>
  obtain ⟨hm,fj⟩:=fq hs
  obtain ⟨c',Nf,Q0,_⟩:=fu.mp hm
  have a:=fj (d,c.host) (fu.mpr ⟨c,hc,qI,rfl⟩)
  have b:=h2 (z.1:Int) (List.mem_map.mpr ⟨z.1,List.mem_filterMap.mpr ⟨c',Nf,Q0⟩,rfl⟩)
  show (z.1:Int)=d
  unfold fo at a
  dsimp only at a
  omega
theorem BV (T:Txt K mg t):a7 P w K mg base dY 8 t.bK t.j4 jW (a3 g0 Lh K (cs t)):=by
 refine T.nO.ok lG (fun vs H Q E h=> ?_) (fun de A0 outer s H vs Q E hr h=> ?_)
 ·obtain ⟨A,cas,W,nm,ns,rfl,_⟩:=h
  rfl
 ·obtain ⟨A,cas,W,nm,ns,rfl,R,wg,hS,px,rfl,k⟩:=h
  have hu:=fE hr
  have hlen:=wg.sM
  refine ⟨_,ak (aH (aT (aa ah (aa (Fy rfl (by rfl) T.Qly (AD (Fs (own:= [("client",2)]) rfl lG.nd (zf (ai (pv 0) rfl)) (jw (show Ax uH (ay ek) _ _=true by decide +kernel)) (fun _ _ _ _ _=>dP (i:=2) lG.nd rfl (Or.inl rfl)) (fun _ _ _ _ _=>As (bD (fR (lx K rfl (pv 2) rfl)))) (fun _ _ _ _ _=>(lx K rfl (pv 2) rfl)))) (dg bP ah)) af)))),?_⟩
  refine ⟨A.cd,_,R.cd,trivial,fun od=> ?_⟩
  have qI:L2.upd H A.cd (.iw od (.dK (ba cas W.clients))) A.cd=some (.iw od (.dK (ba cas W.clients))):=ab
  have HP:∀b o,b≠A.cd→H b=some o→L2.upd H A.cd (.iw od (.dK (ba cas W.clients))) b=some o:=fun b o n e=>by
   rw [az n]
   exact e
  have back:∀H',aj (L2.upd H A.cd (.iw od (.dK (ba cas W.clients)))) H'→aj H (L2.upd H' A.cd (.dK (ba cas W.clients))):=fun H' S b o e=>by
   by_cases z:b=A.cd
   ·subst z
    rw [R.cd] at e
    rw [←Option.some.inj e]
    exact ab
   ·rw [az z]
    exact S b o (HP b o z e)
  generalize L2.upd H A.cd (.iw od (.dK (ba cas W.clients)))=H0 at *
  refine ⟨_,rfl,A.w,_,_,_,_,rfl,HP _ _ (aW R.cj R.cd (fun q=>nomatch q)) R.cj,T.aw,T.Qk4,rfl,A.cd,od,_,rfl,qI,fun D hD=> ?_⟩
  refine F9 (fun i H'=>H' D=some (.lst (((W.clients.take i).filterMap (·.due)).map nV))∧aj H0 H') ⟨ab,aj.ao hD⟩ (fun i H' _ lj=>lj.2 _ _ qI) (fun i ky x H' hx lj=> ?_) (fun H' lj=> ?_)
  ·obtain ⟨um,S⟩:=lj
   obtain ⟨ca,cl,cJ,Fp,rfl⟩:=zQ hx
   obtain ⟨d,pl,be,le,ml,da⟩:=R.fM Fp cJ
   have Kw:=S _ _ (HP _ _ (aW ml R.cd (fun q=>nomatch q)) ml)
   refine ⟨rfl,?_⟩
   refine ⟨_,rfl,ca,_,d,_,_,rfl,Kw,T.aq,T.Qkh,rfl,_,rfl,?_⟩
   cases hdu:cl.due with
   |none=>
    refine bf ⟨?_,S⟩
    rw [List.take_add_one,Fp,List.filterMap_append]
    show _=some (HO.lst ((_ ++ List.filterMap _ [cl]).map nV))
    rw [List.filterMap_cons,hdu,List.filterMap_nil,List.append_nil]
    exact um
   |some dd=>
    rw [show qH cl pl be le=qH {cl with due:=some dd} pl be le by rw [←hdu]] at Kw
    refine a8 ?_
    refine ⟨_,rfl,ca,_,d,_,_,rfl,Kw,T.aq,T.Qkh,rfl,_,um,?_,?_,?_⟩
    ·rw [List.length_map]
     refine Nat.lt_of_le_of_lt (List.length_filterMap_le ..) ?_
     rw [List.length_take]
     exact Nat.lt_of_le_of_lt (show _≤64 by omega) (by decide)
    ·rw [ab,List.take_add_one,Fp,List.filterMap_append]
     show _=some (HO.lst ((_ ++ List.filterMap _ [cl]).map nV))
     rw [List.filterMap_cons,hdu,List.filterMap_nil,List.map_append]
     rfl
    ·exact aj.own S hD
  ·obtain ⟨um,S⟩:=lj
   rw [mn R.len,List.take_length] at um
   have nD:D≠A.cd:=cZ qI hD
   have Sb:=back _ S
   refine ⟨S _ _ qI,?_⟩
   have RG:L2.upd H' A.cd (.dK (ba cas W.clients)) D=some (.lst (((W.clients.filterMap (·.due)).map (fun (n:Nat)=>(n:Int))).map V.int)):=by
    rw [az nD,um,List.map_map]
    rfl
   generalize L2.upd H' A.cd (.dK (ba cas W.clients))=H5 at *
   refine ⟨_,rfl,D,_,rfl,bT.of RG,fun ajh=> ?_,fun M mK LD=> ?_⟩
   ·refine ⟨(by show 2≤sizeLine;decide),fun p hp=> ?_⟩
    have S6:=Sb.trans (aj.ao (o:=HO.lst [V.int 0,V.int (-1)]) hp)
    refine k _ cas p (R.same S6) (aj.dq S6) (fun b h=> .inl h) ?_ (Sb.free hp)
    have hs:Vbcnag.soonest (Vbcnag.dues W)=none:=by
     cases hs:Vbcnag.soonest (Vbcnag.dues W) with
     |none=>rfl
     |some z=>
      obtain ⟨c',Nf,Q0,_⟩:=fu.mp (fq hs).1
      have:(z.1:Int)∈(W.clients.filterMap (·.due)).map (fun (n:Nat)=>(n:Int)):=List.mem_map.mpr ⟨z.1,List.mem_filterMap.mpr ⟨c',Nf,Q0⟩,rfl⟩
      rw [ajh] at this
      cases this
    rw [ab]
    show _=some (HO.lst (List.map V.int [0,match Vbcnag.soonest (Vbcnag.dues W) with|some x=>(x.1:Int)|none=> -1]))
    rw [hs]
    rfl
   ·refine ⟨(by show 2≤sizeLine;decide),fun p hp=> ?_⟩
    have S6:=Sb.trans (aj.ao (o:=HO.lst [V.int 0,V.int M]) hp)
    refine k _ cas p (R.same S6) (aj.dq S6) (fun b h=> .inl h) ?_ (Sb.free hp)
    rw [ab]
    show _=some (HO.lst (List.map V.int [0,match Vbcnag.soonest (Vbcnag.dues W) with|some x=>(x.1:Int)|none=> -1]))
    rw [DD mK LD]
    rfl
end
end Rl
namespace Rl
open PySem PySem.Spec PyProof.Rows L2
open Vbcnag (Mark Msg Under Offer Lease Client Relay Assigned Written)
theorem Ic {W:VW}(g:bC W){k:Nat}(hk:k < W.bag.length):(Vbcnag.delivered W k).1.bag=W.bag.eraseIdx k ++ (Vbcnag.delivered W k).2:=by
 obtain ⟨u,hu⟩:∃u,W.bag[k]?=some u:=⟨_,List.getElem?_eq_getElem hk⟩
 obtain ⟨_,_,_,h4,_⟩:=sN (mh g k) (u:=u) (g.msgs u (List.mem_of_getElem? hu))
 unfold Vbcnag.delivered
 rw [hu]
 dsimp only
 rw [fe]
 show (Vbcnag.handled {W with bag:=W.bag.eraseIdx k} u).1.bag ++ _=_
 rw [h4]
theorem Paired.drop {α β:Type}{F:α→β→Prop}:∀ {l:List α}{m:List β}(n:Nat),Paired F l m→Paired F (l.drop n) (m.drop n)
 |_,_,0,h=>h
 |_,_,_ + 1,.nil=> .nil
 |_,_,n + 1,.cons _ t=>Paired.drop n t
def kG (l:List Under):List Int:=l.flatMap fun u=>((Vbcnag.shown u).length:Int)::Vbcnag.shown u
theorem vi (l:List Under)(u:Under):kG (l ++ [u])=kG l ++ (((Vbcnag.shown u).length:Int)::Vbcnag.shown u):=by
 unfold kG
 rw [List.flatMap_append]
 show _ ++ (_ ++ [])=_
 rw [List.append_nil]
theorem xY:∀ {l:List Under},(∀u∈l,u.msg.marks.length≤32)→(kG l).length≤101 * l.length
 | [],_=>Nat.le_refl _
 |u::l,h=>by
  have h1:=zY u (h u (List.mem_cons_self ..))
  have h2:=xY (l:=l) fun v hv=>h v (List.mem_cons_of_mem _ hv)
  show ((_::Vbcnag.shown u) ++ kG l).length≤_
  rw [List.length_append,List.length_cons,List.length_cons]
  omega
section
variable {P:Program}{w:World}{K:PySem.W.Frag}{mg:Str→Option Value}{base:Heap}{t:iU}
abbrev xZ:VW→List Int→Prop:=fun W ns=>W.written.length≤500000∧gK W ns
def sY:VW→List Int→VW×List Int:=fun W ns=>Vbcnag.inWorld W (.deliver (ns.headD 0))
theorem EZ (T:Txt K mg t):a7 P w K mg base dY 10 t.c6 t.oY oP (a3 xZ sY K (cs t)):=by
 refine T.ua.ok jz (fun vs H Q E h=> ?_) (fun de A0 outer s H vs Q E hr h=> ?_)
 ·obtain ⟨A,cas,W,nm,ns,rfl,_⟩:=h
  rfl
 ·obtain ⟨A,cas,W,nm,ns,rfl,R,wg,hS,px,⟨zk,kk,rfl,DA⟩,k⟩:=h
  obtain ⟨bas,mJ,tm⟩:=R.bg
  have CK:=eC T
  have hlen:=De tm
  have dy:W.written.length < sizeLine:=Nat.lt_of_le_of_lt zk (by decide)
  have hf:sY W [(kk:Int)] =((Vbcnag.delivered W kk).1,0::((Vbcnag.delivered W kk).2.length:Int)::kG (Vbcnag.delivered W kk).2):=by
   show (if Vbcnag.isPlace W (kk:Int)=false then _ else _)=_
   rw [mv DA,if_neg (by decide)]
   rfl
  rw [hf] at k
  have Ko:=Ic wg DA
  have RH:=(gg wg kk).1
  generalize hW':(Vbcnag.delivered W kk).1=W' at *
  generalize hms:(Vbcnag.delivered W kk).2=ms at *
  have hel:(W.bag.eraseIdx kk).length=W.bag.length - 1:=by
   rw [List.length_eraseIdx,if_pos DA]
  have ap9:W'.bag.length=W.bag.length - 1 + ms.length:=by rw [Ko,List.length_append,hel]
  have LY:W'.bag.length≤10000:=Nat.le_trans RH.bag RH.cap.2
  refine ⟨_,ae (aS (i:=2) jz.nd rfl (Or.inl rfl) (bW DU (aU aP (by rfl) T.Qlv PySem.boot_len (aa (ai (pv 0) rfl) af)) ah))
   (ae (aG (aA (ql T) (hr.mono (by decide)) (by rfl) T.lZ T.jc.kp T.l3 .nil aQ (aa (pv 0) (aa (aE aJ (pv 1) ah (fun _ _=>rfl)) af))))
   (ae (aS (i:=3) jz.nd rfl (Or.inl rfl) (aT (aa ah (aa (bW DU (aU aP (by rfl) T.Qlv PySem.boot_len (aa (ai (pv 0) rfl) af)) (pv 2)) af))))
   (ae (v7 PassesOwn.never rfl (oz (qQ Ak (ai (pv 0) rfl) (qP (pv 2)) Af)) (dP (i:=4) jz.nd rfl (Or.inl rfl)) (ae (aS (i:=5) jz.nd rfl (Or.inl rfl) (aA (oy T) (hr.mono (by decide)) (by rfl) T.kn T.iu.kp T.ko .nil aQ (aa (pv 4) af)))
   (ae (aG (gm PySem.F.plainAttrs_list PySem.F.slot_list_append PySem.F.type_list_append kL (pv 3) (aa (aU aP (by rfl) T.Qlv PySem.boot_len (aa (pv 5) af)) af)))
   (ak (aG (gm PySem.F.plainAttrs_list PySem.F.slot_list_extend PySem.F.type_list_extend kM (pv 3) (aa (pv 5) af)))))))
   (ak (aH (pv 3)))))),?_⟩
  refine ⟨_,rfl,A.w,_,_,_,_,rfl,R.cj,T.aw,T.Qk2,rfl,A.bg,_,rfl,.inl (bT.of mJ),_,_,rfl,rfl,?_⟩
  refine ⟨_,rfl,_,rfl,nm,_,_,_,rfl,rfl,hS,rfl,A,cas,W,kk,rfl,R,wg,dy,DA,fun H1 R1 F1=> ?_⟩
  rw [hW'] at R1
  obtain ⟨uu,ZT,ZU⟩:=R1.bg
  have NR:=De ZU
  refine ⟨_,rfl,A.w,_,_,_,_,rfl,R1.cj,T.aw,T.Qk2,rfl,A.bg,_,rfl,.inl (bT.of ZT),_,rfl,_,_,rfl,rfl,(by show 2≤sizeLine;decide),fun r va=> ?_⟩
  generalize yK:L2.upd H1 r _=H2
  have eL:(((bas.map V.ref).length:Int) - 1)=((W.bag.length - 1:Nat):Int):=by
   rw [hlen]
   omega
  have HX:H2 r=some (.lst ((0::(ms.length:Int)::kG (ms.take 0)).map V.int)):=by
   rw [←yK,ab]
   have e2:(((uu.map V.ref).length:Int) - (((bas.map V.ref).length:Int) - 1))=(ms.length:Int):=by
    rw [NR,hlen]
    omega
   show some (HO.lst [V.int 0,V.int (((uu.map V.ref).length:Int) - (((bas.map V.ref).length:Int) - 1))])=_
   rw [e2]
   rfl
  have S2:aj H1 H2:=by rw [←yK];exact aj.ao va
  clear yK
  have aji:H r=none:=R1.jt F1 va
  refine ⟨_,rfl,A.w,_,_,_,_,rfl,S2 _ _ R1.cj,T.aw,T.Qk2,rfl,_,rfl,_,rfl,A.bg,_,rfl,bT.of (S2 _ _ ZT),fun L hL=> ?_⟩
  have ec:qt (uu.map V.ref) (some (((bas.map V.ref).length:Int) - 1)) none=(uu.drop (W.bag.length - 1)).map V.ref:=by
   rw [eL,xU (by rw [NR];omega),List.map_drop]
  rw [ec]
  have S3:=aj.ao (o:=HO.lst ((uu.drop (W.bag.length - 1)).map V.ref)) hL
  have hL3:L2.upd H2 L (HO.lst ((uu.drop (W.bag.length - 1)).map V.ref)) L=some (.lst ((uu.drop (W.bag.length - 1)).map V.ref)):=ab
  have nLr:L≠r:=cZ HX hL
  generalize L2.upd H2 L (HO.lst ((uu.drop (W.bag.length - 1)).map V.ref))=H3 at *
  have ID:=S2.trans S3
  have hP:Paired (fL (cs t) H1) (uu.drop (W.bag.length - 1)) ms:=by
   have h:=Paired.drop (W.bag.length - 1) ZU
   have e:W'.bag.drop (W.bag.length - 1)=ms:=by rw [Ko,←hel,List.drop_left]
   rw [e] at h
   exact h
  have ZJ:=cb.mp hP
  have NS:∀u∈ms,u.msg.marks.length≤32:=fun u hu=>(RH.msgs u (by rw [Ko];exact List.mem_append_right _ hu)).marks
  have aqb:ms.length≤10000:=by omega
  refine ⟨L,rfl,⟨_,bT.of hL3⟩,?_⟩
  refine v8 (K:=K) (a:=L) (xs:=(uu.drop (W.bag.length - 1)).map V.ref) (fun i σ Hk=>∃v4 v5,σ= [some (V.ref A.w),some (V.ref nm),some (V.int (((bas.map V.ref).length:Int) - 1)),some (V.ref r),v4,v5] ∧Hk r=some (.lst ((0::(ms.length:Int)::kG (ms.take i)).map V.int))∧∀b o,H3 b=some o→b≠r→Hk b=some o)
   ⟨none,none,rfl,S3 _ _ HX,fun b o e _=>e⟩ (fun i σ Hk _ hk=> ?_) (fun i x σ Hk hx hk=> ?_) (fun σ Hk hk=> ?_)
  ·obtain ⟨v4,v5,_,_,zb⟩:=hk
   exact bT.of (zb _ _ hL3 nLr)
  ·obtain ⟨v4,v5,rfl,ZV,zb⟩:=hk
   rw [List.getElem?_map] at hx
   obtain ⟨m,hm,rfl⟩:∃m,(uu.drop (W.bag.length - 1))[i]?=some m∧x=V.ref m:=by
    cases q:(uu.drop (W.bag.length - 1))[i]? with
    |none=>rw [q] at hx;cases hx
    |some m=>rw [q] at hx;exact ⟨m,rfl,(Option.some.inj hx).symm⟩
   have hi:i < ms.length:=by
    rw [←ZJ.1]
    exact (List.getElem?_eq_some_iff.mp hm).1
   have hu:ms[i]?=some ms[i] :=List.getElem?_eq_getElem hi
   have MA:=ZJ.2 i m _ hm hu
   generalize ms[i] =u at *
   have ajj:=NS u (List.mem_of_getElem? hu)
   have kk1:c9 (cs t) H1 Hk:=fun b o fx e=>zb b o (ID _ _ e) (fun q=>by
    rw [q,va] at e
    cases e)
   have NO:ms.take (i + 1)=ms.take i ++ [u] :=by rw [List.take_add_one,hu];rfl
   have Rq:(kG (ms.take (i + 1))).length≤101 * 10000:=by
    refine Nat.le_trans (xY fun v hv=>NS v (List.mem_of_mem_take hv)) ?_
    have:(ms.take (i + 1)).length≤ms.length:=by rw [List.length_take];omega
    omega
   rw [NO,vi,List.length_append,List.length_cons] at Rq
   refine ⟨_,rfl,m,u,rfl,MA.keep kk1,ajj,fun H4 q S4 hq4 RF=> ?_⟩
   have hr4:=S4 _ _ ZV
   have nqr:q≠r:=cZ ZV RF
   refine ⟨_,rfl,.inl ⟨rfl,_,bT.of hr4⟩,_,rfl,q,_,rfl,.inl (bT.of hq4),r,_,_,rfl,rfl,hr4,?_,?_⟩
   ·rw [List.length_map,List.length_cons,List.length_cons]
    exact Nat.lt_of_le_of_lt (show _≤101 * 10000 + 2 by omega) (by decide)
   refine ⟨_,rfl,.inl ⟨rfl,_,bT.of ab⟩,_,rfl,r,q,_,_,rfl,rfl,ab,(by rw [az nqr];exact hq4),?_,?_⟩
   ·simp only [List.length_append,List.length_map,List.length_cons,List.length_nil]
    exact Nat.le_trans (show _≤101 * 10000 + 2 by omega) (by decide)
   rw [bS]
   refine ⟨some (V.ref m),some (V.ref q),rfl,?_,fun b o e n=> ?_⟩
   ·rw [ab,NO,vi,List.length_map]
    show _=some (HO.lst ((0::(ms.length:Int)::(kG (ms.take i) ++ _)).map V.int))
    rw [←List.cons_append,←List.cons_append,List.map_append,List.append_assoc]
    rfl
   ·rw [az n]
    exact S4 _ _ (zb b o e n)
  ·obtain ⟨v4,v5,rfl,ZV,zb⟩:=hk
   have hxl:((uu.drop (W.bag.length - 1)).map V.ref).length=ms.length:=by rw [List.length_map];exact ZJ.1
   rw [hxl,List.take_length] at ZV
   have S1k:aj H1 Hk:=fun b o e=>zb b o (ID _ _ e) (fun q=>by
    rw [q,va] at e
    cases e)
   exact ⟨_,rfl,k Hk cas r (R1.same S1k) (F1.trans (aj.dq S1k)) (fun b h=> .inl h) ZV aji⟩
end
end Rl
namespace Rl
open PySem PySem.Spec PyProof.Rows L2
open Vbcnag (Mark Msg Under Offer Lease Client Relay Assigned Written)
section
variable {P:Program}{w:World}{K:PySem.W.Frag}{mg:Str→Option Value}{base:Heap}{t:iU}
abbrev Li:VW→List Int→Prop:=fun W ns=>W.written.length≤500000∧∃m:Nat,ns= [(m:Int)] ∧m≤1000
def Gr:VW→List Int→VW×List Int:=fun W ns=>Vbcnag.inWorld W (.flow (ns.headD 0))
def ZW (C:Cs)(H:Hp)(A:Ad)(cas:List Addr)(W:VW)(nm:Addr)(m:Nat):Nat→L2.St→Hp→Prop:=fun μ σ Hk=>∃ (d:Nat)(V':VW),σ= [some (.ref A.w),some (.ref nm),some (nV d)] ∧μ=m - d∧d≤m∧bC V'∧V'.written.length≤500000 + d∧
 (Vbcnag.flows m W).1=(Vbcnag.flows (m - d) V').1∧(Vbcnag.flows m W).2=(Vbcnag.flows (m - d) V').2 + d∧Rep C Hk A cas V'∧dv A cas H Hk
theorem M7 (T:Txt K mg t):a7 P w K mg base dY 10 t.gE t.Bl A7 (a3 Li Gr K (cs t)):=by
 refine T.EB.ok A8 (fun vs H Q E h=> ?_) (fun de A0 outer s H vs Q E hr h=> ?_)
 ·obtain ⟨A,cas,W,nm,ns,rfl,_⟩:=h
  rfl
 ·obtain ⟨A,cas,W,nm,ns,rfl,R,wg,hS,px,⟨zk,m,rfl,hm⟩,k⟩:=h
  have hf:Gr W [(m:Int)] =((Vbcnag.flows m W).1,[0,((Vbcnag.flows m W).2:Int)]):=by
   show (if Vbcnag.within (m:Int) 0 1000=false then _ else _)=_
   rw [bh.mpr ⟨by omega,by omega⟩,if_neg (by decide)]
   rfl
  rw [hf] at k
  refine ⟨_,ae (aS (i:=2) A8.nd rfl (Or.inl rfl) ah)
   (ae (qL PassesOwn.never (PW.pt (gq (aI kK (pv 2) (aE aJ (pv 1) ah (fun _ _=>rfl)) (aM _)) (eF (aI qN (aU aP (by rfl) T.Qlv PySem.boot_len (aa (ai (pv 0) rfl) af)) ah (aM _))))) (ae (aG (aA (ql T) (hr.mono (by decide)) (by rfl) T.lZ T.jc.kp T.l3 .nil aQ (aa (pv 0) (aa ah af))))
   (ak (DQ (i:=2) A8.nd rfl (Or.inl rfl) ah DR))))
   (ak (aH (aT (aa ah (aa (pv 2) af)))))),?_⟩
  refine ⟨ZW (cs t) H A cas W nm m,⟨m,0,W,rfl,rfl,Nat.zero_le _,wg,zk,rfl,rfl,R,dv.refl⟩,?_⟩
  rintro μ σ Hk ⟨d,V',rfl,hμ,hd,RH,aqf,e1,e2,Rk,Fk⟩
  have IC:bT K Hk nm ([(m:Int)].map V.int):=by
   rcases hS with (h|⟨o,h⟩)|h
   ·exact .inl (.inl (Fk _ _ h px))
   ·exact .inl (.inr ⟨o,Fk _ _ h px⟩)
   ·exact .inr h
  obtain ⟨bas,mJ,tm⟩:=Rk.bg
  have hlen:=De tm
  have fin:∀ (NT:(Vbcnag.flows (m - d) V')=(V',0)),[V.int 0,nV d].length≤sizeLine∧∀p,Hk p=none→Q (.ref p) (L2.upd Hk p (.lst [V.int 0,nV d])):=fun NT=>by
   refine ⟨(by show 2≤sizeLine;decide),fun p hp=> ?_⟩
   rw [NT] at e1 e2
   rw [e1,e2] at k
   refine k _ cas p (Rk.same (aj.ao hp)) (Fk.trans (aj.dq (aj.ao hp))) (fun b h=> .inl h) ?_ (Rk.jt Fk hp)
   rw [ab,Nat.zero_add]
   rfl
  refine ⟨_,rfl,_,rfl,nm,_,_,_,rfl,rfl,IC,rfl,_,_,rfl,rfl,_,rfl,?_⟩
  refine dM (fun q=> ?_) fun q=> ?_
  ·have hdm:d < m:=by
    have:=of_decide_eq_true q
    omega
   refine ⟨_,rfl,A.w,_,_,_,_,rfl,Rk.cj,T.aw,T.Qk2,rfl,A.bg,_,rfl,.inl (bT.of mJ),_,_,rfl,rfl,_,rfl,?_⟩
   refine dM (fun q2=> ?_) fun q2=> ?_
   ·have ZX:0 < V'.bag.length:=by
     have:=of_decide_eq_true q2
     rw [hlen] at this
     omega
    refine ⟨fun σ' H'=>∃m',m' < μ∧ZW (cs t) H A cas W nm m m' σ' H',fun σ' H' h=>h,?_⟩
    refine ⟨_,rfl,A,cas,V',0,rfl,Rk,RH,Nat.lt_of_le_of_lt (show _≤501000 by omega) (by decide),ZX,fun H1 R1 F1=> ?_⟩
    obtain ⟨g1,h1⟩:=gg RH 0
    have hmd:m - d=(m - (d + 1)) + 1:=by omega
    have efl:Vbcnag.flows (m - d) V'=((Vbcnag.flows (m - (d + 1)) (Vbcnag.delivered V' 0).1).1,(Vbcnag.flows (m - (d + 1)) (Vbcnag.delivered V' 0).1).2 + 1):=by
     rw [hmd]
     show (if V'.bag.isEmpty=true then _ else _)=_
     rw [if_neg (by
      intro z
      rw [List.isEmpty_iff] at z
      rw [z] at ZX
      exact absurd ZX (Nat.lt_irrefl _))]
    rw [efl] at e1 e2
    refine ⟨_,rfl,_,_,rfl,rfl,m - (d + 1),(by omega),d + 1,_,rfl,rfl,hdm,g1,(by omega),e1,?_,R1,Fk.trans F1⟩
    rw [e2]
    dsimp only
    omega
   ·have ZX:V'.bag= [] :=by
     apply List.eq_nil_of_length_eq_zero
     have:¬ (0:Int) < ((bas.map V.ref).length:Int):=fun z=>q2 (decide_eq_true z)
     rw [hlen] at this
     omega
    refine ⟨_,rfl,fin ?_⟩
    obtain ⟨n',hn'⟩:∃n',m - d=n' + 1:=⟨m - d - 1,by omega⟩
    rw [hn']
    show (if V'.bag.isEmpty=true then _ else _)=_
    rw [if_pos (by rw [ZX];rfl)]
  ·have hdm:d=m:=by
    have:¬ (d:Int) < (m:Int):=fun z=>q (decide_eq_true z)
    omega
   refine bf ⟨_,rfl,fin ?_⟩
   rw [hdm,Nat.sub_self]
   rfl
end
end Rl
namespace Rl
open PySem PySem.Spec PyProof.Rows L2
open Vbcnag (Mark Msg Under Offer Lease Client Relay Assigned Written)
theorem z0:∀ {ms:List Mark}{i:Nat}{m:Mark},ms[i]?=some m→(cM ms)[2 * i]?=some (m.relay:Int)∧(cM ms)[2 * i + 1]?=some (m.circuit:Int)
 | [],_,_,h=>by simp at h
 |x::ms,0,m,h=>by
  have e:x=m:=Option.some.inj h
  subst e
  exact ⟨rfl,rfl⟩
 |x::ms,i + 1,m,h=>by
  have h':ms[i]?=some m:=h
  obtain ⟨h1,h2⟩:=z0 h'
  have e:cM (x::ms)=(x.relay:Int)::(x.circuit:Int)::cM ms:=rfl
  rw [e,show 2 * (i + 1)=2 * i + 1 + 1 by omega]
  exact ⟨h1,h2⟩
theorem qm:∀ms:List Mark,Vbcnag.marksIn (cM ms)=ms
 | [] =>rfl
 |x::ms=>by
  show Vbcnag.mark (x.relay:Int) (x.circuit:Int)::Vbcnag.marksIn (cM ms)=_
  rw [qm ms]
  rfl
theorem rg2 (q:Nat)(h:q≤16):RgC 8 (((8 + 2 * q:Nat)):Int) 2 q:=by
 have all:∀q:Fin 17,Builtin.Range.small 8 (((8 + 2 * q.val:Nat)):Int) 2=true∧Builtin.Range.rangeSize 8 (((8 + 2 * q.val:Nat)):Int) 2=(q.val:Int):=by decide
 obtain ⟨h1,h2⟩:=all ⟨q,by omega⟩
 exact ⟨by decide,by decide,h1,h2⟩
section
variable {P:Program}{w:World}{K:PySem.W.Frag}{mg:Str→Option Value}{base:Heap}{t:iU}
def x3 (r c h n kd a hp:Nat)(sv:Option Nat)(ms:List Mark):List Int:=(r:Int)::(c:Int)::(h:Int)::(n:Int)::(kd:Int)::Vbcnag.optional sv::(a:Int)::(hp:Int)::cM ms
abbrev E1:VW→List Int→Prop:=fun W ns=>∃ (r c h n kd a hp:Nat)(sv:Option Nat)(ms:List Mark),ns=x3 r c h n kd a hp sv ms∧ms.length≤16∧
 (Vbcnag.isRelay W (r:Int) && (Vbcnag.isCircuit (c:Int) && (Vbcnag.isHost (h:Int) && (decide (1≤(n:Int)) && (Vbcnag.within (kd:Int) 1 5 && (Vbcnag.within (Vbcnag.optional sv) (-1) ((W.servers:Int) - 1) && (Vbcnag.within (a:Int) 0 (Vbcnag.ADDRS - 1) && Vbcnag.within (hp:Int) 0 16)))))))=true∧
 ¬ ((cM ms).length % 2=1∨32 < (cM ms).length∨(cM ms).any (fun x=> !Vbcnag.isCircuit x)=true)
def x4:VW→List Int→VW×List Int:=fun W ns=>match ns with
 |r::c::h::n::k::s::a::p::marks=>Vbcnag.inWorld W (.forge r c h n k s a p marks)
 |_=>(W,[])
def Gs (r c h n kd a hp:Nat)(sv:Option Nat)(ms:List Mark):Under:={place:= .up r c,msg:={host:=h,number:=n,kind:=kd,server:=sv,addr:=a,hops:=hp,marks:=ms} }
theorem Lj (T:Txt K mg t):a7 P w K mg base dY 10 t.eZ t.vM vJ (a3 E1 x4 K (cs t)):=by
 refine T.Br.ok kZ (fun vs H Q E h=> ?_) (fun de A0 outer s H vs Q E hr h=> ?_)
 ·obtain ⟨A,cas,W,nm,ns,rfl,_⟩:=h
  rfl
 ·obtain ⟨A,cas,W,nm,ns,rfl,R,wg,hS,px,⟨r,c,h,n,kd,a,hp,sv,ms,rfl,hms,hh1,hh2⟩,k⟩:=h
  have hu:=fE hr
  have CK:=eC T
  have hb:W.bag.length≤10000:=Nat.le_trans wg.bag wg.cap.2
  have vR:(if Vbcnag.optional sv < 0 then none else some (Vbcnag.optional sv).toNat)=sv:=by
   cases sv with
   |none=>rfl
   |some x=>exact if_neg (by show ¬ (x:Int) < 0;omega)
  have hf:x4 W (x3 r c h n kd a hp sv ms)=if (Vbcnag.below W {relay:=r,circuit:=c}).isSome=true then (W,[-2]) else if (Vbcnag.clientOf W h).any (fun x=>decide ((n:Int)≤(x.counter:Int)))=false then (W,[-3]) else if Vbcnag.full W=true then (W,[-4]) else ({W with bag:=W.bag ++ [Gs r c h n kd a hp sv ms] },[0]):=by
   show (if _=false then _ else if _ then _ else _)=_
   rw [hh1,if_neg (by decide),if_neg hh2,qm]
   show (if _ then _ else if _ then _ else if _ then _ else (({W with bag:=W.bag ++ [Gs r c h n kd a hp (if Vbcnag.optional sv < 0 then none else some (Vbcnag.optional sv).toNat) ms] }:VW),([0] :List Int)))=_
   rw [vR]
   rfl
  rw [hf] at k
  obtain ⟨kvs,Gb,Kz,B2⟩:=R.hd
  have hnl:((x3 r c h n kd a hp sv ms).map V.int).length=8 + 2 * ms.length:=by
   rw [List.length_map]
   show (cM ms).length + 8=_
   rw [jv]
   omega
  have yQ:∀ (i:Nat)(v:Int),(x3 r c h n kd a hp sv ms)[i]?=some v→Cj ((x3 r c h n kd a hp sv ms).map V.int) (i:Int)=some (V.int v):=fun i v e=>gI (by rw [List.getElem?_map,e];rfl)
  have HP:=yQ 0 r rfl
  have at1:=yQ 1 c rfl
  have at2:=yQ 2 h rfl
  have at3:=yQ 3 n rfl
  have at4:=yQ 4 kd rfl
  have at5:=yQ 5 (Vbcnag.optional sv) rfl
  have at6:=yQ 6 a rfl
  have at7:=yQ 7 hp rfl
  have atm:∀ (i:Nat)(m:Mark),ms[i]?=some m→Cj ((x3 r c h n kd a hp sv ms).map V.int) (8 + (i:Nat) * 2)=some (nV m.relay)∧Cj ((x3 r c h n kd a hp sv ms).map V.int) (8 + (i:Nat) * 2 + 1)=some (nV m.circuit):=fun i m e=>by
   obtain ⟨h1,h2⟩:=z0 e
   have e1:(8:Int) + (i:Nat) * 2=((8 + 2 * i:Nat):Int):=by omega
   have e2:(8:Int) + (i:Nat) * 2 + 1=((8 + (2 * i + 1):Nat):Int):=by omega
   rw [e2,e1]
   have sh:∀j,(x3 r c h n kd a hp sv ms)[8 + j]?=(cM ms)[j]?:=fun j=>by
    rw [Nat.add_comm]
    rfl
   exact ⟨yQ _ _ ((sh _).trans h1),yQ _ _ ((sh _).trans h2)⟩
  generalize hns:(x3 r c h n kd a hp sv ms).map V.int=xs at *
  obtain ⟨ZH,K7,K8⟩:=T.J4
  refine ⟨_,ae (aS (i:=2) kZ.nd rfl (Or.inl rfl) (bx (aa (aE aJ (pv 1) ah (fun _ _=>rfl)) (aa (aE aJ (pv 1) ah (fun _ _=>rfl)) af))))
   (ae (aS (i:=3) kZ.nd rfl (Or.inl rfl) (fS hu (ai (pv 0) rfl) (aE aJ (pv 1) ah (fun _ _=>rfl)) ⟨rfl,rfl,rfl,rfl⟩))
   (ae (aZ (bD (AB hu (pv 2) (ai (pv 0) rfl))) (ak (aH (aT (aa (dg bP ah) af)))) aR)
   (ae (aZ (PW.pt (qJ (bD (fQ (pv 3))) (lr (aI qN (aE aJ (pv 1) ah (fun _ _=>rfl)) (ai (pv 3) rfl) (aM _))))) (ak (aH (aT (aa (dg bP ah) af)))) aR)
   (ae (aZ (mM (aA (xV T) (hr.mono (by decide)) (by rfl) T.tY T.o4.kp T.tZ .nil aQ (aa (pv 0) af))) (ak (aH (aT (aa (dg bP ah) af)))) aR)
   (ae (aS (i:=4) kZ.nd rfl (Or.inl rfl) (Ce (aI cf (aE aJ (pv 1) ah (fun _ _=>rfl)) (dg bP ah) (aM _)) dO (aE aJ (pv 1) ah (fun _ _=>rfl))))
   (ae (wq (i:=5) (own:= [("at",6)]) rfl kZ.nd rfl rfl (Av rfl rfl rfl (by decide +kernel)) (GR (by rfl) T.Qlz (aa ah (aa (aU aP (by rfl) T.Qlv PySem.boot_len (aa (pv 1) af)) (aa ah af)))) (jw (show Ax FE (ay lF) _ _=true by decide +kernel)) (fun _ _ _ _ _=>dP (i:=6) kZ.nd rfl (Or.inl rfl)) (fun _ _ _ _ _=>vB) (fun _ _ _ _ _=>(bx (aa (aE (CJ K rfl) (pv 1) (pv 6) (fun _ _=>rfl)) (aa (aE (CJ K rfl) (pv 1) (bW dz (pv 6) ah) (fun _ _=>rfl)) af)))))
   (ae (aG (aA (xy T) (hr.mono (by decide)) (by rfl) T.zx T.wL.kp T.zy .nil aQ (aa (pv 0) (aa (jM T.Qhj (By T) (hr.mono (by decide)) (by rfl) T.k7 T.eB .nil aQ (aa (bW Fm (bx (aa (aC (by rfl) K7 K8) af)) (pv 2)) (aa (aE aJ (pv 1) ah (fun _ _=>rfl)) (aa (aE aJ (pv 1) ah (fun _ _=>rfl)) (aa (aE aJ (pv 1) ah (fun _ _=>rfl)) (aa (pv 4) (aa (aE aJ (pv 1) ah (fun _ _=>rfl)) (aa ah (aa (aE aJ (pv 1) ah (fun _ _=>rfl)) (aa (y4 yk (by rfl) T.Ql1 PyProof.Rows.boot_tuple (aa (pv 5) af)) af)))))))))) af))))
   (ak (aH (aT (aa ah af))))))))))),?_⟩
  refine ⟨_,rfl,nm,_,_,_,rfl,rfl,hS,HP,_,rfl,nm,_,_,_,rfl,rfl,hS,at1,(by show 2≤sizeLine;decide),fun z hz=> ?_⟩
  have S1:=aj.ao (o:=HO.tup [nV r,nV c]) hz
  have qk:L2.upd H z (HO.tup [nV r,nV c]) z=some (.tup [nV r,nV c]):=ab
  generalize yd:L2.upd H z (HO.tup [V.int (r:Int),V.int (c:Int)])=H1
  have S1:aj H H1:=by rw [←yd];exact S1
  have qk:H1 z=some (.tup [nV r,nV c]):=by rw [←yd];exact qk
  clear yd
  have R1:=R.same S1
  have zm:=S1.seq hS
  have hzk:H1 z=some (.tup ((uf r c).map kV)):=qk
  have DG:=fC.t (S1 _ _ Gb) hzk
  rw [B2 {relay:=r,circuit:=c}] at DG
  have ajm:∃cv:V,(∃o,fC H1 A.cd (V.int (h:Int)) o∧o.getD .bu=cv)∧((Vbcnag.clientOf W h=none∧cv= .bu)∨∃ca cl d pl be le,Vbcnag.clientOf W h=some cl∧cv= .ref ca∧H1 ca=some (.ins (cs t).C d (qH cl pl be le))):=by
   rcases R1.find h with ⟨hc,DG⟩|⟨i,ca,cl,d,pl,be,le,hc,yg,hi,cJ,ml,da,DG⟩
   ·exact ⟨_,⟨_,DG,rfl⟩,.inl ⟨hc,rfl⟩⟩
   ·exact ⟨_,⟨_,DG,rfl⟩,.inr ⟨ca,cl,d,pl,be,le,hc,rfl,ml⟩⟩
  obtain ⟨cv,⟨o,DGc,rfl⟩,hcv⟩:=ajm
  refine ⟨_,rfl,A.w,_,_,_,_,rfl,R1.cj,T.aw,T.Qk4,rfl,A.cd,rfl,.inl ⟨_,.inl R1.cd⟩,_,rfl,nm,_,_,_,rfl,rfl,zm,at2,_,DGc,?_⟩
  generalize o.getD .bu=cv at *
  refine ⟨_,rfl,_,rfl,A.w,_,_,_,_,rfl,R1.cj,T.aw,T.Qk5,rfl,A.hd,_,rfl,DG,_,rfl,?_⟩
  have out:∀ (Hk:Hp)(e:Int),aj H Hk→x4 W (x3 r c h n kd a hp sv ms)=(W,[e])→∀p,Hk p=none→Q (.ref p) (L2.upd Hk p (.lst [V.int e])):=fun Hk e Sk he p hp=>by
   rw [←hf,he] at k
   have S2:=Sk.trans (aj.ao (o:=HO.lst [V.int e]) hp)
   exact k _ cas p (R.same S2) (aj.dq S2) (fun b h=> .inl h) ab (Sk.free hp)
  cases LG:Vbcnag.below W {relay:=r,circuit:=c} with
  |some q=>
   refine a8 ?_
   rw [if_pos (by rw [LG];rfl)] at hf
   exact ⟨_,rfl,(by show 1≤sizeLine;decide),out H1 (-2) S1 hf⟩
  |none=>
   have hbn:¬ (Vbcnag.below W {relay:=r,circuit:=c}).isSome=true:=by rw [LG];exact Bool.false_ne_true
   rw [if_neg hbn] at hf k
   refine bf ?_
   rcases hcv with ⟨hc,rfl⟩|⟨ca,cl,d,pl,be,le,hc,rfl,ml⟩
   ·rw [if_pos (by rw [hc];rfl)] at hf
    exact ⟨_,rfl,_,rfl,a8 (a8 ⟨_,rfl,(by show 1≤sizeLine;decide),out H1 (-3) S1 hf⟩)⟩
   ·refine ⟨_,rfl,_,rfl,bf ?_⟩
    refine ⟨_,rfl,nm,_,_,_,rfl,rfl,zm,at3,_,rfl,ca,_,d,_,_,rfl,ml,T.aq,T.Qkg,rfl,_,_,rfl,rfl,_,rfl,?_⟩
    refine dM (fun q=> ?_) fun q=> ?_
    ·have h1:(Vbcnag.clientOf W h).any (fun x=>decide ((n:Int)≤(x.counter:Int)))=false:=by
      rw [hc]
      show decide ((n:Int)≤(cl.counter:Int))=false
      have:=of_decide_eq_true q
      exact decide_eq_false (by omega)
     rw [if_pos h1] at hf
     exact ⟨_,rfl,(by show 1≤sizeLine;decide),out H1 (-3) S1 hf⟩
    have h1:¬ (Vbcnag.clientOf W h).any (fun x=>decide ((n:Int)≤(x.counter:Int)))=false:=by
     rw [hc]
     show ¬decide ((n:Int)≤(cl.counter:Int))=false
     rw [decide_eq_true (by
      have:¬ (cl.counter:Int) < (n:Int):=fun z=>q (decide_eq_true z)
      omega)]
     decide
    rw [if_neg h1] at hf k
    refine ⟨_,rfl,A,cas,W,rfl,R1,wg.bag,_,rfl,?_⟩
    by_cases Ib:Vbcnag.full W=true
    ·rw [if_pos Ib] at hf
     rw [Ib]
     exact a8 ⟨_,rfl,(by show 1≤sizeLine;decide),out H1 (-4) S1 hf⟩
    rw [if_neg Ib] at k
    rw [Bool.eq_false_iff.mpr Ib]
    refine bf ?_
    have ZY:W.bag.length < W.cap:=by
     unfold Vbcnag.full at Ib
     simpa using Ib
    refine ⟨_,rfl,nm,_,_,_,rfl,rfl,zm,at5,_,rfl,rfl,_,rfl,?_⟩
    cases hq:sv with
    |none=>
     rw [hq] at at5
     refine a8 ?_
     refine ⟨_,rfl,nm,xs,rfl,.inl zm,8,_,2,ms.length,rfl,(by rw [hnl];exact rg2 _ hms),fun D hD=> ?_⟩
     refine Ee (n:=ms.length) (fun i H'=>∃as:List Addr,H' D=some (.lst (as.map V.ref))∧Paired (cH H') (ms.take i) (as.map V.ref)∧aj H1 H') ⟨[],ab,.nil,aj.ao hD⟩ (fun i H' hi _=>hi) (fun H' _=>Nat.le_refl _) (fun i x H' H2 hi lj hy=> ?_) (fun H' lj=> ?_)
     ·obtain ⟨as,um,hP,Sk⟩:=lj
      obtain ⟨rfl,rfl⟩:=hy
      have ZZ:ms[i]?=some ms[i] :=List.getElem?_eq_getElem hi
      obtain ⟨ta,tb⟩:=atm i ms[i] ZZ
      generalize ms[i] =mi at *
      have IC:=Sk.seq zm
      refine ⟨rfl,xG ?_⟩
      refine ⟨_,rfl,_,rfl,nm,_,_,_,rfl,rfl,IC,ta,_,rfl,_,rfl,_,_,rfl,rfl,nm,_,_,_,rfl,rfl,IC,tb,(by show 2≤sizeLine;decide),fun p hp=> ?_⟩
      have Sp:=aj.ao (o:=HO.tup [nV mi.relay,nV mi.circuit]) hp
      have ZQ:L2.upd H2 p (HO.tup [nV mi.relay,nV mi.circuit]) p=some (.tup [nV mi.relay,nV mi.circuit]):=ab
      generalize L2.upd H2 p (HO.tup [nV mi.relay,nV mi.circuit])=H3 at *
      have QX:=Sp _ _ um
      have L9:as.length≤16:=by
       have h1:=Paired.length hP
       rw [List.length_map,List.length_take] at h1
       omega
      refine ⟨_,QX,(by rw [List.length_map];exact Nat.lt_of_le_of_lt L9 (by decide)),as ++ [p],?_,?_,aj.own (Sk.trans Sp) hD⟩
      ·rw [ab,List.map_append]
       rfl
      ·rw [List.take_add_one,ZZ,List.map_append]
       have kD:∀ {b:Addr}{ys:List V},H3 b=some (.tup ys)→L2.upd H3 D (.lst (as.map V.ref ++ [V.ref p])) b=some (.tup ys):=fun {b ys} e=>by
        rw [az (aW e QX (fun q=>nomatch q))]
        exact e
       refine Paired.vc (Paired.bV hP fun m v f=> ?_) ⟨p,rfl,kD ZQ⟩
       obtain ⟨b,e,hb⟩:=f
       exact ⟨b,e,kD (Sp _ _ hb)⟩
     ·obtain ⟨as,um,hP,Sk⟩:=lj
      rw [List.take_length] at hP
      refine ⟨_,rfl,(by show 1≤sizeLine;decide),fun z1 Jf=> ?_⟩
      have Sa:=aj.ao (o:=HO.tup [V.int 0]) Jf
      have hza:L2.upd H' z1 (HO.tup [V.int 0]) z1=some (.tup [V.int 0]):=ab
      generalize L2.upd H' z1 (HO.tup [V.int 0])=H3 at *
      have S3:=Sk.trans Sa
      refine ⟨_,rfl,z1,z,_,_,rfl,rfl,bb.of hza,bb.of (S3 _ _ qk),(fun q=>nomatch q),(by show 3≤sizeLine;decide),(fun e=>nomatch e),fun _ z2 Q1=> ?_⟩
      have Sb:=aj.ao (o:=HO.tup ([V.int 0] ++ [nV r,nV c])) Q1
      have hzb:L2.upd H3 z2 (HO.tup ([V.int 0] ++ [nV r,nV c])) z2=some (.tup (cF (.up r c))):=ab
      generalize L2.upd H3 z2 (HO.tup ([V.int 0] ++ [nV r,nV c]))=H4 at *
      have S4:=S3.trans Sb
      have Lk:=S4.seq zm
      have QG:=Sb _ _ (Sa _ _ um)
      refine ⟨_,rfl,nm,_,_,_,rfl,rfl,Lk,at2,_,rfl,nm,_,_,_,rfl,rfl,Lk,at3,_,rfl,nm,_,_,_,rfl,rfl,Lk,at4,_,rfl,_,rfl,nm,_,_,_,rfl,rfl,Lk,at6,_,rfl,nm,_,_,_,rfl,rfl,Lk,at7,_,rfl,D,_,rfl,.inl ⟨bT.of QG,fun z3 Q2=> ?_⟩⟩
      have Sc:=aj.ao (o:=HO.tup (as.map V.ref)) Q2
      have hzc:L2.upd H4 z3 (HO.tup (as.map V.ref)) z3=some (.tup (as.map V.ref)):=ab
      generalize L2.upd H4 z3 (HO.tup (as.map V.ref))=H5 at *
      intro x dx nx HF Rz
      refine ⟨x,dx,_,_,_,_,_,_,_,_,_,rfl,ab,fun H6 h6 k6=>⟨rfl,?_⟩⟩
      have S6:=aj.made nx HF k6
      have Z0:=(Sa.trans Sb).trans (Sc.trans S6)
      have Q3:=(S1.trans Sk).trans Z0
      refine ⟨A,cas,W,x,Gs r c h n kd a hp sv ms,rfl,R.same Q3,hb,⟨dx,z2,z3,as.map V.ref,(by show H6 x=some (HO.ins _ _ (Y8 _ _ _ _ (oV sv) _ _ _ _));rw [hq];exact h6),S6 _ _ (Sc _ _ hzb),S6 _ _ hzc,bj (aj.keep (C:=cs t) Z0) hP⟩,fun H7 R7 F7=> ?_⟩
      rw [nW,if_pos ZY] at R7
      exact ⟨(by show 1≤sizeLine;decide),fun p hp=>k _ cas p (Rep.same R7 (aj.ao hp)) (((aj.dq Q3).trans F7).trans (aj.dq (aj.ao hp))) (fun b h=> .inl h) ab (R7.jt ((aj.dq Q3).trans F7) hp)⟩
    |some x0=>
     rw [hq] at at5
     rw [show decide (V.int (Vbcnag.optional (some x0))=V.int (-1))=false from decide_eq_false (fun z=>by
      injection z with z
      have z':(x0:Int)= -1:=z
      omega)]
     refine bf ?_
     refine ⟨_,rfl,nm,_,_,_,rfl,rfl,zm,at5,?_⟩
     refine ⟨_,rfl,nm,xs,rfl,.inl zm,8,_,2,ms.length,rfl,(by rw [hnl];exact rg2 _ hms),fun D hD=> ?_⟩
     refine Ee (n:=ms.length) (fun i H'=>∃as:List Addr,H' D=some (.lst (as.map V.ref))∧Paired (cH H') (ms.take i) (as.map V.ref)∧aj H1 H') ⟨[],ab,.nil,aj.ao hD⟩ (fun i H' hi _=>hi) (fun H' _=>Nat.le_refl _) (fun i x H' H2 hi lj hy=> ?_) (fun H' lj=> ?_)
     ·obtain ⟨as,um,hP,Sk⟩:=lj
      obtain ⟨rfl,rfl⟩:=hy
      have ZZ:ms[i]?=some ms[i] :=List.getElem?_eq_getElem hi
      obtain ⟨ta,tb⟩:=atm i ms[i] ZZ
      generalize ms[i] =mi at *
      have IC:=Sk.seq zm
      refine ⟨rfl,xG ?_⟩
      refine ⟨_,rfl,_,rfl,nm,_,_,_,rfl,rfl,IC,ta,_,rfl,_,rfl,_,_,rfl,rfl,nm,_,_,_,rfl,rfl,IC,tb,(by show 2≤sizeLine;decide),fun p hp=> ?_⟩
      have Sp:=aj.ao (o:=HO.tup [nV mi.relay,nV mi.circuit]) hp
      have ZQ:L2.upd H2 p (HO.tup [nV mi.relay,nV mi.circuit]) p=some (.tup [nV mi.relay,nV mi.circuit]):=ab
      generalize L2.upd H2 p (HO.tup [nV mi.relay,nV mi.circuit])=H3 at *
      have QX:=Sp _ _ um
      have L9:as.length≤16:=by
       have h1:=Paired.length hP
       rw [List.length_map,List.length_take] at h1
       omega
      refine ⟨_,QX,(by rw [List.length_map];exact Nat.lt_of_le_of_lt L9 (by decide)),as ++ [p],?_,?_,aj.own (Sk.trans Sp) hD⟩
      ·rw [ab,List.map_append]
       rfl
      ·rw [List.take_add_one,ZZ,List.map_append]
       have kD:∀ {b:Addr}{ys:List V},H3 b=some (.tup ys)→L2.upd H3 D (.lst (as.map V.ref ++ [V.ref p])) b=some (.tup ys):=fun {b ys} e=>by
        rw [az (aW e QX (fun q=>nomatch q))]
        exact e
       refine Paired.vc (Paired.bV hP fun m v f=> ?_) ⟨p,rfl,kD ZQ⟩
       obtain ⟨b,e,hb⟩:=f
       exact ⟨b,e,kD (Sp _ _ hb)⟩
     ·obtain ⟨as,um,hP,Sk⟩:=lj
      rw [List.take_length] at hP
      refine ⟨_,rfl,(by show 1≤sizeLine;decide),fun z1 Jf=> ?_⟩
      have Sa:=aj.ao (o:=HO.tup [V.int 0]) Jf
      have hza:L2.upd H' z1 (HO.tup [V.int 0]) z1=some (.tup [V.int 0]):=ab
      generalize L2.upd H' z1 (HO.tup [V.int 0])=H3 at *
      have S3:=Sk.trans Sa
      refine ⟨_,rfl,z1,z,_,_,rfl,rfl,bb.of hza,bb.of (S3 _ _ qk),(fun q=>nomatch q),(by show 3≤sizeLine;decide),(fun e=>nomatch e),fun _ z2 Q1=> ?_⟩
      have Sb:=aj.ao (o:=HO.tup ([V.int 0] ++ [nV r,nV c])) Q1
      have hzb:L2.upd H3 z2 (HO.tup ([V.int 0] ++ [nV r,nV c])) z2=some (.tup (cF (.up r c))):=ab
      generalize L2.upd H3 z2 (HO.tup ([V.int 0] ++ [nV r,nV c]))=H4 at *
      have S4:=S3.trans Sb
      have Lk:=S4.seq zm
      have QG:=Sb _ _ (Sa _ _ um)
      refine ⟨_,rfl,nm,_,_,_,rfl,rfl,Lk,at2,_,rfl,nm,_,_,_,rfl,rfl,Lk,at3,_,rfl,nm,_,_,_,rfl,rfl,Lk,at4,_,rfl,_,rfl,nm,_,_,_,rfl,rfl,Lk,at6,_,rfl,nm,_,_,_,rfl,rfl,Lk,at7,_,rfl,D,_,rfl,.inl ⟨bT.of QG,fun z3 Q2=> ?_⟩⟩
      have Sc:=aj.ao (o:=HO.tup (as.map V.ref)) Q2
      have hzc:L2.upd H4 z3 (HO.tup (as.map V.ref)) z3=some (.tup (as.map V.ref)):=ab
      generalize L2.upd H4 z3 (HO.tup (as.map V.ref))=H5 at *
      intro x dx nx HF Rz
      refine ⟨x,dx,_,_,_,_,_,_,_,_,_,rfl,ab,fun H6 h6 k6=>⟨rfl,?_⟩⟩
      have S6:=aj.made nx HF k6
      have Z0:=(Sa.trans Sb).trans (Sc.trans S6)
      have Q3:=(S1.trans Sk).trans Z0
      refine ⟨A,cas,W,x,Gs r c h n kd a hp sv ms,rfl,R.same Q3,hb,⟨dx,z2,z3,as.map V.ref,(by show H6 x=some (HO.ins _ _ (Y8 _ _ _ _ (oV sv) _ _ _ _));rw [hq];exact h6),S6 _ _ (Sc _ _ hzb),S6 _ _ hzc,bj (aj.keep (C:=cs t) Z0) hP⟩,fun H7 R7 F7=> ?_⟩
      rw [nW,if_pos ZY] at R7
      exact ⟨(by show 1≤sizeLine;decide),fun p hp=>k _ cas p (Rep.same R7 (aj.ao hp)) (((aj.dq Q3).trans F7).trans (aj.dq (aj.ao hp))) (fun b h=> .inl h) ab (R7.jt ((aj.dq Q3).trans F7) hp)⟩
end
end Rl
namespace Rl
open PySem PySem.Spec PyProof.Rows L2 PyProof.Rows.KTD
def jK:List (Str×Int×Int):= [("servers",1,4),("cap",1,10000),("time",0,1000000000000000),("circuit",0,4095),("limit",1,16),("host",0,281474976710655),("address",0,4294967295),("len",1,1000000000),("x",0,1),("t",0,20000),("m",0,1000),
 ("number",1,1000000000000000000),("kind",1,5),("hops",0,16),("of a pair",0,4095)]
def fg (k:Str):Bool:=decide (k=("server":Str))||decide (k=("server or none":Str))||decide (k=("relay":Str))||decide (k=("k":Str))
def kh (k:Str)(x:Int):Bool:=match jK.lookup k with
 |some (lo,hi)=>Vbcnag.within x lo hi
 |none=>false
def lq (s:Option VW)(k:Str)(x:Int):Bool:=
 match s with
 |some W=>if k=("server":Str) then Vbcnag.isServer W x else if k=("server or none":Str) then Vbcnag.within x (-1) ((W.servers:Int) - 1) else if k=("relay":Str) then Vbcnag.isRelay W x else if k=("k":Str) then Vbcnag.isPlace W x else kh k x
 |none=>kh k x
def qG (s:Option VW)(k:Str):Prop:=(fg k=true∧s.isSome=true)∨(fg k=false∧(jK.lookup k).isSome=true)
section
variable {P:Program}{w:World}{K:PySem.W.Frag}{mg:Str→Option Value}{base:Heap}{t:iU}
theorem Ll (T:Txt K mg t){k:Str}{lo hi:Int}(h:jK.lookup k=some (lo,hi)):∃kvs b,DMS K t.dZ kvs∧datumAt k kvs=some (V.ref b)∧∀H,bb K H b [V.int lo,V.int hi] :=by
 unfold jK at h
 simp only [List.lookup] at h
 repeat' split at h
 all_goals first|cases h|skip
 all_goals (rename_i e;have e:=eq_of_beq e;subst e)
 ·exact ⟨_,_,T.cK,rfl,T.uW⟩
 ·exact ⟨_,_,T.cK,rfl,T.uX⟩
 ·exact ⟨_,_,T.cK,rfl,T.uY⟩
 ·exact ⟨_,_,T.cK,rfl,T.uZ⟩
 ·exact ⟨_,_,T.cK,rfl,T.u4⟩
 ·exact ⟨_,_,T.cK,rfl,T.u5⟩
 ·exact ⟨_,_,T.cK,rfl,T.u6⟩
 ·exact ⟨_,_,T.cK,rfl,T.u7⟩
 ·exact ⟨_,_,T.cK,rfl,T.u9⟩
 ·exact ⟨_,_,T.cK,rfl,T.su⟩
 ·exact ⟨_,_,T.cK,rfl,T.sx⟩
 ·exact ⟨_,_,T.cK,rfl,T.sy⟩
 ·exact ⟨_,_,T.cK,rfl,T.sA⟩
 ·exact ⟨_,_,T.cK,rfl,T.sC⟩
 ·exact ⟨_,_,T.cK,rfl,T.sD⟩
theorem pf {x lo hi:Int}:Vbcnag.within x lo (hi - 1)=(decide (lo≤x) && decide (x < hi)):=by
 unfold Vbcnag.within
 rw [show decide (x≤hi - 1)=decide (x < hi) from decide_eq_decide.mpr (by omega)]
theorem sZ {a b:Str}:decide (V.str a=V.str b)=decide (a=b):=by
 by_cases h:a=b
 ·rw [h,decide_eq_true rfl,decide_eq_true rfl]
 ·rw [decide_eq_false h,decide_eq_false (fun q=>h (by injection q))]
def Ie (C:Cs):Sp:=fun vs H Q _=>∃ (s:Option VW)(A:Ad)(cas:List Addr)(wv:V)(k:Str)(x:Int),vs= [wv,.str k,.int x] ∧uo C H A cas s wv∧qG s k∧Q (.bl (lq s k x)) H
theorem qo (T:Txt K mg t):a7 P w K mg base dY 1 t.cV t.ja iT (Ie (cs t)):=by
 refine T.jd.ok yy (fun vs H Q E h=> ?_) (fun de A0 outer s H vs Q E hr h=> ?_)
 ·obtain ⟨s,A,cas,wv,k,x,rfl,_⟩:=h
  rfl
 ·obtain ⟨st,A,cas,wv,ky,x,rfl,mx,hn,k⟩:=h
  refine ⟨_,ae (aZ (aI cf (pv 1) vY (aM _)) (ak (aH (mP wa kK ah (pv 2) (ai (pv 0) rfl)))) aR)
   (ae (aZ (aI cf (pv 1) vY (aM _)) (ak (aH (mP wa kK (dg bP ah) (pv 2) (ai (pv 0) rfl)))) aR)
   (ae (aZ (aI cf (pv 1) vY (aM _)) (ak (aH (mP wa kK ah (pv 2) (aU aP (by rfl) T.Qlv PySem.boot_len (aa (ai (pv 0) rfl) af))))) aR)
   (ae (aZ (aI cf (pv 1) vY (aM _)) (ak (aH (mP wa kK ah (pv 2) (aU aP (by rfl) T.Qlv PySem.boot_len (aa (ai (pv 0) rfl) af))))) aR)
   (ak (aH (mP wa wa (aE aY (CH (aC (v:= .ref t.dZ) (by rfl) T.xk rfl) (pv 1) (fun _ _=>rfl)) ah (fun _ _=>rfl)) (pv 2) (aE aY (CH (aC (v:= .ref t.dZ) (by rfl) T.xk rfl) (pv 1) (fun _ _=>rfl)) ah (fun _ _=>rfl)))))))),?_⟩
  refine ⟨_,rfl,rfl,_,rfl,?_⟩
  rw [sZ]
  by_cases h1:ky=("server":Str)
  ·rcases hn with ⟨_,hs⟩|⟨hs,_⟩
   ·obtain ⟨W,rfl⟩:=Option.isSome_iff_exists.mp hs
    obtain ⟨rfl,R⟩:=mx
    have e:lq (some W) ky x=(decide (0≤x) && decide (x < (W.servers:Int))):=(if_pos h1).trans pf
    rw [e] at k
    rw [decide_eq_true h1]
    refine a8 ⟨_,rfl,_,_,rfl,rfl,_,rfl,?_⟩
    by_cases q:(0:Int)≤x
    ·rw [decide_eq_true q,Bool.true_and] at k
     rw [decide_eq_true q]
     exact a8 ⟨_,rfl,A.w,_,_,_,_,rfl,R.cj,T.aw,T.Qk9,rfl,_,_,rfl,rfl,k⟩
    ·rw [decide_eq_false q,Bool.false_and] at k
     rw [decide_eq_false q]
     exact bf k
   ·rw [h1] at hs
    exact absurd hs (by decide +kernel)
  rw [decide_eq_false h1]
  refine bf ?_
  refine ⟨_,rfl,rfl,_,rfl,?_⟩
  rw [sZ]
  by_cases h2:ky=("server or none":Str)
  ·rcases hn with ⟨_,hs⟩|⟨hs,_⟩
   ·obtain ⟨W,rfl⟩:=Option.isSome_iff_exists.mp hs
    obtain ⟨rfl,R⟩:=mx
    have e:lq (some W) ky x=(decide (-1≤x) && decide (x < (W.servers:Int))):=((if_neg h1).trans (if_pos h2)).trans pf
    rw [e] at k
    rw [decide_eq_true h2]
    refine a8 ⟨_,rfl,_,rfl,_,_,rfl,rfl,_,rfl,?_⟩
    by_cases q:(-1:Int)≤x
    ·rw [decide_eq_true q,Bool.true_and] at k
     rw [decide_eq_true q]
     exact a8 ⟨_,rfl,A.w,_,_,_,_,rfl,R.cj,T.aw,T.Qk9,rfl,_,_,rfl,rfl,k⟩
    ·rw [decide_eq_false q,Bool.false_and] at k
     rw [decide_eq_false q]
     exact bf k
   ·rw [h2] at hs
    exact absurd hs (by decide +kernel)
  rw [decide_eq_false h2]
  refine bf ?_
  refine ⟨_,rfl,rfl,_,rfl,?_⟩
  rw [sZ]
  by_cases h3:ky=("relay":Str)
  ·rcases hn with ⟨_,hs⟩|⟨hs,_⟩
   ·obtain ⟨W,rfl⟩:=Option.isSome_iff_exists.mp hs
    obtain ⟨rfl,R⟩:=mx
    obtain ⟨ras,HY,QP⟩:=R.rl
    have el:(ras.map V.ref).length=W.relays.length:=by rw [List.length_map];exact Paired.length QP
    have e:lq (some W) ky x=(decide (0≤x) && decide (x < ((ras.map V.ref).length:Int))):=(((if_neg h1).trans (if_neg h2)).trans (if_pos h3)).trans (by rw [el];exact pf)
    rw [e] at k
    rw [decide_eq_true h3]
    refine a8 ⟨_,rfl,_,_,rfl,rfl,_,rfl,?_⟩
    by_cases q:(0:Int)≤x
    ·rw [decide_eq_true q,Bool.true_and] at k
     rw [decide_eq_true q]
     exact a8 ⟨_,rfl,A.w,_,_,_,_,rfl,R.cj,T.aw,T.Qk7,rfl,A.rl,_,rfl,.inl (bT.of HY),_,_,rfl,rfl,k⟩
    ·rw [decide_eq_false q,Bool.false_and] at k
     rw [decide_eq_false q]
     exact bf k
   ·rw [h3] at hs
    exact absurd hs (by decide +kernel)
  rw [decide_eq_false h3]
  refine bf ?_
  refine ⟨_,rfl,rfl,_,rfl,?_⟩
  rw [sZ]
  by_cases h4:ky=("k":Str)
  ·rcases hn with ⟨_,hs⟩|⟨hs,_⟩
   ·obtain ⟨W,rfl⟩:=Option.isSome_iff_exists.mp hs
    obtain ⟨rfl,R⟩:=mx
    obtain ⟨bas,mJ,tm⟩:=R.bg
    have el:=De tm
    have e:lq (some W) ky x=(decide (0≤x) && decide (x < ((bas.map V.ref).length:Int))):=((((if_neg h1).trans (if_neg h2)).trans (if_neg h3)).trans (if_pos h4)).trans (by rw [el];exact pf)
    rw [e] at k
    rw [decide_eq_true h4]
    refine a8 ⟨_,rfl,_,_,rfl,rfl,_,rfl,?_⟩
    by_cases q:(0:Int)≤x
    ·rw [decide_eq_true q,Bool.true_and] at k
     rw [decide_eq_true q]
     exact a8 ⟨_,rfl,A.w,_,_,_,_,rfl,R.cj,T.aw,T.Qk2,rfl,A.bg,_,rfl,.inl (bT.of mJ),_,_,rfl,rfl,k⟩
    ·rw [decide_eq_false q,Bool.false_and] at k
     rw [decide_eq_false q]
     exact bf k
   ·rw [h4] at hs
    exact absurd hs (by decide +kernel)
  rw [decide_eq_false h4]
  refine bf ?_
  have hof:fg ky=false:=by
   unfold fg
   rw [decide_eq_false h1,decide_eq_false h2,decide_eq_false h3,decide_eq_false h4]
   rfl
  rcases hn with ⟨hs,_⟩|⟨_,hs⟩
  ·rw [hof] at hs
   cases hs
  obtain ⟨⟨lo,hi⟩,hl⟩:=Option.isSome_iff_exists.mp hs
  obtain ⟨kvs,b,hD,hda,hT⟩:=Ll T hl
  have Z1:kh ky x=(decide (lo≤x) && decide (x≤hi)):=by
   unfold kh
   rw [hl]
   rfl
  have e:lq st ky x=(decide (lo≤x) && decide (x≤hi)):=by
   cases st with
   |none=>exact Z1
   |some W=>exact ((((if_neg h1).trans (if_neg h2)).trans (if_neg h3)).trans (if_neg h4)).trans Z1
  rw [e] at k
  refine ⟨_,rfl,t.dZ,kvs,ky,_,rfl,rfl,hD,hda,b,_,_,_,rfl,rfl,hT H,rfl,_,rfl,_,_,rfl,rfl,_,rfl,?_⟩
  by_cases q:lo≤x
  ·rw [decide_eq_true q,Bool.true_and] at k
   rw [decide_eq_true q]
   exact a8 ⟨_,rfl,t.dZ,kvs,ky,_,rfl,rfl,hD,hda,b,_,_,_,rfl,rfl,hT H,rfl,_,_,rfl,rfl,k⟩
  ·rw [decide_eq_false q,Bool.false_and] at k
   rw [decide_eq_false q]
   exact bf k
end
end Rl
namespace Rl
open PySem PySem.Spec PyProof.Rows L2 PyProof.Rows.KTD
theorem uo.same {C:Cs}{H H':Hp}{A:Ad}{cas:List Addr}{s:Option VW}{v:V}(h:uo C H A cas s v)(S:aj H H'):uo C H' A cas s v:=by
 cases s with
 |none=>exact h
 |some W=>exact ⟨h.1,h.2.same S⟩
def pairsOk (ms:List Int):Bool:=decide (ms.length % 2=0) && (decide (ms.length≤32) && ms.all Vbcnag.isCircuit)
theorem tf (x:Int):kh ("of a pair":Str) x=Vbcnag.isCircuit x:=by
 unfold kh
 rw [show jK.lookup ("of a pair":Str)=some (0,4095) by decide +kernel]
 rfl
theorem Lm (s:Option VW)(x:Int):lq s ("of a pair":Str) x=Vbcnag.isCircuit x:=by
 cases s with
 |none=>exact tf x
 |some W=>
  unfold lq
  dsimp only
  rw [if_neg (by decide +kernel),if_neg (by decide +kernel),if_neg (by decide +kernel),if_neg (by decide +kernel)]
  exact tf x
theorem Ig (s:Option VW):qG s ("of a pair":Str):= .inr ⟨by decide +kernel,by decide +kernel⟩
section
variable {P:Program}{w:World}{K:PySem.W.Frag}{mg:Str→Option Value}{base:Heap}{t:iU}
def E2 (K:PySem.W.Frag)(C:Cs):Sp:=fun vs H Q _=>∃ (s:Option VW)(A:Ad)(cas:List Addr)(wv:V)(p:Addr)(ms:List Int),vs= [wv,.ref p] ∧uo C H A cas s wv∧bT K H p (ms.map V.int)∧
 ∀H',aj H H'→Q (.bl (pairsOk ms)) H'
theorem BW (T:Txt K mg t):a7 P w K mg base dY 2 t.dn t.j5 jX (E2 K (cs t)):=by
 refine T.nP.ok lH (fun vs H Q E h=> ?_) (fun de A0 outer s H vs Q E hr h=> ?_)
 ·obtain ⟨s,A,cas,wv,p,ms,rfl,_⟩:=h
  rfl
 ·obtain ⟨st,A,cas,wv,p,ms,rfl,mx,hS,k⟩:=h
  obtain ⟨Ln,x5,x6⟩:=T.nU
  refine ⟨_,ae (aZ (PW.pt (qJ (aI v9 (bW IT (aU aP (by rfl) T.Qlv PySem.boot_len (aa (pv 1) af)) ah) ah (aM _)) (lr (aI qN (aU aP (by rfl) T.Qlv PySem.boot_len (aa (pv 1) af)) (aC (by rfl) x5 x6) (aM _))))) (ak (aH Fc)) aR)
   (ak (aH (aU (Ow rfl) (by rfl) T.Qlt PyProof.Rows.boot_all (aa (Fs (own:= [("number",2)]) rfl lH.nd (oz (pv 1)) (jw (show Ax uI (ay eu) _ _=true by decide +kernel)) (fun _ _ _ _ _=>dP (i:=2) lH.nd rfl (Or.inl rfl)) (fun _ _ _ _ _=>vB) (fun _ _ _ _ _=>(aA (qo T) (hr.mono (by decide)) (by rfl) T.l8 T.jd.kp T.l9 .nil aQ (aa (pv 0) (aa vY (aa (pv 2) af)))))) af)))),?_⟩
  refine ⟨_,rfl,p,_,rfl,.inl hS,_,_,rfl,rfl,(by show (0:Int) < 2;decide),rfl,_,rfl,?_⟩
  have hl:(ms.map V.int).length=ms.length:=List.length_map ..
  by_cases h1:ms.length % 2=0
  ·rw [show decide (V.int (((ms.map V.int).length:Int) % 2)=V.int 0)=true from decide_eq_true (by
    rw [hl]
    congr 1
    omega)]
   refine bf ?_
   refine ⟨_,rfl,p,_,rfl,.inl hS,_,_,rfl,rfl,_,rfl,?_⟩
   rw [hl]
   by_cases h2:ms.length≤32
   ·rw [decide_eq_false (show ¬ (32:Int) < (ms.length:Int) by omega)]
    refine bf ?_
    have e:pairsOk ms=(ms.map Vbcnag.isCircuit).all id:=by
     unfold pairsOk
     rw [decide_eq_true h1,decide_eq_true h2,Bool.true_and,Bool.true_and,List.all_map]
     rfl
    rw [e] at k
    refine ⟨_,rfl,p,rfl,⟨_,hS⟩,fun D hD=> ?_⟩
    refine Aw (K:=K) (a:=p) (xs:=ms.map V.int) (fun i H'=>H' D=some (.lst (((ms.take i).map Vbcnag.isCircuit).map V.bl))∧aj H H') ⟨ab,aj.ao hD⟩ (fun i H' _ lj=>lj.2.seq hS) (fun i x H' hx lj=> ?_) (fun H' lj=> ?_)
    ·obtain ⟨um,S⟩:=lj
     rw [List.getElem?_map] at hx
     obtain ⟨y,hy,rfl⟩:∃y,ms[i]?=some y∧x=V.int y:=by
      cases q:ms[i]? with
      |none=>rw [q] at hx;cases hx
      |some y=>rw [q] at hx;exact ⟨y,rfl,(Option.some.inj hx).symm⟩
     refine ⟨rfl,xG ?_⟩
     refine ⟨_,rfl,_,rfl,st,A,cas,wv,("of a pair":Str),y,rfl,mx.same S,Ig st,?_⟩
     refine ⟨_,um,?_,?_,aj.own S hD⟩
     ·rw [List.length_map,List.length_map,List.length_take]
      exact Nat.lt_of_le_of_lt (show _≤32 by omega) (by decide)
     ·rw [ab,List.take_add_one,hy,Lm,List.map_append,List.map_append]
      rfl
    ·obtain ⟨um,S⟩:=lj
     rw [hl,List.take_length] at um
     exact ⟨D,_,rfl,bT.of um,k H' S⟩
   ·rw [decide_eq_true (show (32:Int) < (ms.length:Int) by omega)]
    refine a8 ?_
    have e:pairsOk ms=false:=by
     unfold pairsOk
     rw [decide_eq_false h2,Bool.false_and,Bool.and_false]
    rw [e] at k
    exact k H (aj.refl H)
  ·rw [show decide (V.int (((ms.map V.int).length:Int) % 2)=V.int 0)=false from decide_eq_false (fun z=>h1 (by
    injection z with z
    rw [hl] at z
    omega))]
   refine a8 (a8 ?_)
   have e:pairsOk ms=false:=by
    unfold pairsOk
    rw [decide_eq_false h1,Bool.false_and]
   rw [e] at k
   exact k H (aj.refl H)
def bM (s:Option VW):List Str→List Int→Bool
 |k::ks,x::xs=>lq s k x && bM s ks xs
 |_,_=>true
theorem x8 {s:Option VW}:∀ {ks:List Str}{xs:List Int}{i:Nat}{k:Str}{x:Int},ks[i]?=some k→xs[i]?=some x→bM s (ks.take i) xs=true→lq s k x=true→bM s (ks.take (i + 1)) xs=true
 | [],_,_,_,_,h,_,_,_=>by simp at h
 |a::ks,[],_,_,_,_,h,_,_=>by simp at h
 |a::ks,b::xs,0,k,x,h1,h2,_,h4=>by
  have e1:a=k:=Option.some.inj h1
  have e2:b=x:=Option.some.inj h2
  subst e1 e2
  show (lq s a b && bM s [] xs)=true
  rw [h4]
  cases xs <;>rfl
 |a::ks,b::xs,i + 1,k,x,h1,h2,h3,h4=>by
  have h3':(lq s a b && bM s (ks.take i) xs)=true:=h3
  rw [Bool.and_eq_true] at h3'
  show (lq s a b && bM s (ks.take (i + 1)) xs)=true
  rw [h3'.1,x8 (i:=i) h1 h2 h3'.2 h4]
  rfl
theorem x9 {s:Option VW}:∀ {ks:List Str}{xs:List Int}{i:Nat}{k:Str}{x:Int},ks[i]?=some k→xs[i]?=some x→lq s k x=false→bM s ks xs=false
 | [],_,_,_,_,h,_,_=>by simp at h
 |a::ks,[],_,_,_,_,h,_=>by simp at h
 |a::ks,b::xs,0,k,x,h1,h2,h4=>by
  have e1:a=k:=Option.some.inj h1
  have e2:b=x:=Option.some.inj h2
  subst e1 e2
  show (lq s a b && _)=false
  rw [h4,Bool.false_and]
 |a::ks,b::xs,i + 1,k,x,h1,h2,h4=>by
  show (lq s a b && bM s ks xs)=false
  rw [x9 (i:=i) (ks:=ks) (xs:=xs) h1 h2 h4,Bool.and_false]
def BX (K:PySem.W.Frag)(t:iU):Sp:=fun vs H Q _=>∃ (s:Option VW)(A:Ad)(cas:List Addr)(wv:V)(pl:Int)(nm:Addr)(ns:List Int)(kvs:List (Int×V))(b:Addr)(names:List Str),vs= [wv,.int pl,.ref nm] ∧uo (cs t) H A cas s wv∧bT K H nm (ns.map V.int)∧
 DM K t.cD kvs∧cN kvs pl=some (.ref b)∧(∀H,bb K H b (names.map V.str))∧names.length≤ns.length∧(∀k∈names,qG s k)∧
 ∀H',aj H H'→Q (.bl (bM s names ns && pairsOk (ns.drop names.length))) H'
theorem ya (T:Txt K mg t):a7 P w K mg base dY 3 t.cy t.gW gP (BX K t):=by
 refine T.ku.ok jA (fun vs H Q E h=> ?_) (fun de A0 outer s H vs Q E hr h=> ?_)
 ·obtain ⟨s,A,cas,wv,pl,nm,ns,kvs,b,names,rfl,_⟩:=h
  rfl
 ·obtain ⟨st,A,cas,wv,pl,nm,ns,kvs,b,names,rfl,mx,hS,hD,hv,hb,hle,Nm,k⟩:=h
  refine ⟨_,ae (v7 PassesOwn.never rfl (Mh (by rfl) T.Ql2 (aa (AG (aC (v:= .ref t.cD) (by rfl) T.ud rfl) (pv 1) (fun _ _=>rfl)) (aa (pv 2) af))) (DP rfl (kJ (dP (i:=3) jA.nd rfl (Or.inl rfl)) (kJ (dP (i:=4) jA.nd rfl (Or.inl rfl)) Ac))) (ak (aZ (IK (mM (aA (qo T) (hr.mono (by decide)) (by rfl) T.l8 T.jd.kp T.l9 .nil aQ (aa (pv 0) (aa (pv 3) (aa (pv 4) af)))))) (ak (aH Fc)) aR)))
   (ak (aH (aA (BW T) (hr.mono (by decide)) (by rfl) T.uT T.nP.kp T.uV .nil aQ (aa (pv 0) (aa (qQ Ak (pv 2) (qP (aU aP (by rfl) T.Qlv PySem.boot_len (aa (AG (aC (v:= .ref t.cD) (by rfl) T.ud rfl) (pv 1) (fun _ _=>rfl)) af))) Af) af))))),?_⟩
  refine ⟨_,rfl,t.cD,kvs,pl,_,rfl,rfl,hD,hv,_,rfl,b,nm,_,_,rfl,hb H,hS,?_⟩
  refine Mf (n:=names.length) (fun i σ Hk=>∃v3 v4,σ= [some wv,some (V.int pl),some (V.ref nm),v3,v4] ∧bM st (names.take i) ns=true∧aj H Hk) ⟨none,none,rfl,by cases ns <;>rfl,aj.refl H⟩ (fun i σ Hk hi hk=> ?_) (fun σ Hk hk=> ?_) (fun i x σ Hk H2 hi hk hy=> ?_) (fun σ Hk hk=> ?_)
  ·obtain ⟨v3,v4,_,_,S⟩:=hk
   have h1:names[i]?=some names[i] :=List.getElem?_eq_getElem hi
   have h2:ns[i]?=some ns[i] :=List.getElem?_eq_getElem (by omega)
   exact ⟨_,_,_,_,hb Hk,S.seq hS,(by rw [List.getElem?_map,h1];rfl),(by rw [List.getElem?_map,h2];rfl)⟩
  ·obtain ⟨v3,v4,_,_,S⟩:=hk
   exact ⟨_,_,hb Hk,S.seq hS,.inl (by rw [List.length_map];exact Nat.le_refl _)⟩
  ·obtain ⟨v3,v4,rfl,fj,S⟩:=hk
   obtain ⟨T0,a,c,rfl,hT0,rfl,ha,hc⟩:=hy
   have h1:names[i]?=some names[i] :=List.getElem?_eq_getElem hi
   have h2:ns[i]?=some ns[i] :=List.getElem?_eq_getElem (by omega)
   have ha:=ha _ (hb Hk)
   have hc:=hc _ (S.seq hS)
   rw [List.getElem?_map,h1] at ha
   rw [List.getElem?_map,h2] at hc
   have ea:V.str names[i] =a:=Option.some.inj ha
   have ec:V.int ns[i] =c:=Option.some.inj hc
   subst ea ec
   have hnk:=Nm _ (List.mem_of_getElem? h1)
   generalize names[i] =ky at *
   generalize ns[i] =y at *
   have S2:=S.trans (aj.ao (o:=HO.tup [V.str ky,V.int y]) hT0)
   refine ⟨T0,_,rfl,bb.of ab,rfl,_,_,rfl,_,_,rfl,rfl,?_⟩
   refine ⟨_,rfl,_,rfl,_,rfl,st,A,cas,wv,ky,y,rfl,mx.same S2,hnk,_,rfl,?_⟩
   cases bF:lq st ky y with
   |true=>
    refine bf ⟨some (V.str ky),some (V.int y),rfl,x8 h1 h2 fj bF,S2⟩
   |false=>
    refine a8 ?_
    have e:=x9 (s:=st) h1 h2 bF
    rw [e,Bool.false_and] at k
    exact k _ S2
  ·obtain ⟨v3,v4,rfl,fj,S⟩:=hk
   rw [List.take_length] at fj
   rw [fj,Bool.true_and] at k
   refine ⟨_,rfl,_,rfl,_,rfl,t.cD,kvs,pl,_,rfl,rfl,hD,hv,b,_,rfl,.inr (hb Hk),_,rfl,nm,_,rfl,S.seq hS,fun p hp=> ?_⟩
   have ec:qt (ns.map V.int) (some (((names.map V.str).length:Nat):Int)) none=(ns.drop names.length).map V.int:=by
    rw [xU (by rw [List.length_map,List.length_map];exact hle),List.map_drop,List.length_map]
   rw [ec]
   have Sp:=aj.ao (o:=HO.lst ((ns.drop names.length).map V.int)) hp
   exact ⟨st,A,cas,wv,p,ns.drop names.length,rfl,(mx.same S).same Sp,bT.of ab,fun H' S'=>k H' ((S.trans Sp).trans S')⟩
end
end Rl
namespace Rl
open PySem PySem.Spec PyProof.Rows L2 PyProof.Rows.KTD
open Vbcnag (Mark Msg Under Offer Lease Client Relay Assigned Written)
section
variable {P:Program}{w:World}{K:PySem.W.Frag}{mg:Str→Option Value}{base:Heap}{t:iU}
def Gu (K:PySem.W.Frag)(t:iU):Addr→Sp→Prop:=fun a sp=>
 (a=t.bI∧sp=a3 EO xJ K (cs t))∨(a=t.gA∧sp=a3 KA zR K (cs t))∨(a=t.dF∧sp=a3 g1 o6 K (cs t))∨(a=t.c5∧sp=a3 g1 QI K (cs t))∨(a=t.bZ∧sp=a3 g1 HL K (cs t))∨
 (a=t.dG∧sp=a3 g1 o7 K (cs t))∨(a=t.f_assign∧sp=a3 BG o8 K (cs t))∨(a=t.b0∧sp=a3 uj o9 K (cs t))∨(a=t.gB∧sp=a3 Kv F8 K (cs t))∨(a=t.gC∧sp=a3 Kr FZ K (cs t))∨
 (a=t.c6∧sp=a3 xZ sY K (cs t))∨(a=t.gD∧sp=a3 gK Gn K (cs t))∨(a=t.dH∧sp=a3 gK vT K (cs t))∨(a=t.gE∧sp=a3 Li Gr K (cs t))∨(a=t.eZ∧sp=a3 E1 x4 K (cs t))∨
 (a=t.bo∧sp=a3 g1 sW K (cs t))∨(a=t.a9∧sp=a3 xX sX K (cs t))∨(a=t.gF∧sp=a3 gK Gp K (cs t))∨(a=t.bJ∧sp=a3 Lg Gq K (cs t))∨(a=t.bK∧sp=a3 g0 Lh K (cs t))∨
 (a=t.bA∧sp=a3 g0 fState K (cs t))
theorem gok {X:Cx}(T:Txt K mg t)(hK:X.K=K)(hm:X.mg=mg):GOk X dY 12 (Gu K t):=by
 subst hK hm
 constructor
 intro f sp h
 rcases h with h|h|h|h|h|h|h|h|h|h|h|h|h|h|h|h|h|h|h|h|h <;>obtain ⟨rfl,rfl⟩:=h
 ·exact ⟨_,_,(BJ T).mono (by decide),T.uQ,T.nL.kp⟩
 ·exact ⟨_,_,(MN T).mono (by decide),T.JS,T.Eu.kp⟩
 ·exact ⟨_,_,(HK T).mono (by decide),T.CY,T.wX.kp⟩
 ·exact ⟨_,_,(EL T).mono (by decide),T.zD,T.tX.kp⟩
 ·exact ⟨_,_,(Dn T).mono (by decide),T.wY,T.qy.kp⟩
 ·exact ⟨_,_,(HM T).mono (by decide),T.CZ,T.wZ.kp⟩
 ·exact ⟨_,_,(HN T).mono (by decide),T.C0,T.w6.kp⟩
 ·exact ⟨_,_,(Ds T).mono (by decide),T.w8,T.qz.kp⟩
 ·exact ⟨_,_,(ML T).mono (by decide),T.JW,T.Ey.kp⟩
 ·exact ⟨_,_,(MJ T).mono (by decide),T.JX,T.Ez.kp⟩
 ·exact ⟨_,_,(EZ T).mono (by decide),T.zE,T.ua.kp⟩
 ·exact ⟨_,_,(M5 T).mono (by decide),T.JY,T.EA.kp⟩
 ·exact ⟨_,_,(Ia T).mono (by decide),T.C1,T.w9.kp⟩
 ·exact ⟨_,_,(M7 T).mono (by decide),T.J0,T.EB.kp⟩
 ·exact ⟨_,_,(Lj T).mono (by decide),T.FN,T.Br.kp⟩
 ·exact ⟨_,_,(xW T).mono (by decide),T.pH,T.kr.kp⟩
 ·exact ⟨_,_,(vz T).mono (by decide),T.nM,T.jD.kp⟩
 ·exact ⟨_,_,(M6 T).mono (by decide),T.J1,T.EC.kp⟩
 ·exact ⟨_,_,(BU T).mono (by decide),T.uR,T.nN.kp⟩
 ·exact ⟨_,_,(BV T).mono (by decide),T.uS,T.nO.kp⟩
 ·exact ⟨_,_,(yP T).mono (by decide),T.sq,T.l7.kp⟩
def Z2 (K:PySem.W.Frag)(t:iU):Sp:=fun vs H Q E=>∃ (wv:V)(p:Int)(nm a:Addr)(kvs:List (Int×V))(g:VW→List Int→Prop)(f:VW→List Int→VW×List Int),vs= [wv,.int p,.ref nm] ∧DM K t.fB kvs∧cN kvs p=some (.ref a)∧Gu K t a (a3 g f K (cs t))∧a3 g f K (cs t) [wv,.ref nm] H Q E
theorem Ih (T:Txt K mg t):a7 P w K mg base dY 13 t.gb t.rM rq (Z2 K t):=by
 refine T.xb.ok Hn (fun vs H Q E h=> ?_) (fun de A0 outer s H vs Q E hr h=> ?_)
 ·obtain ⟨wv,p,nm,a,kvs,g,f,rfl,_⟩:=h
  rfl
 ·obtain ⟨wv,p,nm,a,kvs,g,f,rfl,hD,hv,hG,Iy⟩:=h
  refine ⟨_,ak (aH (Js (gok T rfl rfl) (hr.mono (by decide)) aQ (AG (aC (v:= .ref t.fB) (by rfl) T.FR rfl) (pv 1) (fun _ _=>rfl)) (aa (pv 0) (aa (pv 2) af)))),?_⟩
  exact ⟨_,rfl,t.fB,kvs,p,_,rfl,rfl,hD,hv,a,_,rfl,hG,_,rfl,_,rfl,Iy⟩
end
end Rl
namespace Rl
open PySem PySem.Spec PyProof.Rows L2 PyProof.Rows.KTD
open Vbcnag (Mark Msg Under Offer Lease Client Relay Assigned Written)
theorem dt {s:Option VW}{k:Str}{lo hi:Int}(h:fg k=false)(hl:jK.lookup k=some (lo,hi))(x:Int):lq s k x=Vbcnag.within x lo hi:=by
 have Z1:kh k x=Vbcnag.within x lo hi:=by
  unfold kh
  rw [hl]
 unfold fg at h
 simp only [Bool.or_eq_false_iff,decide_eq_false_iff_not] at h
 obtain ⟨⟨⟨h1,h2⟩,h3⟩,h4⟩:=h
 cases s with
 |none=>exact Z1
 |some W=>exact ((((if_neg h1).trans (if_neg h2)).trans (if_neg h3)).trans (if_neg h4)).trans Z1
section
variable {s:Option VW}{W:VW}(x:Int)
theorem Ii:lq s ("servers":Str) x=Vbcnag.within x 1 4:=dt (by decide +kernel) (by decide +kernel) x
theorem Z3:lq s ("cap":Str) x=Vbcnag.within x 1 10000:=dt (by decide +kernel) (by decide +kernel) x
theorem Q4:lq s ("time":Str) x=Vbcnag.within x 0 Vbcnag.TIMES:=dt (by decide +kernel) (by decide +kernel) x
theorem pj:lq s ("circuit":Str) x=Vbcnag.isCircuit x:=dt (by decide +kernel) (by decide +kernel) x
theorem M8:lq s ("limit":Str) x=Vbcnag.within x 1 16:=dt (by decide +kernel) (by decide +kernel) x
theorem kH:lq s ("host":Str) x=Vbcnag.isHost x:=dt (by decide +kernel) (by decide +kernel) x
theorem z6:lq s ("address":Str) x=Vbcnag.within x 0 (Vbcnag.ADDRS - 1):=dt (by decide +kernel) (by decide +kernel) x
theorem Z4:lq s ("len":Str) x=Vbcnag.within x 1 1000000000:=dt (by decide +kernel) (by decide +kernel) x
theorem o_x:lq s ("x":Str) x=Vbcnag.within x 0 1:=dt (by decide +kernel) (by decide +kernel) x
theorem o_t:lq s ("t":Str) x=Vbcnag.within x 0 20000:=dt (by decide +kernel) (by decide +kernel) x
theorem o_m:lq s ("m":Str) x=Vbcnag.within x 0 1000:=dt (by decide +kernel) (by decide +kernel) x
theorem Lo:lq s ("number":Str) x=Vbcnag.within x 1 1000000000000000000:=dt (by decide +kernel) (by decide +kernel) x
theorem Q5:lq s ("kind":Str) x=Vbcnag.within x 1 5:=dt (by decide +kernel) (by decide +kernel) x
theorem Q6:lq s ("hops":Str) x=Vbcnag.within x 0 16:=dt (by decide +kernel) (by decide +kernel) x
theorem tj:lq (some W) ("server":Str) x=Vbcnag.isServer W x:=by
 unfold lq
 dsimp only
 rw [if_pos rfl]
theorem ajr:lq (some W) ("server or none":Str) x=Vbcnag.within x (-1) ((W.servers:Int) - 1):=by
 unfold lq
 dsimp only
 rw [if_neg (by decide +kernel),if_pos rfl]
theorem pk:lq (some W) ("relay":Str) x=Vbcnag.isRelay W x:=by
 unfold lq
 dsimp only
 rw [if_neg (by decide +kernel),if_neg (by decide +kernel),if_pos rfl]
theorem o_k:lq (some W) ("k":Str) x=Vbcnag.isPlace W x:=by
 unfold lq
 dsimp only
 rw [if_neg (by decide +kernel),if_neg (by decide +kernel),if_neg (by decide +kernel),if_pos rfl]
end
theorem yb (s:Option VW){k:Str}(h:(fg k=false∧(jK.lookup k).isSome=true)):qG s k:= .inr h
theorem nameOf (W:VW){k:Str}(h:fg k=true):qG (some W) k:= .inl ⟨h,rfl⟩
theorem DE (W:VW){l:List Str}(h:(l.all fun k=>fg k||(jK.lookup k).isSome)=true):∀k∈l,qG (some W) k:=fun k hk=>by
 have:=List.all_eq_true.mp h k hk
 cases q:fg k with
 |true=>exact nameOf W q
 |false=>
  rw [q,Bool.false_or] at this
  exact yb _ ⟨q,this⟩
theorem bq {s:Option VW}(xs:List Int):bM s [] xs=true:=by cases xs <;>rfl
theorem aD {s:Option VW}(k:Str)(ks:List Str)(x:Int)(xs:List Int):bM s (k::ks) (x::xs)=(lq s k x && bM s ks xs):=rfl
theorem a4:pairsOk [] =true:=rfl
theorem aO {x lo hi:Int}(h:Vbcnag.within x lo hi=true)(h0:0≤lo):∃n:Nat,x=(n:Int):=⟨x.toNat,by have:=bh.mp h;omega⟩
theorem DF:∀ (n:Nat)(l:List Int),l.length≤2 * n→l.length % 2=0→(∀x∈l,0≤x)→cM (Vbcnag.marksIn l)=l
 |_,[],_,_,_=>rfl
 |_,[x],_,h,_=>by simp at h
 |0,x::y::l,h,_,_=>by simp at h
 |n + 1,x::y::l,h,he,h0=>by
  have h1:=h0 x (List.mem_cons_self ..)
  have h2:=h0 y (List.mem_cons_of_mem _ (List.mem_cons_self ..))
  have ih:=DF n l (by simp only [List.length_cons] at h;omega) (by simp only [List.length_cons] at he;omega) fun z hz=>h0 z (List.mem_cons_of_mem _ (List.mem_cons_of_mem _ hz))
  show ((x.toNat:Nat):Int)::((y.toNat:Nat):Int)::cM (Vbcnag.marksIn l)=_
  rw [ih,Int.toNat_of_nonneg h1,Int.toNat_of_nonneg h2]
section
variable {K:PySem.W.Frag}{mg:Str→Option Value}{t:iU}
structure Plan (K:PySem.W.Frag) (t:iU) (W:VW) (p:Int) (ns:List Int) (names:List Str) (b a:Addr) (g:VW→List Int→Prop) (f:VW→List Int→VW×List Int):Prop where
 num:∃kvs,DM K t.cD kvs∧cN kvs p=some (.ref b)
 at_:∀H,bb K H b (names.map V.str)
 call:∃kvs,DM K t.fB kvs∧cN kvs p=some (.ref a)
 g_:Gu K t a (a3 g f K (cs t))
 len:names.length≤ns.length
 ok:∀k∈names,qG (some W) k
 no:(bM (some W) names ns && pairsOk (ns.drop names.length))=false→cE (some W) (p,ns)=(some W,[-1])
 yes:(bM (some W) names ns && pairsOk (ns.drop names.length))=true→g W ns∧cE (some W) (p,ns)=(some (f W ns).1,(f W ns).2)
theorem NU {W:VW}{c:Vbcnag.Call}{p:Int}{ns:List Int}(hs:cE (some W) (p,ns)=(some (Vbcnag.inWorld W c).1,(Vbcnag.inWorld W c).2))(h:Vbcnag.inWorld W c=(W,[-1])):cE (some W) (p,ns)=(some W,[-1]):=by
 rw [hs,h]
theorem pq {W:VW}{k:Int}(h:Vbcnag.isPlace W k=true):∃n:Nat,k=(n:Int)∧n < W.bag.length:=by
 obtain ⟨h1,h2⟩:=bh.mp h
 exact ⟨k.toNat,by omega,by omega⟩
theorem dJ {W:VW}{p:Int}{ns:List Int}{names:List Str}{b a:Addr}{g:VW→List Int→Prop}{f:VW→List Int→VW×List Int}(c:Vbcnag.Call)(gd:Bool)(T:Txt K mg t)(n_:∃kvs,DM K t.cD kvs∧cN kvs p=some (.ref b))(at_:∀H,bb K H b (names.map V.str))(c_:∃kvs,DM K t.fB kvs∧cN kvs p=some (.ref a))(g_:Gu K t a (a3 g f K (cs t)))
  (l_:names.length≤ns.length)(o_:(names.all fun k=>fg k||(jK.lookup k).isSome)=true)(hk:(bM (some W) names ns && pairsOk (ns.drop names.length))=gd)(hs:cE (some W) (p,ns)=(some (Vbcnag.inWorld W c).1,(Vbcnag.inWorld W c).2))
  (hn:gd=false→Vbcnag.inWorld W c=(W,[-1]))(hy:gd=true→g W ns∧Vbcnag.inWorld W c=f W ns):Plan K t W p ns names b a g f:=
 ⟨n_,at_,c_,g_,l_,DE W o_,fun e=>NU hs (hn (hk.symm.trans e)),fun e=>⟨(hy (hk.symm.trans e)).1,by rw [hs,(hy (hk.symm.trans e)).2]⟩⟩
theorem E3 (T:Txt K mg t)(W:VW)(p c l:Int):Plan K t W 1 [p,c,l] ["relay","circuit","limit"] t.gY t.bI EO xJ:=
 dJ (.relay p c l) (Vbcnag.isRelay W p && (Vbcnag.isCircuit c && (Vbcnag.within l 1 16))) T ⟨_,T.a6,rfl⟩ T.pP ⟨_,T.bU,rfl⟩ (.inl ⟨rfl,rfl⟩) (Nat.le_refl _) (by decide +kernel) (by
  show (bM _ _ _ && pairsOk [])=_
  rw [a4,aD,aD,aD,bq,pk,pj,M8,Bool.and_true,Bool.and_true]) rfl (fun e=>if_pos e) fun e=>by
  have q:=e
  rw [Bool.and_eq_true,Bool.and_eq_true] at q
  obtain ⟨q0,q1,q2⟩:=q
  obtain ⟨p',rfl⟩:=aO q0 (by decide)
  obtain ⟨c',rfl⟩:=aO q1 (by decide)
  obtain ⟨l',rfl⟩:=aO q2 (by decide)
  exact ⟨⟨p',c',l',rfl,e⟩,rfl⟩
theorem Ij (T:Txt K mg t)(W:VW)(h r c:Int):Plan K t W 2 [h,r,c] ["host","relay","circuit"] t.gZ t.gA KA zR:=
 dJ (.plug h r c) (Vbcnag.isHost h && (Vbcnag.isRelay W r && (Vbcnag.isCircuit c))) T ⟨_,T.a6,rfl⟩ T.pQ ⟨_,T.bU,rfl⟩ (.inr (.inl ⟨rfl,rfl⟩)) (Nat.le_refl _) (by decide +kernel) (by
  show (bM _ _ _ && pairsOk [])=_
  rw [a4,aD,aD,aD,bq,kH,pk,pj,Bool.and_true,Bool.and_true]) rfl (fun e=>if_pos e) fun e=>by
  have q:=e
  rw [Bool.and_eq_true,Bool.and_eq_true] at q
  obtain ⟨q0,q1,q2⟩:=q
  obtain ⟨h',rfl⟩:=aO q0 (by decide)
  obtain ⟨r',rfl⟩:=aO q1 (by decide)
  obtain ⟨c',rfl⟩:=aO q2 (by decide)
  exact ⟨⟨h',r',c',rfl,e⟩,rfl⟩
theorem DH (T:Txt K mg t)(W:VW)(h:Int):Plan K t W 3 [h] ["host"] t.g9 t.dF g1 o6:=
 dJ (.unplug h) (Vbcnag.isHost h) T ⟨_,T.a6,rfl⟩ T.pR ⟨_,T.bU,rfl⟩ (.inr (.inr (.inl ⟨rfl,rfl⟩))) (Nat.le_refl _) (by decide +kernel) (by
  show (bM _ _ _ && pairsOk [])=_
  rw [a4,aD,bq,kH,Bool.and_true,Bool.and_true]) rfl (fun e=>if_pos e) fun e=>by
  exact ⟨⟨h,rfl,e⟩,rfl⟩
theorem M9 (T:Txt K mg t)(W:VW)(h:Int):Plan K t W 4 [h] ["host"] t.hC t.c5 g1 QI:=
 dJ (.on h) (Vbcnag.isHost h) T ⟨_,T.a6,rfl⟩ T.pS ⟨_,T.bU,rfl⟩ (.inr (.inr (.inr (.inl ⟨rfl,rfl⟩)))) (Nat.le_refl _) (by decide +kernel) (by
  show (bM _ _ _ && pairsOk [])=_
  rw [a4,aD,bq,kH,Bool.and_true,Bool.and_true]) rfl (fun e=>if_pos e) fun e=>by
  exact ⟨⟨h,rfl,e⟩,rfl⟩
theorem Lp (T:Txt K mg t)(W:VW)(h:Int):Plan K t W 5 [h] ["host"] t.hJ t.bZ g1 HL:=
 dJ (.off h) (Vbcnag.isHost h) T ⟨_,T.a6,rfl⟩ T.pT ⟨_,T.bU,rfl⟩ (.inr (.inr (.inr (.inr (.inl ⟨rfl,rfl⟩))))) (Nat.le_refl _) (by decide +kernel) (by
  show (bM _ _ _ && pairsOk [])=_
  rw [a4,aD,bq,kH,Bool.and_true,Bool.and_true]) rfl (fun e=>if_pos e) fun e=>by
  exact ⟨⟨h,rfl,e⟩,rfl⟩
theorem DI (T:Txt K mg t)(W:VW)(h:Int):Plan K t W 6 [h] ["host"] t.hR t.dG g1 o7:=
 dJ (.forget h) (Vbcnag.isHost h) T ⟨_,T.a6,rfl⟩ T.pU ⟨_,T.bU,rfl⟩ (.inr (.inr (.inr (.inr (.inr (.inl ⟨rfl,rfl⟩)))))) (Nat.le_refl _) (by decide +kernel) (by
  show (bM _ _ _ && pairsOk [])=_
  rw [a4,aD,bq,kH,Bool.and_true,Bool.and_true]) rfl (fun e=>if_pos e) fun e=>by
  exact ⟨⟨h,rfl,e⟩,rfl⟩
theorem DJ (T:Txt K mg t)(W:VW)(s h r a l:Int):Plan K t W 7 [s,h,r,a,l] ["server","host","relay","address","len"] t.hU t.f_assign BG o8:=
 dJ (.assign s h r a l) (Vbcnag.isServer W s && (Vbcnag.isHost h && (Vbcnag.isRelay W r && (Vbcnag.within a 0 (Vbcnag.ADDRS - 1) && (Vbcnag.within l 1 1000000000))))) T ⟨_,T.a6,rfl⟩ T.pV ⟨_,T.bU,rfl⟩ (.inr (.inr (.inr (.inr (.inr (.inr (.inl ⟨rfl,rfl⟩))))))) (Nat.le_refl _) (by decide +kernel) (by
  show (bM _ _ _ && pairsOk [])=_
  rw [a4,aD,aD,aD,aD,aD,bq,tj,kH,pk,z6,Z4,Bool.and_true,Bool.and_true]) rfl (fun e=>if_pos e) fun e=>by
  have q:=e
  rw [Bool.and_eq_true,Bool.and_eq_true,Bool.and_eq_true,Bool.and_eq_true] at q
  obtain ⟨q0,q1,q2,q3,q4⟩:=q
  obtain ⟨s',rfl⟩:=aO q0 (by decide)
  obtain ⟨h',rfl⟩:=aO q1 (by decide)
  obtain ⟨r',rfl⟩:=aO q2 (by decide)
  obtain ⟨a',rfl⟩:=aO q3 (by decide)
  obtain ⟨l',rfl⟩:=aO q4 (by decide)
  exact ⟨⟨s',h',r',a',l',rfl,e⟩,rfl⟩
theorem yR (T:Txt K mg t)(W:VW)(s h r:Int):Plan K t W 8 [s,h,r] ["server","host","relay"] t.hW t.b0 uj o9:=
 dJ (.withdraw s h r) (Vbcnag.isServer W s && (Vbcnag.isHost h && (Vbcnag.isRelay W r))) T ⟨_,T.a6,rfl⟩ T.pW ⟨_,T.bU,rfl⟩ (.inr (.inr (.inr (.inr (.inr (.inr (.inr (.inl ⟨rfl,rfl⟩)))))))) (Nat.le_refl _) (by decide +kernel) (by
  show (bM _ _ _ && pairsOk [])=_
  rw [a4,aD,aD,aD,bq,tj,kH,pk,Bool.and_true,Bool.and_true]) rfl (fun e=>if_pos e) fun e=>by
  have q:=e
  rw [Bool.and_eq_true,Bool.and_eq_true] at q
  obtain ⟨q0,q1,q2⟩:=q
  obtain ⟨s',rfl⟩:=aO q0 (by decide)
  obtain ⟨h',rfl⟩:=aO q1 (by decide)
  obtain ⟨r',rfl⟩:=aO q2 (by decide)
  exact ⟨⟨s',h',r',rfl,e⟩,rfl⟩
theorem Ik (T:Txt K mg t)(W:VW)(s x:Int):Plan K t W 9 [s,x] ["server","x"] t.hX t.gB Kv F8:=
 dJ (.rest s x) (Vbcnag.isServer W s && (Vbcnag.within x 0 1)) T ⟨_,T.a6,rfl⟩ T.pX ⟨_,T.bU,rfl⟩ (.inr (.inr (.inr (.inr (.inr (.inr (.inr (.inr (.inl ⟨rfl,rfl⟩))))))))) (Nat.le_refl _) (by decide +kernel) (by
  show (bM _ _ _ && pairsOk [])=_
  rw [a4,aD,aD,bq,tj,o_x,Bool.and_true,Bool.and_true]) rfl (fun e=>if_pos e) fun e=>by
  have q:=e
  rw [Bool.and_eq_true] at q
  obtain ⟨q0,q1⟩:=q
  obtain ⟨s',rfl⟩:=aO q0 (by decide)
  obtain ⟨x',rfl⟩:=aO q1 (by decide)
  exact ⟨⟨s',x',rfl,e⟩,rfl⟩
theorem Il (T:Txt K mg t)(W:VW)(t0:Int):Plan K t W 10 [t0] ["t"] t.hZ t.gC Kr FZ:=
 dJ (.tick t0) (Vbcnag.within t0 0 20000) T ⟨_,T.a6,rfl⟩ T.pY ⟨_,T.bU,rfl⟩ (.inr (.inr (.inr (.inr (.inr (.inr (.inr (.inr (.inr (.inl ⟨rfl,rfl⟩)))))))))) (Nat.le_refl _) (by decide +kernel) (by
  show (bM _ _ _ && pairsOk [])=_
  rw [a4,aD,bq,o_t,Bool.and_true,Bool.and_true]) rfl (fun e=>if_pos e) fun e=>by
  exact ⟨⟨t0,rfl,e⟩,rfl⟩
theorem BY (T:Txt K mg t)(W:VW)(hw:W.written.length≤500000)(k:Int):Plan K t W 11 [k] ["k"] t.ia t.c6 xZ sY:=
 dJ (.deliver k) (Vbcnag.isPlace W k) T ⟨_,T.a6,rfl⟩ T.pZ ⟨_,T.bU,rfl⟩ (.inr (.inr (.inr (.inr (.inr (.inr (.inr (.inr (.inr (.inr (.inl ⟨rfl,rfl⟩))))))))))) (Nat.le_refl _) (by decide +kernel) (by
  show (bM _ _ _ && pairsOk [])=_
  rw [a4,aD,bq,o_k,Bool.and_true,Bool.and_true]) rfl (fun e=>if_pos e) fun e=>by
  obtain ⟨k',rfl,hk⟩:=pq e
  exact ⟨⟨hw,k',rfl,hk⟩,rfl⟩
theorem Im (T:Txt K mg t)(W:VW)(k:Int):Plan K t W 12 [k] ["k"] t.ib t.gD gK Gn:=
 dJ (.lose k) (Vbcnag.isPlace W k) T ⟨_,T.a6,rfl⟩ T.p0 ⟨_,T.bU,rfl⟩ (.inr (.inr (.inr (.inr (.inr (.inr (.inr (.inr (.inr (.inr (.inr (.inl ⟨rfl,rfl⟩)))))))))))) (Nat.le_refl _) (by decide +kernel) (by
  show (bM _ _ _ && pairsOk [])=_
  rw [a4,aD,bq,o_k,Bool.and_true,Bool.and_true]) rfl (fun e=>if_pos e) fun e=>by
  obtain ⟨k',rfl,hk⟩:=pq e
  exact ⟨⟨k',rfl,hk⟩,rfl⟩
theorem DK (T:Txt K mg t)(W:VW)(k:Int):Plan K t W 13 [k] ["k"] t.ic t.dH gK vT:=
 dJ (.double k) (Vbcnag.isPlace W k) T ⟨_,T.a6,rfl⟩ T.qa ⟨_,T.bU,rfl⟩ (.inr (.inr (.inr (.inr (.inr (.inr (.inr (.inr (.inr (.inr (.inr (.inr (.inl ⟨rfl,rfl⟩))))))))))))) (Nat.le_refl _) (by decide +kernel) (by
  show (bM _ _ _ && pairsOk [])=_
  rw [a4,aD,bq,o_k,Bool.and_true,Bool.and_true]) rfl (fun e=>if_pos e) fun e=>by
  obtain ⟨k',rfl,hk⟩:=pq e
  exact ⟨⟨k',rfl,hk⟩,rfl⟩
theorem Io (T:Txt K mg t)(W:VW)(hw:W.written.length≤500000)(m:Int):Plan K t W 14 [m] ["m"] t.ie t.gE Li Gr:=
 dJ (.flow m) (Vbcnag.within m 0 1000) T ⟨_,T.a6,rfl⟩ T.qb ⟨_,T.bU,rfl⟩ (.inr (.inr (.inr (.inr (.inr (.inr (.inr (.inr (.inr (.inr (.inr (.inr (.inr (.inl ⟨rfl,rfl⟩)))))))))))))) (Nat.le_refl _) (by decide +kernel) (by
  show (bM _ _ _ && pairsOk [])=_
  rw [a4,aD,bq,o_m,Bool.and_true,Bool.and_true]) rfl (fun e=>if_pos e) fun e=>by
  obtain ⟨h1,h2⟩:=bh.mp e
  obtain ⟨m',rfl⟩:∃m':Nat,m=(m':Int):=⟨m.toNat,by omega⟩
  exact ⟨⟨hw,m',rfl,by omega⟩,rfl⟩
theorem DL (T:Txt K mg t)(W:VW)(h:Int):Plan K t W 16 [h] ["host"] t.ij t.bo g1 sW:=
 dJ (.client h) (Vbcnag.isHost h) T ⟨_,T.a6,rfl⟩ T.qd ⟨_,T.bU,rfl⟩ (.inr (.inr (.inr (.inr (.inr (.inr (.inr (.inr (.inr (.inr (.inr (.inr (.inr (.inr (.inr (.inl ⟨rfl,rfl⟩)))))))))))))))) (Nat.le_refl _) (by decide +kernel) (by
  show (bM _ _ _ && pairsOk [])=_
  rw [a4,aD,bq,kH,Bool.and_true,Bool.and_true]) rfl (fun e=>if_pos e) fun e=>by
  exact ⟨⟨h,rfl,e⟩,rfl⟩
theorem BZ (T:Txt K mg t)(W:VW)(hw:W.written.length≤500000)(s h:Int):Plan K t W 17 [s,h] ["server","host"] t.ik t.a9 xX sX:=
 dJ (.written s h) (Vbcnag.isServer W s && (Vbcnag.isHost h)) T ⟨_,T.a6,rfl⟩ T.qe ⟨_,T.bU,rfl⟩ (.inr (.inr (.inr (.inr (.inr (.inr (.inr (.inr (.inr (.inr (.inr (.inr (.inr (.inr (.inr (.inr (.inl ⟨rfl,rfl⟩))))))))))))))))) (Nat.le_refl _) (by decide +kernel) (by
  show (bM _ _ _ && pairsOk [])=_
  rw [a4,aD,aD,bq,tj,kH,Bool.and_true,Bool.and_true]) rfl (fun e=>if_pos e) fun e=>by
  have q:=e
  rw [Bool.and_eq_true] at q
  obtain ⟨q0,q1⟩:=q
  obtain ⟨s',rfl⟩:=aO q0 (by decide)
  obtain ⟨h',rfl⟩:=aO q1 (by decide)
  exact ⟨⟨hw,s',h',rfl,e⟩,rfl⟩
theorem Ip (T:Txt K mg t)(W:VW)(k:Int):Plan K t W 18 [k] ["k"] t.il t.gF gK Gp:=
 dJ (.peek k) (Vbcnag.isPlace W k) T ⟨_,T.a6,rfl⟩ T.qf ⟨_,T.bU,rfl⟩ (.inr (.inr (.inr (.inr (.inr (.inr (.inr (.inr (.inr (.inr (.inr (.inr (.inr (.inr (.inr (.inr (.inr (.inl ⟨rfl,rfl⟩)))))))))))))))))) (Nat.le_refl _) (by decide +kernel) (by
  show (bM _ _ _ && pairsOk [])=_
  rw [a4,aD,bq,o_k,Bool.and_true,Bool.and_true]) rfl (fun e=>if_pos e) fun e=>by
  obtain ⟨k',rfl,hk⟩:=pq e
  exact ⟨⟨k',rfl,hk⟩,rfl⟩
theorem Iq (T:Txt K mg t)(W:VW)(r c:Int):Plan K t W 19 [r,c] ["relay","circuit"] t.ip t.bJ Lg Gq:=
 dJ (.path r c) (Vbcnag.isRelay W r && (Vbcnag.isCircuit c)) T ⟨_,T.a6,rfl⟩ T.qg ⟨_,T.bU,rfl⟩ (.inr (.inr (.inr (.inr (.inr (.inr (.inr (.inr (.inr (.inr (.inr (.inr (.inr (.inr (.inr (.inr (.inr (.inr (.inl ⟨rfl,rfl⟩))))))))))))))))))) (Nat.le_refl _) (by decide +kernel) (by
  show (bM _ _ _ && pairsOk [])=_
  rw [a4,aD,aD,bq,pk,pj,Bool.and_true,Bool.and_true]) rfl (fun e=>if_pos e) fun e=>by
  have q:=e
  rw [Bool.and_eq_true] at q
  obtain ⟨q0,q1⟩:=q
  have dy:=(mj q0).2
  obtain ⟨r',rfl⟩:=aO q0 (by decide)
  obtain ⟨c',rfl⟩:=aO q1 (by decide)
  exact ⟨⟨r',c',rfl,(by rw [Int.toNat_natCast] at dy;exact dy),e⟩,rfl⟩
theorem Ir (T:Txt K mg t)(W:VW):Plan K t W 20 [] [] t.iq t.bK g0 Lh:=
 dJ (.next) (true) T ⟨_,T.a6,rfl⟩ T.qh ⟨_,T.bU,rfl⟩ (.inr (.inr (.inr (.inr (.inr (.inr (.inr (.inr (.inr (.inr (.inr (.inr (.inr (.inr (.inr (.inr (.inr (.inr (.inr (.inl ⟨rfl,rfl⟩)))))))))))))))))))) (Nat.le_refl _) (by decide +kernel) rfl rfl (fun e=>nomatch e) fun _=>⟨rfl,rfl⟩
theorem E4 (T:Txt K mg t)(W:VW):Plan K t W 21 [] [] t.ir t.bA g0 fState:=
 dJ (.state) (true) T ⟨_,T.a6,rfl⟩ T.qi ⟨_,T.bU,rfl⟩ (.inr (.inr (.inr (.inr (.inr (.inr (.inr (.inr (.inr (.inr (.inr (.inr (.inr (.inr (.inr (.inr (.inr (.inr (.inr (.inr (⟨rfl,rfl⟩))))))))))))))))))))) (Nat.le_refl _) (by decide +kernel) rfl rfl (fun e=>nomatch e) fun _=>⟨rfl,rfl⟩
end
end Rl
namespace Rl
open PySem PySem.Spec PyProof.Rows L2 PyProof.Rows.KTD
open Vbcnag (Mark Msg Under Offer Lease Client Relay Assigned Written)
theorem z7 {l:List Int}:pairsOk l=false ↔ (l.length % 2=1∨32 < l.length∨l.any (fun x=> !Vbcnag.isCircuit x)=true):=by
 unfold pairsOk
 simp only [Bool.and_eq_false_iff,decide_eq_false_iff_not,List.all_eq_false,List.any_eq_true,Bool.not_eq_true',Bool.not_eq_true]
 constructor
 ·rintro (h|h|h)
  ·exact .inl (by omega)
  ·exact .inr (.inl (by omega))
  ·exact .inr (.inr h)
 ·rintro (h|h|h)
  ·exact .inl (by omega)
  ·exact .inr (.inl (by omega))
  ·exact .inr (.inr h)
section
variable {K:PySem.W.Frag}{mg:Str→Option Value}{t:iU}
theorem E5 (T:Txt K mg t)(W:VW)(r c h n k s a p:Int)(marks:List Int)(hn:n≤1000000000000000000):
  Plan K t W 15 (r::c::h::n::k::s::a::p::marks) ["relay","circuit","host","number","kind","server or none","address","hops"] t.ig t.eZ E1 x4:=by
 have key:∀b,(bM (some W) ["relay","circuit","host","number","kind","server or none","address","hops"] (r::c::h::n::k::s::a::p::marks) && pairsOk ((r::c::h::n::k::s::a::p::marks).drop (["relay","circuit","host","number","kind","server or none","address","hops"] :List Str).length))=b→
   ((Vbcnag.isRelay W r && (Vbcnag.isCircuit c && (Vbcnag.isHost h && (decide (1≤n) && (Vbcnag.within k 1 5 && (Vbcnag.within s (-1) ((W.servers:Int) - 1) && (Vbcnag.within a 0 (Vbcnag.ADDRS - 1) && Vbcnag.within p 0 16))))))) && pairsOk marks)=b:=fun b e=>by
  have e':(bM (some W) ["relay","circuit","host","number","kind","server or none","address","hops"] (r::c::h::n::k::s::a::p::marks) && pairsOk marks)=b:=e
  have hnn:Vbcnag.within n 1 1000000000000000000=decide (1≤n):=by
   unfold Vbcnag.within
   rw [decide_eq_true hn,Bool.and_true]
  rw [aD,aD,aD,aD,aD,aD,aD,aD,bq,pk,pj,kH,Lo,Q5,ajr,z6,Q6,hnn,Bool.and_true] at e'
  exact e'
 refine ⟨⟨_,T.a6,rfl⟩,T.qc,⟨_,T.bU,rfl⟩,.inr (.inr (.inr (.inr (.inr (.inr (.inr (.inr (.inr (.inr (.inr (.inr (.inr (.inr (.inl ⟨rfl,rfl⟩)))))))))))))),(by show 8≤marks.length + 8;omega),DE W (by decide +kernel),fun e=> ?_,fun e=> ?_⟩
 ·have e:=key _ e
  refine NU (c:= .forge r c h n k s a p marks) rfl ?_
  rw [Bool.and_eq_false_iff] at e
  by_cases q:(Vbcnag.isRelay W r && (Vbcnag.isCircuit c && (Vbcnag.isHost h && (decide (1≤n) && (Vbcnag.within k 1 5 && (Vbcnag.within s (-1) ((W.servers:Int) - 1) && (Vbcnag.within a 0 (Vbcnag.ADDRS - 1) && Vbcnag.within p 0 16)))))))=false
  ·exact if_pos q
  ·rcases e with e|e
   ·exact absurd e q
   ·exact (if_neg q).trans (if_pos (z7.mp e))
 ·have e:=key _ e
  rw [Bool.and_eq_true] at e
  obtain ⟨e1,e2⟩:=e
  have Na:¬ (marks.length % 2=1∨32 < marks.length∨marks.any (fun x=> !Vbcnag.isCircuit x)=true):=fun z=>by
   rw [z7.mpr z] at e2
   cases e2
  have hev:marks.length % 2=0:=by
   have:=fun z=>Na (.inl z)
   omega
  have h32:marks.length≤32:=by
   have:=fun z=>Na (.inr (.inl z))
   omega
  have hci:∀x∈marks,0≤x:=fun x hx=>by
   have hx':Vbcnag.isCircuit x=true:=by
    cases q:Vbcnag.isCircuit x with
    |true=>rfl
    |false=>exact absurd (.inr (.inr (List.any_eq_true.mpr ⟨x,hx,by rw [q];rfl⟩))) Na
   exact (bh.mp hx').1
  have hfl:=DF 16 marks (by omega) hev hci
  have q:=e1
  rw [Bool.and_eq_true,Bool.and_eq_true,Bool.and_eq_true,Bool.and_eq_true,Bool.and_eq_true,Bool.and_eq_true,Bool.and_eq_true] at q
  obtain ⟨q1,q2,q3,q4,q5,q6,q7,q8⟩:=q
  have q4:=of_decide_eq_true q4
  refine ⟨?_,rfl⟩
  obtain ⟨r',rfl⟩:=aO q1 (by decide)
  obtain ⟨c',rfl⟩:=aO q2 (by decide)
  obtain ⟨h',rfl⟩:=aO q3 (by decide)
  obtain ⟨n',rfl⟩:∃n':Nat,n=(n':Int):=⟨n.toNat,by omega⟩
  obtain ⟨k',rfl⟩:=aO q5 (by decide)
  obtain ⟨sv,rfl⟩:∃sv:Option Nat,s=Vbcnag.optional sv:=by
   obtain ⟨h1,_⟩:=bh.mp q6
   by_cases z:s= -1
   ·exact ⟨none,z⟩
   ·exact ⟨some s.toNat,by show s=((s.toNat:Nat):Int);omega⟩
  obtain ⟨a',rfl⟩:=aO q7 (by decide)
  obtain ⟨p',rfl⟩:=aO q8 (by decide)
  have y9:(Vbcnag.marksIn marks).length≤16:=nZ 16 marks (by omega)
  refine ⟨r',c',h',n',k',a',p',sv,Vbcnag.marksIn marks,?_,y9,e1,?_⟩
  ·unfold x3
   rw [hfl]
  ·rw [hfl]
   exact Na
theorem Lq (T:Txt K mg t)(W:VW)(hw:W.written.length≤500000){p:Int}{ns:List Int}(h:VbcnagNeutral.asked1 (ka (p,ns))=true)(hp:p≠0):∃names b a g f,Plan K t W p ns names b a g f:=by
 unfold VbcnagNeutral.asked1 at h
 split at h
 case h_1 e=>
  injection e with e _
  injection e with e _
  exact absurd e hp
 case h_16 e=>
  injection e with e _
  injection e with e1 e2
  have e1:p=15:=e1
  have e2:ns=_:=e2
  subst e1 e2
  simp only [Bool.and_eq_true] at h
  have hn:=h.1.1.1.1.1.2
  unfold VbcnagNeutral.whole60 at hn
  simp only [Bool.and_eq_true,decide_eq_true_eq] at hn
  exact ⟨_,_,_,_,_,E5 T W _ _ _ _ _ _ _ _ _ hn.2⟩
 all_goals first
  |exact absurd h Bool.false_ne_true
  |(rename_i e;injection e with e _;injection e with e1 e2;have e1:p=_:=e1;have e2:ns=_:=e2;subst e1 e2;first
    |exact ⟨_,_,_,_,_,E3 T W _ _ _⟩
    |exact ⟨_,_,_,_,_,Ij T W _ _ _⟩
    |exact ⟨_,_,_,_,_,DH T W _⟩
    |exact ⟨_,_,_,_,_,M9 T W _⟩
    |exact ⟨_,_,_,_,_,Lp T W _⟩
    |exact ⟨_,_,_,_,_,DI T W _⟩
    |exact ⟨_,_,_,_,_,DJ T W _ _ _ _ _⟩
    |exact ⟨_,_,_,_,_,yR T W _ _ _⟩
    |exact ⟨_,_,_,_,_,Ik T W _ _⟩
    |exact ⟨_,_,_,_,_,Il T W _⟩
    |exact ⟨_,_,_,_,_,BY T W hw _⟩
    |exact ⟨_,_,_,_,_,Im T W _⟩
    |exact ⟨_,_,_,_,_,DK T W _⟩
    |exact ⟨_,_,_,_,_,Io T W hw _⟩
    |exact ⟨_,_,_,_,_,DL T W _⟩
    |exact ⟨_,_,_,_,_,BZ T W hw _ _⟩
    |exact ⟨_,_,_,_,_,Ip T W _⟩
    |exact ⟨_,_,_,_,_,Iq T W _ _⟩
    |exact ⟨_,_,_,_,_,Ir T W⟩
    |exact ⟨_,_,_,_,_,E4 T W⟩)
theorem Iu {p:Int}{ns:List Int}(h:VbcnagNeutral.asked1 (ka (p,ns))=true)(hp:p≠0):cE none (p,ns)=(none,[-9]):=by
 unfold VbcnagNeutral.asked1 at h
 split at h
 case h_1 e=>
  injection e with e _
  injection e with e _
  exact absurd e hp
 all_goals first
  |exact absurd h Bool.false_ne_true
  |(rename_i e;injection e with e _;injection e with e1 e2;have e1:p=_:=e1;have e2:ns=_:=e2;subst e1 e2;rfl)
theorem DN {ns:List Int}(h:VbcnagNeutral.asked1 (ka (0,ns))=true):∃a b c,ns= [a,b,c] :=by
 unfold VbcnagNeutral.asked1 at h
 split at h
 case h_1 e=>
  injection e with e _
  injection e with _ e2
  exact ⟨_,_,_,e2⟩
 all_goals first
  |exact absurd h Bool.false_ne_true
  |(rename_i e;injection e with e _;injection e with e1 _;have e1:(0:Int)=_:=e1;exact absurd e1 (by decide))
end
end Rl
namespace Rl
open PySem PySem.Spec PyProof.Rows L2 PyProof.Rows.KTD
open Vbcnag (Mark Msg Under Offer Lease Client Relay Assigned Written)
theorem mw (s:Option VW)(a b c:Int):cE s (0,[a,b,c])=if (Vbcnag.within a 1 4 && (Vbcnag.within b 1 10000 && Vbcnag.within c 0 Vbcnag.TIMES))=false then (s,[-1]) else (some (first a.toNat b.toNat c.toNat),[0]):=by
 cases s <;>rfl
section
variable {P:Program}{w:World}{K:PySem.W.Frag}{mg:Str→Option Value}{base:Heap}{t:iU}
theorem BL (T:Txt K mg t):a7 P w K mg base dY 40 t.kl t.wK wJ (KH K (cs t)):=by
 refine T.ED.ok Mr (fun vs H Q E h=> ?_) (fun de A0 outer s H vs Q E hr h=> ?_)
 ·obtain ⟨n,st,A,cas,wv,p,ns,nm,rfl,_⟩:=h
  rfl
 ·obtain ⟨n,st,A,cas,wv,p,ns,nm,rfl,hn,sg,mx,px,ajs,ES,k⟩:=h
  have S0:=aj.refl H
  have out:∀ (Hk:Hp)(e:Int),aj H Hk→cE st (p,ns)=(st,[e])→∀ra,Hk ra=none→∀ta,L2.upd Hk ra (.lst [V.int e]) ta=none→Q (.ref ta) (L2.upd (L2.upd Hk ra (.lst [V.int e])) ta (.tup [wv,.ref ra])):=fun Hk e Sk he ra tp ta Ca=>by
   rw [he] at k
   have S1:=aj.ao (o:=HO.lst [V.int e]) tp
   have S2:=aj.ao (o:=HO.tup [wv,.ref ra]) Ca
   have S:=(Sk.trans S1).trans S2
   exact k _ ta ra wv A cas ab (S2 _ _ ab) (mx.same S) (fun b o e _=>S b o e) (fun b h=> .inl h) (Sk.free tp)
  obtain ⟨aaQ,Gv,Gw⟩:=T.FT
  refine ⟨_,ae (aZ (PW.pt (gq (bD (fQ (pv 0))) (eF (aI v9 (pv 1) (aC (by rfl) Gv Gw) (aM _))))) (ak (aH (bx (aa dO (aa (aT (aa (dg bP ah) af)) af))))) aR)
   (ae (aZ (IK (mM (aA (ya T) (hr.mono (by decide)) (by rfl) T.pI T.ku.kp T.pJ .nil aQ (aa (pv 0) (aa (pv 1) (aa (pv 2) af)))))) (ak (aH (bx (aa (pv 0) (aa (aT (aa (dg bP ah) af)) af))))) aR)
   (ae (aZ (aI cf (pv 1) (aC (by rfl) Gv Gw) (aM _)) (ak (aH (bx (aa (jM T.Qhl (KD T) (hr.mono (by decide)) (by rfl) T.FI T.rQ .nil aQ (aa (aE aJ (pv 2) ah (fun _ _=>rfl)) (aa (aE aJ (pv 2) ah (fun _ _=>rfl)) (aa (aE aJ (pv 2) ah (fun _ _=>rfl)) af)))) (aa (aT (aa ah af)) af))))) aR)
   (ak (aH (bx (aa (pv 0) (aa (aA (Ih T) (hr.mono (by decide)) (by rfl) T.C4 T.xb.kp T.C5 .nil aQ (aa (pv 0) (aa (pv 1) (aa (pv 2) af)))) af))))))),?_⟩
  by_cases hp:p=0
  ·subst hp
   obtain ⟨a,b,c,rfl⟩:=DN ES
   have qr:∀q,(bM st ["servers","cap","time"] [a,b,c] && pairsOk ([a,b,c].drop (["servers","cap","time"] :List Str).length))=q→(Vbcnag.within a 1 4 && (Vbcnag.within b 1 10000 && Vbcnag.within c 0 Vbcnag.TIMES))=q:=fun q e=>by
    have e':(bM st ["servers","cap","time"] [a,b,c] && pairsOk [])=q:=e
    rw [a4,aD,aD,aD,bq,Ii,Z3,Q4,Bool.and_true,Bool.and_true] at e'
    exact e'
   cases st with
   |none=>
    have ev:wv= .bu:=mx
    subst ev
    refine ⟨_,rfl,_,rfl,a8 ?_⟩
    refine ⟨_,rfl,rfl,_,rfl,Jo rfl ?_⟩
    refine ⟨_,rfl,_,rfl,_,rfl,none,A,cas,_,0,nm,[a,b,c],_,t.fk,["servers","cap","time"],rfl,mx,bT.of px,T.a6,rfl,T.kz,Nat.le_refl _,fun ky hky=>yb _ ?_,fun H1 S1=> ?_⟩
    ·have:=List.all_eq_true.mp (show ((["servers","cap","time"] :List Str).all fun k=> !fg k && (jK.lookup k).isSome)=true by decide +kernel) ky hky
     simpa using this
    refine ⟨_,rfl,?_⟩
    cases bF:(bM none ["servers","cap","time"] [a,b,c] && pairsOk ([a,b,c].drop (["servers","cap","time"] :List Str).length)) with
    |false=>
     have e:=qr _ bF
     refine a8 ?_
     refine ⟨_,rfl,_,rfl,(by show 1≤sizeLine;decide),fun ra tp=>⟨(by show 2≤sizeLine;decide),fun ta Ca=> ?_⟩⟩
     exact out H1 (-1) S1 (by rw [mw,if_pos e]) ra tp ta Ca
    |true=>
     have e:=qr _ bF
     rw [mw,if_neg (by rw [e];decide)] at k
     rw [Bool.and_eq_true,Bool.and_eq_true] at e
     obtain ⟨e1,e2,e3⟩:=e
     have e4:=(bh.mp e1).2
     obtain ⟨a',rfl⟩:=aO e1 (by decide)
     obtain ⟨b',rfl⟩:=aO e2 (by decide)
     obtain ⟨c',rfl⟩:=aO e3 (by decide)
     rw [Int.toNat_natCast,Int.toNat_natCast,Int.toNat_natCast] at k
     refine bf ?_
     refine ⟨_,rfl,rfl,_,rfl,a8 ?_⟩
     have E6:=bT.of (K:=K) (S1 _ _ px)
     refine ⟨_,rfl,nm,_,_,_,rfl,rfl,E6,rfl,_,rfl,nm,_,_,_,rfl,rfl,E6,rfl,_,rfl,nm,_,_,_,rfl,rfl,E6,rfl,?_⟩
     intro x dx nx HF Rz
     refine ⟨x,dx,a',b',c',rfl,ab,(by omega),fun H5 A5 hA5 R5 k5 m5=>⟨rfl,?_⟩⟩
     subst hA5
     have S5:=aj.made nx HF k5
     refine ⟨(by show 1≤sizeLine;decide),fun ra tp=>⟨(by show 2≤sizeLine;decide),fun ta Ca=> ?_⟩⟩
     have S6:=aj.ao (o:=HO.lst [V.int 0]) tp
     have S7:=aj.ao (o:=HO.tup [V.ref A5.w,.ref ra]) Ca
     have S:=(S1.trans S5).trans (S6.trans S7)
     refine k _ ta ra (.ref A5.w) A5 [] ab (S7 _ _ ab) ⟨rfl,R5.same (S6.trans S7)⟩ (fun b o e _=>S b o e) (fun q hq=> .inr ?_) ((S1.trans S5).free tp)
     rcases m5 q hq with z|z
     ·rw [z]
      exact S1.free nx
     ·exact S1.free (bX (bX z))
   |some W=>
    obtain ⟨ev,R⟩:=id mx
    subst ev
    refine ⟨_,rfl,_,rfl,bf ?_⟩
    refine ⟨_,rfl,_,rfl,_,rfl,(some W),A,cas,_,0,nm,[a,b,c],_,t.fk,["servers","cap","time"],rfl,mx,bT.of px,T.a6,rfl,T.kz,Nat.le_refl _,fun ky hky=>yb _ ?_,fun H1 S1=> ?_⟩
    ·have:=List.all_eq_true.mp (show ((["servers","cap","time"] :List Str).all fun k=> !fg k && (jK.lookup k).isSome)=true by decide +kernel) ky hky
     simpa using this
    refine ⟨_,rfl,?_⟩
    cases bF:(bM (some W) ["servers","cap","time"] [a,b,c] && pairsOk ([a,b,c].drop (["servers","cap","time"] :List Str).length)) with
    |false=>
     have e:=qr _ bF
     refine a8 ?_
     refine ⟨_,rfl,_,rfl,(by show 1≤sizeLine;decide),fun ra tp=>⟨(by show 2≤sizeLine;decide),fun ta Ca=> ?_⟩⟩
     exact out H1 (-1) S1 (by rw [mw,if_pos e]) ra tp ta Ca
    |true=>
     have e:=qr _ bF
     rw [mw,if_neg (by rw [e];decide)] at k
     rw [Bool.and_eq_true,Bool.and_eq_true] at e
     obtain ⟨e1,e2,e3⟩:=e
     have e4:=(bh.mp e1).2
     obtain ⟨a',rfl⟩:=aO e1 (by decide)
     obtain ⟨b',rfl⟩:=aO e2 (by decide)
     obtain ⟨c',rfl⟩:=aO e3 (by decide)
     rw [Int.toNat_natCast,Int.toNat_natCast,Int.toNat_natCast] at k
     refine bf ?_
     refine ⟨_,rfl,rfl,_,rfl,a8 ?_⟩
     have E6:=bT.of (K:=K) (S1 _ _ px)
     refine ⟨_,rfl,nm,_,_,_,rfl,rfl,E6,rfl,_,rfl,nm,_,_,_,rfl,rfl,E6,rfl,_,rfl,nm,_,_,_,rfl,rfl,E6,rfl,?_⟩
     intro x dx nx HF Rz
     refine ⟨x,dx,a',b',c',rfl,ab,(by omega),fun H5 A5 hA5 R5 k5 m5=>⟨rfl,?_⟩⟩
     subst hA5
     have S5:=aj.made nx HF k5
     refine ⟨(by show 1≤sizeLine;decide),fun ra tp=>⟨(by show 2≤sizeLine;decide),fun ta Ca=> ?_⟩⟩
     have S6:=aj.ao (o:=HO.lst [V.int 0]) tp
     have S7:=aj.ao (o:=HO.tup [V.ref A5.w,.ref ra]) Ca
     have S:=(S1.trans S5).trans (S6.trans S7)
     refine k _ ta ra (.ref A5.w) A5 [] ab (S7 _ _ ab) ⟨rfl,R5.same (S6.trans S7)⟩ (fun b o e _=>S b o e) (fun q hq=> .inr ?_) ((S1.trans S5).free tp)
     rcases m5 q hq with z|z
     ·rw [z]
      exact S1.free nx
     ·exact S1.free (bX (bX z))
  ·cases st with
   |none=>
    have ev:wv= .bu:=mx
    subst ev
    refine ⟨_,rfl,_,rfl,a8 ?_⟩
    refine ⟨_,rfl,rfl,_,rfl,?_⟩
    rw [show decide (V.int p=V.int 0)=false from decide_eq_false (fun z=>hp (by injection z))]
    refine a8 ?_
    exact ⟨_,rfl,(by show 1≤sizeLine;decide),fun ra tp=>⟨(by show 2≤sizeLine;decide),fun ta Ca=>out H (-9) S0 (Iu ES hp) ra tp ta Ca⟩⟩
   |some W=>
    obtain ⟨ev,R⟩:=id mx
    subst ev
    obtain ⟨wg,HQ⟩:=sg
    obtain ⟨names,b,a,g,f,PL⟩:=Lq T W (by omega) ES hp
    obtain ⟨kvs,hD,hv⟩:=PL.num
    refine ⟨_,rfl,_,rfl,bf ?_⟩
    refine ⟨_,rfl,_,rfl,_,rfl,some W,A,cas,_,p,nm,ns,kvs,b,names,rfl,mx,bT.of px,hD,hv,PL.at_,PL.len,PL.ok,fun H1 S1=> ?_⟩
    refine ⟨_,rfl,?_⟩
    cases bF:(bM (some W) names ns && pairsOk (ns.drop names.length)) with
    |false=>
     refine a8 ?_
     exact ⟨_,rfl,_,rfl,(by show 1≤sizeLine;decide),fun ra tp=>⟨(by show 2≤sizeLine;decide),fun ta Ca=>out H1 (-1) S1 (PL.no bF) ra tp ta Ca⟩⟩
    |true=>
     obtain ⟨hg,Z5⟩:=PL.yes bF
     obtain ⟨ajv,hDC,hvC⟩:=PL.call
     rw [Z5] at k
     refine bf ?_
     refine ⟨_,rfl,rfl,_,rfl,?_⟩
     rw [show decide (V.int p=V.int 0)=false from decide_eq_false (fun z=>hp (by injection z))]
     refine bf ?_
     refine ⟨_,rfl,_,rfl,_,rfl,_,rfl,_,p,nm,a,ajv,g,f,rfl,hDC,hvC,PL.g_,A,cas,W,nm,ns,rfl,R.same S1,wg,bT.of (S1 _ _ px),ajs,hg,fun H2 yD q R2 F2 hc hq RF=> ?_⟩
     refine ⟨(by show 2≤sizeLine;decide),fun ta Ca=> ?_⟩
     have S3:=aj.ao (o:=HO.tup [V.ref A.w,.ref q]) Ca
     refine k _ ta q (.ref A.w) A yD ab (S3 _ _ hq) ⟨rfl,R2.same S3⟩ (fun b o e nb=>S3 _ _ (F2 _ _ (S1 _ _ e) nb)) (fun b hb=> ?_) (S1.free RF)
     rcases hb with z|z|z|z|z|z|z|z|z
     ·exact .inl (.inl z)
     ·exact .inl (.inr (.inl z))
     ·exact .inl (.inr (.inr (.inl z)))
     ·exact .inl (.inr (.inr (.inr (.inl z))))
     ·exact .inl (.inr (.inr (.inr (.inr (.inl z)))))
     ·exact .inl (.inr (.inr (.inr (.inr (.inr (.inl z))))))
     ·exact .inl (.inr (.inr (.inr (.inr (.inr (.inr (.inl z)))))))
     ·exact .inl (.inr (.inr (.inr (.inr (.inr (.inr (.inr (.inl z))))))))
     ·rcases hc b z with y|y
      ·exact .inl (.inr (.inr (.inr (.inr (.inr (.inr (.inr (.inr y))))))))
      ·exact .inr (S1.free y)
end
end Rl
open PySem PySem.W PyProof.Rows
set_option Elab.async false
set_option maxRecDepth 100000 in
set_option maxHeartbeats 0 in
theorem PySem.Challenge.cw_relayleases_s01_answers_holds : PySem.Challenge.rw_relayleases_s01_answers.Holds := by
 w_on;k_headS;(case hw=>exact ⟨[.list [.int 0,.int 3,.int 1,.int 1,.int 0,.int 0]],by decide +kernel,by decide +kernel⟩)
 k_fillS
 refine L2.D8 (r:=PySem.Challenge.rw_relayleases_s01_answers) (k:=41) (CX:=L2.dY) (ps:= ["calls"]) (sp:=Rl.NM) (by decide +kernel) rfl rfl ⟨rfl,by decide,by decide⟩ (fun w h Y=>PySem.W.kIn_of Y) ?F ?S (fun _ _ _ _ z=>z)
 case F=>
  intro w mg fa h Y KX G hmg
  have T:∃t,Rl.Txt (L2.KOf KX) mg t:=by
   dsimp only [L2.KOf]
   refine' Rl.Pf KX G ?Qih ?Qlj ?Qb7 ?Qln ?Qlr ?Qhk ?Qed ?Qk0 ?Qky ?Qkz ?Qh6 ?Qli ?Qb6 ?Qlm ?Qlq ?Qhj ?Qec ?Qkw ?Qkr ?Qkv ?Qks ?Qkx ?Qkp ?Qkt ?Qkq ?Qku ?Qhu ?Qlh ?Qb5 ?Qll ?Qlp ?Qhi ?Qeb ?Qki ?Qkm ?Qkl ?Qkg ?Qkf ?Qkn ?Qko ?Qkh ?Qkk ?Qkj ?Qim ?Qlk ?Qb8 ?Qlo ?Qls ?Qhl ?Qee ?Qk6 ?Qk9 ?Qk3 ?Qk7 ?Qk5 ?Qk4 ?Qk8 ?Qk1 ?Qla ?Qk2 ?Qcb ?Qcf ?Qeh ?Qac ?Qcj ?Qca ?Qce ?Qeg ?Qab ?Qci ?Qb9 ?Qcd ?Qef ?Qaa ?Qch ?Qcc ?Qcg ?Qei ?Qad ?Qck ?Qjr ?Qfm ?Qbh ?k_put ?Qjx ?Qfs ?Qbn ?Qdt ?Qkb ?Qf6 ?Qb1 ?Qd7 ?Qjw ?Qfr ?Qbm ?Qds ?Qix ?Qes ?Qan ?Qcu ?Qi1 ?Qew ?Qar ?Qcy ?Qj0 ?Qfv ?Qbq ?Qdw ?Qiz ?Qeu ?Qap ?Qcw ?Qjt ?Qfo ?Qbj ?Qdp ?Qio ?Qej ?Qae ?Qcl ?Qiq ?Qel ?Qag ?Qcn ?Qip ?Qek ?Qaf ?Qcm ?Qir ?Qem ?Qah ?Qco ?Qjb ?Qe6 ?Qa1 ?Qc8 ?Qjc ?Qe7 ?Qa2 ?Qc9 ?Qje ?Qe9 ?Qa4 ?Qdb ?Qjd ?Qe8 ?Qa3 ?Qda ?Qjf ?Qfa ?Qa5 ?Qdc ?Qi4 ?Qez ?Qau ?Qc1 ?Qjs ?Qfn ?Qbi ?Qdo ?Qja ?Qe5 ?Qa0 ?Qc7 ?Qjy ?Qft ?Qbo ?Qdu ?Qjz ?Qfu ?Qbp ?Qdv ?Qkd ?Qf8 ?Qb3 ?Qd9 ?Qit ?Qeo ?Qaj ?Qcq ?Qi9 ?Qe4 ?Qaz ?Qc6 ?Qi2 ?Qex ?Qas ?Qcz ?Qjl ?Qfg ?Qbb ?Qdi ?Qjm ?Qfh ?Qbc ?Qdj ?Qjk ?Qff ?Qba ?Qdh ?Qi0 ?Qev ?Qaq ?Qcx ?Qke ?Qf9 ?Qb4 ?Qea ?Qjn ?Qfi ?Qbd ?Qdk ?Qji ?Qfd ?Qa8 ?Qdf ?Qis ?Qen ?Qai ?Qcp ?Qjq ?Qfl ?Qbg ?Qdn ?Qka ?Qf5 ?Qb0 ?Qd6 ?Qj9 ?Qf4 ?Qbz ?Qd5 ?Qj8 ?Qf3 ?Qby ?Qd4 ?Qi8 ?Qe3 ?Qay ?Qc5 ?Qiy ?Qet ?Qao ?Qcv ?Qkc ?Qf7 ?Qb2 ?Qd8 ?Qju ?Qfp ?Qbk ?Qdq ?Qj7 ?Qf2 ?Qbx ?Qd3 ?Qjg ?Qfb ?Qa6 ?Qdd ?Qi3 ?Qey ?Qat ?Qc0 ?Qjj ?Qfe ?Qa9 ?Qdg ?Qi5 ?Qe0 ?Qav ?Qc2 ?Qi6 ?Qe1 ?Qaw ?Qc3 ?Qi7 ?Qe2 ?Qax ?Qc4 ?Qj2 ?Qfx ?Qbs ?Qdy ?Qj6 ?Qf1 ?Qbw ?Qd2 ?Qjo ?Qfj ?Qbe ?Qdl ?Qj4 ?Qfz ?Qbu ?Qd0 ?Qj3 ?Qfy ?Qbt ?Qdz ?Qj5 ?Qf0 ?Qbv ?Qd1 ?Qjv ?Qfq ?Qbl ?Qdr ?Qjh ?Qfc ?Qa7 ?Qde ?Qiw ?Qer ?Qam ?Qct ?Qiv ?Qeq ?Qal ?Qcs ?Qj1 ?Qfw ?Qbr ?Qdx ?Qjp ?Qfk ?Qbf ?Qdm ?Qiu ?Qep ?Qak ?Qcr ?Qhw ?Qik ?Qhp ?Qhv ?Qie ?Qii ?Qid ?Qhm ?Qin ?Qh7 ?Qic ?Qij ?Qhn ?Qhr ?Qig ?Qho ?Qht ?Qil ?lk1 ?Qh5 ?Qhx ?Qhy ?Qh0 ?Qh8 ?lk2 ?Qia ?lk3 ?Qh9 ?lk4 ?Qh4 ?Qh2 ?Qh1 ?Qhz ?Qhs ?lk5 ?Qif ?lk6 ?lk7 ?lk8 ?lk9 ?Qgb ?Qgc ?Qgd ?Qge ?Qgf ?Qgg ?Qgh ?Qgi ?Qgj ?Qgk ?Qgm ?Qgn ?Qh3 ?Qib ?Qgo ?Qgp ?Qgq ?Qgr ?Qgs ?Qgt ?Qgu ?Qgv ?Qgx ?Qgy ?Qgz ?Qg0 ?Qg1 ?Qg2 ?Qg3 ?Qg4 ?Qg5 ?Qg6 ?Qg8 ?Qg9 ?Qha ?Qhb ?Qhc ?Qhq ?Qlf ?Qle ?Qlg ?Qlc ?Qld ?Qlb ?Qlt ?Qlu ?Qlv ?Qlw ?Qlx ?Qly ?Qlz ?Ql0 ?Ql1 ?Ql2
   (case Qih=>k_is)
   (case Qlj=>k_is)
   (case Qb7=>k_is)
   (case Qln=>k_is)
   (case Qlr=>k_is)
   (case Qhk=>k_is)
   (case Qed=>k_is)
   (case Qk0=>k_is)
   (case Qky=>k_is)
   (case Qkz=>k_is)
   (case Qh6=>k_is)
   (case Qli=>k_is)
   (case Qb6=>k_is)
   (case Qlm=>k_is)
   (case Qlq=>k_is)
   (case Qhj=>k_is)
   (case Qec=>k_is)
   (case Qkw=>k_is)
   (case Qkr=>k_is)
   (case Qkv=>k_is)
   (case Qks=>k_is)
   (case Qkx=>k_is)
   (case Qkp=>k_is)
   (case Qkt=>k_is)
   (case Qkq=>k_is)
   (case Qku=>k_is)
   (case Qhu=>k_is)
   (case Qlh=>k_is)
   (case Qb5=>k_is)
   (case Qll=>k_is)
   (case Qlp=>k_is)
   (case Qhi=>k_is)
   (case Qeb=>k_is)
   (case Qki=>k_is)
   (case Qkm=>k_is)
   (case Qkl=>k_is)
   (case Qkg=>k_is)
   (case Qkf=>k_is)
   (case Qkn=>k_is)
   (case Qko=>k_is)
   (case Qkh=>k_is)
   (case Qkk=>k_is)
   (case Qkj=>k_is)
   (case Qim=>k_is)
   (case Qlk=>k_is)
   (case Qb8=>k_is)
   (case Qlo=>k_is)
   (case Qls=>k_is)
   (case Qhl=>k_is)
   (case Qee=>k_is)
   (case Qk6=>k_is)
   (case Qk9=>k_is)
   (case Qk3=>k_is)
   (case Qk7=>k_is)
   (case Qk5=>k_is)
   (case Qk4=>k_is)
   (case Qk8=>k_is)
   (case Qk1=>k_is)
   (case Qla=>k_is)
   (case Qk2=>k_is)
   (case Qcb=>k_is)
   (case Qcf=>k_is)
   (case Qeh=>k_is)
   (case Qac=>k_is)
   (case Qcj=>k_is)
   (case Qca=>k_is)
   (case Qce=>k_is)
   (case Qeg=>k_is)
   (case Qab=>k_is)
   (case Qci=>k_is)
   (case Qb9=>k_is)
   (case Qcd=>k_is)
   (case Qef=>k_is)
   (case Qaa=>k_is)
   (case Qch=>k_is)
   (case Qcc=>k_is)
   (case Qcg=>k_is)
   (case Qei=>k_is)
   (case Qad=>k_is)
   (case Qck=>k_is)
   (case Qjr=>k_is)
   (case Qfm=>k_is)
   (case Qbh=>k_is)
   (case k_put=>k_is)
   (case Qjx=>k_is)
   (case Qfs=>k_is)
   (case Qbn=>k_is)
   (case Qdt=>k_is)
   (case Qkb=>k_is)
   (case Qf6=>k_is)
   (case Qb1=>k_is)
   (case Qd7=>k_is)
   (case Qjw=>k_is)
   (case Qfr=>k_is)
   (case Qbm=>k_is)
   (case Qds=>k_is)
   (case Qix=>k_is)
   (case Qes=>k_is)
   (case Qan=>k_is)
   (case Qcu=>k_is)
   (case Qi1=>k_is)
   (case Qew=>k_is)
   (case Qar=>k_is)
   (case Qcy=>k_is)
   (case Qj0=>k_is)
   (case Qfv=>k_is)
   (case Qbq=>k_is)
   (case Qdw=>k_is)
   (case Qiz=>k_is)
   (case Qeu=>k_is)
   (case Qap=>k_is)
   (case Qcw=>k_is)
   (case Qjt=>k_is)
   (case Qfo=>k_is)
   (case Qbj=>k_is)
   (case Qdp=>k_is)
   (case Qio=>k_is)
   (case Qej=>k_is)
   (case Qae=>k_is)
   (case Qcl=>k_is)
   (case Qiq=>k_is)
   (case Qel=>k_is)
   (case Qag=>k_is)
   (case Qcn=>k_is)
   (case Qip=>k_is)
   (case Qek=>k_is)
   (case Qaf=>k_is)
   (case Qcm=>k_is)
   (case Qir=>k_is)
   (case Qem=>k_is)
   (case Qah=>k_is)
   (case Qco=>k_is)
   (case Qjb=>k_is)
   (case Qe6=>k_is)
   (case Qa1=>k_is)
   (case Qc8=>k_is)
   (case Qjc=>k_is)
   (case Qe7=>k_is)
   (case Qa2=>k_is)
   (case Qc9=>k_is)
   (case Qje=>k_is)
   (case Qe9=>k_is)
   (case Qa4=>k_is)
   (case Qdb=>k_is)
   (case Qjd=>k_is)
   (case Qe8=>k_is)
   (case Qa3=>k_is)
   (case Qda=>k_is)
   (case Qjf=>k_is)
   (case Qfa=>k_is)
   (case Qa5=>k_is)
   (case Qdc=>k_is)
   (case Qi4=>k_is)
   (case Qez=>k_is)
   (case Qau=>k_is)
   (case Qc1=>k_is)
   (case Qjs=>k_is)
   (case Qfn=>k_is)
   (case Qbi=>k_is)
   (case Qdo=>k_is)
   (case Qja=>k_is)
   (case Qe5=>k_is)
   (case Qa0=>k_is)
   (case Qc7=>k_is)
   (case Qjy=>k_is)
   (case Qft=>k_is)
   (case Qbo=>k_is)
   (case Qdu=>k_is)
   (case Qjz=>k_is)
   (case Qfu=>k_is)
   (case Qbp=>k_is)
   (case Qdv=>k_is)
   (case Qkd=>k_is)
   (case Qf8=>k_is)
   (case Qb3=>k_is)
   (case Qd9=>k_is)
   (case Qit=>k_is)
   (case Qeo=>k_is)
   (case Qaj=>k_is)
   (case Qcq=>k_is)
   (case Qi9=>k_is)
   (case Qe4=>k_is)
   (case Qaz=>k_is)
   (case Qc6=>k_is)
   (case Qi2=>k_is)
   (case Qex=>k_is)
   (case Qas=>k_is)
   (case Qcz=>k_is)
   (case Qjl=>k_is)
   (case Qfg=>k_is)
   (case Qbb=>k_is)
   (case Qdi=>k_is)
   (case Qjm=>k_is)
   (case Qfh=>k_is)
   (case Qbc=>k_is)
   (case Qdj=>k_is)
   (case Qjk=>k_is)
   (case Qff=>k_is)
   (case Qba=>k_is)
   (case Qdh=>k_is)
   (case Qi0=>k_is)
   (case Qev=>k_is)
   (case Qaq=>k_is)
   (case Qcx=>k_is)
   (case Qke=>k_is)
   (case Qf9=>k_is)
   (case Qb4=>k_is)
   (case Qea=>k_is)
   (case Qjn=>k_is)
   (case Qfi=>k_is)
   (case Qbd=>k_is)
   (case Qdk=>k_is)
   (case Qji=>k_is)
   (case Qfd=>k_is)
   (case Qa8=>k_is)
   (case Qdf=>k_is)
   (case Qis=>k_is)
   (case Qen=>k_is)
   (case Qai=>k_is)
   (case Qcp=>k_is)
   (case Qjq=>k_is)
   (case Qfl=>k_is)
   (case Qbg=>k_is)
   (case Qdn=>k_is)
   (case Qka=>k_is)
   (case Qf5=>k_is)
   (case Qb0=>k_is)
   (case Qd6=>k_is)
   (case Qj9=>k_is)
   (case Qf4=>k_is)
   (case Qbz=>k_is)
   (case Qd5=>k_is)
   (case Qj8=>k_is)
   (case Qf3=>k_is)
   (case Qby=>k_is)
   (case Qd4=>k_is)
   (case Qi8=>k_is)
   (case Qe3=>k_is)
   (case Qay=>k_is)
   (case Qc5=>k_is)
   (case Qiy=>k_is)
   (case Qet=>k_is)
   (case Qao=>k_is)
   (case Qcv=>k_is)
   (case Qkc=>k_is)
   (case Qf7=>k_is)
   (case Qb2=>k_is)
   (case Qd8=>k_is)
   (case Qju=>k_is)
   (case Qfp=>k_is)
   (case Qbk=>k_is)
   (case Qdq=>k_is)
   (case Qj7=>k_is)
   (case Qf2=>k_is)
   (case Qbx=>k_is)
   (case Qd3=>k_is)
   (case Qjg=>k_is)
   (case Qfb=>k_is)
   (case Qa6=>k_is)
   (case Qdd=>k_is)
   (case Qi3=>k_is)
   (case Qey=>k_is)
   (case Qat=>k_is)
   (case Qc0=>k_is)
   (case Qjj=>k_is)
   (case Qfe=>k_is)
   (case Qa9=>k_is)
   (case Qdg=>k_is)
   (case Qi5=>k_is)
   (case Qe0=>k_is)
   (case Qav=>k_is)
   (case Qc2=>k_is)
   (case Qi6=>k_is)
   (case Qe1=>k_is)
   (case Qaw=>k_is)
   (case Qc3=>k_is)
   (case Qi7=>k_is)
   (case Qe2=>k_is)
   (case Qax=>k_is)
   (case Qc4=>k_is)
   (case Qj2=>k_is)
   (case Qfx=>k_is)
   (case Qbs=>k_is)
   (case Qdy=>k_is)
   (case Qj6=>k_is)
   (case Qf1=>k_is)
   (case Qbw=>k_is)
   (case Qd2=>k_is)
   (case Qjo=>k_is)
   (case Qfj=>k_is)
   (case Qbe=>k_is)
   (case Qdl=>k_is)
   (case Qj4=>k_is)
   (case Qfz=>k_is)
   (case Qbu=>k_is)
   (case Qd0=>k_is)
   (case Qj3=>k_is)
   (case Qfy=>k_is)
   (case Qbt=>k_is)
   (case Qdz=>k_is)
   (case Qj5=>k_is)
   (case Qf0=>k_is)
   (case Qbv=>k_is)
   (case Qd1=>k_is)
   (case Qjv=>k_is)
   (case Qfq=>k_is)
   (case Qbl=>k_is)
   (case Qdr=>k_is)
   (case Qjh=>k_is)
   (case Qfc=>k_is)
   (case Qa7=>k_is)
   (case Qde=>k_is)
   (case Qiw=>k_is)
   (case Qer=>k_is)
   (case Qam=>k_is)
   (case Qct=>k_is)
   (case Qiv=>k_is)
   (case Qeq=>k_is)
   (case Qal=>k_is)
   (case Qcs=>k_is)
   (case Qj1=>k_is)
   (case Qfw=>k_is)
   (case Qbr=>k_is)
   (case Qdx=>k_is)
   (case Qjp=>k_is)
   (case Qfk=>k_is)
   (case Qbf=>k_is)
   (case Qdm=>k_is)
   (case Qiu=>k_is)
   (case Qep=>k_is)
   (case Qak=>k_is)
   (case Qcr=>k_is)
   (case Qhw=>k_is)
   (case Qik=>k_is)
   (case Qhp=>k_is)
   (case Qhv=>k_is)
   (case Qie=>k_is)
   (case Qii=>k_is)
   (case Qid=>k_is)
   (case Qhm=>k_is)
   (case Qin=>k_is)
   (case Qh7=>k_is)
   (case Qic=>k_is)
   (case Qij=>k_is)
   (case Qhn=>k_is)
   (case Qhr=>k_is)
   (case Qig=>k_is)
   (case Qho=>k_is)
   (case Qht=>k_is)
   (case Qil=>k_is)
   (case lk1=>k_is)
   (case Qh5=>k_is)
   (case Qhx=>k_is)
   (case Qhy=>k_is)
   (case Qh0=>k_is)
   (case Qh8=>k_is)
   (case lk2=>k_is)
   (case Qia=>k_is)
   (case lk3=>k_is)
   (case Qh9=>k_is)
   (case lk4=>k_is)
   (case Qh4=>k_is)
   (case Qh2=>k_is)
   (case Qh1=>k_is)
   (case Qhz=>k_is)
   (case Qhs=>k_is)
   (case lk5=>k_is)
   (case Qif=>k_is)
   (case lk6=>k_is)
   (case lk7=>k_is)
   (case lk8=>k_is)
   (case lk9=>k_is)
   (case Qgb=>k_is)
   (case Qgc=>k_is)
   (case Qgd=>k_is)
   (case Qge=>k_is)
   (case Qgf=>k_is)
   (case Qgg=>k_is)
   (case Qgh=>k_is)
   (case Qgi=>k_is)
   (case Qgj=>k_is)
   (case Qgk=>k_is)
   (case Qgm=>k_is)
   (case Qgn=>k_is)
   (case Qh3=>k_is)
   (case Qib=>k_is)
   (case Qgo=>k_is)
   (case Qgp=>k_is)
   (case Qgq=>k_is)
   (case Qgr=>k_is)
   (case Qgs=>k_is)
   (case Qgt=>k_is)
   (case Qgu=>k_is)
   (case Qgv=>k_is)
   (case Qgx=>k_is)
   (case Qgy=>k_is)
   (case Qgz=>k_is)
   (case Qg0=>k_is)
   (case Qg1=>k_is)
   (case Qg2=>k_is)
   (case Qg3=>k_is)
   (case Qg4=>k_is)
   (case Qg5=>k_is)
   (case Qg6=>k_is)
   (case Qg8=>k_is)
   (case Qg9=>k_is)
   (case Qha=>k_is)
   (case Qhb=>k_is)
   (case Qhc=>k_is)
   (case Qhq=>k_is)
   (case Qlf=>decide)
   (case Qle=>decide)
   (case Qlg=>decide)
   (case Qlc=>decide)
   (case Qld=>decide)
   (case Qlb=>decide)
   (case Qlt=>k_is)
   (case Qlu=>k_is)
   (case Qlv=>k_is)
   (case Qlw=>k_is)
   (case Qlx=>k_is)
   (case Qly=>k_is)
   (case Qlz=>k_is)
   (case Ql0=>k_is)
   (case Ql1=>k_is)
   (case Ql2=>k_is)
  obtain ⟨t,T⟩:=T
  have e0:=hmg.symm.trans T.zF
  cases e0
  exact ⟨t.jo,Rl.BM T,fun base kb nb=>Rl.ER Rl.BL T⟩
 case S=>
  intro K H xs a hO Rm ES hx
  cases hx with
  |cons h1 h2=>
   cases h2
   cases h1 with
   |lst hs ha=>
    have e:=L2.Fu a.1 _ ha
    subst e
    exact ⟨_,a.1,rfl,hs,ES,fun H' p _ hp _=> .lst (L2.bT.of hp) (L2.Ft _)⟩
