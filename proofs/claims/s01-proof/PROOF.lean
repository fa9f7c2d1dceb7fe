import PyProof.Rows.All
import Wide.All
import OpenK.AllK
import Wide.FinOn
import PyProof.EqAt
import PyProof.EqKinds
import PyProof.TupleCall
import KE.BitLaws
import Open.SpecLaws
import KE.OsHead
import KE.OsGo
import KE.KDictSum
import KE.KSortRegAny
import KE.KSortedAny
import PyWideLaws
import KE.KSortTupG
import PySem.Challenge.RW_relayleases_s01_answers
import PyVbcnag
set_option Elab.async false
set_option linter.all false
set_option maxRecDepth 100000
namespace L2
open PySem PySem.Spec PyProof.Rows
abbrev Key:=Sum Int Str
def Ez:Key→Value→Bool
 | .inl k,v=>Value.isInt k v
 | .inr x,v=>Value.isStrOf x v
def ahH (w:World):Key→Int
 | .inl k=>hashInt k
 | .inr x=>hashStr w x
theorem dM:∀ {k:Key}{v:Value},Ez k v=true→(∃i t,k=Sum.inl i∧v=Value.int i t)∨(∃x t,k=Sum.inr x∧v=Value.str x t)
 | .inl i,v,h=>by
  obtain ⟨t,e⟩:=Value.isInt_shape (k:=i) (v:=v) h
  exact .inl ⟨i,t,rfl,e⟩
 | .inr x,v,h=>by
  obtain ⟨t,e⟩:=Value.isStrOf_shape (x:=x) (v:=v) h
  exact .inr ⟨x,t,rfl,e⟩
theorem Nu (i:Int)(t:Tok):Ez (.inl i) (.int i t)=true:=by simp [Ez,Value.isInt]
theorem Nv (x:Str)(t:Tok):Ez (.inr x) (.str x t)=true:=by simp [Ez,Value.isStrOf]
theorem VC (a b:Int):decide ((Sum.inl a:Key)=Sum.inl b)=(a==b):=by
 by_cases e:a=b
 ·subst e;simp
 ·have h:¬ (Sum.inl a:Key)=Sum.inl b:=fun q=>e (Sum.inl.inj q)
  rw [decide_eq_false h]
  exact (beq_eq_false_iff_ne.mpr e).symm
theorem VD (a b:Str):decide ((Sum.inr a:Key)=Sum.inr b)=decide (a=b):=by
 by_cases e:a=b
 ·subst e;simp
 ·have h:¬ (Sum.inr a:Key)=Sum.inr b:=fun q=>e (Sum.inr.inj q)
  rw [decide_eq_false h,decide_eq_false e]
theorem VE (a:Int)(b:Str):decide ((Sum.inl a:Key)=Sum.inr b)=false:=decide_eq_false (fun q=>nomatch q)
theorem VF (a:Str)(b:Int):decide ((Sum.inr a:Key)=Sum.inl b)=false:=decide_eq_false (fun q=>nomatch q)
def bZ (prog:Program)(w:World):PySem.KeyKind prog w Key where
 is:=Ez
 hash:=ahH w
 inj:=fun v a b ha hb=>by
  rcases dM ha with ⟨i,t,rfl,rfl⟩|⟨x,t,rfl,rfl⟩
  ·rcases dM hb with ⟨j,u,rfl,e⟩|⟨y,u,rfl,e⟩
   ·injection e with e1 _;rw [e1]
   ·exact nomatch e
  ·rcases dM hb with ⟨j,u,rfl,e⟩|⟨y,u,rfl,e⟩
   ·exact nomatch e
   ·injection e with e1 _;rw [e1]
 byValue:=fun k v h=>by
  rcases dM h with ⟨i,t,rfl,rfl⟩|⟨x,t,rfl,rfl⟩ <;>rfl
 pyHash:=fun hv h=>by
  rcases dM hv with ⟨i,t,rfl,rfl⟩|⟨x,t,rfl,rfl⟩
  ·exact wpAny_pyHash_int h
  ·exact wpAny_pyHash_str h
 eqBool:=fun hu hv h=>by
  rcases dM hu with ⟨i,t,rfl,rfl⟩|⟨x,t,rfl,rfl⟩
  ·rcases dM hv with ⟨j,u,rfl,rfl⟩|⟨y,u,rfl,rfl⟩
   ·rw [VC] at h;exact wpAny_eqBool_int h
   ·rw [VE] at h;exact SeqAt.EqAt.int_str i t y u _ _ _ _ h
  ·rcases dM hv with ⟨j,u,rfl,rfl⟩|⟨y,u,rfl,rfl⟩
   ·rw [VF] at h;exact SeqAt.EqAt.str_int x t j u _ _ _ _ h
   ·rw [VD] at h;exact wpAny_eqBool_str h
 «strs»:=fun k x t v h=>by
  rcases dM h with ⟨i,u,rfl,e⟩|⟨y,u,rfl,e⟩
  ·exact nomatch e
  ·injection e with e1 _
   subst e1
   cases v <;>rfl
theorem zW (prog:Program)(w:World)(i:Int)(t:Tok):(bZ prog w).is (.inl i) (.int i t)=true:=Nu i t
theorem IX (prog:Program)(w:World)(x:Str)(t:Tok):(bZ prog w).is (.inr x) (.str x t)=true:=Nv x t
end L2
namespace L2
open PySem PySem.Spec PyProof.Rows
inductive V where
 |bY|bl (b:Bool)|int (i:Int)|str (x:Str)|IY (b:Array UInt8)|ZL (b:UInt64)|ref (a:Addr)|ty (n:String)
 deriving DecidableEq
def RelV:V→Value→Prop
 | .bY,u=>u=Value.none
 | .bl b,u=>u=Value.bool b
 | .int i,u=>∃t,u=Value.int i t
 | .str x,u=>∃t,u=Value.str x t
 | .IY b,u=>∃t,u=Value.bytes b t
 | .ZL b,u=>∃t,u=Value.float b t
 | .ref a,u=>u=Value.ref a
 | .ty n,u=>u=Value.type n
abbrev Vals:List V→List Value→Prop:=Paired RelV
theorem Vals.length {xs:List V}{us:List Value}(r:Vals xs us):xs.length=us.length:=Paired.length r
theorem Vals.get:∀ {xs:List V}{us:List Value}{i:Nat}{x:V},Vals xs us→xs[i]?=some x→∃u,us[i]?=some u∧RelV x u
 |_,_,_,_,.nil,e=>by simp at e
 |_,_,0,_,.cons r _,e=>by simp at e;subst e;exact ⟨_,rfl,r⟩
 |_,_,i + 1,x,.cons _ t,e=>by
  obtain ⟨u,h1,h2⟩:=Vals.get (i:=i) (x:=x) t (by simpa using e)
  exact ⟨u,by simpa using h1,h2⟩
theorem Vals.set {x:V}{u:Value}(r:RelV x u):∀ {xs:List V}{us:List Value}(i:Nat),Vals xs us→Vals (xs.set i x) (us.set i u)
 |_,_,_,.nil=> .nil
 |_,_,0,.cons _ t=> .cons r t
 |_,_,i + 1,.cons q t=> .cons q (Vals.set r i t)
theorem Vals.append:∀ {xs ys:List V}{us ws:List Value},Vals xs us→Vals ys ws→Vals (xs ++ ys) (us ++ ws)
 |_,_,_,_,.nil,s=>s
 |_,_,_,_,.cons r t,s=> .cons r (Vals.append t s)
theorem Vals.take:∀ {xs:List V}{us:List Value}(n:Nat),Vals xs us→Vals (xs.take n) (us.take n)
 |_,_,0,_=> .nil
 |_,_,_ + 1,.nil=> .nil
 |_,_,n + 1,.cons r t=> .cons r (Vals.take n t)
theorem Vals.drop:∀ {xs:List V}{us:List Value}(n:Nat),Vals xs us→Vals (xs.drop n) (us.drop n)
 |_,_,0,r=>r
 |_,_,_ + 1,.nil=> .nil
 |_,_,n + 1,.cons _ t=>Vals.drop n t
def uY:Option V→Option Value→Prop
 |some v,some u=>RelV v u
 |none,none=>True
 |_,_=>False
def KV {κ:Type}:List (κ×V)→List (κ×Value)→Prop:=Paired fun (p:κ×V) (q:κ×Value)=>p.1=q.1∧RelV p.2 q.2
def kV:Key→V
 | .inl i=> .int i
 | .inr x=> .str x
inductive HO where
 |lst (xs:List V)
 |tup (xs:List V)
 |dK (kvs:List (Key×V))|dT (kvs:List (List Key×V))
 |set (S:Int→Bool) (n:Nat)
 |ins (C dx:Addr) (fs:List (Str×V))
 |own (x:Addr)
 |xd (fs:List (Str×V))
 |met (f x:Addr)
 |rng (lo hi:Int)
 |jM (o:Obj) (u:HO)
 |VG (ps:Array Value)
 |ext (φ:Heap→Prop)
abbrev Hp:=Addr→Option HO
def upd (H:Hp)(a:Addr)(o:HO):Hp:=fun b=>if b=a then some o else H b
theorem ab {H:Hp}{a:Addr}{o:HO}:upd H a o a=some o:=by unfold upd;rw [if_pos rfl]
theorem az {H:Hp}{a b:Addr}{o:HO}(h:b≠a):upd H a o b=H b:=by unfold upd;rw [if_neg h]
theorem cJ {H:Hp}{a:Addr}{o u:HO}:upd (upd H a o) a u=upd H a u:=by
 funext b;unfold upd;split <;>rfl
theorem bh {H:Hp}{a b:Addr}{o u:HO}(h:H a=some o)(h':H b=some u)(d:o≠u):a≠b:=by
 intro e;subst e;rw [h] at h';exact d (Option.some.inj h')
theorem aI {H:Hp}{a b:Addr}{o:HO}(h:H a=some o)(h':H b=none):a≠b:=by
 intro e;subst e;rw [h] at h';cases h'
section
variable (P:Program)(w:World)
def d6 (H:Hp)(h:Heap)(a:Addr):HO→Prop
 | .lst xs=>xs.length≤sizeLine∧∃ (bf:List Value)(n:Nat),Vals xs bf∧h.get? a=some {cls:= .type "list",data:= .seq bf.toArray n}
 | .tup xs=>xs.length≤sizeLine∧∃bf:List Value,Vals xs bf∧IsTup h a bf.toArray
 | .dK kvs=>kvs.length≤sizeLine∧(a==sysModules)=false∧∃vs,KV kvs vs∧h.DictOf (bZ P w) a vs
 | .dT kvs=>kvs.length≤sizeLine∧(a==sysModules)=false∧∃xs:List (List Key×Addr×Value),
   Paired (fun (p:List Key×V) (q:List Key×Addr×Value)=>p.1=q.1∧H q.2.1=some (.tup (p.1.map kV))∧RelV p.2 q.2.2) kvs xs∧
   ∃o es ep,h.get? a=some o∧o.ExactDict∧o.data= .dict es ep∧es.toList=xs.map (entryOfKey (tupleKind (bZ P w)))∧(xs.map (·.1)).Nodup
 | .set S n=>h.SetOf (intKind P w) a S n
 | .ins C dx fs=>H dx=some (.own a)∧fs.length≤1000∧dx≠a∧h.get? a=some (PySem.W.instObj C dx)∧
   ∃mA,h.Ns1 dx mA∧(∀f,uY (fs.lookup f) (mA f))∧PySem.Within mA (fs.map (·.1))
 | .own _=>∃o,h.get? a=some o
 | .xd fs=>∃mA,h.Ns1 a mA∧∀f,uY (fs.lookup f) (mA f)
 | .rng lo hi=>∃t u v,h.get? a=some {cls:= .type "range",data:= .fields #[.int lo t,.int hi u,.int 1 v] }
 | .jM o u=>h.get? a=some o∧d6 H h a u
 | .VG ps=>h.get? a=some {cls:= .none,data:= .fields ps}
 | .met f x=>h.get? a=some (PySem.W.methodObj (.ref f) (.ref x))
 | .ext φ=>φ h∧(∃o,h.get? a=some o)∧∀h1 h2:Heap,φ h1→(∀o,h1.get? a=some o→h2.get? a=some o)→φ h2
def rp (H:Hp)(h:Heap):Prop:=∀a o,H a=some o→d6 P w H h a o
end
section
variable {P:Program}{w:World}{H H':Hp}{h h':Heap}{a:Addr}{o:HO}
theorem d6.lt (x:d6 P w H h a o):a < h.objs.size:=by
 cases o with
 |lst xs=>obtain ⟨_,_,_,_,e⟩:=x;exact Heap.lt_size e
 |tup xs=>obtain ⟨_,_,_,p⟩:=x;exact p.lt
 |dK kvs=>obtain ⟨_,_,_,_,o,_,_,e,_⟩:=x;exact Heap.lt_size e
 |dT kvs=>obtain ⟨_,_,_,_,o,_,_,e,_⟩:=x;exact Heap.lt_size e
 |set S n=>obtain ⟨o,_,_,_,e,_⟩:=x;exact Heap.lt_size e
 |ins C dx fs=>obtain ⟨_,_,_,e,_⟩:=x;exact Heap.lt_size e
 |own y=>obtain ⟨_,e⟩:=x;exact Heap.lt_size e
 |xd fs=>obtain ⟨_,⟨_,_,_,e,_⟩,_⟩:=x;exact Heap.lt_size e
 |rng lo hi=>obtain ⟨_,_,_,e⟩:=x;exact Heap.lt_size e
 |jM ob u=>obtain ⟨e,_⟩:=x;exact Heap.lt_size e
 |VG ps=>exact Heap.lt_size (show h.get? a=some _ from x)
 |met f y=>exact Heap.lt_size (show h.get? a=some _ from x)
 |ext φ=>obtain ⟨_,⟨_,e⟩,_⟩:=x;exact Heap.lt_size e
theorem Paired.cN {α β:Type}{F G:α→β→Prop}:∀ {l₁:List α}{l₂:List β},Paired F l₁ l₂→(∀a b,F a b→G a b)→Paired G l₁ l₂
 |_,_,.nil,_=> .nil
 |_,_,.cons r t,f=> .cons (f _ _ r) (Paired.cN t f)
theorem d6.DV (x:d6 P w H h a o)(k:∀b u,(b=a∨H b=some (.own a))→h.get? b=some u→h'.get? b=some u)
  (ho:∀b,H b=some (.own a)→H' b=some (.own a))(ht:∀b xs,H b=some (.tup xs)→H' b=some (.tup xs)):d6 P w H' h' a o:=by
 induction o with
 |lst xs=>obtain ⟨z,bf,n,r,e⟩:=x;exact ⟨z,bf,n,r,k _ _ (.inl rfl) e⟩
 |tup xs=>obtain ⟨z,bf,r,ob,e,c⟩:=x;exact ⟨z,bf,r,ob,k _ _ (.inl rfl) e,c⟩
 |dK kvs=>obtain ⟨z,y,vs,r,ob,es,ep,e,c⟩:=x;exact ⟨z,y,vs,r,ob,es,ep,k _ _ (.inl rfl) e,c⟩
 |dT kvs=>
  obtain ⟨z,y,xs,r,ob,es,ep,e,c⟩:=x
  exact ⟨z,y,xs,Paired.cN r fun p q z=>⟨z.1,ht _ _ z.2.1,z.2.2⟩,ob,es,ep,k _ _ (.inl rfl) e,c⟩
 |set S n=>obtain ⟨ob,es,ep,t,e,c⟩:=x;exact ⟨ob,es,ep,t,k _ _ (.inl rfl) e,c⟩
 |ins C dx fs=>
  obtain ⟨d,z,ne,e,mA,⟨od,es,ep,e2,c⟩,r⟩:=x
  exact ⟨ho _ d,z,ne,k _ _ (.inl rfl) e,mA,⟨od,es,ep,k _ _ (.inr d) e2,c⟩,r⟩
 |own y=>obtain ⟨ob,e⟩:=x;exact ⟨ob,k _ _ (.inl rfl) e⟩
 |xd fs=>obtain ⟨mA,⟨od,es,ep,e,c⟩,r⟩:=x;exact ⟨mA,⟨od,es,ep,k _ _ (.inl rfl) e,c⟩,r⟩
 |rng lo hi=>obtain ⟨t,u,v,e⟩:=x;exact ⟨t,u,v,k _ _ (.inl rfl) e⟩
 |jM ob u ih=>obtain ⟨e,q⟩:=x;exact ⟨k _ _ (.inl rfl) e,ih q⟩
 |VG ps=>
  have e:h.get? a=some {cls:= .none,data:= .fields ps}:=x
  show h'.get? a=some {cls:= .none,data:= .fields ps}
  exact k a _ (.inl rfl) e
 |met f y=>
  have e:h.get? a=some (PySem.W.methodObj (.ref f) (.ref y)):=x
  show h'.get? a=some (PySem.W.methodObj (.ref f) (.ref y))
  exact k a _ (.inl rfl) e
 |ext φ=>obtain ⟨p,⟨o,e⟩,st⟩:=x;exact ⟨st _ _ p fun o q=>k _ _ (.inl rfl) q,⟨o,k _ _ (.inl rfl) e⟩,st⟩
theorem rp.lt (x:rp P w H h)(e:H a=some o):a < h.objs.size:=(x a o e).lt
theorem rp.fresh (x:rp P w H h)(e:h.objs.size≤a):H a=none:=by
 cases q:H a with
 |none=>rfl
 |some u=>exact absurd (Nat.lt_of_lt_of_le (x.lt q) e) (Nat.lt_irrefl _)
theorem rp.kept (x:rp P w H h)(k:∀b u,h.get? b=some u→h'.get? b=some u):rp P w H h':=fun a o e=>
 (x a o e).DV (fun b u _ q=>k b u q) (fun _ q=>q) fun _ _ q=>q
theorem rp.laid (x:rp P w H h)(k:∀b u,h.get? b=some u→h'.get? b=some u)(hp:h.objs.size≤a)(new:d6 P w (upd H a o) h' a o):rp P w (upd H a o) h':=fun b u e=>by
 have hn:=x.fresh hp
 by_cases hb:b=a
 ·subst hb;rw [ab] at e;cases e;exact new
 ·rw [az hb] at e
  exact (x b u e).DV (fun c v _ q=>k c v q) (fun c q=>by rw [az (aI q hn)];exact q) fun c xs q=>by rw [az (aI q hn)];exact q
end
def Rd (H:Hp)(a:Addr)(u:HO):Prop:=H a=some u∨∃o,H a=some (.jM o u)
theorem Rd.ok {P:Program}{w:World}{H:Hp}{h:Heap}{a:Addr}{u:HO}(r:Rd H a u)(x:rp P w H h):d6 P w H h a u:=by
 rcases r with r|⟨o,r⟩
 ·exact x a u r
 ·obtain ⟨_,q⟩:=x a _ r
  exact q
def UN:Option HO→Prop
 |some (.lst _)=>True
 |some (.dK _)=>True
 |some (.dT _)=>True
 |some (.set _ _)=>True
 |some (.ins _ _ _)=>True
 |some (.ext _)=>True
 |_=>False
section
variable {P:Program}{w:World}{H:Hp}{h h':Heap}{x e:Addr}{o':HO}
theorem rp.write (ok:rp P w H h)(mu:UN (H x))(he:e=x∨H e=some (.own x))(k:∀b u,b≠e→h.get? b=some u→h'.get? b=some u)(Ze:∃u,h'.get? e=some u)
  (new:d6 P w (upd H x o') h' x o'):rp P w (upd H x o') h':=fun b u q=>by
 have ZM:∀c y,H c=some (.own y)→c≠x:=fun c y r z=>by subst z;rw [r] at mu;exact mu
 have ahJ:∀c xs,H c=some (.tup xs)→c≠x:=fun c xs r z=>by subst z;rw [r] at mu;exact mu
 by_cases hb:b=x
 ·subst hb;rw [ab] at q;cases q;exact new
 ·rw [az hb] at q
  by_cases IT:b=e
  ·have q':H b=some (.own x):=by
    rcases he with z|z
    ·exact absurd (IT.trans z) hb
    ·rw [IT];exact z
   rw [q] at q';cases q'
   obtain ⟨v,hv⟩:=Ze
   exact ⟨v,by rw [IT];exact hv⟩
  ·refine (ok b u q).DV (fun c v hc r=>k c v ?_ r) (fun c r=>by rw [az (ZM c b r)];exact r) fun c xs r=>by rw [az (ahJ c xs r)];exact r
   rcases hc with rfl|hc
   ·exact IT
   ·rintro rfl
    rcases he with z|z
    ·exact ZM c b hc z
    ·rw [hc] at z;cases z;exact hb rfl
end
structure Un (fs ex:List Addr) (H H':Hp) (h h':Heap):Prop where
 keep:∀b o,h.get? b=some o→H b=none→b ∉ fs→b ∉ ex→h'.get? b=some o
 slot:∀b o,h.get? b=some o→H b=none→b∈fs→b ∉ ex→∃sl,h'.get? b=some {o with slots:=sl}
 free:∀b o,h.get? b=some o→H b=none→b ∉ ex→H' b=none
 there:∀b o,h.get? b=some o→b ∉ ex→∃o',h'.get? b=some o'
 Bu:∀b xs,H b=some (.tup xs)→H' b=some (.tup xs)
 Bv:∀b o u,H b=some (.jM o u)→H' b=some (.jM o u)
 FO:∀b ps,H b=some (.VG ps)→∃more,H' b=some (.VG (ps ++ more))
section
variable {fs Zf ex ex':List Addr}{H H1 H2:Hp}{h h1 h2 h':Heap}{a x e:Addr}{o:HO}
theorem Un.any (u:Un fs ex H H1 h h1){b:Addr}{ob:Obj}(q:h.get? b=some ob)(n:H b=none)(hx:b ∉ ex):∃sl,h1.get? b=some {ob with slots:=sl}:=by
 by_cases hb:b∈fs
 ·exact u.slot b ob q n hb hx
 ·exact ⟨ob.slots,u.keep b ob q n hb hx⟩
theorem Un.kept (k:∀b u,h.get? b=some u→h'.get? b=some u):Un fs ex H H h h':=
 ⟨fun b ob q _ _ _=>k b ob q,fun b ob q _ _ _=>⟨ob.slots,k b ob q⟩,fun _ _ _ n _=>n,fun b ob q _=>⟨ob,k b ob q⟩,fun _ _ q=>q,fun _ _ _ q=>q,fun _ ps q=>⟨#[],by rw [q];simp⟩⟩
theorem Un.refl:Un fs ex H H h h:=Un.kept fun _ _ q=>q
theorem Un.laid (k:∀b u,h.get? b=some u→h'.get? b=some u)(hp:h.objs.size≤a)(hn:H a=none):Un fs ex H (upd H a o) h h' where
 keep:=fun b u q _ _ _=>k b u q
 slot:=fun b u q _ _ _=>⟨u.slots,k b u q⟩
 free:=fun b u q n _=>by rw [az (Nat.ne_of_lt (Nat.lt_of_lt_of_le (Heap.lt_size q) hp))];exact n
 there:=fun b u q _=>⟨u,k b u q⟩
 Bu:=fun b xs q=>by rw [az (aI q hn)];exact q
 Bv:=fun b u xs q=>by rw [az (aI q hn)];exact q
 FO:=fun b ps q=>⟨#[],by rw [az (aI q hn),q];simp⟩
theorem Un.write (mu:UN (H x))(he:e=x∨H e=some (.own x))(k:∀b u,b≠e→h.get? b=some u→h'.get? b=some u)(Ze:∃u,h'.get? e=some u):Un fs ex H (upd H x o) h h':=by
 have hx:∀b,H b=none→b≠x:=fun b n z=>by subst z;rw [n] at mu;exact mu
 have hb:∀b,H b=none→b≠e:=fun b n z=>by
  subst z
  rcases he with r|r
  ·exact hx b n r
  ·rw [n] at r;cases r
 have hm:∀b u,H b=some u→¬UN (some u)→b≠x:=fun b u q nm z=>by subst z;rw [q] at mu;exact nm mu
 refine ⟨fun b u q n _ _=>k b u (hb b n) q,fun b u q n _ _=>⟨u.slots,k b u (hb b n) q⟩,fun b u q n _=>by rw [az (hx b n)];exact n,fun b u q _=> ?_,
  fun b xs q=>by rw [az (hm b _ q fun z=>z)];exact q,fun b u xs q=>by rw [az (hm b _ q fun z=>z)];exact q,fun b ps q=>⟨#[],by rw [az (hm b _ q fun z=>z),q];simp⟩⟩
 by_cases IT:b=e
 ·subst IT;exact Ze
 ·exact ⟨u,k b u IT q⟩
end
def trk (h:Heap)(H:Hp):List Addr:=(List.range h.objs.size).filter fun a=>(H a).isSome
def FP (h:Heap)(H:Hp):Heap:=PySem.W.hideAll h (trk h H)
theorem Nw (h:Heap)(H:Hp):(FP h H).objs.size=h.objs.size:=PySem.W.hideAll_size _ _
theorem Pk {h:Heap}{H:Hp}{b:Addr}{o:Obj}(e:h.get? b=some o)(n:H b=none):(FP h H).get? b=some o:=
 PySem.W.hideAll_get _ e fun hm=>by
  have q:(H b).isSome=true:=(List.mem_filter.mp hm).2
  rw [n] at q;simp at q
theorem SN {h:Heap}{H:Hp}{b:Addr}{o:Obj}(e:(FP h H).get? b=some o):h.get? b=some o∧H b=none:=by
 have e':h.get? b=some o:=PySem.W.of_hideAll (trk h H) e
 refine ⟨e',?_⟩
 cases q:H b with
 |none=>rfl
 |some x=>
  have hm:b∈trk h H:=List.mem_filter.mpr ⟨List.mem_range.mpr (Heap.lt_size e'),by simp [q]⟩
  have z:(FP h H).get? b=none:=PySem.W.hideAll_none (trk h H) hm
  rw [z] at e;cases e
end L2
namespace L2
open PySem PySem.Spec PyProof.Rows
structure Mod (K:PySem.W.Frag) (mg:Str→Option Value) (base:Heap):Prop where
 ZN:K.In base
 glob:base.Ns mainGlobals mg
 blt:∃mb,base.Ns builtinsNs mb∧∀x:Str,x≠"__name__"→mb x=bootBuiltins x
 nolimit:base.NoLimit
structure Cx where
 prog:Program
 w:World
 K:PySem.W.Frag
 mg:Str→Option Value
 base:Heap
 A:Around
 N:List Str
 EA:Shared
 VH:Hp
 env:Env
 outer:List Env
 stack:List Env
 ex:List Addr
 fn:Str→Bool
 calm:Bool
 pn:List (Addr×Obj)
 xe:Value→Shared→Prop
def Pl (l:List Env):List Addr:=l.filterMap (·.frame)
abbrev Cx.fs (X:Cx):List Addr:=Pl X.outer
def Zg (sc:Scope)(x:Str):Prop:=sc.names.lookup x=some .local∨sc.names.lookup x=some .cell∨sc.names.lookup x=some .free
def Loc (sc:Scope)(x:Str):Prop:=sc.names.lookup x=some .local∨sc.names.lookup x=some .cell
def Look (env:Env)(h:Heap)(m:Str→Option Value)(x:Str)(u:Value):Prop:=
 (env.kindOf x=some .local∧m x=some u)∨((env.kindOf x=some .cell∨env.kindOf x=some .free)∧∃c,env.cells.lookup x=some c∧h.IsCell c (some u))
structure Cx.Ok (X:Cx):Prop where
 mod:Mod X.K X.mg X.base
 kind:X.env.scope.kind= .function
 glob:X.env.globals=mainGlobals
 blt:X.env.builtins=builtinsNs
 above:X.EA.heap.objs.size≤X.env.locals
 inj:∀x y c,X.env.cells.lookup x=some c→X.env.cells.lookup y=some c→x=y
 has:∀x,(X.env.kindOf x=some .cell∨X.env.kindOf x=some .free)→∃c,X.env.cells.lookup x=some c
 ZO:∀x c,X.fn x=true→X.env.cells.lookup x=some c→X.EA.heap.objs.size≤c
 hd:X.calm=true→X.A.handled=none
 frames:X.A.frames=some X.stack
 stk:X.stack=X.outer∨(X.stack=X.env::X.outer∧X.env.frame=some X.env.locals)
 exf:∀b∈X.ex,b≠X.env.locals∧∀x c,X.env.cells.lookup x=some c→c≠b
 bs:∀b o,X.base.get? b=some o→X.EA.heap.get? b=some o∧X.VH b=none
 SO:X.base.objs.size≤X.EA.heap.objs.size
 Pn:∀b o,X.base.get? b=some o→b ∉ X.ex
 Po:∀b∈X.ex,b ∉ X.fs
 AK:X.EA.heap.FunFrames X.base X.outer
 VI:∀b∈X.fs,X.VH b=none
structure Inv (X:Cx) (pins:List (Addr×Obj)) (σ:List (Option V)) (H:Hp) (s:Shared):Prop where
 ok:X.Ok
 os:s.os=X.EA.os
 bare:AllBare s.gens
 base:Un X.fs X.ex X.VH H X.EA.heap s.heap
 loc:∃m,s.heap.Ns X.env.locals m∧∀ (i:Nat)(x:Str)(v:V),X.N[i]?=some x→σ[i]?=some (some v)→Zg X.env.scope x→∃u,RelV v u∧Look X.env s.heap m x u
 cell:∀x c,X.env.cells.lookup x=some c→∃v,s.heap.IsCell c v
 free:H X.env.locals=none
 oJ:∀x c,X.env.cells.lookup x=some c→H c=none
 pin:∀p∈X.pn ++ pins,s.heap.get? p.1=some p.2∧H p.1=none∧p.1≠X.env.locals∧p.1 ∉ X.fs∧∀v,p.2.data≠ .cell v
 cw:rp X.prog X.w H s.heap
 len:σ.length=X.N.length
section
variable {X:Cx}{pins:List (Addr×Obj)}{σ:List (Option V)}{H H':Hp}{s:Shared}{h':Heap}
theorem Cx.Ok.ahK (ok:X.Ok){b:Addr}{o:Obj}(e:X.base.get? b=some o):b ∉ X.fs:=fun hb=>by
 have:=(ok.AK.mem hb).1
 rw [e] at this;cases this
theorem Inv.bs (I:Inv X pins σ H s):∀b o,X.base.get? b=some o→s.heap.get? b=some o∧H b=none:=fun b o e=>
 ⟨I.base.keep b o (I.ok.bs b o e).1 (I.ok.bs b o e).2 (I.ok.ahK e) (I.ok.Pn b o e),I.base.free b o (I.ok.bs b o e).1 (I.ok.bs b o e).2 (I.ok.Pn b o e)⟩
theorem Inv.bk (I:Inv X pins σ H s):∀b o,X.base.get? b=some o→s.heap.get? b=some o:=fun b o e=>(I.bs b o e).1
theorem Inv.mod (I:Inv X pins σ H s):Mod X.K X.mg X.base:=I.ok.mod
theorem Inv.L5 (I:Inv X pins σ H s):X.K.In s.heap:=I.ok.mod.ZN.keeps I.bk
theorem Inv.lt (I:Inv X pins σ H s):X.env.locals < s.heap.objs.size:=let ⟨_,hn,_⟩:=I.loc;hn.lt
theorem Inv.sz (I:Inv X pins σ H s):X.EA.heap.objs.size≤s.heap.objs.size:=Nat.le_trans I.ok.above (Nat.le_of_lt I.lt)
theorem Inv.ahL (I:Inv X pins σ H s){a:Addr}(h:s.heap.objs.size≤a):a ∉ X.fs:=fun hb=>by
 obtain ⟨_,o,ho,_⟩:=I.ok.AK.mem hb
 exact absurd (Nat.lt_of_lt_of_le (Heap.lt_size ho) (Nat.le_trans I.sz h)) (Nat.lt_irrefl _)
theorem Inv.VJ (I:Inv X pins σ H s):∀x c,X.env.cells.lookup x=some c→c≠X.env.locals:=fun x c e z=>by
 obtain ⟨v,o,ho,hd⟩:=I.cell x c e
 obtain ⟨m,⟨o',es,ep,DW,ZP,_⟩,_⟩:=I.loc
 rw [z,DW] at ho;cases ho;rw [ZP] at hd;cases hd
theorem Inv.AK (I:Inv X pins σ H s):s.heap.FunFrames X.base X.outer:=by
 have all:∀ (l:List Env),(∀b∈Pl l,b∈X.fs)→X.EA.heap.FunFrames X.base l→s.heap.FunFrames X.base l:=by
  intro l
  induction l with
  |nil=>intro _ _;trivial
  |cons env r ih=>
   intro hs hl
   obtain ⟨hk,⟨L,o,hf,hn,ho,hd⟩,hr⟩:=hl
   have hL:L∈X.fs:=hs L (by unfold Pl;rw [List.filterMap_cons,hf];exact List.mem_cons_self)
   obtain ⟨sl,e⟩:=I.base.slot L o ho (I.ok.VI L hL) hL fun z=>I.ok.Po L z hL
   exact ⟨hk,⟨L,_,hf,hn,e,hd⟩,ih (fun b hb=>hs b (by unfold Pl;rw [List.filterMap_cons,hf];exact List.mem_cons_of_mem _ hb)) hr⟩
 exact all X.outer (fun _ hb=>hb) I.ok.AK
theorem Inv.stack (I:Inv X pins σ H s):s.heap.FunFrames X.base X.stack:=by
 rcases I.ok.stk with e|⟨e,hf⟩
 ·rw [e];exact I.AK
 ·rw [e]
  obtain ⟨m,hn,_⟩:=I.loc
  refine .cons (by rw [I.ok.kind];decide) hf hn ?_ I.AK
  exact Heap.get?_none_of_le (Nat.le_trans I.ok.SO I.ok.above)
theorem Inv.Ks (I:Inv X pins σ H s):∀b∈Pl X.stack,b∈X.env.locals::X.fs:=fun b hb=>by
 rcases I.ok.stk with e|⟨e,hf⟩
 ·rw [e] at hb;exact List.mem_cons_of_mem _ hb
 ·rw [e] at hb
  unfold Pl at hb
  rw [List.filterMap_cons,hf] at hb
  exact hb
theorem Inv.L6 (I:Inv X pins σ H s):∀b∈Pl X.stack,H b=none:=fun b hb=>by
 rcases List.mem_cons.mp (I.Ks b hb) with e|hb
 ·rw [e];exact I.free
 ·obtain ⟨_,o,ho,_⟩:=I.ok.AK.mem hb
  exact I.base.free b o ho (I.ok.VI b hb) fun z=>I.ok.Po b z hb
theorem Inv.step {g':Array GenState}{t':Nat}{d':Drawn}{ch:List Addr}(I:Inv X pins σ H s)
  (DX:∀b∈ch,(b∈X.ex∨X.EA.heap.objs.size≤b)∧b≠X.env.locals∧(∀x c,X.env.cells.lookup x=some c→c≠b)∧∀p∈X.pn ++ pins,p.1≠b)
  (keep:∀b o,b≠X.env.locals→b ∉ X.fs→b ∉ ch→s.heap.get? b=some o→H b=none→h'.get? b=some o)
  (slot:∀b o,b≠X.env.locals→b∈X.fs→b ∉ ch→s.heap.get? b=some o→H b=none→∃sl,h'.get? b=some {o with slots:=sl})(free:∀b o,b ∉ ch→s.heap.get? b=some o→H b=none→H' b=none)
  (there:∀b o,b ∉ ch→s.heap.get? b=some o→∃o',h'.get? b=some o')
  (Bu:∀b xs,H b=some (.tup xs)→H' b=some (.tup xs))(Bv:∀b o u,H b=some (.jM o u)→H' b=some (.jM o u))(FO:∀b ps,H b=some (.VG ps)→∃more,H' b=some (.VG (ps ++ more)))
  (ns:∀m,s.heap.Ns X.env.locals m→h'.Ns X.env.locals m)(cw:rp X.prog X.w H' h')(hg:AllBare g'):
  Inv X pins σ H' {s with heap:=h',gens:=g',drawn:=d',toks:=t'}:=by
 have neL:∀b o,X.EA.heap.get? b=some o→b≠X.env.locals:=fun b o e=>Nat.ne_of_lt (Nat.lt_of_lt_of_le (Heap.lt_size e) I.ok.above)
 have neC:∀b o,X.EA.heap.get? b=some o→b ∉ X.ex→b ∉ ch:=fun b o e hx hb=>by
  rcases (DX b hb).1 with z|z
  ·exact hx z
  ·exact absurd (Nat.lt_of_lt_of_le (Heap.lt_size e) z) (Nat.lt_irrefl _)
 have cellK:∀x c,X.env.cells.lookup x=some c→∀v,s.heap.IsCell c v→h'.IsCell c v:=fun x c e v ⟨o,ho,hd⟩=>by
  have ZQ:c ∉ ch:=fun z=>(DX c z).2.2.1 x c e rfl
  by_cases hc:c∈X.fs
  ·obtain ⟨sl,q⟩:=slot c o (I.VJ x c e) hc ZQ ho (I.oJ x c e)
   exact ⟨_,q,hd⟩
  ·exact ⟨o,keep c o (I.VJ x c e) hc ZQ ho (I.oJ x c e),hd⟩
 refine ⟨I.ok,I.os,hg,⟨fun b o e n hb hx=> ?_,fun b o e n hb hx=> ?_,fun b o e n hx=> ?_,fun b o e hx=> ?_,fun b xs e=>Bu b xs (I.base.Bu b xs e),fun b o xs e=>Bv b o xs (I.base.Bv b o xs e),fun b ps e=> ?_⟩,?_,fun x c e=> ?_,?_,fun x c e=> ?_,fun p hp=> ?_,cw,I.len⟩
 ·exact keep b o (neL b o e) hb (neC b o e hx) (I.base.keep b o e n hb hx) (I.base.free b o e n hx)
 ·obtain ⟨sl,e1⟩:=I.base.slot b o e n hb hx
  obtain ⟨sl',e2⟩:=slot b _ (neL b o e) hb (neC b o e hx) e1 (I.base.free b o e n hx)
  exact ⟨sl',e2⟩
 ·obtain ⟨o',e1⟩:=I.base.there b o e hx
  exact free b o' (neC b o e hx) e1 (I.base.free b o e n hx)
 ·obtain ⟨o',e1⟩:=I.base.there b o e hx
  exact there b o' (neC b o e hx) e1
 ·obtain ⟨m1,e1⟩:=I.base.FO b ps e
  obtain ⟨m2,e2⟩:=FO b _ e1
  exact ⟨m1 ++ m2,by rw [e2,Array.append_assoc]⟩
 ·obtain ⟨m,hn,hl⟩:=I.loc
  refine ⟨m,ns m hn,fun i x v e1 e2 e3=> ?_⟩
  obtain ⟨u,r,l⟩:=hl i x v e1 e2 e3
  refine ⟨u,r,?_⟩
  rcases l with l|⟨k,c,e,z⟩
  ·exact .inl l
  ·exact .inr ⟨k,c,e,cellK x c e _ z⟩
 ·obtain ⟨v,z⟩:=I.cell x c e
  exact ⟨v,cellK x c e v z⟩
 ·obtain ⟨m,⟨o,_,_,ho,_⟩,_⟩:=I.loc
  exact free _ o (fun z=>(DX _ z).2.1 rfl) ho I.free
 ·obtain ⟨v,o,ho,hd⟩:=I.cell x c e
  exact free c o (fun z=>(DX c z).2.2.1 x c e rfl) ho (I.oJ x c e)
 ·obtain ⟨e,n,ne,nf,d⟩:=I.pin p hp
  have ZQ:p.1 ∉ ch:=fun z=>(DX p.1 z).2.2.2 p hp rfl
  exact ⟨keep p.1 p.2 ne nf ZQ e n,free p.1 p.2 ZQ e n,ne,nf,d⟩
theorem Inv.un {t':Nat}(I:Inv X pins σ H s)(u:Un X.fs [] H H' s.heap h')(cw:rp X.prog X.w H' h'):Inv X pins σ H' {s with heap:=h',toks:=t'}:=by
 obtain ⟨m,⟨o,es,ep,ho,r⟩,_⟩:=id I.loc
 obtain ⟨sl,hL⟩:=u.any ho I.free (by simp)
 exact I.step (g':=s.gens) (d':=s.drawn) (ch:= []) (fun _ z=>nomatch z) (fun b o _ hb _ e n=>u.keep b o e n hb (by simp)) (fun b o _ hb _ e n=>u.slot b o e n hb (by simp)) (fun b o _ e n=>u.free b o e n (by simp)) (fun b o _ e=>u.there b o e (by simp)) u.Bu u.Bv u.FO (fun m' hm=>by
  obtain ⟨o',Ss,Pa,DW,r'⟩:=hm
  rw [ho] at DW;cases DW
  exact ⟨_,Ss,Pa,hL,r'⟩) cw I.bare
theorem Inv.call {g':Array GenState}{t':Nat}{d':Drawn}{ch:List Addr}(I:Inv X pins σ H s)(u:Un (Pl X.stack) ch H H' s.heap h')(cw:rp X.prog X.w H' h')(hg:AllBare g')
  (DX:∀b∈ch,(b∈X.ex∨X.EA.heap.objs.size≤b)∧b≠X.env.locals∧(∀x c,X.env.cells.lookup x=some c→c≠b)∧∀p∈X.pn ++ pins,p.1≠b):
  Inv X pins σ H' {s with heap:=h',gens:=g',drawn:=d',toks:=t'}:=by
 obtain ⟨m,⟨o,es,ep,ho,r⟩,_⟩:=id I.loc
 obtain ⟨sl,hL⟩:=u.any ho I.free fun z=>(DX _ z).2.1 rfl
 exact I.step (ch:=ch) DX (fun b o hL hb hc e n=>u.keep b o e n (fun z=>(List.mem_cons.mp (I.Ks b z)).elim hL hb) hc) (fun b o _ _ hc e n=>u.any e n hc) (fun b o hc e n=>u.free b o e n hc) (fun b o hc e=>u.there b o e hc) u.Bu u.Bv u.FO (fun m' hm=>by
  obtain ⟨o',Ss,Pa,DW,r'⟩:=hm
  rw [ho] at DW;cases DW
  exact ⟨_,Ss,Pa,hL,r'⟩) cw hg
theorem Inv.turned {t':Nat}{it:Addr}(I:Inv X pins σ H s)(k:∀b o,b≠it→s.heap.get? b=some o→h'.get? b=some o)(hn:H it=none)(hL:it≠X.env.locals)
  (h1:it∈X.ex∨X.EA.heap.objs.size≤it)(h2:∀x c,X.env.cells.lookup x=some c→c≠it)(h3:∀p∈X.pn ++ pins,p.1≠it):Inv X pins σ H {s with heap:=h',toks:=t'}:=by
 have UO:∀b u,H b=some u→b≠it:=fun b u e z=>by rw [z,hn] at e;cases e
 refine I.step (g':=s.gens) (d':=s.drawn) (ch:= [it]) (fun b hb=> ?_) (fun b o _ _ hc e _=>k b o (fun z=>hc (by simp [z])) e) (fun b o _ _ hc e _=>⟨o.slots,k b o (fun z=>hc (by simp [z])) e⟩) (fun _ _ _ _ n=>n)
  (fun b o hc e=>⟨o,k b o (fun z=>hc (by simp [z])) e⟩) (fun _ _ e=>e) (fun _ _ _ e=>e) (fun b ps e=>⟨#[],by rw [e];simp⟩) (fun m hm=> ?_) (fun b u e=> ?_) I.bare
 ·have e:b=it:=by simpa using hb
  subst e
  exact ⟨h1,hL,h2,h3⟩
 ·obtain ⟨o,es,ep,ho,r⟩:=hm
  exact ⟨o,es,ep,k _ o (Ne.symm hL) ho,r⟩
 ·refine (I.cw b u e).DV (fun c v hc q=>k c v ?_ q) (fun _ q=>q) fun _ _ q=>q
  rcases hc with z|z
  ·rw [z];exact UO b u e
  ·exact UO c _ z
theorem Inv.tok (I:Inv X pins σ H s)(t:Nat):Inv X pins σ H {s with toks:=t}:=I.un (h':=s.heap) (t':=t) Un.refl I.cw
theorem Inv.kept {t':Nat}(I:Inv X pins σ H s)(k:∀b u,s.heap.get? b=some u→h'.get? b=some u):Inv X pins σ H {s with heap:=h',toks:=t'}:=I.un (Un.kept k) (I.cw.kept k)
theorem Inv.laid {a:Addr}{o:HO}{t':Nat}(I:Inv X pins σ H s)(k:∀b u,s.heap.get? b=some u→h'.get? b=some u)(hp:s.heap.objs.size≤a)(new:d6 X.prog X.w (upd H a o) h' a o):
  Inv X pins σ (upd H a o) {s with heap:=h',toks:=t'}:=I.un (Un.laid k hp (I.cw.fresh hp)) (I.cw.laid k hp new)
theorem Inv.write {x e:Addr}{o:HO}{t':Nat}(I:Inv X pins σ H s)(mu:UN (H x))(he:e=x∨H e=some (.own x))(k:∀b u,b≠e→s.heap.get? b=some u→h'.get? b=some u)(Ze:∃u,h'.get? e=some u)
  (new:d6 X.prog X.w (upd H x o) h' x o):Inv X pins σ (upd H x o) {s with heap:=h',toks:=t'}:=I.un (Un.write mu he k Ze) (I.cw.write mu he k Ze new)
theorem Inv.weak {σ':List (Option V)}(I:Inv X pins σ H s)(hl:σ'.length=σ.length)(w:∀ (i:Nat) v,σ'[i]?=some (some v)→σ[i]?=some (some v)):Inv X pins σ' H s:=
 ⟨I.ok,I.os,I.bare,I.base,let ⟨m,hn,hl'⟩:=I.loc;⟨m,hn,fun i x v e1 e2 e3=>hl' i x v e1 (w i v e2) e3⟩,I.cell,I.free,I.oJ,I.pin,I.cw,hl.trans I.len⟩
theorem Inv.L7 {UP:List (Addr×Obj)}(I:Inv X pins σ H s)(h:∀p∈UP,s.heap.get? p.1=some p.2∧H p.1=none∧p.1≠X.env.locals∧p.1 ∉ X.fs∧∀v,p.2.data≠ .cell v):Inv X UP σ H s:=
 ⟨I.ok,I.os,I.bare,I.base,I.loc,I.cell,I.free,I.oJ,fun p hp=>(List.mem_append.mp hp).elim (fun z=>I.pin p (List.mem_append_left _ z)) (h p),I.cw,I.len⟩
theorem Bw {N:List Str}(hN:N.Nodup){i j:Nat}{x:Str}(a:N[i]?=some x)(b:N[j]?=some x):i=j:=by
 obtain ⟨h1,e1⟩:=List.getElem?_eq_some_iff.mp a
 obtain ⟨h2,e2⟩:=List.getElem?_eq_some_iff.mp b
 exact (List.getElem_inj hN).mp (e1.trans e2.symm)
theorem EB {M:Model}{A:Around}{E:Value→Shared→Prop}{i:Nat}{x:Str}{v:V}{u:Value}{Q:Unit→Shared→Prop}(I:Inv X pins σ H s)(hN:X.N.Nodup)(hi:X.N[i]?=some x)(hx:Loc X.env.scope x)(r:RelV v u)
  (h:∀s',Inv X pins (σ.set i (some v)) H s'→(∃a,Heap.SameBut a s.heap s'.heap∧(a=X.env.locals∨X.env.cells.lookup x=some a))→Q () s')(hf:X.fn x=true∨X.env.scope.names.lookup x=some .local:=by first|exact .inl rfl|exact .inr rfl|assumption):wpAny M A (storeName X.env x u) Q E s:=by
 obtain ⟨m,hn,hl⟩:=id I.loc
 have ahM:(X.env.scope.kind== .class||(X.env.scope.kind== .module && X.env.locals !=X.env.globals))=false:=by rw [I.ok.kind];rfl
 have hiσ:i < σ.length:=by rw [I.len];exact (List.getElem?_eq_some_iff.mp hi).1
 have VJ:=I.VJ
 have tracked:∀ {a:Addr}{h':Heap},(∃o,s.heap.get? a=some o∧H a=none)→Heap.SameBut a s.heap h'→rp X.prog X.w H h':=fun {a h'} ha hs b ob e=>by
  obtain ⟨_,_,EC⟩:=ha
  refine (I.cw b ob e).DV (fun c w' hc q=>(hs.2 c ?_).trans q) (fun _ q=>q) fun _ _ q=>q
  rintro rfl
  rcases hc with rfl|hc
  ·rw [EC] at e;cases e
  ·rw [EC] at hc;cases hc
 rcases hx with hk|hk
 ·refine wpAny_storeName_local hk hn (fun h' hn' hs=> ?_) ahM
  obtain ⟨oL,_,_,hoL,_⟩:=id hn
  refine h _ ⟨I.ok,I.os,I.bare,⟨fun b o e n hb hx=> ?_,fun b o e n hb hx=> ?_,I.base.free,fun b o e hx=> ?_,I.base.Bu,I.base.Bv,I.base.FO⟩,⟨_,hn',fun j y v' e1 e2 e3=> ?_⟩,fun y c e=> ?_,I.free,I.oJ,fun p hp=> ?_,tracked ⟨oL,hoL,I.free⟩ hs,by simpa using I.len⟩ ⟨_,hs,.inl rfl⟩
  ·exact (hs.2 b (Nat.ne_of_lt (Nat.lt_of_lt_of_le (Heap.lt_size e) I.ok.above))).trans (I.base.keep b o e n hb hx)
  ·obtain ⟨sl,e1⟩:=I.base.slot b o e n hb hx
   exact ⟨sl,(hs.2 b (Nat.ne_of_lt (Nat.lt_of_lt_of_le (Heap.lt_size e) I.ok.above))).trans e1⟩
  ·obtain ⟨o',e1⟩:=I.base.there b o e hx
   exact ⟨o',(hs.2 b (Nat.ne_of_lt (Nat.lt_of_lt_of_le (Heap.lt_size e) I.ok.above))).trans e1⟩
  ·by_cases hj:j=i
   ·subst hj
    rw [hi] at e1;cases e1
    rw [List.getElem?_set_self hiσ] at e2
    cases e2
    exact ⟨u,r,.inl ⟨hk,by simp⟩⟩
   ·rw [List.getElem?_set_ne (Ne.symm hj)] at e2
    obtain ⟨u',r',q⟩:=hl j y v' e1 e2 e3
    refine ⟨u',r',?_⟩
    rcases q with ⟨k,e⟩|⟨k,c,e,z⟩
    ·refine .inl ⟨k,?_⟩
     have:y≠x:=fun e=>hj (Bw hN e1 (e ▸ hi))
     simp [this,e]
    ·exact .inr ⟨k,c,e,z.sameBut hs (VJ y c e)⟩
  ·obtain ⟨w',z⟩:=I.cell y c e
   exact ⟨w',z.sameBut hs (VJ y c e)⟩
  ·obtain ⟨e,n,ne,nf,d⟩:=I.pin p hp
   exact ⟨(hs.2 p.1 ne).trans e,n,ne,nf,d⟩
 ·have hfn:X.fn x=true:=by
   rcases hf with z|z
   ·exact z
   ·rw [z] at hk;cases hk
  obtain ⟨c,hc⟩:=I.ok.has x (.inl hk)
  obtain ⟨w',z⟩:=I.cell x c hc
  refine wpAny_storeName_cell I.ok.kind hk hc z (fun h' UQ hs=> ?_)
  obtain ⟨oc,hoc,ahP⟩:=id z
  refine h {s with heap:=h'} ⟨I.ok,I.os,I.bare,⟨fun b o e n hb hx=> ?_,fun b o e n hb hx=> ?_,I.base.free,fun b o e hx=> ?_,I.base.Bu,I.base.Bv,I.base.FO⟩,⟨m,hn.sameBut hs (Ne.symm (VJ x c hc)),fun j y v' e1 e2 e3=> ?_⟩,fun y c' e=> ?_,I.free,I.oJ,fun p hp=> ?_,tracked ⟨oc,hoc,I.oJ x c hc⟩ hs,by simpa using I.len⟩ ⟨c,hs,.inr hc⟩
  ·exact (hs.2 b (Nat.ne_of_lt (Nat.lt_of_lt_of_le (Heap.lt_size e) (I.ok.ZO x c hfn hc)))).trans (I.base.keep b o e n hb hx)
  ·obtain ⟨sl,e1⟩:=I.base.slot b o e n hb hx
   exact ⟨sl,(hs.2 b (Nat.ne_of_lt (Nat.lt_of_lt_of_le (Heap.lt_size e) (I.ok.ZO x c hfn hc)))).trans e1⟩
  ·obtain ⟨o',e1⟩:=I.base.there b o e hx
   exact ⟨o',(hs.2 b (Nat.ne_of_lt (Nat.lt_of_lt_of_le (Heap.lt_size e) (I.ok.ZO x c hfn hc)))).trans e1⟩
  ·by_cases hj:j=i
   ·subst hj
    rw [hi] at e1;cases e1
    rw [List.getElem?_set_self hiσ] at e2
    cases e2
    exact ⟨u,r,.inr ⟨.inl hk,c,hc,UQ⟩⟩
   ·rw [List.getElem?_set_ne (Ne.symm hj)] at e2
    obtain ⟨u',r',q⟩:=hl j y v' e1 e2 e3
    refine ⟨u',r',?_⟩
    rcases q with q|⟨k,c',e,z'⟩
    ·exact .inl q
    ·refine .inr ⟨k,c',e,z'.sameBut hs ?_⟩
     rintro rfl
     exact hj (Bw hN e1 (I.ok.inj _ _ _ e hc ▸ hi))
  ·by_cases hcc:c'=c
   ·subst hcc;exact ⟨_,UQ⟩
   ·obtain ⟨w2,z2⟩:=I.cell y c' e
    exact ⟨w2,z2.sameBut hs hcc⟩
  ·obtain ⟨e,n,ne,nf,d⟩:=I.pin p hp
   refine ⟨(hs.2 p.1 ?_).trans e,n,ne,nf,d⟩
   intro q
   rw [q,hoc] at e
   have q':oc=p.2:=Option.some.inj e
   exact d w' (by rw [←q'];exact ahP)
theorem Bx {M:Model}{A:Around}{E:Value→Shared→Prop}{i:Nat}{x:Str}{v:V}{u:Value}{Q:Unit→Shared→Prop}(I:Inv X pins σ H s)(hN:X.N.Nodup)(hi:X.N[i]?=some x)(hx:Loc X.env.scope x)(r:RelV v u)
  (h:∀s',Inv X pins (σ.set i (some v)) H s'→Q () s')(hf:X.fn x=true∨X.env.scope.names.lookup x=some .local:=by first|exact .inl rfl|exact .inr rfl|assumption):wpAny M A (storeName X.env x u) Q E s:=
 EB I hN hi hx r (fun s' I' _=>h s' I') hf
theorem Inv.ZR {s':Shared}{ch:List Addr}(I:Inv X pins σ H s)(ho:s'.os=s.os)(u:Un (Pl X.stack) ch H H' s.heap s'.heap)(cw:rp X.prog X.w H' s'.heap)(hg:AllBare s'.gens)
  (DX:∀b∈ch,(b∈X.ex∨X.EA.heap.objs.size≤b)∧b≠X.env.locals∧(∀x c,X.env.cells.lookup x=some c→c≠b)∧∀p∈X.pn ++ pins,p.1≠b):Inv X pins σ H' s':=by
 obtain ⟨h',g',d',t',o'⟩:=s'
 have e:o'=s.os:=ho
 subst e
 exact I.call (g':=g') (t':=t') (d':=d') u cw hg DX
end
abbrev XK:=Value→Option Addr→Hp→Prop
abbrev St:=List (Option V)
abbrev VK:=V→Hp→Prop
abbrev TE:=St→Hp→VK→Prop
abbrev TT:=St→Hp→(Bool→Hp→Prop)→Prop
abbrev TA:=St→Hp→(List V→Hp→Prop)→Prop
structure Ends where
 nx:St→Hp→Prop
 rt:VK
 bk:St→Hp→Prop:=fun _ _=>False
 ct:St→Hp→Prop:=fun _ _=>False
abbrev TS:=Ends→St→Hp→Prop
def EP (X:Cx)(pins:List (Addr×Obj))(σ:St)(Q:VK)(u:Value)(s':Shared):Prop:=∃v H',Inv X pins σ H' s'∧RelV v u∧Q v H'
def TP (X:Cx)(pins:List (Addr×Obj))(σ:St)(Q:Bool→Hp→Prop)(b:Bool)(s':Shared):Prop:=∃H',Inv X pins σ H' s'∧Q b H'
def AP (X:Cx)(pins:List (Addr×Obj))(σ:St)(Q:List V→Hp→Prop)(us:List Value)(s':Shared):Prop:=∃vs H',Inv X pins σ H' s'∧Vals vs us∧Q vs H'
def SP (X:Cx)(pins:List (Addr×Obj))(D:Ends)(f:Flow)(s':Shared):Prop:=
 match f with
 | .next=>∃σ' H',Inv X pins σ' H' s'∧D.nx σ' H'
 | .brk=>∃σ' H',Inv X pins σ' H' s'∧D.bk σ' H'
 | .cont=>∃σ' H',Inv X pins σ' H' s'∧D.ct σ' H'
 | .ret u=>∃v σ' H',Inv X pins σ' H' s'∧RelV v u∧D.rt v H'
def PE (X:Cx)(e:Expr)(t:TE):Prop:=
 ∀ (pins:List (Addr×Obj))(s:Shared)(σ:St)(H:Hp)(Q:VK),Inv X pins σ H s→t σ H Q→wpAny (model X.prog X.w) X.A (eval e X.env) (EP X pins σ Q) X.xe s
def PT (X:Cx)(e:Expr)(t:TT):Prop:=
 ∀ (pins:List (Addr×Obj))(s:Shared)(σ:St)(H:Hp)(Q:Bool→Hp→Prop),Inv X pins σ H s→t σ H Q→wpAny (model X.prog X.w) X.A (isTrue e X.env (eval e X.env)) (TP X pins σ Q) X.xe s
def PW (X:Cx)(e:Expr)(t:TT):Prop:=
 ∀ (whole:Sem Value)(pins:List (Addr×Obj))(s:Shared)(σ:St)(H:Hp)(Q:Bool→Hp→Prop),Inv X pins σ H s→t σ H Q→wpAny (model X.prog X.w) X.A (isTrue e X.env whole) (TP X pins σ Q) X.xe s
theorem PW.pt {X:Cx}{e:Expr}{t:TT}(h:PW X e t):PT X e t:=h _
def PA (X:Cx)(es:List Expr)(t:TA):Prop:=
 ∀ (pos:Pos)(pins:List (Addr×Obj))(s:Shared)(σ:St)(H:Hp)(Q:List V→Hp→Prop),Inv X pins σ H s→t σ H Q→wpAny (model X.prog X.w) X.A (spliced (backTo pos (starEach es X.env))) (AP X pins σ Q) X.xe s
def PS (X:Cx)(st:Stmt)(t:TS):Prop:=
 ∀ (pins:List (Addr×Obj))(s:Shared)(σ:St)(H:Hp)(D:Ends),Inv X pins σ H s→t D σ H→wpAny (model X.prog X.w) X.A (exec st X.env) (SP X pins D) X.xe s
def Ny (X:Cx)(st:List Stmt)(t:TS):Prop:=
 ∀ (pins:List (Addr×Obj))(s:Shared)(σ:St)(H:Hp)(D:Ends),Inv X pins σ H s→t D σ H→wpAny (model X.prog X.w) X.A (execs st X.env) (SP X pins D) X.xe s
theorem dq {α:Type}{t:Sem α}{Q Q':α→Shared→Prop}{M:Model}{A:Around}{E:Value→Shared→Prop}{s:Shared}(h:wpAny M A t Q E s)(hQ:∀a s,Q a s→Q' a s):wpAny M A t Q' E s:=wpAny_mono h hQ fun _ _ x=>x
end L2
namespace L2
open PySem PySem.Spec PyProof.Rows
section
variable {X:Cx}
def ZS (i:Nat):TE:=fun σ H Q=>∃v,σ[i]?=some (some v)∧Q v H
def tC (v:V):TE:=fun _ H Q=>Q v H
theorem VL {i:Nat}{x:Str}{pos:Pos}(hN:X.N[i]?=some x)(hv:Zg X.env.scope x)(hd:(x==("__debug__":Str))=false:=by decide)(wD:(x==("__classdict__":Str))=false:=by decide):PE X (.Name x pos) (ZS i):=by
 intro pins s σ H Q I h
 obtain ⟨v,e,h⟩:=h
 obtain ⟨m,hn,hl⟩:=I.loc
 obtain ⟨u,r,l⟩:=hl i x v hN e hv
 have fin:EP X pins σ Q u s:=⟨v,H,I,r,h⟩
 rcases l with ⟨hk,hm⟩|⟨hk,c,hc,L8⟩
 ·exact wpAny_Name (wpAny_loadName_local I.ok.kind hk hn hm fin) hd
 ·rcases hk with hk|hk
  ·exact wpAny_Name (wpAny_loadName_cell I.ok.kind hk hc L8 fin) hd
  ·exact wpAny_Name (wpAny_loadName_free I.ok.kind hk hc L8 fin wD) hd
theorem ah {i j pos}:PE X (.Constant (.int i) j pos) (tC (.int i)):=fun _ _ _ H _ I h=>wpAny_Constant_int ⟨.int i,H,I.tok _,⟨_,rfl⟩,h⟩
theorem L9 {b j pos}:PE X (.Constant (.bool b) j pos) (tC (.bl b)):=fun _ _ _ H _ I h=>Constant_bool ⟨.bl b,H,I,rfl,h⟩
theorem eU {j pos}:PE X (.Constant .none j pos) (tC .bY):=fun _ _ _ H _ I h=>Constant_none ⟨.bY,H,I,rfl,h⟩
theorem By {x j pos}:PE X (.Constant (.str x) j pos) (tC (.str x)):=fun _ _ _ H _ I h=>Calls.Constant_str ⟨.str x,H,I.tok _,⟨_,rfl⟩,h⟩
def Gl (X:Cx)(x:Str):Prop:=X.env.kindOf x=some .globalImplicit
theorem FQ {E:Value→Shared→Prop}{pins:List (Addr×Obj)}{s:Shared}{σ:St}{H:Hp}{x:Str}{u:Value}{pos:Pos}{Q:Value→Shared→Prop}(I:Inv X pins σ H s)(hg:Gl X x)(hm:X.mg x=some u)(h:Q u s)
  (hd:(x==("__debug__":Str))=false:=by decide):wpAny (model X.prog X.w) X.A (eval (.Name x pos) X.env) Q E s:=
 Calls.Name_function_global I.ok.kind hg (Calls.loadGlobal_global (by rw [I.ok.glob];exact I.mod.glob.keeps I.bk) hm h) hd
theorem yR {E:Value→Shared→Prop}{pins:List (Addr×Obj)}{s:Shared}{σ:St}{H:Hp}{x:Str}{u:Value}{pos:Pos}{Q:Value→Shared→Prop}(I:Inv X pins σ H s)(hg:Gl X x)(hm:X.mg x=none)(hv:bootBuiltins x=some u)(h:Q u s)
  (hn:x≠"__name__":=by decide)(hd:(x==("__debug__":Str))=false:=by decide):wpAny (model X.prog X.w) X.A (eval (.Name x pos) X.env) Q E s:=by
 obtain ⟨mb,h1,h2⟩:=I.mod.blt
 exact Calls.Name_function_global I.ok.kind hg (Calls.loadGlobal_builtin (by rw [I.ok.glob];exact I.mod.glob.keeps I.bk) hm (by rw [I.ok.blt];exact h1.keeps I.bk) ((h2 x hn).trans hv) h) hd
theorem aE {x:Str}{v:V}{u:Value}{pos:Pos}(hg:Gl X x)(hm:X.mg x=some u)(r:RelV v u)(hd:(x==("__debug__":Str))=false:=by decide):PE X (.Name x pos) (tC v):=
 fun _ _ _ H _ I h=>FQ I hg hm ⟨v,H,I,r,h⟩ hd
variable {a b:Expr}{ta tb:TE}{pos:Pos}
def PC (X:Cx)(op:CmpOp)(a b:Expr)(t:TE):Prop:=
 ∀ (pins:List (Addr×Obj))(s:Shared)(σ:St)(H:Hp)(Q:VK),Inv X pins σ H s→t σ H Q→
  wpAny (model X.prog X.w) X.A (eval a X.env) (fun v s₁=>wpAny (model X.prog X.w) X.A (eval b X.env) (fun u s₂=>wpAny (model X.prog X.w) X.A (compareOp op v u) (EP X pins σ Q) X.xe s₂) X.xe s₁) X.xe s
theorem Pp (b:Expr){op:CmpOp}(h:op≠ .In)(h2:op≠ .NotIn):behindInMarks op b=false:=by
 have e1:(op==CmpOp.In)=false:=by cases op <;>first|rfl|exact absurd rfl h
 have e2:(op==CmpOp.NotIn)=false:=by cases op <;>first|rfl|exact absurd rfl h2
 cases b <;>simp [behindInMarks,e1,e2]
def ahQ (ta:TE):TE:=fun σ H Q=>ta σ H fun x H1=>Q (.bl (decide (x= .bY))) H1
def ZT (ta:TE):TE:=fun σ H Q=>ta σ H fun x H1=>Q (.bl (!decide (x= .bY))) H1
theorem RelV.IZ {x:V}{v:Value}(r:RelV x v):(v==Value.none)=decide (x= .bY):=by
 cases x with
 |bY=>cases r;rfl
 |bl _=>cases r;rfl
 |int _=>obtain ⟨t,rfl⟩:=r;rfl
 |str _=>obtain ⟨t,rfl⟩:=r;rfl
 |IY _=>obtain ⟨t,rfl⟩:=r;rfl
 |ZL _=>obtain ⟨t,rfl⟩:=r;rfl
 |ref _=>cases r;rfl
 |ty _=>cases r;rfl
theorem gQ {j pos'}(ha:PE X a ta):PC X .Is a (.Constant .none j pos') (ahQ ta):=by
 intro pins s σ H Q I h
 refine dq (ha pins s σ H _ I h) fun v s1 ⟨x,H1,I1,r1,q1⟩=> ?_
 exact Constant_none (is_none_gen ⟨.bl _,H1,I1,by rw [r1.IZ];rfl,q1⟩)
theorem gR {j pos'}(ha:PE X a ta):PC X .IsNot a (.Constant .none j pos') (ZT ta):=by
 intro pins s σ H Q I h
 refine dq (ha pins s σ H _ I h) fun v s1 ⟨x,H1,I1,r1,q1⟩=> ?_
 exact Constant_none (isnot_none_gen ⟨.bl _,H1,I1,by rw [r1.IZ];rfl,q1⟩)
def tB (t:TE):TT:=fun σ H Q=>t σ H fun x H1=>∃c,x= .bl c∧Q c H1
theorem cq {op:CmpOp}{t:TE}(h:PC X op a b t)(h1:behindInMarks op b=false:=by first|exact Pp _ (by decide) (by decide)|rfl):PT X (.Compare a [op] [b] pos) (tB t):=by
 intro pins s σ H Q I hw
 refine wpAny_isTrue_Compare1 (dq (h pins s σ H _ I hw) fun v s1 h1=>dq h1 fun u s2 h2=>dq h2 fun c s3 ⟨x,H1,I1,r1,q1⟩=> ?_) h1
 obtain ⟨d,rfl,q⟩:=q1
 cases r1
 exact wpAny_truthy_bool ⟨H1,I1,q⟩
theorem rq {e:Expr}{t:TE}(h:PE X e t)(he:∀whole,isTrue e X.env whole=(do let v←whole;standAt e.pos;holding [v] (truthy v)):=by intro _;rfl):PT X e (tB t):=by
 intro pins s σ H Q I hw
 refine isTrue_plain (dq (h pins s σ H _ I hw) fun v s1 ⟨x,H1,I1,r1,q1⟩=> ?_) (he _)
 obtain ⟨d,rfl,q⟩:=q1
 cases r1
 exact wpAny_truthy_bool ⟨H1,I1,q⟩
variable {tA tB':TT}{rest:List Expr}
def ahR (t u:TT):TT:=fun σ H Q=>t σ H fun c H1=>if c=true then u σ H1 Q else Q false H1
def tOr (t u:TT):TT:=fun σ H Q=>t σ H fun c H1=>if c=true then Q true H1 else u σ H1 Q
def ahS (t:TT):TT:=fun σ H Q=>t σ H fun c H1=>Q (!c) H1
theorem fK (ha:PT X a tA):PW X (.BoolOp .And [a] pos) tA:=by
 intro wh pins s σ H Q I h
 refine isTrue_and (dq (ha pins s σ H Q I h) fun c s1 e=> ?_)
 cases c with
 |true=>exact isTrue_and_nil e
 |false=>exact e
theorem pq (ha:PT X a tA):PW X (.BoolOp .Or [a] pos) tA:=by
 intro wh pins s σ H Q I h
 refine isTrue_or (dq (ha pins s σ H Q I h) fun c s1 e=> ?_)
 cases c with
 |false=>exact isTrue_or_nil e
 |true=>exact e
theorem iB (ha:PT X a tA)(hb:PW X (.BoolOp .And (b::rest) pos) tB'):PW X (.BoolOp .And (a::b::rest) pos) (ahR tA tB'):=by
 intro wh pins s σ H Q I h
 refine isTrue_and (dq (ha pins s σ H _ I h) fun c s1 ⟨H1,I1,q1⟩=> ?_)
 cases c with
 |true=>exact hb wh pins s1 σ H1 Q I1 q1
 |false=>exact ⟨H1,I1,q1⟩
theorem wF (ha:PT X a tA)(hb:PW X (.BoolOp .Or (b::rest) pos) tB'):PW X (.BoolOp .Or (a::b::rest) pos) (tOr tA tB'):=by
 intro wh pins s σ H Q I h
 refine isTrue_or (dq (ha pins s σ H _ I h) fun c s1 ⟨H1,I1,q1⟩=> ?_)
 cases c with
 |true=>exact ⟨H1,I1,q1⟩
 |false=>exact hb wh pins s1 σ H1 Q I1 q1
theorem Pq (ha:PT X a tA):PT X (.UnaryOp .Not a pos) (ahS tA):=by
 intro pins s σ H Q I h
 exact isTrue_not (ha pins s σ H (fun c H1=>Q (!c) H1) I h)
def ZU (ta tb:TE):TE:=fun σ H Q=>ta σ H fun x H1=>∃c,x= .bl c∧if c=true then tb σ H1 Q else Q (.bl false) H1
theorem Pr {op}{t:TE}(h:PE X a t):PE X (.BoolOp op [a] pos) t:=fun pins s σ H Q I hw=>BoolOp_one (h pins s σ H Q I hw)
theorem Pt (ha:PE X a ta)(hb:PE X (.BoolOp .And (b::rest) pos) tb):PE X (.BoolOp .And (a::b::rest) pos) (ZU ta tb):=by
 intro pins s σ H Q I h
 refine BoolOp_and (dq (ha pins s σ H _ I h) fun v s1 ⟨x,H1,I1,r1,q1⟩=> ?_)
 obtain ⟨c,rfl,q1⟩:=q1
 cases r1
 refine wpAny_truthy_bool ?_
 cases c with
 |true=>exact hb pins s1 σ H1 Q I1 q1
 |false=>exact ⟨.bl false,H1,I1,rfl,q1⟩
def tIf (t:TT)(ta tb:TE):TE:=fun σ H Q=>t σ H fun c H1=>if c=true then ta σ H1 Q else tb σ H1 Q
theorem I0 {c:Expr}(hc:PT X c tA)(ha:PE X a ta)(hb:PE X b tb):PE X (.IfExp c a b pos) (tIf tA ta tb):=by
 intro pins s σ H Q I h
 refine wpAny_IfExp (dq (hc pins s σ H _ I h) fun d s1 ⟨H1,I1,q1⟩=> ?_)
 cases d with
 |true=>exact ha pins s1 σ H1 Q I1 q1
 |false=>exact hb pins s1 σ H1 Q I1 q1
end
end L2
namespace L2
open PySem PySem.Spec PyProof.Rows
def cK (K:PySem.W.Frag)(H:Hp)(a:Addr)(xs:List V):Prop:=
 Rd H a (.lst xs)∨
  ∃ (o:Obj)(bf:Array Value)(n:Nat),K.lookup a=some o∧o.cls= .type "list"∧o.dict=none∧o.data= .seq bf n∧bf.size≤sizeLine∧Vals xs bf.toList
def bO (K:PySem.W.Frag)(H:Hp)(a:Addr)(xs:List V):Prop:=
 Rd H a (.tup xs)∨
  ∃ (o:Obj)(bf:Array Value)(n:Nat),K.lookup a=some o∧o.cls= .type "tuple"∧o.data= .seq bf n∧bf.size≤sizeLine∧Vals xs bf.toList
def ahT:Value→Option V
 | .none=>some .bY
 | .bool b=>some (.bl b)
 | .int i _=>some (.int i)
 | .str x _=>some (.str x)
 | .bytes b _=>some (.IY b)
 | .float b _=>some (.ZL b)
 | .ref a=>some (.ref a)
 | .type n=>some (.ty n)
 |_=>none
theorem RelV.abs {x:V}{u:Value}(r:RelV x u):ahT u=some x:=by
 cases x with
 |bY=>cases r;rfl
 |bl _=>cases r;rfl
 |int _=>obtain ⟨t,rfl⟩:=r;rfl
 |str _=>obtain ⟨t,rfl⟩:=r;rfl
 |IY _=>obtain ⟨t,rfl⟩:=r;rfl
 |ZL _=>obtain ⟨t,rfl⟩:=r;rfl
 |ref _=>cases r;rfl
 |ty _=>cases r;rfl
theorem RelV.inj {x y:V}{u:Value}(r:RelV x u)(q:RelV y u):x=y:=Option.some.inj (r.abs.symm.trans q.abs)
theorem Vals.inj:∀ {xs ys:List V}{us:List Value},Vals xs us→Vals ys us→xs=ys
 |_,_,_,.nil,.nil=>rfl
 |_,_,_,.cons r t,.cons r' t'=>by rw [r.inj r',Vals.inj t t']
section
variable {X:Cx}{pins:List (Addr×Obj)}{σ:St}{H:Hp}{s:Shared}{a:Addr}{xs ys:List V}
theorem cK.of {K:PySem.W.Frag}(h:H a=some (.lst xs)):cK K H a xs:= .inl (.inl h)
theorem bO.of {K:PySem.W.Frag}(h:H a=some (.tup xs)):bO K H a xs:= .inl (.inl h)
theorem Inv.list (I:Inv X pins σ H s)(h:cK X.K H a xs):∃bf:List Value,Vals xs bf∧PlainL s.heap a bf.toArray∧xs.length≤sizeLine:=by
 rcases h with h|⟨o,bf,n,hk,hc,hd,hs,hz,r⟩
 ·obtain ⟨z,bf,n,r,e⟩:=h.ok I.cw
  exact ⟨bf,r,⟨_,n,e,rfl,rfl,rfl⟩,z⟩
 ·refine ⟨bf.toList,r,⟨o,n,I.L5 a o hk,hc,hd,by simpa using hs⟩,?_⟩
  have e:=r.length
  simp only [Array.length_toList] at e
  omega
theorem Inv.tuple (I:Inv X pins σ H s)(h:bO X.K H a xs):∃bf:List Value,Vals xs bf∧IsTup s.heap a bf.toArray∧xs.length≤sizeLine:=by
 rcases h with h|⟨o,bf,n,hk,hc,hs,hz,r⟩
 ·obtain ⟨z,bf,r,p⟩:=h.ok I.cw
  exact ⟨bf,r,p,z⟩
 ·refine ⟨bf.toList,r,⟨o,I.L5 a o hk,hc,n,by simpa using hs⟩,?_⟩
  have e:=r.length
  simp only [Array.length_toList] at e
  omega
theorem Inv.Ja (I:Inv X pins σ H s)(h:cK X.K H a xs)(h':cK X.K H a ys):xs=ys:=by
 obtain ⟨bf,r,⟨o,n,e,_,_,d⟩,_⟩:=I.list h
 obtain ⟨its',r',⟨o',n',e',_,_,d'⟩,_⟩:=I.list h'
 rw [e] at e';cases e'
 rw [d] at d'
 injection d' with d1 _
 have:bf=its':=by simpa using congrArg Array.toList d1
 subst this
 exact r.inj r'
theorem Inv.ED (I:Inv X pins σ H s)(h:bO X.K H a xs)(h':bO X.K H a ys):xs=ys:=by
 obtain ⟨bf,r,⟨o,e,_,n,d⟩,_⟩:=I.tuple h
 obtain ⟨its',r',⟨o',e',_,n',d'⟩,_⟩:=I.tuple h'
 rw [e] at e';cases e'
 rw [d] at d'
 injection d' with d1 _
 have:bf=its':=by simpa using congrArg Array.toList d1
 subst this
 exact r.inj r'
end
abbrev Cx.DY (X:Cx)(E:Value→Shared→Prop):Cx:={X with xe:=E}
abbrev Cx.nox (X:Cx):Cx:=X.DY fun _ _=>False
theorem Cx.Ok.DY {X:Cx}(ok:X.Ok)(E:Value→Shared→Prop):(X.DY E).Ok:=
 ⟨ok.mod,ok.kind,ok.glob,ok.blt,ok.above,ok.inj,ok.has,ok.ZO,ok.hd,ok.frames,ok.stk,ok.exf,ok.bs,ok.SO,ok.Pn,ok.Po,ok.AK,ok.VI⟩
theorem Cx.Ok.rB {X:Cx}{E:Value→Shared→Prop}(ok:(X.DY E).Ok):X.Ok:=
 ⟨ok.mod,ok.kind,ok.glob,ok.blt,ok.above,ok.inj,ok.has,ok.ZO,ok.hd,ok.frames,ok.stk,ok.exf,ok.bs,ok.SO,ok.Pn,ok.Po,ok.AK,ok.VI⟩
section
variable {X:Cx}{pins:List (Addr×Obj)}{σ:St}{H:Hp}{s:Shared}{E:Value→Shared→Prop}
theorem Inv.DY (I:Inv X pins σ H s)(E:Value→Shared→Prop):Inv (X.DY E) pins σ H s:=⟨I.ok.DY E,I.os,I.bare,I.base,I.loc,I.cell,I.free,I.oJ,I.pin,I.cw,I.len⟩
theorem Inv.rB (I:Inv (X.DY E) pins σ H s):Inv X pins σ H s:=⟨I.ok.rB,I.os,I.bare,I.base,I.loc,I.cell,I.free,I.oJ,I.pin,I.cw,I.len⟩
theorem SP.rB {D:Ends}{f:Flow}{s':Shared}(h:SP (X.DY E) pins D f s'):SP X pins D f s':=by
 cases f with
 |next=>obtain ⟨σ',H',I,q⟩:=h;exact ⟨σ',H',I.rB,q⟩
 |brk=>obtain ⟨σ',H',I,q⟩:=h;exact ⟨σ',H',I.rB,q⟩
 |cont=>obtain ⟨σ',H',I,q⟩:=h;exact ⟨σ',H',I.rB,q⟩
 |ret u=>obtain ⟨v,σ',H',I,r,q⟩:=h;exact ⟨v,σ',H',I.rB,r,q⟩
theorem Ny.nox {st:List Stmt}{t:TS}(h:Ny X.nox st t):Ny X st t:=fun pins s σ H D I hw=>
 wpAny_mono (h pins s σ H D (I.DY _) hw) (fun _ _ q=>q.rB) fun _ _ z=>False.elim z
end
section
variable {X:Cx}{st:Stmt}{rest:List Stmt}{t u:TS}{e:Expr}{te:TE}{pos:Pos}
def ZV:TS:=fun D σ H=>D.nx σ H
def ahU (t u:TS):TS:=fun D σ H=>t {D with nx:=u D} σ H
theorem aY:Ny X [] ZV:=fun _ _ σ H _ I h=>wpAny_execs_nil ⟨σ,H,I,h⟩
theorem ae (h1:PS X st t)(h2:Ny X rest u):Ny X (st::rest) (ahU t u):=by
 intro pins s σ H D I h
 refine wpAny_execs_cons (dq (h1 pins s σ H {D with nx:=u D} I h) fun f s1 q=> ?_)
 cases f with
 |next=>
  obtain ⟨σ',H',I',q⟩:=q
  exact h2 pins s1 σ' H' D I' q
 |ret v=>exact q
 |brk=>exact q
 |cont=>exact q
theorem ak (h1:PS X st t):Ny X [st] t:=by
 intro pins s σ H D I h
 refine wpAny_execs_cons (dq (h1 pins s σ H D I h) fun f s1 q=> ?_)
 cases f with
 |next=>exact wpAny_execs_nil q
 |ret v=>exact q
 |brk=>exact q
 |cont=>exact q
theorem Inv.quiet {pins:List (Addr×Obj)}{σ:St}{H:Hp}{s:Shared}(I:Inv X pins σ H s):interactive X.env=false:=by simp [interactive,I.ok.kind]
def ZW (te:TE):TS:=fun D σ H=>te σ H fun _ H1=>D.nx σ H1
theorem aJ (he:PE X e te)(hs:swapsWith e none pos.line X.env=pure false:=by rfl):PS X (.Expr e pos) (ZW te):=by
 intro pins s σ H D I h
 exact wpAny_Expr_any (dq (he pins s σ H _ I h) fun v s1 ⟨x,H1,I1,r1,q1⟩=>⟨σ,H1,I1,q1⟩) I.quiet hs
def ahV (te:TE):TS:=fun D σ H=>te σ H D.rt
theorem aL (he:PE X e te):PS X (.Return (some e) pos) (ahV te):=by
 intro pins s σ H D I h
 exact wpAny_Return_some (dq (he pins s σ H _ I h) fun v s1 ⟨x,H1,I1,r1,q1⟩=>⟨x,σ,H1,I1,r1,q1⟩)
def ZX:TS:=fun D _ H=>D.rt .bY H
theorem wG:PS X (.Return none pos) ZX:=fun _ _ σ H _ I h=>wpAny_Return_none ⟨.bY,σ,H,I,rfl,h⟩
def ahW (c:TT)(t u:TS):TS:=fun D σ H=>c σ H fun b H1=>if b=true then t D σ H1 else u D σ H1
theorem br {c:Expr}{a b:List Stmt}{tc:TT}(hc:PT X c tc)(ha:Ny X a t)(hb:Ny X b u):PS X (.If c a b pos) (ahW tc t u):=by
 intro pins s σ H D I h
 refine wpAny_If (dq (hc pins s σ H _ I h) fun d s1 ⟨H1,I1,q1⟩=> ?_)
 cases d with
 |true=>exact ha pins s1 σ H1 D I1 q1
 |false=>exact hb pins s1 σ H1 D I1 q1
end
abbrev TG:=V→St→Hp→(St→Hp→Prop)→Prop
abbrev UR:=List V→St→Hp→(St→Hp→Prop)→Prop
def PG (X:Cx)(target:Expr)(t:TG):Prop:=
 ∀ (pins:List (Addr×Obj))(s:Shared)(σ:St)(H:Hp)(v:V)(u:Value)(Q:St→Hp→Prop),Inv X pins σ H s→RelV v u→t v σ H Q→
  wpAny (model X.prog X.w) X.A (assign target X.env u) (fun _ s'=>∃σ' H',Inv X pins σ' H' s'∧Q σ' H') X.xe s
def ZY (X:Cx)(ts:List Expr)(t:UR):Prop:=
 ∀ (pins:List (Addr×Obj))(s:Shared)(σ:St)(H:Hp)(vs:List V)(us:List Value)(Q:St→Hp→Prop),Inv X pins σ H s→Vals vs us→t vs σ H Q→
  wpAny (model X.prog X.w) X.A (assignInOrder ((assignEach ts X.env).map (·.2)) us) (fun _ s'=>∃σ' H',Inv X pins σ' H' s'∧Q σ' H') X.xe s
abbrev VM:=V→V→V→Hp→(Hp→Prop)→Prop
def ZZ (X:Cx)(t:VM):Prop:=
 ∀ (pins:List (Addr×Obj))(s:Shared)(σ:St)(H:Hp)(o i v:V)(ov iv u:Value)(Q:Hp→Prop),Inv X pins σ H s→RelV o ov→RelV i iv→RelV v u→t o i v H Q→
  wpAny (model X.prog X.w) X.A (setItem ov iv u) (fun _ s'=>∃H',Inv X pins σ H' s'∧Q H') X.xe s
abbrev TIp:=V→V→Hp→VK→Prop
def PIp (X:Cx)(op:Operator)(t:TIp):Prop:=
 ∀ (pins:List (Addr×Obj))(s:Shared)(σ:St)(H:Hp)(x y:V)(v u:Value)(Q:VK),Inv X pins σ H s→RelV x v→RelV y u→t x y H Q→
  wpAny (model X.prog X.w) X.A (inplaceOp op v u) (EP X pins σ Q) X.xe s
section
variable {X:Cx}{pos:Pos}
def Ma (i:Nat):TG:=fun v σ H Q=>Q (σ.set i (some v)) H
theorem eV {i:Nat}{x:Str}(hN:X.N.Nodup)(hi:X.N[i]?=some x)(hx:Loc X.env.scope x)(hf:X.fn x=true∨X.env.scope.names.lookup x=some .local:=by first|exact .inl rfl|exact .inr rfl|assumption):PG X (.Name x pos) (Ma i):=by
 intro pins s σ H v u Q I r h
 exact wpAny_assign_Name (Bx I hN hi hx r (fun s' I'=>⟨_,H,I',h⟩) hf)
def ahX:UR:=fun vs σ H Q=>vs= [] ∧Q σ H
def Z0 (t:TG)(u:UR):UR:=fun vs σ H Q=>∃v r,vs=v::r∧t v σ H fun σ' H'=>u r σ' H' Q
theorem FR:ZY X [] ahX:=by
 intro pins s σ H vs us Q I r h
 obtain ⟨e,h⟩:=h
 subst e
 cases r
 exact assignInOrder_nil ⟨σ,H,I,h⟩
theorem oK {e:Expr}{es:List Expr}{t:TG}{u:UR}(h1:PG X e t)(h2:ZY X es u)
  (hs:(assignEach (e::es) X.env).map (·.2)=assign e X.env::(assignEach es X.env).map (·.2):=by rfl):ZY X (e::es) (Z0 t u):=by
 intro pins s σ H vs us Q I r h
 obtain ⟨v,vr,e1,h⟩:=h
 subst e1
 cases r with
 |cons r rr=>
  rw [hs]
  refine assignInOrder_cons (dq (h1 pins s σ H _ _ _ I r h) fun _ s1 ⟨σ1,H1,I1,q1⟩=> ?_)
  exact h2 pins s1 σ1 H1 _ _ Q I1 rr q1
def Z1 (K:PySem.W.Frag)(n:Nat)(t:UR):TG:=fun v σ H Q=>∃a xs,v= .ref a∧bO K H a xs∧xs.length=n∧t xs σ H Q
theorem Kt {es:List Expr}{k:Nat}{t:UR}{n:Nat}(hc:X.calm=true)(h:ZY X es t)
  (hn:(assignEach es X.env).length=n:=by rfl)(qW:(assignEach es X.env).findIdx? (·.1)=none:=by rfl):PG X (.Tuple es k pos) (Z1 X.K n t):=by
 intro pins s σ H v u Q I r hw
 obtain ⟨a,xs,e1,hq,hl,hw⟩:=hw
 subst e1
 cases r
 obtain ⟨bf,rv,ht,hz⟩:=I.tuple hq
 refine assign_Tuple_tuple (I.ok.hd hc) ht (by simp [hn,←hl,rv.length]) qW fun h' hx=> ?_
 have I1:Inv X pins σ H {s with heap:=h'}:=I.kept (t':=s.toks) fun b o e=>hx b o (Nat.ne_of_lt (Heap.lt_size e)) e
 exact h pins _ σ H xs _ Q I1 (by simpa using rv) hw
def ahY (to ti:TE)(t:VM):TG:=fun v σ H Q=>to σ H fun o H1=>ti σ H1 fun i H2=>t o i v H2 fun H3=>Q σ H3
theorem Pu {o i:Expr}{to ti:TE}{t:VM}(ho:PE X o to)(hi:PE X i ti)(hs:ZZ X t)
  (ha:∀v,assign (.Subscript o i pos) X.env v=(do
   let ov←holding [v] (eval o X.env)
   let iv←holding [v,ov] (eval i X.env)
   standAt pos
   holding [v,ov,iv] (setItem ov iv v)
   release [v,ov,iv] []):=by intro _;rfl):PG X (.Subscript o i pos) (ahY to ti t):=by
 intro pins s σ H v u Q I r h
 rw [ha]
 refine wpAny_bind (wpAny_holding (dq (ho pins s σ H _ I h) fun ov s1 ⟨x,H1,I1,r1,q1⟩=> ?_))
 refine wpAny_bind (wpAny_holding (dq (hi pins s1 σ H1 _ I1 q1) fun iv s2 ⟨y,H2,I2,r2,q2⟩=> ?_))
 refine wpAny_bind (wpAny_standAt (wpAny_bind (wpAny_holding (dq (hs pins s2 σ H2 x y v ov iv u _ I2 r1 r2 r q2) fun _ s3 ⟨H3,I3,q3⟩=> ?_))))
 exact wpAny_release ⟨σ,H3,I3,q3⟩
def VN (te:TE)(g:TG):TS:=fun D σ H=>te σ H fun x H1=>g x σ H1 D.nx
theorem Pw {tg e:Expr}{te:TE}{g:TG}(he:PE X e te)(hg:PG X tg g)(hs:swapsWithSole [tg] e pos.line X.env=pure false:=by rfl)(hw:swappedStores [tg] e X.env=pure none:=by rfl)
  (h1:(assignEach [tg] X.env).map (·.2)= [assign tg X.env] :=by rfl):PS X (.Assign [tg] e pos) (VN te g):=by
 intro pins s σ H D I h
 refine wpAny_Assign_stores (dq (he pins s σ H _ I h) fun v s1 ⟨x,H1,I1,r1,q1⟩=> ?_) hs hw
 rw [h1]
 exact dq (hg pins s1 σ H1 x v _ I1 r1 q1) fun _ s2 q=>q
theorem aZ {i:Nat}{x:Str}{e:Expr}{te:TE}{pos':Pos}(hN:X.N.Nodup)(hi:X.N[i]?=some x)(hx:Loc X.env.scope x)(he:PE X e te)(hs:swapsWith e (some (.Name x pos')) pos.line X.env=pure false:=by rfl)(hf:X.fn x=true∨X.env.scope.names.lookup x=some .local:=by first|exact .inl rfl|exact .inr rfl|assumption):
  PS X (.Assign [.Name x pos'] e pos) (VN te (Ma i)):=by
 intro pins s σ H D I h
 refine wpAny_Assign_Name (dq (he pins s σ H _ I h) fun v s1 ⟨y,H1,I1,r1,q1⟩=> ?_) hs
 exact Bx I1 hN hi hx r1 (fun s2 I2=>⟨_,H1,I2,q1⟩) hf
def ahZ (i:Nat)(te:TE)(ti:TIp):TS:=fun D σ H=>∃x,σ[i]?=some (some x)∧te σ H fun y H1=>ti x y H1 fun z H2=>D.nx (σ.set i (some z)) H2
theorem Ku {i:Nat}{x:Str}{e:Expr}{te:TE}{op:Operator}{ti:TIp}{pos':Pos}(hN:X.N.Nodup)(hi:X.N[i]?=some x)(hx:Loc X.env.scope x)(he:PE X e te)(ho:PIp X op ti)(hf:X.fn x=true∨X.env.scope.names.lookup x=some .local:=by first|exact .inl rfl|exact .inr rfl|assumption):
  PS X (.AugAssign (.Name x pos') op e pos) (ahZ i te ti):=by
 intro pins s σ H D I h
 obtain ⟨v,e1,h⟩:=h
 obtain ⟨m,hn,hl⟩:=I.loc
 have vis:Zg X.env.scope x:=by rcases hx with k|k;exact .inl k;exact .inr (.inl k)
 obtain ⟨u,r,l⟩:=hl i x v hi e1 vis
 refine wpAny_AugAssign_Name ?_
 have go:wpAny (model X.prog X.w) X.A (eval e X.env) (fun w s₂=>wpAny (model X.prog X.w) X.A (inplaceOp op u w) (fun r s₃=>wpAny (model X.prog X.w) X.A (storeName X.env x r) (fun _=>SP X pins D .next) X.xe s₃) X.xe s₂) X.xe s:=by
  refine dq (he pins s σ H _ I h) fun w s1 ⟨y,H1,I1,r1,q1⟩=> ?_
  refine dq (ho pins s1 σ H1 v y u w _ I1 r r1 q1) fun z s2 ⟨zv,H2,I2,r2,q2⟩=> ?_
  exact Bx I2 hN hi hx r2 (fun s3 I3=>⟨_,H2,I3,q2⟩) hf
 rcases l with ⟨hk,hm⟩|⟨hk,c,hc,L8⟩
 ·exact wpAny_loadName_local I.ok.kind hk hn hm go
 ·rcases hk with hk|hk
  ·exact wpAny_loadName_cell I.ok.kind hk hc L8 go
  ·rcases hx with k|k
   ·have:X.env.scope.names.lookup x=some .free:=hk
    rw [k] at this;cases this
   ·have:X.env.scope.names.lookup x=some .free:=hk
    rw [k] at this;cases this
def ipI (f:Int→Int→Int):TIp:=fun x y H Q=>∃i j,x= .int i∧y= .int j∧Q (.int (f i j)) H
theorem Kv:PIp X .Add (ipI fun i j=>i + j):=by
 intro pins s σ H x y v u Q I r1 r2 h
 obtain ⟨i,j,e1,e2,q⟩:=h
 subst e1;subst e2
 obtain ⟨t,rfl⟩:=r1
 obtain ⟨t',rfl⟩:=r2
 exact iadd_int ⟨.int _,H,I.tok _,⟨_,rfl⟩,q⟩
end
section
variable {X:Cx}{pos:Pos}
def VO (c:TT)(tb:TS):TS:=fun D σ H=>∃W:Nat→St→Hp→Prop,(∃m,W m σ H)∧∀m σ H,W m σ H→
 c σ H fun b H1=>if b=true then ∃N:St→Hp→Prop,(∀σ' H',N σ' H'→∃m',m' < m∧W m' σ' H')∧tb {D with nx:=N,ct:=N,bk:=D.nx} σ H1 else D.nx σ H1
theorem wH {c:Expr}{body:List Stmt}{tc:TT}{tb:TS}(hp:PassesOwn (model X.prog X.w) X.A X.env X.xe)(hc:PT X c tc)(hb:Ny X body tb):PS X (.While c body [] pos) (VO tc tb):=by
 intro pins s σ H D I h
 obtain ⟨W,⟨m0,w0⟩,turn⟩:=h
 refine wpAny_While (codeAny_whileLoop (fun n s'=>∃σ' H',Inv X pins σ' H' s'∧W n σ' H') ?_ m0 ⟨σ,H,I,w0⟩)
 rintro n s1 ⟨σ1,H1,I1,w1⟩
 refine wpAny_passesOwn hp (dq (hc pins s1 σ1 H1 _ I1 (turn n σ1 H1 w1)) fun b s2 ⟨H2,I2,q2⟩=> ?_)
 cases b with
 |true=>
  obtain ⟨N,hN,q2⟩:=q2
  rw [if_pos rfl]
  refine wpAny_passesOwn hp (dq (hb pins s2 σ1 H2 _ I2 q2) fun f s3 q3=> ?_)
  cases f with
  |next=>
   obtain ⟨σ3,H3,I3,n3⟩:=q3
   obtain ⟨m',hm,w3⟩:=hN σ3 H3 n3
   exact ⟨m',hm,σ3,H3,I3,w3⟩
  |cont=>
   obtain ⟨σ3,H3,I3,n3⟩:=q3
   obtain ⟨m',hm,w3⟩:=hN σ3 H3 n3
   exact ⟨m',hm,σ3,H3,I3,w3⟩
  |brk=>exact q3
  |ret v=>exact q3
 |false=>
  rw [if_neg Bool.false_ne_true]
  exact wpAny_execs_nil ⟨σ1,H2,I2,q2⟩
end
structure It where
 go:Nat→Hp→Prop
 Pb:Nat→Hp→V→Hp→Prop
 stop:Nat→Hp→Prop
def AL (X:Cx)(pins:List (Addr×Obj))(H:Hp)(b:Addr):Prop:=
 H b=none∧b≠X.env.locals∧b ∉ X.fs∧(b∈X.ex∨X.EA.heap.objs.size≤b)∧(∀x c,X.env.cells.lookup x=some c→c≠b)∧∀p∈X.pn ++ pins,p.1≠b
theorem Inv.Nz {X:Cx}{pins:List (Addr×Obj)}{σ:St}{H H':Hp}{s:Shared}{b:Addr}(I:Inv X pins σ H s)(hb:s.heap.objs.size≤b)(hn:H' b=none):AL X pins H' b:=by
 refine ⟨hn,Nat.ne_of_gt (Nat.lt_of_lt_of_le I.lt hb),I.ahL hb,.inr (Nat.le_trans I.sz hb),fun x c e z=> ?_,fun p hp z=> ?_⟩
 ·obtain ⟨v,q⟩:=I.cell x c e
  exact absurd (Nat.lt_of_lt_of_le q.lt (by rw [z];exact hb)) (Nat.lt_irrefl _)
 ·exact absurd (Nat.lt_of_lt_of_le (Heap.lt_size (I.pin p hp).1) (by rw [z];exact hb)) (Nat.lt_irrefl _)
structure Turn (P:Program) (w:World) (K:PySem.W.Frag) (tg:Expr) (J:It) (fp:List Addr) (it:Addr) (tn:Nat→Heap→Prop):Prop where
 mem:it∈fp
 obj:∀i h,tn i h→∀b∈fp,∃o,h.get? b=some o∧∀v,o.data≠ .cell v
 keep:∀i h h',tn i h→(∀b∈fp,∀o,h.get? b=some o→h'.get? b=some o)→tn i h'
 item:∀ (X:Cx),X.prog=P→X.w=w→X.K=K→X.calm=true→∀ (i:Nat)(pins:List (Addr×Obj))(s:Shared)(σ:St)(H:Hp)(E:Value→Shared→Prop),Inv X pins σ H s→(∀b∈fp,AL X pins H b)→tn i s.heap→J.go i H→
  wpAny (model P w) X.A (pyNext (.ref it)) (fun r s1=>∃u,r=some u∧
   wpAny (model P w) X.A (letOwnedTupleGo tg (.ref it) u) (fun _ s2=>∃x H',Inv X pins σ H' s2∧RelV x u∧J.Pb i H x H'∧tn (i + 1) s2.heap∧∀b∈fp,H' b=none) E s1) E s
 done:∀ (X:Cx),X.prog=P→X.w=w→X.K=K→X.calm=true→∀ (i:Nat)(pins:List (Addr×Obj))(s:Shared)(σ:St)(H:Hp)(E:Value→Shared→Prop),Inv X pins σ H s→(∀b∈fp,AL X pins H b)→tn i s.heap→J.stop i H→
  wpAny (model P w) X.A (pyNext (.ref it)) (fun r s1=>r=none∧Inv X pins σ H s1) E s
 self:∀ (A:Around)(i:Nat)(s:Shared)(Q:Value→Shared→Prop)(E:Value→Shared→Prop),tn i s.heap→Q (.ref it) s→wpAny (model P w) A (pyIter (.ref it)) Q E s
abbrev TI:=St→Hp→(It→Hp→Prop)→Prop
def Z2 (X:Cx)(pins:List (Addr×Obj))(σ:St)(tg:Expr)(R:It→Hp→Prop)(itv:Value)(s2:Shared):Prop:=
 ∃ (it:Addr)(fp:List Addr)(tn:Nat→Heap→Prop)(J:It)(H':Hp),itv= .ref it∧Inv X pins σ H' s2∧Turn X.prog X.w X.K tg J fp it tn∧tn 0 s2.heap∧(∀b∈fp,AL X pins H' b)∧R J H'
def PI (X:Cx)(tg iter:Expr)(wi:TI):Prop:=
 ∀ (pins:List (Addr×Obj))(s:Shared)(σ:St)(H:Hp)(R:It→Hp→Prop),Inv X pins σ H s→wi σ H R→
  wpAny (model X.prog X.w) X.A (eval iter X.env) (fun v s1=>wpAny (model X.prog X.w) X.A (pyIter v) (Z2 X pins σ tg R) X.xe s1) X.xe s
theorem Jb {M:Model}{A:Around}{E:Value→Shared→Prop}{s:Shared}{tg:Expr}{it:Addr}{u:Value}{o:Obj}{n:String}{vs:Array Value}{Q:Unit→Shared→Prop}(ho:s.heap.get? it=some o)(hc:o.cls= .type n)(hd:o.data= .fields vs)
  (hn: ["enumerate","zip","dict_itemiterator","dict_reverseitemiterator","odict_iterator","itertools.zip_longest","itertools.pairwise"].contains n=false)(hQ:Q () s):wpAny M A (letOwnedTupleGo tg (.ref it) u) Q E s:=by
 unfold letOwnedTupleGo
 cases tg <;>first
  |exact wpAny_pure hQ
  |(cases u <;>first
    |exact wpAny_pure hQ
    |(refine wpAny_bind (wpAny_load ho ?_)
      rw [hc,hd]
      show wpAny M A (if (["enumerate","zip","dict_itemiterator","dict_reverseitemiterator","odict_iterator","itertools.zip_longest","itertools.pairwise"].contains n && vs[0]?==some (rawInt _))=true then _ else _) Q E s
      rw [if_neg (by intro h;rw [hn,Bool.false_and] at h;cases h)]
      exact wpAny_pure hQ))
def US (K:PySem.W.Frag)(a:Addr):It:=
 ⟨fun i H=>∃xs x,cK K H a xs∧xs[i]?=some x,fun i H x H'=>H'=H∧∀xs,cK K H a xs→xs[i]?=some x,fun i H=>∃xs,cK K H a xs∧xs.length≤i⟩
def Z3 (K:PySem.W.Frag)(a:Addr):It:=
 ⟨fun i H=>∃xs x,bO K H a xs∧xs[i]?=some x,fun i H x H'=>H'=H∧∀xs,bO K H a xs→xs[i]?=some x,fun i H=>∃xs,bO K H a xs∧xs.length≤i⟩
def Zh (lo:Int)(n:Nat):It:=⟨fun i _=>i < n,fun i H x H'=>H'=H∧x= .int (lo + i),fun i _=>n≤i⟩
theorem NA {P:Program}{w:World}{K:PySem.W.Frag}{tg:Expr}(a it:Addr):Turn P w K tg (US K a) [it] it (fun i h=>h.IsListIter it a i) where
 mem:=by simp
 obj:=fun i h st b hb=>by
  have e:b=it:=by simpa using hb
  subst e
  obtain ⟨o,e,c,d⟩:=st
  exact ⟨o,e,fun v z=>by rw [d] at z;cases z⟩
 keep:=fun i h h' st k=>st.at fun o e=>k it (by simp) o e
 item:=by
  intro X hP hw hK hc i pins s σ H E I hf st hg
  subst hP hw hK
  obtain ⟨xs,x,hq,hx⟩:=hg
  obtain ⟨bf,rv,p,hz⟩:=I.list hq
  obtain ⟨u,hu,ru⟩:=rv.get hx
  obtain ⟨f0,f1,f2,f3,f4,f5⟩:=hf it (by simp)
  refine wpAny_pyNext_list_item st p.isList (x:=u) (by simpa using hu) fun h' DZ sb=> ?_
  have I1:Inv X pins σ H {s with heap:=h'}:=I.turned (t':=s.toks) (fun b o hb e=>(sb.2 b hb).trans e) f0 f1 f3 f4 f5
  obtain ⟨o,e,c,d⟩:=id DZ
  exact ⟨u,rfl,Jb (s:={s with heap:=h'}) e c d (by decide) ⟨x,H,I1,ru,⟨rfl,fun ys hy=>by rw [I.Ja hy hq];exact hx⟩,DZ,fun b hb=>(hf b hb).1⟩⟩
 done:=by
  intro X hP hw hK hc i pins s σ H E I hf st hg
  subst hP hw hK
  obtain ⟨xs,hq,hx⟩:=hg
  obtain ⟨bf,rv,p,hz⟩:=I.list hq
  obtain ⟨f0,f1,f2,f3,f4,f5⟩:=hf it (by simp)
  have hl:=rv.length
  exact wpAny_pyNext_list_end (I.ok.hd hc) st p.isList (by simp;omega) fun h' eb=>⟨rfl,I.turned (t':=s.toks) (fun b o hb e=>eb b o hb e) f0 f1 f3 f4 f5⟩
 self:=fun _ _ _ _ _ st h=>wpAny_pyIter_listiter st h
theorem Kw {P:Program}{w:World}{K:PySem.W.Frag}{tg:Expr}(a it:Addr):Turn P w K tg (Z3 K a) [it] it (fun i h=>h.IsTupleIter it a i) where
 mem:=by simp
 obj:=fun i h st b hb=>by
  have e:b=it:=by simpa using hb
  subst e
  obtain ⟨o,e,c,d⟩:=st
  exact ⟨o,e,fun v z=>by rw [d] at z;cases z⟩
 keep:=fun i h h' st k=>st.at fun o e=>k it (by simp) o e
 item:=by
  intro X hP hw hK hc i pins s σ H E I hf st hg
  subst hP hw hK
  obtain ⟨xs,x,hq,hx⟩:=hg
  obtain ⟨bf,rv,p,hz⟩:=I.tuple hq
  obtain ⟨u,hu,ru⟩:=rv.get hx
  obtain ⟨f0,f1,f2,f3,f4,f5⟩:=hf it (by simp)
  refine wpAny_pyNext_tuple_item st (show s.heap.IsTuple a bf.toArray from p) (x:=u) (by simpa using hu) fun h' DZ sb=> ?_
  have I1:Inv X pins σ H {s with heap:=h'}:=I.turned (t':=s.toks) (fun b o hb e=>(sb.2 b hb).trans e) f0 f1 f3 f4 f5
  obtain ⟨o,e,c,d⟩:=id DZ
  exact ⟨u,rfl,Jb (s:={s with heap:=h'}) e c d (by decide) ⟨x,H,I1,ru,⟨rfl,fun ys hy=>by rw [I.ED hy hq];exact hx⟩,DZ,fun b hb=>(hf b hb).1⟩⟩
 done:=by
  intro X hP hw hK hc i pins s σ H E I hf st hg
  subst hP hw hK
  obtain ⟨xs,hq,hx⟩:=hg
  obtain ⟨bf,rv,p,hz⟩:=I.tuple hq
  obtain ⟨f0,f1,f2,f3,f4,f5⟩:=hf it (by simp)
  have hl:=rv.length
  exact wpAny_pyNext_tuple_end (I.ok.hd hc) st (show s.heap.IsTuple a bf.toArray from p) (by simp;omega) fun h' eb=>⟨rfl,I.turned (t':=s.toks) (fun b o hb e=>eb b o hb e) f0 f1 f3 f4 f5⟩
 self:=fun _ _ _ _ _ st h=>wpAny_pyIter_tupleiter st h
theorem Kx {P:Program}{w:World}{K:PySem.W.Frag}{tg:Expr}(it:Addr)(lo:Int)(n:Nat):Turn P w K tg (Zh lo n) [it] it (fun i h=>IsRangeIter h it (lo + (i:Nat) * 1) ((n:Int) - (i:Nat)) 1) where
 mem:=by simp
 obj:=fun i h st b hb=>by
  have e:b=it:=by simpa using hb
  subst e
  exact ⟨_,st,fun v z=>by
   have z':Data.fields _=Data.cell v:=z
   cases z'⟩
 keep:=fun i h h' st k=>k it (by simp) _ st
 item:=by
  intro X hP hw hK hc i pins s σ H E I hf st hg
  subst hP hw hK
  obtain ⟨f0,f1,f2,f3,f4,f5⟩:=hf it (by simp)
  have W:=Walks.range (prog:=X.prog) (w:=X.w) (I.ok.hd hc) it lo 1 n
  refine W.item i s _ _ hg st fun v h' tk hv DZ kk=> ?_
  obtain ⟨t,rfl⟩:=hv
  have I1:Inv X pins σ H {s with heap:=h',toks:=tk}:=I.turned (fun b o hb e=>kk b o (by simpa using hb) e) f0 f1 f3 f4 f5
  refine ⟨_,rfl,Jb (s:={s with heap:=h',toks:=tk}) (n:="range_iterator") DZ rfl rfl (by decide) ⟨.int (lo + i),H,I1,⟨t,?_⟩,⟨rfl,rfl⟩,DZ,fun b hb=>(hf b hb).1⟩⟩
  rw [Int.mul_one]
 done:=by
  intro X hP hw hK hc i pins s σ H E I hf st hg
  subst hP hw hK
  obtain ⟨f0,f1,f2,f3,f4,f5⟩:=hf it (by simp)
  exact wpAny_pyNext_range_end (I.ok.hd hc) st (by have:n≤i:=hg;omega) fun h' eb=>⟨rfl,I.turned (t':=s.toks) (fun b o hb e=>eb b o hb e) f0 f1 f3 f4 f5⟩
 self:=fun _ _ _ _ _ st h=>wpAny_pyIter_rangeiter st h
end L2
namespace L2
open PySem PySem.Spec PyProof.Rows
section
variable {X:Cx}{tg:Expr}
def UT (K:PySem.W.Frag)(tl:TE):TI:=fun σ H R=>tl σ H fun x H1=>∃a,x= .ref a∧(∃xs,cK K H1 a xs)∧R (US K a) H1
def Z4 (K:PySem.W.Frag)(tl:TE):TI:=fun σ H R=>tl σ H fun x H1=>∃a,x= .ref a∧(∃xs,bO K H1 a xs)∧R (Z3 K a) H1
theorem tG {l:Expr}{tl:TE}(hl:PE X l tl):PI X tg l (UT X.K tl):=by
 intro pins s σ H R I h
 refine dq (hl pins s σ H _ I h) fun v s1 ⟨x,H1,I1,r1,q1⟩=> ?_
 obtain ⟨a,e,⟨xs,hq⟩,q⟩:=q1
 subst e
 cases r1
 obtain ⟨bf,rv,p,hz⟩:=I1.list hq
 refine wpAny_pyIter_list p.isList ?_
 refine ⟨s1.heap.objs.size,[s1.heap.objs.size],_,_,H1,rfl,I1.kept (t':=s1.toks) fun b o e=>Heap.get?_push_of_some _ e,NA a _,⟨_,Heap.get?_push_size _ rfl,rfl,rfl⟩,fun b hb=> ?_,q⟩
 have e:b=s1.heap.objs.size:=by simpa using hb
 subst e
 exact I1.Nz (Nat.le_refl _) (I1.cw.fresh (Nat.le_refl _))
theorem VP {l:Expr}{tl:TE}(hl:PE X l tl):PI X tg l (Z4 X.K tl):=by
 intro pins s σ H R I h
 refine dq (hl pins s σ H _ I h) fun v s1 ⟨x,H1,I1,r1,q1⟩=> ?_
 obtain ⟨a,e,⟨xs,hq⟩,q⟩:=q1
 subst e
 cases r1
 obtain ⟨bf,rv,p,hz⟩:=I1.tuple hq
 refine wpAny_pyIter_tuple (show s1.heap.IsTuple a bf.toArray from p) ?_
 refine ⟨s1.heap.objs.size,[s1.heap.objs.size],_,_,H1,rfl,I1.kept (t':=s1.toks) fun b o e=>Heap.get?_push_of_some _ e,Kw a _,⟨_,Heap.get?_push_size _ rfl,rfl,rfl⟩,fun b hb=> ?_,q⟩
 have e:b=s1.heap.objs.size:=by simpa using hb
 subst e
 exact I1.Nz (Nat.le_refl _) (I1.cw.fresh (Nat.le_refl _))
theorem Px {pins:List (Addr×Obj)}{σ:St}{H:Hp}{s:Shared}{R:It→Hp→Prop}{E:Value→Shared→Prop}{lo hi:Int}{t u v:Tok}{tk:Nat}(I:Inv X pins σ H s)(h1: -(2 ^ 62)≤lo)(h2:lo < 2 ^ 62)(h3: -(2 ^ 62)≤hi)(h4:hi < 2 ^ 62)
  (q:R (Zh lo (hi - lo).toNat) H):wpAny (model X.prog X.w) X.A (pyIter (.ref s.heap.objs.size)) (Z2 X pins σ tg R) E {s with heap:=s.heap.push {cls:= .type "range",data:= .fields #[.int lo t,.int hi u,.int 1 v] },toks:=tk}:=by
 refine wpAny_pyIter_range (IsRange.new ..) (small_one h1 h2 h3 h4) ?_
 have I1:Inv X pins σ H {s with heap:=s.heap.push {cls:= .type "range",data:= .fields #[.int lo t,.int hi u,.int 1 v] },toks:=tk}:=I.kept fun b o e=>Heap.get?_push_of_some _ e
 refine ⟨(s.heap.push {cls:= .type "range",data:= .fields #[.int lo t,.int hi u,.int 1 v] }).objs.size,[(s.heap.push {cls:= .type "range",data:= .fields #[.int lo t,.int hi u,.int 1 v] }).objs.size],_,_,H,rfl,
  I1.kept (t':=tk) fun b o e=>Heap.get?_push_of_some _ e,Kx _ lo (hi - lo).toNat,?_,fun b hb=> ?_,q⟩
 ·have e1:lo + ((0:Nat):Int) * 1=lo:=by simp
  have e2:(((hi - lo).toNat:Nat):Int) - ((0:Nat):Int)=Builtin.Range.rangeSize lo hi 1:=by rw [rangeSize_one];split <;>omega
  show IsRangeIter _ _ (lo + ((0:Nat):Int) * 1) ((((hi - lo).toNat:Nat):Int) - ((0:Nat):Int)) 1
  rw [e1,e2]
  exact Heap.get?_push_size _ rfl
 ·have e:b=(s.heap.push {cls:= .type "range",data:= .fields #[.int lo t,.int hi u,.int 1 v] }).objs.size:=by simpa using hb
  subst e
  exact I1.Nz (Nat.le_refl _) (I1.cw.fresh (Nat.le_refl _))
def Z5 (ta:TA):TI:=fun σ H R=>ta σ H fun vs H1=>∃j:Int,vs= [.int j] ∧ -(2 ^ 62)≤j∧j < 2 ^ 62∧R (Zh 0 j.toNat) H1
theorem NB {a:Expr}{ta:TA}{p pos:Pos}(hg:Gl X "range")(hm:X.mg "range"=none)(ha:PA X [a] ta)(hs:starEach [a] X.env= [(false,eval a X.env)] :=by rfl):PI X tg (.Call (.Name "range" p) [a] [] pos) (Z5 ta):=by
 intro pins s σ H R I h
 refine Call_ (yR I hg hm boot_range (PyProof.Rows.callWith_type1 (dq (ha pos pins s σ H _ I h) fun us s1 ⟨vs,H1,I1,r1,q1⟩=> ?_) hs rfl))
 obtain ⟨j,e,q1,q2,q⟩:=q1
 subst e
 cases r1 with
 |cons r rr=>
  cases rr
  obtain ⟨t,rfl⟩:=r
  exact call_range_1 (Px I1 (by omega) (by omega) q1 q2 (by simpa using q))
def ah1 (wi:TI)(g:TG)(tb:TS):TS:=fun D σ H=>wi σ H fun J H1=>∃W:Nat→Nat→St→Hp→Prop,(∃m,W 0 m σ H1)∧∀i m σ H,W i m σ H→
 (J.stop i H∧D.nx σ H)∨(J.go i H∧∃N:St→Hp→Prop,(∀σ' H',N σ' H'→∃m',m' < m∧W (i + 1) m' σ' H')∧∀x H',J.Pb i H x H'→g x σ H' fun σ2 H2=>tb {D with nx:=N,ct:=N,bk:=D.nx} σ2 H2)
def Bz (fp:List Addr)(h:Heap):List (Addr×Obj):=fp.filterMap fun b=>(h.get? b).map fun o=>(b,o)
theorem vQ {fp:List Addr}{h:Heap}{b:Addr}{o:Obj}(hb:b∈fp)(e:h.get? b=some o):(b,o)∈Bz fp h:=List.mem_filterMap.mpr ⟨b,hb,by rw [e];rfl⟩
theorem NC {fp:List Addr}{h:Heap}{p:Addr×Obj}(hp:p∈Bz fp h):p.1∈fp∧h.get? p.1=some p.2:=by
 obtain ⟨b,hb,e⟩:=List.mem_filterMap.mp hp
 cases q:h.get? b with
 |none=>rw [q] at e;cases e
 |some o=>
  rw [q] at e
  have e':(b,o)=p:=Option.some.inj e
  subst e'
  exact ⟨hb,q⟩
theorem Inv.pinned {pins:List (Addr×Obj)}{σ:St}{H:Hp}{s:Shared}{fp:List Addr}(I:Inv X pins σ H s)(hf:∀b∈fp,AL X pins H b)(ho:∀b∈fp,∃o,s.heap.get? b=some o∧∀v,o.data≠ .cell v):Inv X (pins ++ Bz fp s.heap) σ H s:=
 I.L7 fun p hp=>(List.mem_append.mp hp).elim (fun z=>I.pin p (List.mem_append_right _ z)) fun z=>by
  obtain ⟨hb,e⟩:=NC z
  obtain ⟨f0,f1,f2,_⟩:=hf p.1 hb
  obtain ⟨o,e',d⟩:=ho p.1 hb
  rw [e] at e';cases e'
  exact ⟨e,f0,f1,f2,d⟩
theorem Inv.wI {pins pl:List (Addr×Obj)}{σ:St}{H:Hp}{s:Shared}(I:Inv X (pins ++ pl) σ H s):Inv X pins σ H s:=I.L7 fun p hp=>I.pin p (List.mem_append_right _ (List.mem_append_left _ hp))
theorem BB {iter:Expr}{body:List Stmt}{wi:TI}{g:TG}{tb:TS}{pos:Pos}(hp:PassesOwn (model X.prog X.w) X.A X.env X.xe)(hc:X.calm=true)(hi:PI X tg iter wi)(hg:PG X tg g)(hb:Ny X body tb)
  (hs:∀x,foldedSetIterable iter X.env x=pure x:=by intro _;rfl):PS X (.For tg iter body [] pos) (ah1 wi g tb):=by
 intro pins s σ H D I h
 refine wpAny_For (dq (hi pins s σ H _ I h) fun v s1 h1=>dq h1 fun itv s2 h2=> ?_) hs
 obtain ⟨it,fp,tn,J,H2,e,I2,T,st2,f2,W,⟨m0,w0⟩,turn⟩:=h2
 subst e
 have stat:∀ {H':Hp},(∀b∈fp,H' b=none)→∀b∈fp,AL X pins H' b:=fun hn b hb=>⟨hn b hb,(f2 b hb).2⟩
 refine codeAny_forLoop_any (fun n s'=>∃i σ' H',Inv X pins σ' H' s'∧tn i s'.heap∧(∀b∈fp,H' b=none)∧W i n σ' H') ?_ m0 ⟨0,σ,H2,I2,st2,fun b hb=>(f2 b hb).1,w0⟩
 rintro n s3 ⟨i,σ3,H3,I3,st3,fr3,w3⟩
 rcases turn i n σ3 H3 w3 with ⟨stop,qn⟩|⟨go,N,hN,step⟩
 ·refine wpAny_passesOwn hp (dq (T.done X rfl rfl rfl hc i pins s3 σ3 H3 X.xe I3 (stat fr3) st3 stop) fun r s4 ⟨hr,I4⟩=> ?_)
  subst hr
  exact wpAny_execs_nil ⟨σ3,H3,I4,qn⟩
 ·refine wpAny_passesOwn hp (dq (T.item X rfl rfl rfl hc i pins s3 σ3 H3 X.xe I3 (stat fr3) st3 go) fun r s4 ⟨u,hr,h4⟩=> ?_)
  subst hr
  refine wpAny_passesOwn hp (dq h4 fun _ s5 ⟨x,H5,I5,r5,y5,Zi,fr5⟩=> ?_)
  have I5':=I5.pinned (stat fr5) (T.obj _ _ Zi)
  refine wpAny_passesOwn hp (dq (hg _ s5 σ3 H5 x u _ I5' r5 (step x H5 y5)) fun _ s6 ⟨σ6,H6,I6,q6⟩=> ?_)
  refine wpAny_passesOwn hp (dq (hb _ s6 σ6 H6 _ I6 q6) fun f s7 q7=> ?_)
  have again:∀ {σ7:St}{H7:Hp},Inv X (pins ++ Bz fp s5.heap) σ7 H7 s7→N σ7 H7→∃m,m < n∧∃i σ' H',Inv X pins σ' H' s7∧tn i s7.heap∧(∀b∈fp,H' b=none)∧W i m σ' H':=fun {σ7 H7} I7 n7=>by
   obtain ⟨m',hm,w7⟩:=hN σ7 H7 n7
   refine ⟨m',hm,i + 1,σ7,H7,I7.wI,T.keep _ _ _ Zi fun b hb o e=>(I7.pin (b,o) (List.mem_append_right _ (List.mem_append_right _ (vQ hb e)))).1,fun b hb=> ?_,w7⟩
   obtain ⟨o,e,d⟩:=T.obj _ _ Zi b hb
   exact (I7.pin (b,o) (List.mem_append_right _ (List.mem_append_right _ (vQ hb e)))).2.1
  cases f with
  |next=>obtain ⟨σ7,H7,I7,n7⟩:=q7;exact again I7 n7
  |cont=>obtain ⟨σ7,H7,I7,n7⟩:=q7;exact again I7 n7
  |brk=>obtain ⟨σ7,H7,I7,q7⟩:=q7;exact ⟨σ7,H7,I7.wI,q7⟩
  |ret v=>obtain ⟨x7,σ7,H7,I7,r7,q7⟩:=q7;exact ⟨x7,σ7,H7,I7.wI,r7,q7⟩
end
theorem BC {K:PySem.W.Frag}{a:Addr}{xs:List V}{g:TG}{tb:TS}{D:Ends}{σ:St}{H:Hp}(Pv:Nat→St→Hp→Prop)(h0:Pv 0 σ H)(hl:∀i σ H,i≤xs.length→Pv i σ H→cK K H a xs)
  (hs:∀i x σ H,xs[i]?=some x→Pv i σ H→g x σ H fun σ2 H2=>tb {D with nx:=Pv (i + 1),ct:=Pv (i + 1),bk:=D.nx} σ2 H2)(hd:∀σ H,Pv xs.length σ H→D.nx σ H):
  ∃W:Nat→Nat→St→Hp→Prop,(∃m,W 0 m σ H)∧∀i m σ H,W i m σ H→
   ((US K a).stop i H∧D.nx σ H)∨((US K a).go i H∧∃N:St→Hp→Prop,(∀σ' H',N σ' H'→∃m',m' < m∧W (i + 1) m' σ' H')∧∀x H',(US K a).Pb i H x H'→g x σ H' fun σ2 H2=>tb {D with nx:=N,ct:=N,bk:=D.nx} σ2 H2):=by
 refine ⟨fun i m σ H=>m=xs.length - i∧i≤xs.length∧Pv i σ H,⟨xs.length,by simp,Nat.zero_le _,h0⟩,?_⟩
 rintro i m σ H ⟨rfl,hi,p⟩
 have q:=hl i σ H hi p
 by_cases eA:i < xs.length
 ·refine .inr ⟨⟨xs,xs[i],q,by simp [eA]⟩,Pv (i + 1),fun σ' H' p'=>⟨xs.length - (i + 1),by omega,rfl,eA,p'⟩,fun x H' y=> ?_⟩
  obtain ⟨e,y⟩:=y
  subst e
  exact hs i x σ _ (y xs q) p
 ·have e:i=xs.length:=by omega
  subst e
  exact .inl ⟨⟨xs,q,Nat.le_refl _⟩,hd σ H p⟩
theorem SQ {K:PySem.W.Frag}{a:Addr}{xs:List V}{g:TG}{tb:TS}{D:Ends}{σ:St}{H:Hp}(Pv:Nat→St→Hp→Prop)(h0:Pv 0 σ H)(hl:∀i σ H,i≤xs.length→Pv i σ H→bO K H a xs)
  (hs:∀i x σ H,xs[i]?=some x→Pv i σ H→g x σ H fun σ2 H2=>tb {D with nx:=Pv (i + 1),ct:=Pv (i + 1),bk:=D.nx} σ2 H2)(hd:∀σ H,Pv xs.length σ H→D.nx σ H):
  ∃W:Nat→Nat→St→Hp→Prop,(∃m,W 0 m σ H)∧∀i m σ H,W i m σ H→
   ((Z3 K a).stop i H∧D.nx σ H)∨((Z3 K a).go i H∧∃N:St→Hp→Prop,(∀σ' H',N σ' H'→∃m',m' < m∧W (i + 1) m' σ' H')∧∀x H',(Z3 K a).Pb i H x H'→g x σ H' fun σ2 H2=>tb {D with nx:=N,ct:=N,bk:=D.nx} σ2 H2):=by
 refine ⟨fun i m σ H=>m=xs.length - i∧i≤xs.length∧Pv i σ H,⟨xs.length,by simp,Nat.zero_le _,h0⟩,?_⟩
 rintro i m σ H ⟨rfl,hi,p⟩
 have q:=hl i σ H hi p
 by_cases eA:i < xs.length
 ·refine .inr ⟨⟨xs,xs[i],q,by simp [eA]⟩,Pv (i + 1),fun σ' H' p'=>⟨xs.length - (i + 1),by omega,rfl,eA,p'⟩,fun x H' y=> ?_⟩
  obtain ⟨e,y⟩:=y
  subst e
  exact hs i x σ _ (y xs q) p
 ·have e:i=xs.length:=by omega
  subst e
  exact .inl ⟨⟨xs,q,Nat.le_refl _⟩,hd σ H p⟩
theorem tH {lo:Int}{n:Nat}{g:TG}{tb:TS}{D:Ends}{σ:St}{H:Hp}(Pv:Nat→St→Hp→Prop)(h0:Pv 0 σ H)
  (hs:∀i σ H,i < n→Pv i σ H→g (.int (lo + i)) σ H fun σ2 H2=>tb {D with nx:=Pv (i + 1),ct:=Pv (i + 1),bk:=D.nx} σ2 H2)(hd:∀σ H,Pv n σ H→D.nx σ H):
  ∃W:Nat→Nat→St→Hp→Prop,(∃m,W 0 m σ H)∧∀i m σ H,W i m σ H→
   ((Zh lo n).stop i H∧D.nx σ H)∨((Zh lo n).go i H∧∃N:St→Hp→Prop,(∀σ' H',N σ' H'→∃m',m' < m∧W (i + 1) m' σ' H')∧∀x H',(Zh lo n).Pb i H x H'→g x σ H' fun σ2 H2=>tb {D with nx:=N,ct:=N,bk:=D.nx} σ2 H2):=by
 refine ⟨fun i m σ H=>m=n - i∧i≤n∧Pv i σ H,⟨n,by simp,Nat.zero_le _,h0⟩,?_⟩
 rintro i m σ H ⟨rfl,hi,p⟩
 by_cases eA:i < n
 ·refine .inr ⟨eA,Pv (i + 1),fun σ' H' p'=>⟨n - (i + 1),by omega,rfl,eA,p'⟩,fun x H' y=> ?_⟩
  obtain ⟨e,y⟩:=y
  subst e y
  exact hs i σ _ eA p
 ·have e:i=n:=by omega
  subst e
  exact .inl ⟨Nat.le_refl _,hd σ H p⟩
end L2
namespace L2
open PySem PySem.Spec PyProof.Rows
abbrev R2:=V→V→Hp→VK→Prop
def AM (X:Cx)(f:Value→Value→Sem Value)(r:R2):Prop:=
 ∀ (pins:List (Addr×Obj))(s:Shared)(σ:St)(H:Hp)(x y:V)(v u:Value)(Q:VK),Inv X pins σ H s→RelV x v→RelV y u→r x y H Q→
  wpAny (model X.prog X.w) X.A (f v u) (EP X pins σ Q) X.xe s
def UnR (X:Cx)(f:Value→Sem Value)(r:V→Hp→VK→Prop):Prop:=
 ∀ (pins:List (Addr×Obj))(s:Shared)(σ:St)(H:Hp)(x:V)(v:Value)(Q:VK),Inv X pins σ H s→RelV x v→r x H Q→
  wpAny (model X.prog X.w) X.A (f v) (EP X pins σ Q) X.xe s
def mw (X:Cx)(f:Value)(r:List V→Hp→VK→Prop):Prop:=
 ∀ (pins:List (Addr×Obj))(s:Shared)(σ:St)(H:Hp)(xs:List V)(us:List Value)(Q:VK),Inv X pins σ H s→Vals xs us→r xs H Q→
  wpAny (model X.prog X.w) X.A (call f us) (EP X pins σ Q) X.xe s
def tOp (r:R2)(ta tb:TE):TE:=fun σ H Q=>ta σ H fun x H1=>tb σ H1 fun y H2=>r x y H2 Q
def tUn (r:V→Hp→VK→Prop)(ta:TE):TE:=fun σ H Q=>ta σ H fun x H1=>r x H1 Q
def rI (C:Int→Int→Prop)(g:Int→Int→V):R2:=fun x y H Q=>∃i j,x= .int i∧y= .int j∧C i j∧Q (g i j) H
def UU (g:Int→Int→V):R2:=fun x y H Q=>∃i j,x= .int i∧y= .int j∧Q (g i j) H
def rU (g:Int→V):V→Hp→VK→Prop:=fun x H Q=>∃i,x= .int i∧Q (g i) H
section
variable {X:Cx}{a b c:Expr}{ta tb tc:TE}{pos:Pos}
theorem VQ (ha:PE X a ta)(hb:PE X b tb){pins:List (Addr×Obj)}{s:Shared}{σ:St}{H:Hp}{R:V→V→Hp→Prop}(I:Inv X pins σ H s)
  (h:ta σ H fun x H1=>tb σ H1 fun y H2=>R x y H2){Q:Value→Shared→Prop}{f:Value→Value→Sem Value}
  (hf:∀v u s2 x y H2,Inv X pins σ H2 s2→RelV x v→RelV y u→R x y H2→wpAny (model X.prog X.w) X.A (f v u) Q X.xe s2):
  wpAny (model X.prog X.w) X.A (eval a X.env) (fun v s₁=>wpAny (model X.prog X.w) X.A (eval b X.env) (fun u s₂=>wpAny (model X.prog X.w) X.A (f v u) Q X.xe s₂) X.xe s₁) X.xe s:=by
 refine dq (ha pins s σ H _ I h) fun v s1 ⟨x,H1,I1,r1,q1⟩=> ?_
 refine dq (hb pins s1 σ H1 _ I1 q1) fun u s2 ⟨y,H2,I2,r2,q2⟩=> ?_
 exact hf v u s2 x y H2 I2 r1 r2 q2
theorem cO {op:Operator}{r:R2}(ho:AM X (binaryOp op) r)(ha:PE X a ta)(hb:PE X b tb):PE X (.BinOp a op b pos) (tOp r ta tb):=by
 intro pins s σ H Q I h
 exact wpAny_BinOp (VQ ha hb I h fun v u s2 x y H2 I2 rx ry q=>ho pins s2 σ H2 x y v u Q I2 rx ry q)
theorem d7 {op:UnaryOp}{r:V→Hp→VK→Prop}(ho:UnR X (unaryOp op) r)(ha:PE X a ta):PE X (.UnaryOp op a pos) (tUn r ta):=by
 intro pins s σ H Q I h
 exact UnaryOp_ (dq (ha pins s σ H _ I h) fun v s1 ⟨x,H1,I1,r1,q1⟩=>ho pins s1 σ H1 x v Q I1 r1 q1)
theorem opI {f:Value→Value→Sem Value}{C:Int→Int→Prop}{g:Int→Int→Int}
  (rule:∀ (i j:Int)(t u:Tok)(s:Shared)(Q:Value→Shared→Prop)(E:Value→Shared→Prop),C i j→Q (.int (g i j) s.toks) {s with toks:=s.toks + 1}→wpAny (model X.prog X.w) X.A (f (.int i t) (.int j u)) Q E s):
  AM X f (rI C fun i j=> .int (g i j)):=by
 intro pins s σ H x y v u Q I rx ry h
 obtain ⟨i,j,rfl,rfl,hc,q⟩:=h
 obtain ⟨t,rfl⟩:=rx
 obtain ⟨t',rfl⟩:=ry
 exact rule i j t t' s _ _ hc ⟨.int (g i j),H,I.tok _,⟨_,rfl⟩,q⟩
theorem Z6 {f:Value→Value→Sem Value}{g:Int→Int→Int}
  (rule:∀ (i j:Int)(t u:Tok)(s:Shared)(Q:Value→Shared→Prop)(E:Value→Shared→Prop),Q (.int (g i j) s.toks) {s with toks:=s.toks + 1}→wpAny (model X.prog X.w) X.A (f (.int i t) (.int j u)) Q E s):
  AM X f (UU fun i j=> .int (g i j)):=by
 intro pins s σ H x y v u Q I rx ry h
 obtain ⟨i,j,rfl,rfl,q⟩:=h
 obtain ⟨t,rfl⟩:=rx
 obtain ⟨t',rfl⟩:=ry
 exact rule i j t t' s _ _ ⟨.int (g i j),H,I.tok _,⟨_,rfl⟩,q⟩
theorem SR {f:Value→Value→Sem Value}{g:Int→Int→Bool}
  (rule:∀ (i j:Int)(t u:Tok)(s:Shared)(Q:Value→Shared→Prop)(E:Value→Shared→Prop),Q (.bool (g i j)) s→wpAny (model X.prog X.w) X.A (f (.int i t) (.int j u)) Q E s):
  AM X f (UU fun i j=> .bl (g i j)):=by
 intro pins s σ H x y v u Q I rx ry h
 obtain ⟨i,j,rfl,rfl,q⟩:=h
 obtain ⟨t,rfl⟩:=rx
 obtain ⟨t',rfl⟩:=ry
 exact rule i j t t' s _ _ ⟨.bl (g i j),H,I,rfl,q⟩
def ah4 (i j:Int):Prop:=0 < j∧j < 1073741824
def VR (i j:Int):Prop:=(-(2 ^ 64) < i∧i < 2 ^ 64)∨(-(2 ^ 64) < j∧j < 2 ^ 64)
theorem VR.ok {i j:Int}(h:VR i j):IntMulOk i j:=by
 rcases h with ⟨h1,h2⟩|⟨h1,h2⟩
 ·exact .of_left (intBits_le_64 h1 h2)
 ·exact .of_right (intBits_le_64 h1 h2)
theorem eB:AM X (binaryOp .Add) (UU fun i j=> .int (i + j)):=Z6 fun _ _ _ _ _ _ _ q=>add_int q
theorem Ky:AM X (binaryOp .Sub) (UU fun i j=> .int (i - j)):=Z6 fun _ _ _ _ _ _ _ q=>sub_int q
theorem VS:AM X (binaryOp .Mult) (rI VR fun i j=> .int (i * j)):=opI fun _ _ _ _ _ _ _ hc q=>mul_int q hc.ok
theorem FT:AM X (binaryOp .FloorDiv) (rI ah4 fun i j=> .int (i / j)):=opI fun i j _ _ _ _ _ hc q=>by
 have h1:(0:Int) < j:=hc.1
 have h2:j < 1073741824:=hc.2
 exact floordiv_int (by omega) (by rw [Int.fdiv_eq_ediv_of_nonneg i (by omega)];exact q) (.inl (PyProof.noPylong_small (by omega)))
theorem Py:AM X (binaryOp .Mod) (rI (fun _ j=>0 < j) fun i j=> .int (i % j)):=opI fun i j _ _ _ _ _ hc q=>by
 have h1:(0:Int) < j:=hc
 exact mod_int' (by omega) (by rw [Int.fmod_eq_emod_of_nonneg i (by omega)];exact q)
theorem unI {f:Value→Sem Value}{g:Int→Int}
  (rule:∀ (i:Int)(t:Tok)(s:Shared)(Q:Value→Shared→Prop)(E:Value→Shared→Prop),Q (.int (g i) s.toks) {s with toks:=s.toks + 1}→wpAny (model X.prog X.w) X.A (f (.int i t)) Q E s):
  UnR X f (rU fun i=> .int (g i)):=by
 intro pins s σ H x v Q I rx h
 obtain ⟨i,rfl,q⟩:=h
 obtain ⟨t,rfl⟩:=rx
 exact rule i t s _ _ ⟨.int (g i),H,I.tok _,⟨_,rfl⟩,q⟩
theorem cG:UnR X (unaryOp .USub) (rU fun i=> .int (-i)):=unI fun _ _ _ _ _ q=>neg_int q
end
def Z7:V→V→Bool
 | .bY,.bY=>true| .bY,.int _=>true| .int _,.bY=>true| .bY,.bl _=>true| .bl _,.bY=>true| .bY,.str _=>true| .str _,.bY=>true
 | .int _,.int _=>true| .bl _,.bl _=>true| .str _,.str _=>true| .IY _,.IY _=>true
 | .int _,.str _=>true| .str _,.int _=>true| .bl _,.str _=>true| .str _,.bl _=>true
 |_,_=>false
def rEq:R2:=fun x y H Q=>Z7 x y=true∧Q (.bl (decide (x=y))) H
def rNe:R2:=fun x y H Q=>Z7 x y=true∧Q (.bl (!decide (x=y))) H
theorem Mb {i j:Int}:decide (V.int i=V.int j)=(i==j):=by
 rw [Bool.eq_iff_iff]
 simp
theorem Pz {i j:Bool}:decide (V.bl i=V.bl j)=(i==j):=by
 rw [Bool.eq_iff_iff]
 simp
theorem Mc {i j:Str}:decide (V.str i=V.str j)=(i==j):=by
 rw [Bool.eq_iff_iff]
 simp
theorem Md {i j:Array UInt8}:decide (V.IY i=V.IY j)=(i.toList==j.toList):=by
 rw [Bool.eq_iff_iff]
 cases i
 cases j
 simp
section
variable {X:Cx}{a b c:Expr}{ta tb tc:TE}{pos:Pos}
theorem cE {pins:List (Addr×Obj)}{σ:St}{H:Hp}{s:Shared}{Q:VK}{k k':Bool}(I:Inv X pins σ H s)(q:Q (.bl k) H)(e:k=k'):EP X pins σ Q (.bool k') s:=by
 subst e
 exact ⟨.bl k,H,I,rfl,q⟩
theorem cU:AM X (compareOp .Eq) rEq:=by
 intro pins s σ H x y v u Q I rx ry h
 obtain ⟨hs,q⟩:=h
 cases x with
 |bY=>
  cases rx
  cases y with
  |bY=>cases ry;exact PySem.EqNone.eq_none_none (cE I q (by simp))
  |bl j=>cases ry;exact PySem.EqNone.eq_none_bool (cE I q (by simp))
  |int j=>obtain ⟨t',rfl⟩:=ry;exact PySem.EqNone.eq_none_int (cE I q (by simp))
  |str j=>obtain ⟨t',rfl⟩:=ry;exact PySem.EqNone.eq_none_str (cE I q (by simp))
  |_=>exact absurd (show false=true from hs) Bool.false_ne_true
 |bl i=>
  cases rx
  cases y with
  |bY=>cases ry;exact PySem.EqNone.eq_bool_none (cE I q (by simp))
  |bl j=>cases ry;exact eq_bool (cE I q Pz)
  |str j=>obtain ⟨t',rfl⟩:=ry;exact PySem.EqMixed.eq_bool_str (cE I q (by simp))
  |_=>exact absurd (show false=true from hs) Bool.false_ne_true
 |int i=>
  obtain ⟨t,rfl⟩:=rx
  cases y with
  |bY=>cases ry;exact PySem.EqNone.eq_int_none (cE I q (by simp))
  |int j=>obtain ⟨t',rfl⟩:=ry;exact eq_int (cE I q Mb)
  |str j=>obtain ⟨t',rfl⟩:=ry;exact PySem.EqMixed.eq_int_str (cE I q (by simp))
  |_=>exact absurd (show false=true from hs) Bool.false_ne_true
 |str i=>
  obtain ⟨t,rfl⟩:=rx
  cases y with
  |bY=>cases ry;exact PySem.EqNone.eq_str_none (cE I q (by simp))
  |bl j=>cases ry;exact PySem.EqMixed.eq_str_bool (cE I q (by simp))
  |int j=>obtain ⟨t',rfl⟩:=ry;exact PySem.EqMixed.eq_str_int (cE I q (by simp))
  |str j=>obtain ⟨t',rfl⟩:=ry;exact eq_str (cE I q Mc)
  |_=>exact absurd (show false=true from hs) Bool.false_ne_true
 |IY i=>
  obtain ⟨t,rfl⟩:=rx
  cases y with
  |IY j=>obtain ⟨t',rfl⟩:=ry;exact PySem.W.eq_bytes (cE I q Md)
  |_=>exact absurd (show false=true from hs) Bool.false_ne_true
 |_=>cases y <;>exact absurd (show false=true from hs) Bool.false_ne_true
theorem BD:AM X (compareOp .NotEq) rNe:=by
 intro pins s σ H x y v u Q I rx ry h
 obtain ⟨hs,q⟩:=h
 cases x with
 |bY=>
  cases rx
  cases y with
  |bY=>cases ry;exact PySem.EqNone.ne_none_none (cE I q (by simp))
  |bl j=>cases ry;exact PySem.EqNone.ne_none_bool (cE I q (by simp))
  |int j=>obtain ⟨t',rfl⟩:=ry;exact PySem.EqNone.ne_none_int (cE I q (by simp))
  |str j=>obtain ⟨t',rfl⟩:=ry;exact PySem.EqNone.ne_none_str (cE I q (by simp))
  |_=>exact absurd (show false=true from hs) Bool.false_ne_true
 |bl i=>
  cases rx
  cases y with
  |bY=>cases ry;exact PySem.EqNone.ne_bool_none (cE I q (by simp))
  |bl j=>cases ry;exact ne_bool (cE I q (congrArg not Pz))
  |str j=>obtain ⟨t',rfl⟩:=ry;exact PySem.EqMixed.ne_bool_str (cE I q (by simp))
  |_=>exact absurd (show false=true from hs) Bool.false_ne_true
 |int i=>
  obtain ⟨t,rfl⟩:=rx
  cases y with
  |bY=>cases ry;exact PySem.EqNone.ne_int_none (cE I q (by simp))
  |int j=>obtain ⟨t',rfl⟩:=ry;exact ne_int (cE I q (congrArg not Mb))
  |str j=>obtain ⟨t',rfl⟩:=ry;exact PySem.EqMixed.ne_int_str (cE I q (by simp))
  |_=>exact absurd (show false=true from hs) Bool.false_ne_true
 |str i=>
  obtain ⟨t,rfl⟩:=rx
  cases y with
  |bY=>cases ry;exact PySem.EqNone.ne_str_none (cE I q (by simp))
  |bl j=>cases ry;exact PySem.EqMixed.ne_str_bool (cE I q (by simp))
  |int j=>obtain ⟨t',rfl⟩:=ry;exact PySem.EqMixed.ne_str_int (cE I q (by simp))
  |str j=>obtain ⟨t',rfl⟩:=ry;exact ne_str (cE I q (congrArg not Mc))
  |_=>exact absurd (show false=true from hs) Bool.false_ne_true
 |IY i=>
  obtain ⟨t,rfl⟩:=rx
  cases y with
  |IY j=>obtain ⟨t',rfl⟩:=ry;exact PySem.W.ne_bytes (cE I q (congrArg not Md))
  |_=>exact absurd (show false=true from hs) Bool.false_ne_true
 |_=>cases y <;>exact absurd (show false=true from hs) Bool.false_ne_true
theorem oM:AM X (compareOp .Lt) (UU fun i j=> .bl (decide (i < j))):=SR fun _ _ _ _ _ _ _ q=>lt_int q
theorem BE:AM X (compareOp .LtE) (UU fun i j=> .bl (decide (i≤j))):=SR fun _ _ _ _ _ _ _ q=>le_int q
theorem wJ:AM X (compareOp .Gt) (UU fun i j=> .bl (decide (j < i))):=SR fun _ _ _ _ _ _ _ q=>gt_int q
theorem Z8:AM X (compareOp .GtE) (UU fun i j=> .bl (decide (j≤i))):=SR fun _ _ _ _ _ _ _ q=>ge_int q
theorem aS (b:Expr){op:CmpOp}(h:op≠ .In:=by decide)(h2:op≠ .NotIn:=by decide):behindInMarks op b=false:=by
 have e1:(op==CmpOp.In)=false:=by cases op <;>first|rfl|exact absurd rfl h
 have e2:(op==CmpOp.NotIn)=false:=by cases op <;>first|rfl|exact absurd rfl h2
 cases b <;>simp [behindInMarks,e1,e2]
theorem jY {op:CmpOp}{r:R2}(ho:AM X (compareOp op) r)(ha:PE X a ta)(hb:PE X b tb)(hm:behindInMarks op b=false):PE X (.Compare a [op] [b] pos) (tOp r ta tb):=by
 intro pins s σ H Q I h
 exact wpAny_Compare1 (VQ ha hb I h fun v u s2 x y H2 I2 rx ry q=>ho pins s2 σ H2 x y v u Q I2 rx ry q) hm
def Z9 (t:TE):TT:=fun σ H Q=>t σ H fun x H'=>∃k,x= .bl k∧Q k H'
theorem aM {op:CmpOp}{r:R2}(ho:AM X (compareOp op) r)(ha:PE X a ta)(hb:PE X b tb)(hm:behindInMarks op b=false):PT X (.Compare a [op] [b] pos) (Z9 (tOp r ta tb)):=by
 intro pins s σ H Q I h
 refine wpAny_isTrue_Compare1 (dq (ha pins s σ H _ I h) fun v s1 ⟨x,H1,I1,r1,q1⟩=>dq (hb pins s1 σ H1 _ I1 q1) fun u s2 ⟨y,H2,I2,r2,q2⟩=>
  dq (ho pins s2 σ H2 x y v u _ I2 r1 r2 q2) fun c s3 ⟨z,H3,I3,r3,k,e,q3⟩=> ?_) hm
 subst e
 cases r3
 exact wpAny_truthy_bool ⟨H3,I3,q3⟩
def VT (r r':R2)(ta tb tc:TE):TE:=fun σ H Q=>ta σ H fun x H1=>tb σ H1 fun y H2=>r x y H2 fun z H3=>∃k,z= .bl k∧
 (if k=true then tc σ H3 fun w' H4=>r' y w' H4 Q else Q (.bl false) H3)
theorem rC {op op':CmpOp}{r r':R2}(ho:AM X (compareOp op) r)(DW:AM X (compareOp op') r')(ha:PE X a ta)(hb:PE X b tb)(hc:PE X c tc)
  (hm:lastMarks [op,op'] [b,c] =false:=by with_unfolding_all rfl):PE X (.Compare a [op,op'] [b,c] pos) (VT r r' ta tb tc):=by
 intro pins s σ H Q I h
 refine Compare_chain (dq (ha pins s σ H _ I h) fun v s1 ⟨x,H1,I1,r1,q1⟩=>chain_link (dq (hb pins s1 σ H1 _ I1 q1) fun u s2 ⟨y,H2,I2,r2,q2⟩=>
  dq (ho pins s2 σ H2 x y v u _ I2 r1 r2 q2) fun d s3 ⟨z,H3,I3,r3,k,e,q3⟩=> ?_)) hm
 subst e
 cases r3
 refine wpAny_truthy_bool ?_
 cases k with
 |false=>exact ite_ff ⟨.bl false,H3,I3,rfl,q3⟩
 |true=>exact ite_tt (chain_last (dq (hc pins s3 σ H3 _ I3 q3) fun w' s4 ⟨z',H4,I4,r4,q4⟩=>DW pins s4 σ H4 y z' u w' Q I4 r2 r4 q4))
theorem BF:(sizeLine:Nat) < 2 ^ 63:=by rw [sizeLine_eq];decide
theorem vals1 {x:V}{us:List Value}(r:Vals [x] us):∃u,us= [u] ∧RelV x u:=by
 cases r with
 |cons r1 r2=>cases r2;exact ⟨_,rfl,r1⟩
theorem vals2 {x y:V}{us:List Value}(r:Vals [x,y] us):∃u w',us= [u,w'] ∧RelV x u∧RelV y w':=by
 cases r with
 |cons r1 r2=>
  cases r2 with
  |cons r3 r4=>cases r4;exact ⟨_,_,rfl,r1,r3⟩
theorem EE (hc:X.calm=true):mw X (.builtin "max") (fun xs H Q=>∃i j,xs= [.int i,.int j] ∧Q (.int (if j >i then j else i)) H):=by
 intro pins s σ H xs us Q I r h
 obtain ⟨i,j,rfl,q⟩:=h
 obtain ⟨u,w',rfl,⟨t,rfl⟩,⟨t',rfl⟩⟩:=vals2 r
 refine max_two_ints (I.ok.hd hc) fun h' tk k=>⟨_,H,I.kept k,?_,q⟩
 by_cases hj:j >i
 ·rw [if_pos hj,if_pos hj];exact ⟨_,rfl⟩
 ·rw [if_neg hj,if_neg hj];exact ⟨_,rfl⟩
theorem EF (hc:X.calm=true):mw X (.builtin "min") (fun xs H Q=>∃i j,xs= [.int i,.int j] ∧Q (.int (if j < i then j else i)) H):=by
 intro pins s σ H xs us Q I r h
 obtain ⟨i,j,rfl,q⟩:=h
 obtain ⟨u,w',rfl,⟨t,rfl⟩,⟨t',rfl⟩⟩:=vals2 r
 refine min_two_ints (I.ok.hd hc) fun h' tk k=>⟨_,H,I.kept k,?_,q⟩
 by_cases hj:j < i
 ·rw [if_pos hj,if_pos hj];exact ⟨_,rfl⟩
 ·rw [if_neg hj,if_neg hj];exact ⟨_,rfl⟩
end
end L2
namespace L2
open PySem PySem.Spec PyProof.Rows
structure ND (h:Heap) (x dx C:Addr) (mA:Str→Option Value):Prop where
 obj:h.get? x=some (PySem.W.instObj C dx)
 ns:h.Ns1 dx mA
 ne:dx≠x
theorem NF {h:Heap}{dx:Addr}{mA:Str→Option Value}(n:h.Ns1 dx mA):∃od,h.get? dx=some od∧∀name,PySem.W.lookIn name od=some (mA name):=by
 obtain ⟨o,es,ep,ho,hd,hk,_,hm⟩:=n
 refine ⟨o,ho,fun name=> ?_⟩
 have e:=hm name
 unfold nsFind findBy at e
 rw [←Array.find?_toList] at e
 unfold PySem.W.lookIn
 rw [hd]
 dsimp only
 split
 ·rename_i y q
  rw [q] at e
  exact congrArg some e
 ·rename_i q
  rw [q] at e
  have a:es.toList.any (·.refKey)=false:=by
   rw [List.any_eq_false]
   intro y hy
   obtain ⟨z,t,vR⟩:=hk y (Array.mem_toList_iff.mp hy)
   simp [DictEntry.refKey,vR]
  have a':¬es.toList.any (·.refKey)=true:=by rw [a];exact Bool.false_ne_true
  rw [if_neg a']
  exact congrArg some e
theorem ND.look {h:Heap}{x dx C:Addr}{mA:Str→Option Value}(I:ND h x dx C mA):∃od,PySem.W.InstAt h x (PySem.W.instObj C dx) C (some od)∧∀name,PySem.W.lookIn name od=some (mA name):=
 let ⟨od,ho,hl⟩:=NF I.ns
 ⟨od,⟨I.obj,rfl,rfl,ho⟩,hl⟩
section
variable {prog:Program}{w:World}{A:Around}{E:Value→Shared→Prop}{s:Shared}{K:PySem.W.Frag}{x dx C f:Addr}{mA:Str→Option Value}{name:Str}{v:Value}
theorem get_map {expr:Bool}{Q:Value→Shared→Prop}(X:K.In s.heap)(I:ND s.heap x dx C mA)(hg:PySem.W.plainGet K C name=true)(hh:PySem.W.hasDictIn K C=true)
  (ha:PySem.W.findIn K (.ref C) name=some none)(hv:mA name=some v)(hv':PySem.W.handedIn v=true)(h:Q v {s with toks:=s.toks + 1}):
  wpAny (model prog w) A (getAttr (.ref x) name expr) Q E s:=by
 obtain ⟨od,J,hl⟩:=I.look
 exact PySem.W.get_value X J (PySem.W.plainGet_of hg).1 (PySem.W.findObj_own hh ha rfl (by rw [hl,hv])) hv' h
theorem SU {ns:List Str}{Q:Unit→Shared→Prop}(X:K.In s.heap)(I:ND s.heap x dx C mA)
  (hs:PySem.W.findIn K (.ref C) "__setattr__"=some (some (.builtin "object.__setattr__")))(hp:PySem.W.plainOver K C=true)(ht:PySem.W.takerIn K C name=some none)(hh:PySem.W.hasDictIn K C=true)
  (hw:PySem.Within mA ns)(hsz:ns.length≤sizeLine)
  (h:∀h',ND h' x dx C (fun y=>if y=name then some v else mA y)→Heap.SameBut dx s.heap h'→Q () {s with heap:=h',toks:=s.toks + 2}):
  wpAny (model prog w) A (setAttr (.ref x) name v) Q E s:=by
 obtain ⟨od,J,hl⟩:=I.look
 refine PySem.W.set_plain X J hs (PySem.W.osa_open (s:={s with toks:=s.toks + 1}) (r:=none) X J hp ht fun b=> ?_)
 obtain ⟨cd,hc,ZP⟩:=PySem.W.any_some hh
 have hx:s.heap.get? x=some ⟨.ref C,some dx,.plain,#[]⟩:=I.obj
 refine wpAny_bind (wpAny_pure (wpAny_bind (wpAny_bind (wpAny_loadPart hx (wpAny_bind (PySem.W.Looks.here (s:={s with toks:=s.toks + 1}) (PySem.W.looks_clsIn X hc) ?_))))))
 rw [ZP]
 refine wpAny_pure (a:=some dx) (wpAny_bind (wpAny_pure (wpAny_bind ?_)))
 refine wpAny_nsSet1 (s:={s with toks:=s.toks + 1}) I.ns fun h' hn2 hs2=> ?_
 obtain ⟨oD,esD,epD,hoD,hdD,hcD⟩:=hn2.count (PySem.Within.cons name v hw)
 refine wpAny_bind (wpAny_lookBehind hoD (by rw [hdD];exact pastItsLine_dict (Nat.le_trans hcD (by rw [List.length_cons];omega))) ?_)
 exact wpAny_pure (h _ ⟨(hs2.2 _ (Ne.symm I.ne)).trans I.obj,hn2,I.ne⟩ hs2)
theorem PB {R:Result→Shared→Prop}{vs:List Value}{kw:List (Str×Value)}(X:K.In s.heap)(hm:PySem.W.makesIn K C=true)
  (hi:PySem.W.findIn K (.ref C) "__init__"=some (some (.ref f)))(hf:PySem.W.typeIn K (.ref f)=some (.type "function"))
  (h:codeAny (model prog w) (A.under (.builtin "type.__call__" ⟨.ref C::vs,kw⟩)) (.call (.ref f) ⟨.ref (s.heap.objs.size + 1)::vs,kw⟩) (PySem.W.InitBack (s.heap.objs.size + 1) R)
   {s with heap:=(s.heap.push PySem.W.emptyDict).push (PySem.W.instObj C s.heap.objs.size)}):
  codeAny (model prog w) A (.call (.ref C) ⟨vs,kw⟩) R s:=by
 obtain ⟨hh,g,d,t,os⟩:=s
 exact PySem.W.make_core (PySem.W.makes_of X hm) (PySem.W.looks_findIn X hi) (fun self=>PySem.W.bind_fn X self hf) (.inl rfl) h
end
def rk (f:Str)(v:V):List (Str×V)→List (Str×V)
 | [] => [(f,v)]
 |(g,x)::r=>if g=f then (g,v)::r else (g,x)::rk f v r
theorem zX (f g:Str)(v:V):∀fs:List (Str×V),(rk f v fs).lookup g=if g=f then some v else fs.lookup g
 | [] =>by
  show List.lookup g [(f,v)] =_
  by_cases h:g=f
  ·have hb:(g==f)=true:=beq_iff_eq.mpr h
   simp only [List.lookup,hb,if_pos h]
  ·have hb:(g==f)=false:=beq_eq_false_iff_ne.mpr h
   simp only [List.lookup,hb,if_neg h]
 |(k,x)::r=>by
  have ih:=zX f g v r
  rw [show rk f v ((k,x)::r)=(if k=f then (k,v)::r else (k,x)::rk f v r) from rfl]
  by_cases hk:k=f
  ·rw [if_pos hk]
   by_cases h:g=k
   ·have hb:(g==k)=true:=beq_iff_eq.mpr h
    simp only [List.lookup,hb,if_pos (h.trans hk)]
   ·have hb:(g==k)=false:=beq_eq_false_iff_ne.mpr h
    simp only [List.lookup,hb,if_neg (fun e:g=f=>h (e.trans hk.symm))]
  ·rw [if_neg hk]
   by_cases h:g=k
   ·have hb:(g==k)=true:=beq_iff_eq.mpr h
    simp only [List.lookup,hb,if_neg (fun e:g=f=>hk (h.symm.trans e))]
   ·have hb:(g==k)=false:=beq_eq_false_iff_ne.mpr h
    simp only [List.lookup,hb]
    exact ih
theorem yS (f:Str)(v:V):∀fs:List (Str×V),f∈(rk f v fs).map (·.1)∧∀g,g∈fs.map (·.1)→g∈(rk f v fs).map (·.1)
 | [] =>⟨by simp [rk],fun g h=>by simp at h⟩
 |(k,x)::r=>by
  obtain ⟨i1,i2⟩:=yS f v r
  rw [show rk f v ((k,x)::r)=(if k=f then (k,v)::r else (k,x)::rk f v r) from rfl]
  by_cases hk:k=f
  ·rw [if_pos hk]
   subst hk
   exact ⟨by simp,fun g h=>by simpa using h⟩
  ·rw [if_neg hk]
   refine ⟨?_,fun g h=> ?_⟩
   ·rw [List.map_cons]
    exact List.mem_cons_of_mem _ i1
   ·rw [List.map_cons] at h ⊢
    rcases List.mem_cons.mp h with e|e
    ·exact List.mem_cons.mpr (.inl e)
    ·exact List.mem_cons_of_mem _ (i2 g e)
theorem zY (f:Str)(v:V):∀fs:List (Str×V),(rk f v fs).length≤fs.length + 1
 | [] =>by simp [rk]
 |(k,x)::r=>by
  have ih:=zY f v r
  rw [show rk f v ((k,x)::r)=(if k=f then (k,v)::r else (k,x)::rk f v r) from rfl]
  by_cases hk:k=f
  ·rw [if_pos hk,List.length_cons,List.length_cons];omega
  ·rw [if_neg hk,List.length_cons,List.length_cons];omega
theorem uY.some_of {v:V}{o:Option Value}(r:uY (some v) o):∃u,o=some u∧RelV v u:=by
 cases o with
 |none=>exact (show False from r).elim
 |some u=>exact ⟨u,rfl,r⟩
theorem NG {v:V}{u:Value}(r:RelV v u):PySem.W.handedIn u=true:=by
 cases v with
 |bY=>cases (show u=Value.none from r);rfl
 |bl b=>cases (show u=Value.bool b from r);rfl
 |int i=>obtain ⟨t,e⟩:=(show ∃t,u=Value.int i t from r);cases e;rfl
 |str x=>obtain ⟨t,e⟩:=(show ∃t,u=Value.str x t from r);cases e;rfl
 |IY b=>obtain ⟨t,e⟩:=(show ∃t,u=Value.bytes b t from r);cases e;rfl
 |ZL b=>obtain ⟨t,e⟩:=(show ∃t,u=Value.float b t from r);cases e;rfl
 |ref a=>cases (show u=Value.ref a from r);rfl
 |ty n=>cases (show u=Value.type n from r);rfl
section
variable {P:Program}{w:World}{H H':Hp}{h h':Heap}{a C dx:Addr}{fs Zf:List (Str×V)}
theorem Me (cw:rp P w H h)(e:H a=some (.ins C dx fs)):∃mA,ND h a dx C mA∧(∀f,uY (fs.lookup f) (mA f))∧PySem.Within mA (fs.map (·.1))∧fs.length≤1000∧H dx=some (.own a):=by
 obtain ⟨d,z,ne,ob,mA,n,r,q⟩:=(show d6 P w H h a (.ins C dx fs) from cw a _ e)
 exact ⟨mA,⟨ob,n,ne⟩,r,q,z,d⟩
end
structure PD (K:PySem.W.Frag) (C:Addr):Prop where
 pg:PySem.W.plainGet K C Str.empty=true
 hd:PySem.W.hasDictIn K C=true
 po:PySem.W.plainOver K C=true
 sa:PySem.W.findIn K (.ref C) "__setattr__"=some (some (.builtin "object.__setattr__"))
theorem PD.get {K:PySem.W.Frag}{C:Addr}(c:PD K C)(f:Str):PySem.W.plainGet K C f=true:=c.pg
def bP (K:PySem.W.Frag)(C:Addr)(f:Str):Prop:=PySem.W.findIn K (.ref C) f=some none
theorem bP.aaa {K:PySem.W.Frag}{C:Addr}{f:Str}(n:bP K C f):PySem.W.takerIn K C f=some none:=by
 unfold PySem.W.takerIn
 rw [show PySem.W.findIn K (.ref C) f=some none from n]
 rfl
section
variable {X:Cx}{pins:List (Addr×Obj)}{σ:St}{H:Hp}{s:Shared}{a C dx:Addr}{fs:List (Str×V)}{f:Str}{v:V}{A:Around}{E:Value→Shared→Prop}
theorem BG {b:Bool}{Q:Value→Shared→Prop}(I:Inv X pins σ H s)(e:H a=some (.ins C dx fs))(c:PD X.K C)(n:bP X.K C f)(l:fs.lookup f=some v)
  (h:∀u s',Inv X pins σ H s'→RelV v u→Q u s'):wpAny (model X.prog X.w) A (getAttr (.ref a) f b) Q E s:=by
 obtain ⟨mA,O,r,_,_,_⟩:=Me I.cw e
 obtain ⟨u,hu,ru⟩:=uY.some_of (v:=v) (o:=mA f) (by rw [←l];exact r f)
 exact get_map I.L5 O (c.get f) c.hd n hu (NG ru) (h u _ (I.tok _) ru)
theorem BH {y:V}{u:Value}{Q:Unit→Shared→Prop}(I:Inv X pins σ H s)(e:H a=some (.ins C dx fs))(c:PD X.K C)(n:bP X.K C f)(hl:fs.length < 1000)(ry:RelV y u)
  (h:∀s',Inv X pins σ (upd H a (.ins C dx (rk f y fs))) s'→Q () s'):wpAny (model X.prog X.w) A (setAttr (.ref a) f u) Q E s:=by
 obtain ⟨mA,O,r,wi,_,ho⟩:=Me I.cw e
 have hz:(fs.map (·.1)).length≤sizeLine:=by rw [List.length_map,sizeLine_eq];omega
 refine SU I.L5 O c.sa c.po n.aaa c.hd wi hz fun h' O' sb=>h _ ?_
 have hd:∃o,h'.get? dx=some o:=let ⟨o,_,_,e',_⟩:=O'.ns;⟨o,e'⟩
 refine I.write (x:=a) (e:=dx) (by rw [e];exact True.intro) (.inr ho) (fun b q hb z=>(sb.2 b hb).trans z) hd ?_
 refine ⟨by rw [az O.ne];exact ho,?_,O.ne,O'.obj,_,O'.ns,fun g=> ?_,fun g hg=> ?_⟩
 ·have:=zY f y fs;omega
 ·show uY ((rk f y fs).lookup g) (if g=f then some u else mA g)
  rw [zX]
  by_cases q:g=f
  ·rw [if_pos q,if_pos q];exact ry
  ·rw [if_neg q,if_neg q];exact r g
 ·by_cases q:g=f
  ·rw [q];exact (yS f y fs).1
  ·refine (yS f y fs).2 g (wi g fun z=>hg ?_)
   show (if g=f then some u else mA g)=none
   rw [if_neg q];exact z
theorem Inv.made (I:Inv X pins σ H s):Inv X pins σ (upd (upd H s.heap.objs.size (.own (s.heap.objs.size + 1))) (s.heap.objs.size + 1) (.ins C s.heap.objs.size []))
  {s with heap:=(s.heap.push PySem.W.emptyDict).push (PySem.W.instObj C s.heap.objs.size)}:=by
 have e1:(s.heap.push PySem.W.emptyDict).get? s.heap.objs.size=some PySem.W.emptyDict:=Heap.get?_push_size s.heap rfl
 have e2:((s.heap.push PySem.W.emptyDict).push (PySem.W.instObj C s.heap.objs.size)).get? (s.heap.objs.size + 1)=some (PySem.W.instObj C s.heap.objs.size):=by
  have:=Heap.get?_push_size (s.heap.push PySem.W.emptyDict) (o:=PySem.W.instObj C s.heap.objs.size) rfl
  rwa [Heap.size_push] at this
 have e3:(s.heap.push PySem.W.emptyDict).Ns s.heap.objs.size (fun _=>none):=⟨PySem.W.emptyDict,#[],_,e1,rfl,(fun e he=>absurd he (by simp)),fun _=>rfl⟩
 have I1:=I.laid (a:=s.heap.objs.size) (o:= .own (s.heap.objs.size + 1)) (h':=s.heap.push PySem.W.emptyDict) (t':=s.toks) (fun b u q=>Heap.get?_push_of_some _ q) (Nat.le_refl _) ⟨_,e1⟩
 refine I1.laid (a:=s.heap.objs.size + 1) (o:= .ins C s.heap.objs.size []) (t':=s.toks) (fun b u q=>Heap.get?_push_of_some _ q) (Nat.le_of_eq (Heap.size_push _ _)) ?_
 have ne:s.heap.objs.size≠s.heap.objs.size + 1:=Nat.ne_of_lt (Nat.lt_succ_self _)
 refine ⟨by rw [az ne,ab],Nat.zero_le _,ne,e2,fun _=>none,(Heap.Ns1.of_empty e3).at fun o q=>Heap.get?_push_of_some _ q,fun _=>True.intro,fun y hy=>absurd rfl hy⟩
theorem SV {prog:Program}{w:World}{env:Env}{e:Expr}{f:Str}{pos:Pos}{s:Shared}{Q:Value→Shared→Prop}(hb:attributeBase e f env (eval e env)=eval e env)
  (h:wpAny (model prog w) A (eval e env) (fun o s₁=>wpAny (model prog w) A (getAttr o f true) Q E s₁) E s):wpAny (model prog w) A (eval (.Attribute e f pos) env) Q E s:=
 Attribute_any_ h (by rw [arm_eval_Attribute,hb])
end
def aab (K:PySem.W.Frag)(ta:TE)(f:Str):TE:=fun σ H Q=>ta σ H fun x H1=>∃a C dx fs v,x= .ref a∧H1 a=some (.ins C dx fs)∧PD K C∧bP K C f∧fs.lookup f=some v∧Q v H1
def ah6 (K:PySem.W.Frag)(ta tv:TE)(f:Str):TS:=fun D σ H=>tv σ H fun y H1=>ta σ H1 fun x H2=>∃a C dx fs,x= .ref a∧H2 a=some (.ins C dx fs)∧PD K C∧bP K C f∧fs.length < 1000∧
 D.nx σ (upd H2 a (.ins C dx (rk f y fs)))
def aac (X:Cx)(op:Operator)(rd:V→V→Hp→VK→Prop):Prop:=
 ∀ (pins:List (Addr×Obj))(s:Shared)(σ:St)(H:Hp)(x y:V)(u v:Value)(Q:VK),Inv X pins σ H s→RelV x u→RelV y v→rd x y H Q→wpAny (model X.prog X.w) X.A (inplaceOp op u v) (EP X pins σ Q) X.xe s
def SW (K:PySem.W.Frag)(ta tv:TE)(rd:V→V→Hp→VK→Prop)(f:Str):TS:=fun D σ H=>ta σ H fun x H1=>∃a C dx fs v,x= .ref a∧H1 a=some (.ins C dx fs)∧PD K C∧bP K C f∧fs.lookup f=some v∧
 tv σ H1 fun y H2=>rd v y H2 fun z H3=>∃dx' Zf,H3 a=some (.ins C dx' Zf)∧Zf.length < 1000∧D.nx σ (upd H3 a (.ins C dx' (rk f z Zf)))
section
variable {X:Cx}{o e value:Expr}{f:Str}{pos pos' BI:Pos}{ta tv:TE}
theorem ai (he:PE X e ta)(hb:attributeBase e f X.env (eval e X.env)=eval e X.env):PE X (.Attribute e f pos) (aab X.K ta f):=by
 intro pins s σ H Q I h
 refine SV hb (dq (he pins s σ H _ I h) fun u s1 ⟨x,H1,I1,rx,a,C,dx,fs,v,ex,ea,c,n,l,q⟩=> ?_)
 subst ex
 obtain rfl:u=Value.ref a:=rx
 exact BG I1 ea c n l fun u' s2 I2 ru=>⟨v,H1,I2,ru,q⟩
theorem aQ (ha:PE X o ta)(hv:PE X value tv)(hs:swapsWith value (some (.Attribute o f pos')) pos.line X.env=pure false):PS X (.Assign [.Attribute o f pos'] value pos) (ah6 X.K ta tv f):=by
 intro pins s σ H D I h
 refine plainObj_wpAny_Assign_Attribute (dq (hv pins s σ H _ I h) fun u s1 ⟨y,H1,I1,ry,q⟩=>dq (ha pins s1 σ H1 _ I1 q) fun ov s2 ⟨x,H2,I2,rx,a,C,dx,fs,ex,ea,c,n,l,q2⟩=> ?_) hs
 subst ex
 obtain rfl:ov=Value.ref a:=rx
 exact BH I2 ea c n l ry fun s3 I3=>⟨σ,_,I3,q2⟩
theorem NH {op:Operator}{rd:V→V→Hp→VK→Prop}(ha:PE X o ta)(hv:PE X value tv)(hop:aac X op rd):PS X (.AugAssign (.Attribute o f BI) op value pos) (SW X.K ta tv rd f):=by
 intro pins s σ H D I h
 refine wpAny_AugAssign_AttributeAny (dq (ha pins s σ H _ I h) fun ov s1 ⟨x,H1,I1,rx,a,C,dx,fs,v,ex,ea,c,n,l,q⟩=> ?_)
 subst ex
 obtain rfl:ov=Value.ref a:=rx
 refine BG I1 ea c n l fun u s2 I2 ru=>dq (hv pins s2 σ H1 _ I2 q) fun w3 s3 ⟨y,H2,I3,ry,q3⟩=>dq (hop pins s3 σ H2 v y u w3 _ I3 ru ry q3) fun w4 s4 ⟨z,H3,I4,rz,dx',Zf,ea',l',q4⟩=> ?_
 exact BH I4 ea' c n l' rz fun s5 I5=>⟨σ,_,I5,q4⟩
def ah8:V→V→Hp→VK→Prop:=fun x y H Q=>∃i j,x= .int i∧y= .int j∧Q (.int (i + j)) H
theorem VU:aac X .Add ah8:=by
 rintro pins s σ H x y u v Q I rx ry ⟨i,j,rfl,rfl,q⟩
 obtain ⟨t,rfl⟩:=(show ∃t,u=Value.int i t from rx)
 obtain ⟨t',rfl⟩:=(show ∃t',v=Value.int j t' from ry)
 exact PyProof.Rows.iadd_int ⟨.int (i + j),H,I.tok _,⟨_,rfl⟩,q⟩
end
section
variable {X:Cx}{pins:List (Addr×Obj)}{σ:St}{H:Hp}{s:Shared}{A:Around}{E:Value→Shared→Prop}{Q:Value→Shared→Prop}{c:Value}{b:Bool}
end
end L2
namespace L2
open PySem PySem.Spec PyProof.Rows
structure gO (k:Nat) (A:Around):Prop where
 hd:A.handled=none
 dp:A.depth + 3 * k + 5 < recursionLimit
 un:A.units + 16 * k + 200 < cLine
theorem gO.mono {j k:Nat}{A:Around}(r:gO k A)(h:j≤k):gO j A:=⟨r.hd,by have:=r.dp;omega,by have:=r.un;omega⟩
theorem gO.deeper {k:Nat}{A:Around}(r:gO (k + 1) A)(env:Env):gO k (A.deeper env):=
 ⟨r.hd,by have:=r.dp;show A.depth + 1 + 3 * k + 5 < _;omega,by have:=r.un;show A.units + 3 + 16 * k + 200 < _;omega⟩
theorem Kz {A:Around}{C:Addr}{us:List Value}{kw:List (Str×Value)}:(A.under (.builtin "type.__call__" ⟨.ref C::us,kw⟩)).depth=A.depth + 1:=by
 first|rfl|simp [Around.under,Code.weight,Code.isCreation,Code.isGuard,Code.isCaller,Code.frames,Code.isFrame,guardIds]
theorem KA {A:Around}{C:Addr}{us:List Value}{kw:List (Str×Value)}:(A.under (.builtin "type.__call__" ⟨.ref C::us,kw⟩)).units=A.units + 1:=by
 first|rfl|simp [Around.under,Code.cUnits,Code.frames,Code.isFrame]
theorem gO.make {k:Nat}{A:Around}(r:gO (k + 1) A)(C:Addr)(us:List Value)(kw:List (Str×Value)):gO k (A.under (.builtin "type.__call__" ⟨.ref C::us,kw⟩)):=
 ⟨r.hd,by have:=r.dp;rw [Kz];omega,by have:=r.un;rw [KA];omega⟩
theorem gO.depth {k:Nat}{A:Around}(r:gO k A):A.depth < recursionLimit:=by have:=r.dp;omega
theorem gO.units {k:Nat}{A:Around}(r:gO k A):A.units + 64 < cLine:=by have:=r.un;omega
def SX:TA:=fun _ H Q=>Q [] H
def Mf (ta:TE)(tr:TA):TA:=fun σ H Q=>ta σ H fun x H1=>tr σ H1 fun xs H2=>Q (x::xs) H2
section
variable {X:Cx}{e:Expr}{es:List Expr}{te:TE}{t:TA}{pos:Pos}
theorem af:PA X [] SX:=fun _ _ _ _ H Q I h=>Calls.spliced_nil ⟨[],H,I,.nil,h⟩
theorem aa (ha:PE X e te)(hr:PA X es t)(hs:starEach (e::es) X.env=(false,eval e X.env)::starEach es X.env:=by rfl):PA X (e::es) (Mf te t):=by
 intro pos pins s σ H Q I h
 rw [hs]
 show wpAny _ _ (spliced ((false,eval e X.env)::backTo pos (starEach es X.env))) _ _ s
 refine Calls.spliced_cons (dq (ha pins s σ H _ I h) fun u s1 ⟨x,H1,I1,r1,q1⟩=> ?_)
 exact dq (hr pos pins s1 σ H1 _ I1 q1) fun us s2 ⟨xs,H2,I2,r2,q2⟩=>⟨x::xs,H2,I2,.cons r1 r2,q2⟩
def ah9 (t:TA):TE:=fun σ H Q=>t σ H fun xs H1=>xs.length≤sizeLine∧∀p,H1 p=none→Q (.ref p) (upd H1 p (.tup xs))
def aia (t:TA):TE:=fun σ H Q=>t σ H fun xs H1=>xs.length≤sizeLine∧∀p,H1 p=none→Q (.ref p) (upd H1 p (.lst xs))
theorem b0 {x1}(h:PA X es t):PE X (.Tuple es x1 pos) (ah9 t):=by
 intro pins s σ H Q I hq
 refine wpAny_Tuple_spliced (dq (h pos pins s σ H _ I hq) fun us s1 ⟨xs,H1,I1,r,z,q⟩=>⟨by rw [←r.length];exact z,?_⟩)
 have hf:H1 s1.heap.objs.size=none:=I1.cw.fresh (Nat.le_refl _)
 refine ⟨.ref s1.heap.objs.size,upd H1 s1.heap.objs.size (.tup xs),I1.laid (t':=s1.toks) (fun b u e=>Heap.get?_push_of_some _ e) (Nat.le_refl _) ?_,rfl,q _ hf⟩
 exact ⟨z,us,r,⟨_,Heap.get?_push_size _ rfl,rfl,_,rfl⟩⟩
theorem bb (h:PA X es t):PE X (.List es pos) (aia t):=by
 intro pins s σ H Q I hq
 refine wpAny_List_spliced (dq (h pos pins s σ H _ I hq) fun us s1 ⟨xs,H1,I1,r,z,q⟩=>⟨by rw [←r.length];exact z,?_⟩)
 have hf:H1 s1.heap.objs.size=none:=I1.cw.fresh (Nat.le_refl _)
 refine ⟨.ref s1.heap.objs.size,upd H1 s1.heap.objs.size (.lst xs),I1.laid (t':=s1.toks) (fun b u e=>Heap.get?_push_of_some _ e) (Nat.le_refl _) ?_,rfl,q _ hf⟩
 exact ⟨z,us,0,r,Heap.get?_push_size _ rfl⟩
end
abbrev Sp:=List V→Hp→VK→XK→Prop
abbrev KC:=List Env→Hp→Shared→XK→Value→Shared→Prop
structure KD (P:Program) (w:World) (K:PySem.W.Frag) (mg:Str→Option Value) (base:Heap) (A:Around) (outer:List Env) (s:Shared) (H:Hp):Prop where
 frames:A.frames=some outer
 mod:Mod K mg base
 bs:∀b o,base.get? b=some o→s.heap.get? b=some o∧H b=none
 SO:base.objs.size≤s.heap.objs.size
 AK:s.heap.FunFrames base outer
 VI:∀b∈Pl outer,H b=none
 cw:rp P w H s.heap
 bare:AllBare s.gens
def CE (outer:List Env)(P:Program)(w:World)(H:Hp)(s:Shared)(Q:VK)(u:Value)(s':Shared):Prop:=
 ∃v H',s'.os=s.os∧AllBare s'.gens∧Un (Pl outer) [] H H' s.heap s'.heap∧rp P w H' s'.heap∧RelV v u∧Q v H'
def CR (CX:KC)(outer:List Env)(P:Program)(w:World)(H:Hp)(s:Shared)(Q:VK)(E:XK)(r:Result)(s':Shared):Prop:=
 match r with
 | .ok (.ret u)=>CE outer P w H s Q u s'
 | .ok _=>False
 | .error e=>CX outer H s E e s'
structure bH (P:Program) (w:World) (K:PySem.W.Frag) (mg:Str→Option Value) (base:Heap) (CX:KC) (k:Nat) (f:Addr) (fd:FuncData) (ps:List Str) (sp:Sp):Prop where
 len:∀vs H Q E,sp vs H Q E→vs.length=ps.length
 run:∀ (A:Around)(outer:List Env)(s:Shared)(H:Hp)(args:Args)(us:List Value)(vs:List V)(Q:VK)(E:XK),gO k A→KD P w K mg base A outer s H→BindsTo s fd args (ps.zip us)→Vals vs us→sp vs H Q E→
  codeAny (model P w) A (.call (.ref f) args) (CR CX outer P w H s Q E) s
theorem bH.mono {P:Program}{w:World}{K:PySem.W.Frag}{mg:Str→Option Value}{base:Heap}{CX:KC}{j k:Nat}{f:Addr}{fd:FuncData}{ps:List Str}{sp:Sp}(F:bH P w K mg base CX j f fd ps sp)(h:j≤k):
  bH P w K mg base CX k f fd ps sp:=⟨F.len,fun A outer s H args us vs Q E hr=>F.run A outer s H args us vs Q E (hr.mono h)⟩
theorem KD.make {P:Program}{w:World}{K:PySem.W.Frag}{mg:Str→Option Value}{base:Heap}{A:Around}{outer:List Env}{s:Shared}{H:Hp}(e:KD P w K mg base A outer s H)(C:Addr)(us:List Value)(kw:List (Str×Value)):
  KD P w K mg base (A.under (.builtin "type.__call__" ⟨.ref C::us,kw⟩)) outer s H:=⟨by first|exact e.frames|(simpa [Around.under,Code.envs,Code.isFrame,pushEnvs] using e.frames),e.mod,e.bs,e.SO,e.AK,e.VI,e.cw,e.bare⟩
section
variable {X:Cx}{pins:List (Addr×Obj)}{σ:St}{H:Hp}{s s':Shared}
theorem Inv.aad (I:Inv X pins σ H s):KD X.prog X.w X.K X.mg X.base X.A X.stack s H:=
 ⟨I.ok.frames,I.ok.mod,I.bs,Nat.le_trans I.ok.SO I.sz,I.stack,I.L6,I.cw,I.bare⟩
theorem Inv.after {Q:VK}{u:Value}(I:Inv X pins σ H s)(h:CE X.stack X.prog X.w H s Q u s'):EP X pins σ Q u s':=by
 obtain ⟨v,H',os,bare,un,cw,r,q⟩:=h
 obtain ⟨hh,g,d,t,os'⟩:=s'
 obtain rfl:os'=s.os:=os
 exact ⟨v,H',I.call (h':=hh) (g':=g) (d':=d) (t':=t) (ch:= []) un cw bare (fun b z=>absurd z (by simp)),r,q⟩
end
def aae (sp:Sp)(KG:List V)(E:XK)(t:TA):TE:=fun σ H Q=>t σ H fun vs H1=>sp (vs ++ KG) H1 Q E
def aaf (C:Addr)(sp:Sp)(KG:List V)(E:XK)(t:TA):TE:=fun σ H Q=>t σ H fun vs H1=>∀x dx,H1 x=none→H1 dx=none→dx≠x→
 sp (.ref x::(vs ++ KG)) (upd (upd H1 dx (.own x)) x (.ins C dx [])) (fun v H2=>v= .bY∧Q (.ref x) H2) E
def Binds (K:PySem.W.Frag)(fd:FuncData)(ps:List Str)(ds:List Value):Prop:=
 ∀ (s:Shared)(us:List Value),K.In s.heap→(us ++ ds).length=ps.length→BindsTo s fd ⟨us,[]⟩ (ps.zip (us ++ ds))
theorem Binds.all {K:PySem.W.Frag}{fd:FuncData}{ps:List Str}(h:∀us:List Value,us.length=ps.length→bindArgs fd ⟨us,[]⟩=pure (ps.zip us)):Binds K fd ps [] :=fun s us _ hl=>by
 rw [List.append_nil] at hl ⊢
 exact .of_eq (h us hl)
def Passes (CX:KC)(X:Cx)(E:XK):Prop:=∀ (pins:List (Addr×Obj))(σ:St)(H:Hp)(s:Shared)(e:Value)(s':Shared),Inv X pins σ H s→CX X.stack H s E e s'→X.xe e s'
section
variable {X:Cx}{CX:KC}{k:Nat}{f C:Addr}{fd:FuncData}{ps:List Str}{sp:Sp}{KG:List V}{ds:List Value}{E:XK}{x m:Str}{p pos apos:Pos}{e o:Expr}{es:List Expr}{ta:TE}{t:TA}
theorem PF {pins:List (Addr×Obj)}{σ:St}{H:Hp}{s:Shared}{Q:VK}{us:List Value}{vs:List V}(F:bH X.prog X.w X.K X.mg X.base CX k f fd ps sp)(hr:gO k X.A)(hb:Binds X.K fd ps ds)(hd:Vals KG ds)(hx:Passes CX X E)
  (I:Inv X pins σ H s)(r:Vals vs us)(h:sp (vs ++ KG) H Q E):wpAny (model X.prog X.w) X.A (call (.ref f) us) (EP X pins σ Q) X.xe s:=by
 have r2:Vals (vs ++ KG) (us ++ ds):=r.append hd
 have hl:(us ++ ds).length=ps.length:=by rw [←r2.length];exact F.len _ _ _ _ h
 refine wpAny_call (codeAny_mono (F.run X.A X.stack s H ⟨us,[]⟩ (us ++ ds) (vs ++ KG) Q E hr I.aad (hb s us I.L5 hl) r2 h) fun r s' hq=> ?_)
 cases r with
 |error e=>exact hx pins σ H s e s' I hq
 |ok fl=>
  cases fl with
  |ret u=>exact I.after hq
  |next=>exact False.elim hq
  |brk=>exact False.elim hq
  |cont=>exact False.elim hq
theorem aB (F:bH X.prog X.w X.K X.mg X.base CX k f fd ps sp)(hr:gO k X.A)(hg:Gl X x)(hm:X.mg x=some (.ref f))(hk:PySem.W.keepIn X.K (.ref f)=true)(hb:Binds X.K fd ps ds)(hd:Vals KG ds)(hx:Passes CX X E)
  (ha:PA X (e::es) t)(VV:(x==("__debug__":Str))=false:=by decide)(he:starEach (e::es) X.env=(false,eval e X.env)::starEach es X.env:=by rfl)(eD:(backTo pos (starEach es X.env)).any (·.1)=false:=by rfl):
  PE X (.Call (.Name x p) (e::es) [] pos) (aae sp KG E t):=by
 intro pins s σ H Q I h
 refine wpAny_Call_Name_kw (FQ I hg hm ?_ VV)
 refine PySem.W.callWith_K (h₀:=X.base) I.ok.mod.ZN hk (dq (ha pos pins s σ H _ I h) fun us s1 ⟨vs,H1,I1,r,q⟩=>⟨I1.L5,?_⟩) he eD
 exact PF F hr hb hd hx I1 r q
structure Mk (K:PySem.W.Frag) (C f:Addr):Prop where
 makes:PySem.W.makesIn K C=true
 init:PySem.W.findIn K (.ref C) "__init__"=some (some (.ref f))
 fn:PySem.W.isFn K (.ref f)=true
 kp:PySem.W.keepIn K (.ref C)=true
theorem PH {pins:List (Addr×Obj)}{σ:St}{H:Hp}{s:Shared}{Q:VK}{us:List Value}{vs:List V}(M:Mk X.K C f)(F:bH X.prog X.w X.K X.mg X.base CX k f fd ps sp)(hr:gO (k + 1) X.A)(hb:Binds X.K fd ps ds)(hd:Vals KG ds)
  (hx:Passes CX X E)(I:Inv X pins σ H s)(r:Vals vs us)
  (h:∀x dx,H x=none→H dx=none→dx≠x→sp (.ref x::(vs ++ KG)) (upd (upd H dx (.own x)) x (.ins C dx [])) (fun v H2=>v= .bY∧Q (.ref x) H2) E):
  wpAny (model X.prog X.w) X.A (call (.ref C) us) (EP X pins σ Q) X.xe s:=by
 have hq:=h (s.heap.objs.size + 1) s.heap.objs.size (I.cw.fresh (Nat.le_succ _)) (I.cw.fresh (Nat.le_refl _)) (Nat.ne_of_lt (Nat.lt_succ_self _))
 have I2:=Inv.made (C:=C) I
 have r2:Vals (V.ref (s.heap.objs.size + 1)::(vs ++ KG)) (Value.ref (s.heap.objs.size + 1)::(us ++ ds)):= .cons rfl (r.append hd)
 have hl:(Value.ref (s.heap.objs.size + 1)::us ++ ds).length=ps.length:=by
  have e:=r2.length
  rw [F.len _ _ _ _ hq] at e
  exact e.symm
 refine wpAny_call (PB (f:=f) I.L5 M.makes M.init (beq_iff_eq.mp M.fn) (codeAny_mono (F.run _ X.stack _ _ ⟨Value.ref (s.heap.objs.size + 1)::us,[]⟩ (Value.ref (s.heap.objs.size + 1)::(us ++ ds)) _ _ E (hr.make C us [])
  (I2.aad.make C us []) (hb _ (Value.ref (s.heap.objs.size + 1)::us) I2.L5 hl) r2 hq) fun r s' UW=> ?_))
 cases r with
 |error e=>exact hx pins σ _ _ e s' I2 UW
 |ok fl=>
  cases fl with
  |ret u=>
   obtain ⟨v,H',I3,rv,ev,q3⟩:=I2.after UW
   subst ev
   exact ⟨rv,⟨V.ref (s.heap.objs.size + 1),H',I3,rfl,q3⟩⟩
  |next=>exact False.elim UW
  |brk=>exact False.elim UW
  |cont=>exact False.elim UW
theorem mx (M:Mk X.K C f)(F:bH X.prog X.w X.K X.mg X.base CX k f fd ps sp)(hr:gO (k + 1) X.A)(hg:Gl X x)(hm:X.mg x=some (.ref C))(hb:Binds X.K fd ps ds)(hd:Vals KG ds)(hx:Passes CX X E)
  (ha:PA X (e::es) t)(VV:(x==("__debug__":Str))=false:=by decide)(he:starEach (e::es) X.env=(false,eval e X.env)::starEach es X.env:=by rfl)(eD:(backTo pos (starEach es X.env)).any (·.1)=false:=by rfl):
  PE X (.Call (.Name x p) (e::es) [] pos) (aaf C sp KG E t):=by
 intro pins s σ H Q I h
 refine wpAny_Call_Name_kw (FQ I hg hm ?_ VV)
 refine PySem.W.callWith_K (h₀:=X.base) I.ok.mod.ZN M.kp (dq (ha pos pins s σ H _ I h) fun us s1 ⟨vs,H1,I1,r,q⟩=>⟨I1.L5,?_⟩) he eD
 exact PH M F hr hb hd hx I1 r q
end
def PK (X:Cx)(kws:List Keyword)(t:TA):Prop:=
 ∀ (pos:Pos)(pins:List (Addr×Obj))(s:Shared)(σ:St)(H:Hp)(Q:List V→Hp→Prop),Inv X pins σ H s→t σ H Q→wpAny (model X.prog X.w) X.A (evalAll ((backToKw pos (keywordEach kws X.env)).map (·.2))) (AP X pins σ Q) X.xe s
section
variable {X:Cx}{CX:KC}{k:Nat}{f C:Addr}{fd:FuncData}{ps ks:List Str}{sp:Sp}{E:XK}{x m:Str}{p pos apos kpos:Pos}{e o:Expr}{es:List Expr}{kws:List Keyword}{te ta:TE}{t tk:TA}{nm:Option Str}
theorem VX:PK X [] SX:=fun _ _ _ _ H Q I h=>wpAny_evalAll_nil ⟨[],H,I,.nil,h⟩
theorem SY (ha:PE X e te)(hr:PK X kws t):PK X (⟨nm,e,kpos⟩::kws) (Mf te t):=by
 intro pos pins s σ H Q I h
 show wpAny _ _ (evalAll ((do let v←eval e X.env;standAt pos;pure v)::(backToKw pos (keywordEach kws X.env)).map (·.2))) _ _ s
 refine wpAny_evalAll_cons (wpAny_bind (dq (ha pins s σ H _ I h) fun u s1 ⟨x,H1,I1,r1,q1⟩=>wpAny_bind (wpAny_standAt (wpAny_pure ?_))))
 exact dq (hr pos pins s1 σ H1 _ I1 q1) fun us s2 ⟨xs,H2,I2,r2,q2⟩=>⟨x::xs,H2,I2,.cons r1 r2,q2⟩
variable {g:List Value→List Value→List Value}{gV:List V→List V→List V}
end
structure aC (N P:List Str) (sc:Scope):Prop where
 kind:sc.kind= .function
 co:sc.isCoroutine=false
 gen:sc.isGenerator=false
 nd:N.Nodup
 pre:N.take P.length=P
 par:∀x∈P,sc.names.lookup x=some .local∨sc.names.lookup x=some .cell
 VY:∀y∈sc.names,y.2≠ .free
theorem EG {kindOf:Str→Option NameKind}{x:Str}:∀ {binds:List (Str×Value)}{m:Str→Option Value},(∀v,(x,v) ∉ binds)→bindL kindOf binds m x=m x
 | [],_,_=>rfl
 |(n,v)::r,m,h=>by
  unfold bindL
  rw [EG fun w hw=>h w (List.mem_cons_of_mem _ hw)]
  split
  ·have:x≠n:=by rintro rfl;exact h v List.mem_cons_self
   simp [this]
  ·rfl
theorem EH {kindOf:Str→Option NameKind}{x:Str}:∀ {binds:List (Str×Value)}{m:Str→Option Value},(∀v,(x,v) ∉ binds)→bindC kindOf binds m x=m x
 | [],_,_=>rfl
 |(n,v)::r,m,h=>by
  unfold bindC
  rw [EH fun w hw=>h w (List.mem_cons_of_mem _ hw)]
  split
  ·rfl
  ·have:x≠n:=by rintro rfl;exact h v List.mem_cons_self
   simp [this]
theorem EI {kindOf:Str→Option NameKind}{x:Str}{v:Value}:∀ {P:List Str}{vs:List Value}{i:Nat}{m:Str→Option Value},P.Nodup→P[i]?=some x→vs[i]?=some v→kindOf x=some .local→
  bindL kindOf (P.zip vs) m x=some v
 | [],_,_,_,_,h,_,_=>by simp at h
 |_::_,[],_,_,_,_,h,_=>by simp at h
 |p::P,w::vs,0,m,nd,h1,h2,hk=>by
  simp at h1 h2;subst h1;subst h2
  show bindL kindOf ((p,w)::P.zip vs) m p=_
  unfold bindL
  rw [EG fun v hv=>(List.nodup_cons.mp nd).1 (List.of_mem_zip hv).1,if_pos hk]
  simp
 |p::P,w::vs,i + 1,m,nd,h1,h2,hk=>by
  show bindL kindOf ((p,w)::P.zip vs) m x=_
  unfold bindL
  exact EI (i:=i) (List.nodup_cons.mp nd).2 (by simpa using h1) (by simpa using h2) hk
theorem EJ {kindOf:Str→Option NameKind}{x:Str}{v:Value}:∀ {P:List Str}{vs:List Value}{i:Nat}{m:Str→Option Value},P.Nodup→P[i]?=some x→vs[i]?=some v→kindOf x≠some .local→
  bindC kindOf (P.zip vs) m x=some v
 | [],_,_,_,_,h,_,_=>by simp at h
 |_::_,[],_,_,_,_,h,_=>by simp at h
 |p::P,w::vs,0,m,nd,h1,h2,hk=>by
  simp at h1 h2;subst h1;subst h2
  show bindC kindOf ((p,w)::P.zip vs) m p=_
  unfold bindC
  rw [EH fun v hv=>(List.nodup_cons.mp nd).1 (List.of_mem_zip hv).1,if_neg hk]
  simp
 |p::P,w::vs,i + 1,m,nd,h1,h2,hk=>by
  show bindC kindOf ((p,w)::P.zip vs) m x=_
  unfold bindC
  exact EJ (i:=i) (List.nodup_cons.mp nd).2 (by simpa using h1) (by simpa using h2) hk
def start (N:List Str)(vs:List V):St:=vs.map some ++ List.replicate (N.length - vs.length) none
def NI (CX:KC)(P:Program)(w:World)(K:PySem.W.Frag)(mg:Str→Option Value)(base:Heap)(N:List Str)(qual:Str)(scope:Scope)(f:Addr)(cd:Value)(A:Around)(outer:List Env)(s:Shared)(H:Hp)(E:XK):Cx where
 prog:=P
 w:=w
 K:=K
 mg:=mg
 base:=base
 A:=A.deeper (envOfC qual scope s.heap.objs.size f cd)
 N:=N
 EA:=s
 VH:=H
 env:=envOfC qual scope s.heap.objs.size f cd
 outer:=outer
 stack:=envOfC qual scope s.heap.objs.size f cd::outer
 ex:= []
 calm:=true
 fn:=fun _=>true
 pn:= []
 xe:=fun e s'=>wpAny (model P w) (A.deeper (envOfC qual scope s.heap.objs.size f cd)) (leaving (envOfC qual scope s.heap.objs.size f cd) e) (fun _ s''=>CX outer H s E e s'') (fun e' s''=>CX outer H s E e' s'') s'
theorem Jc {sc:Scope}{n:Nat}{x:Str}(h:sc.names.lookup x=some .cell):∃c,(cellsFrom n sc.names []).lookup x=some c:=by
 have q:=PySem.W.cellsFrom_some sc.names n [] (.inl h)
 exact Option.isSome_iff_exists.mp q
theorem NJ {CX:KC}{P:Program}{w:World}{K:PySem.W.Frag}{mg:Str→Option Value}{base:Heap}{N ps:List Str}{qual:Str}{scope:Scope}{f:Addr}{cd:Value}{A:Around}{outer:List Env}{s s1:Shared}{H:Hp}{E:XK}{us:List Value}{vs:List V}
  (S:aC N ps scope)(hd:A.handled=none)(e0:KD P w K mg base A outer s H)(hl:vs.length=ps.length)(r:Vals vs us)
  (x:InCallC s s.heap.objs.size (bindL (envOfC qual scope s.heap.objs.size f cd).kindOf (ps.zip us) fun _=>none) (cellsFrom (s.heap.objs.size + 1) scope.names []) (bindC (envOfC qual scope s.heap.objs.size f cd).kindOf (ps.zip us) fun _=>none) s1):
  Inv (NI CX P w K mg base N qual scope f cd A outer s H E) [] (start N vs) H s1:=by
 have eD:ps.length≤N.length:=by have:=congrArg List.length S.pre;rw [List.length_take] at this;omega
 obtain ⟨h1,tk,rfl,hk⟩:=x.done
 have Zj:∀b:Addr,b ∉ (NI CX P w K mg base N qual scope f cd A outer s H E).ex:=fun b z=>absurd (show b∈([] :List Addr) from z) (by simp)
 refine ⟨⟨e0.mod,S.kind,rfl,rfl,Nat.le_refl _,fun y z c h1 h2=> ?_,fun y hy=> ?_,fun y c _ h=> ?_,fun _=>hd,Around.frames_deeper e0.frames,.inr ⟨rfl,rfl⟩,fun b z=>absurd z (Zj b),e0.bs,e0.SO,fun b _ _=>Zj b,fun b z=>absurd z (Zj b),e0.AK,e0.VI⟩,
  rfl,e0.bare,Un.kept hk,⟨_,x.toInCall.ns,fun i y v h1 h2 h3=> ?_⟩,fun y c h=>⟨_,x.cell y c h⟩,e0.cw.fresh (Nat.le_refl _),fun y c h=> ?_,fun p hp=>absurd (show p∈([] :List (Addr×Obj)) from hp) (by simp),e0.cw.kept hk,?_⟩
 ·exact name_of_addr x.apart (PySem.mem_of_lookup h1) (PySem.mem_of_lookup h2)
 ·have hy:scope.names.lookup y=some .cell∨scope.names.lookup y=some .free:=hy
  rcases hy with hy|hy
  ·exact Jc hy
  ·exact absurd rfl (S.VY _ (PySem.mem_of_lookup hy))
 ·exact Nat.le_of_lt (x.above y c (PySem.mem_of_lookup h))
 ·have hi:i < vs.length:=by
   unfold start at h2
   by_cases hi:i < vs.length
   ·exact hi
   ·rw [List.getElem?_append_right (by simpa using hi)] at h2
    rw [List.getElem?_replicate] at h2
    split at h2 <;>cases h2
  have ha:vs[i]?=some v:=by
   unfold start at h2
   rw [List.getElem?_append_left (by simpa using hi),List.getElem?_map] at h2
   cases e:vs[i]? with
   |none=>rw [e] at h2;cases h2
   |some a=>rw [e] at h2;cases h2;rfl
  obtain ⟨u,hu,rv⟩:=r.get ha
  have hp:ps[i]?=some y:=by
   rw [←S.pre,List.getElem?_take_of_lt (by omega)];exact h1
  have ndP:ps.Nodup:=by rw [←S.pre];exact S.nd.sublist (List.take_sublist _ _)
  refine ⟨u,rv,?_⟩
  rcases S.par y (List.mem_of_getElem? hp) with k|k
  ·exact .inl ⟨k,EI ndP hp hu k⟩
  ·obtain ⟨c,e⟩:=Jc (n:=s.heap.objs.size + 1) k
   refine .inr ⟨.inl k,c,e,?_⟩
   have q:=x.cell y c e
   rw [EJ ndP hp hu (by show scope.names.lookup y≠_;rw [k];decide)] at q
   exact q
 ·exact e0.cw.fresh (Nat.le_of_lt (x.above y c (PySem.mem_of_lookup h)))
 ·unfold start
  show _=N.length
  rw [List.length_append,List.length_map,List.length_replicate]
  omega
theorem aah {CX:KC}{P:Program}{w:World}{K:PySem.W.Frag}{mg:Str→Option Value}{base:Heap}{k:Nat}{f:Addr}{name qual:Str}{params:Arguments}{body:List Stmt}{scope:Scope}{dV kV doc pm dZ ct oc:Value}{an od:Option Addr}
  {S8:Array (Option Value)}{N ps:List Str}{sp:Sp}(lk:K.lookup f=some ⟨oc,od,.func (PySem.W.fnOf name qual params body scope dV kV doc pm an dZ ct),S8⟩)(wD:PySem.W.codeIn K dZ qual=true)(S:aC N ps scope)
  (len:∀vs H Q E,sp vs H Q E→vs.length=ps.length)
  (PJ:∀ (A:Around)(outer:List Env)(s:Shared)(H:Hp)(vs:List V)(Q:VK)(E:XK),gO k (A.deeper (envOfC qual scope s.heap.objs.size f dZ))→sp vs H Q E→
   ∃t,Ny (NI CX P w K mg base N qual scope f dZ A outer s H E) body t∧t {nx:=fun _ H'=>Q .bY H',rt:=Q} (start N vs) H):
  bH P w K mg base CX (k + 1) f (PySem.W.fnOf name qual params body scope dV kV doc pm an dZ ct) ps sp:=by
 refine ⟨len,fun A outer s H args us vs Q E hr e0 hb r Pc=> ?_⟩
 have hl:=len _ _ _ _ Pc
 have KX:K.In s.heap:=e0.mod.ZN.keeps fun b o e=>(e0.bs b o e).1
 have lim:s.heap.NoLimit:=e0.mod.nolimit.keeps fun b o e=>(e0.bs b o e).1
 have aai:∀y∈ps.zip us,scope.names.lookup y.1=some .local∨(scope.names.lookup y.1=some .cell∧((cellsFrom (s.heap.objs.size + 1) scope.names []).lookup y.1).isSome=true):=fun ⟨n,v⟩ hy=>by
  rcases S.par n (List.of_mem_zip hy).1 with q|q
  ·exact .inl q
  ·exact .inr ⟨q,PySem.W.cellsFrom_some _ _ _ (.inl q)⟩
 refine codeAny_call_function hr.depth (KX _ _ lk) rfl S.co S.gen rfl (PySem.W.codeRec_of KX wD) (hb _ _ _ _ ?_)
 refine wpAny_newFunctionEnv_cells S.kind aai fun env he s1 x=> ?_
 subst he
 refine ⟨lim.keeps x.toInCall.keep,codeAny_func ?_⟩
 obtain ⟨t,ht,hq⟩:=PJ A outer s H vs Q E (hr.deeper _) Pc
 have I:Inv (NI CX P w K mg base N qual scope f dZ A outer s H E) [] (start N vs) H s1:=NJ S hr.hd e0 hl r x
 refine wpAny_mono (ht [] s1 (start N vs) H _ I hq) (fun fl s' hs=> ?_) fun e s' hs=>hs
 have fin:∀ {σ':St}{H':Hp}{v:V}{u:Value},Inv (NI CX P w K mg base N qual scope f dZ A outer s H E) [] σ' H' s'→RelV v u→Q v H'→CE outer P w H s Q u s':=
  fun {σ' H' v u} J rv q=>⟨v,H',J.os,J.bare,J.base,J.cw,rv,q⟩
 cases fl with
 |ret u=>
  obtain ⟨v,σ',H',J,rv,q⟩:=hs
  exact fin J rv q
 |next=>
  obtain ⟨σ',H',J,q⟩:=hs
  exact fin (v:=V.bY) (u:=Value.none) J rfl q
 |brk=>
  obtain ⟨_,_,_,q⟩:=hs
  exact False.elim q
 |cont=>
  obtain ⟨_,_,_,q⟩:=hs
  exact False.elim q
end L2
namespace L2
open PySem PySem.Spec PyProof.Rows
section
variable {X:Cx}{x:Str}{p pos:Pos}{e:Expr}{es:List Expr}{t:TA}{id T:String}{r:List V→Hp→VK→Prop}
def tCB (r:List V→Hp→VK→Prop)(t:TA):TE:=fun σ H Q=>t σ H fun vs H1=>r vs H1 Q
theorem bc (hc:mw X (.builtin id) r)(hg:Gl X x)(hm:X.mg x=none)(hv:bootBuiltins x=some (.builtin id))(ha:PA X (e::es) t)(hn:x≠"__name__":=by decide)(VV:(x==("__debug__":Str))=false:=by decide)
  (he:starEach (e::es) X.env=(false,eval e X.env)::starEach es X.env:=by rfl)(eD:(backTo pos (starEach es X.env)).any (·.1)=false:=by rfl):PE X (.Call (.Name x p) (e::es) [] pos) (tCB r t):=by
 intro pins s σ H Q I h
 refine wpAny_Call_Name_kw (yR I hg hm hv ?_ hn VV)
 exact PyProof.Rows.callWith_builtin1 (dq (ha pos pins s σ H _ I h) fun us s1 ⟨vs,H1,I1,r1,q1⟩=>hc pins s1 σ H1 vs us Q I1 r1 q1) he eD
theorem EK (hc:mw X (.type T) r)(hg:Gl X x)(hm:X.mg x=none)(hv:bootBuiltins x=some (.type T))(ha:PA X (e::es) t)(hn:x≠"__name__":=by decide)(VV:(x==("__debug__":Str))=false:=by decide)
  (he:starEach (e::es) X.env=(false,eval e X.env)::starEach es X.env:=by rfl)(eD:(backTo pos (starEach es X.env)).any (·.1)=false:=by rfl):PE X (.Call (.Name x p) (e::es) [] pos) (tCB r t):=by
 intro pins s σ H Q I h
 refine wpAny_Call_Name_kw (yR I hg hm hv ?_ hn VV)
 exact PyProof.Rows.callWith_type1 (dq (ha pos pins s σ H _ I h) fun us s1 ⟨vs,H1,I1,r1,q1⟩=>hc pins s1 σ H1 vs us Q I1 r1 q1) he eD
end
end L2
namespace HT
open PySem PyProof.Rows
section
open PySem.SeqAt
open PySem.AutoSeq1 (wpAny_loadPart')
open PySem.MeetsSeq PySem.MeetsSeq2 PySem.MeetsSeq3
end
section
variable {prog:Program}{w:World}{A:Around}{E:Value→Shared→Prop}{s:Shared}
theorem S9 {t b:Addr}{vs ws:List Value}{Q:Value→Shared→Prop}(ht:IsTup s.heap t vs.toArray)(hb:IsTup s.heap b ws.toArray)(hv:vs≠ [])
  (h1:ws= [] →Q (.ref t) s)(h2:ws≠ [] →Q (.ref s.heap.objs.size) {s with heap:=s.heap.push {cls:= .type "tuple",data:= .seq (vs ++ ws).toArray} })
  (hsz:vs.length + ws.length≤sizeLine):wpAny (model prog w) A (binaryOp .Add (.ref t) (.ref b)) Q E s:=by
 obtain ⟨⟨cls,dd,data,sl⟩,ho,hc,n,hd⟩:=id ht
 obtain ⟨⟨as4,dd2,data2,sl2⟩,ho2,hc2,n2,hd2⟩:=id hb
 simp only at hc hd hc2 hd2
 subst hc hd hc2 hd2
 have e:vs.toArray ++ ws.toArray=(vs ++ ws).toArray:=by simp
 by_cases hw:ws= []
 ·exact concat_meets ⟨_,ho,rfl⟩ ⟨_,ho2,rfl⟩ noFill_tuple_add seq_tuple_add PySem.F.slot_tuple_add PySem.F.entry_tuple_add (PySem.F.args_tuple_add_2 _ _)
   (tuple_addW1 t b vs.toArray ws.toArray n n2 dd dd2 sl sl2 (by simpa using hv) (by simp [hw])) ⟨ho,ho2,h1 hw⟩
 ·refine concat_meets ⟨_,ho,rfl⟩ ⟨_,ho2,rfl⟩ noFill_tuple_add seq_tuple_add PySem.F.slot_tuple_add PySem.F.entry_tuple_add (PySem.F.args_tuple_add_2 _ _)
   (tuple_addW2 t b vs.toArray ws.toArray n n2 dd dd2 sl sl2 (by simpa using hv) (by simpa using hw) (by rw [List.size_toArray,List.size_toArray];exact hsz)) ⟨ho,ho2,?_⟩
  rw [e]
  exact h2 hw
def iw (n d:Nat):Option Int→Nat
 |none=>d
 |some v=>if v < 0 then (v + (n:Int)).toNat else min v.toNat n
theorem PM (n d:Nat):iw n d none=d:=rfl
theorem AZ (n d k:Nat):iw n d (some (k:Int))=min k n:=by
 show (if (k:Int) < 0 then ((k:Int) + (n:Int)).toNat else min (k:Int).toNat n)=min k n
 rw [if_neg (by omega),Int.toNat_natCast]
theorem VZ (n d:Nat)(hd:d≤n)(o:Option Int):iw n d o≤n:=by
 cases o with
 |none=>exact hd
 |some v=>
  show (if v < 0 then (v + (n:Int)).toNat else min v.toNat n)≤n
  by_cases hv:v < 0
  ·rw [if_pos hv];omega
  ·rw [if_neg hv];exact Nat.min_le_right _ _
theorem Mg (v:Int)(n d:Nat):(if v < 0 then max (v + (n:Int)) 0 else min v (n:Int))=((iw n d (some v):Nat):Int):=by
 show (if v < 0 then max (v + (n:Int)) 0 else min v (n:Int))=(((if v < 0 then (v + (n:Int)).toNat else min v.toNat n):Nat):Int)
 by_cases hv:v < 0
 ·simp only [if_pos hv];omega
 ·simp only [if_neg hv];omega
theorem KH (lo hi:Option Int)(n:Nat):Builtin.Slice.sliceAdjust lo hi 1 (n:Int)=(((iw n 0 lo:Nat):Int),((iw n n hi:Nat):Int)):=by
 have h1:¬ ((1:Int) < 0):=by omega
 unfold Builtin.Slice.sliceAdjust
 simp only [h1,if_false]
 refine Prod.ext ?_ ?_
 ·cases lo with
  |none=>rfl
  |some v=>exact Mg v n 0
 ·cases hi with
  |none=>rfl
  |some v=>exact Mg v n n
theorem KI (i j:Nat):Builtin.Slice.slicePlaces (i:Int) (j:Int) 1=j - i:=by
 unfold Builtin.Slice.slicePlaces
 have h1:(1:Int) >0:=by omega
 simp only [h1,if_true,Int.ediv_one]
 split <;>omega
theorem BJ {v:Value}{o:Option Int}{Q:Option Int→Shared→Prop}(p:IsPart v o)(h:Q o s):wpAny (model prog w) A (Builtin.Slice.slicePartIndex v) Q E s:=by
 cases p with
 |none=>exact slicePart_none h
 |int i t=>exact slicePart_int h
theorem yT {sl:Addr}{vl vu:Value}{lo hi:Option Int}{n:Nat}{Q:Int×Int×Nat→Shared→Prop}(hs:s.heap.IsSliceOf sl vl vu .none)(pl:IsPart vl lo)(pu:IsPart vu hi)
  (h:Q (((iw n 0 lo:Nat):Int),1,iw n n hi - iw n 0 lo) s):wpAny (model prog w) A (Builtin.Slice.sliceApplied (.ref sl) (pure (n:Int))) Q E s:=by
 obtain ⟨os,hos,UX,Zk⟩:=id hs
 unfold Builtin.Slice.sliceApplied Builtin.Slice.sliceFields
 refine wpAny_bind (wpAny_bind (wpAny_field hos Zk (x:=vl) rfl (wpAny_bind (wpAny_field hos Zk (x:=vu) rfl (wpAny_bind (wpAny_field hos Zk (x:= .none) rfl (wpAny_pure ?_)))))))
 refine wpAny_bind (slicePart_none ?_)
 show wpAny _ _ (if ((1:Int)==0)=true then _ else _) _ _ s
 rw [if_neg (by decide)]
 refine wpAny_bind (BJ pl (wpAny_bind (BJ pu (wpAny_bind (wpAny_pure ?_)))))
 show wpAny _ _ (match Builtin.Slice.sliceAdjust lo hi 1 (n:Int) with|(lo,hi)=>pure (lo,(1:Int),Builtin.Slice.slicePlaces lo hi 1)) _ _ s
 rw [KH lo hi n]
 show wpAny _ _ (pure (((iw n 0 lo:Nat):Int),(1:Int),Builtin.Slice.slicePlaces ((iw n 0 lo:Nat):Int) ((iw n n hi:Nat):Int) 1)) _ _ s
 rw [KI]
 exact wpAny_pure h
theorem PN (xs:Array Value)(i k:Nat):((List.range k).filterMap fun (m:Nat)=>xs[((i:Int) + (m:Int) * 1).toNat]?).toArray=((xs.toList.drop i).take k).toArray:=by
 have e:(fun (m:Nat)=>xs[((i:Int) + (m:Int) * 1).toNat]?)=fun m=>xs[i + m]?:=by
  funext m
  have:((i:Int) + (m:Int) * 1).toNat=i + m:=by omega
  rw [this]
 rw [e]
 have:=pick_run xs i k
 rw [List.filterMap_map] at this
 have e2:((fun x=>xs[x]?) ∘ fun x=>i + x)=fun m=>xs[i + m]?:=rfl
 rw [e2] at this
 rw [this]
theorem wK {t sl:Addr}{items:Array Value}{vl vu:Value}{lo hi:Option Int}{Q:Value→Shared→Prop}(ht:IsTup s.heap t items)(hs:s.heap.IsSliceOf sl vl vu .none)(pl:IsPart vl lo)(pu:IsPart vu hi)
  (hw:¬ (iw items.size 0 lo=0∧iw items.size items.size hi=items.size))
  (h:Q (.ref s.heap.objs.size) {s with heap:=s.heap.push {cls:= .type "tuple",data:= .seq ((items.toList.drop (iw items.size 0 lo)).take (iw items.size items.size hi - iw items.size 0 lo)).toArray} })
  (hsz:items.size≤sizeLine):wpAny (model prog w) A (getItem (.ref t) (.ref sl)) Q E s:=by
 have Mh:sizeOk (.seq ((items.toList.drop (iw items.size 0 lo)).take (iw items.size items.size hi - iw items.size 0 lo)).toArray):=by
  show ((items.toList.drop (iw items.size 0 lo)).take (iw items.size items.size hi - iw items.size 0 lo)).toArray.size≤sizeLine
  rw [List.size_toArray,List.length_take,List.length_drop,Array.length_toList]
  omega
 have hj:iw items.size items.size hi≤items.size:=VZ _ _ (Nat.le_refl _) hi
 obtain ⟨os,hos,UX,Zk⟩:=id hs
 have hTs:s.TypeIs (.ref sl) "slice":=⟨os,hos,UX⟩
 unfold getItem
 try with_reducible refine wpAny_holding ?_
 first|refine wpAny_bind (wpAny_pure ?_)|skip
 refine wpAny_bind (wpAny_sequenceKey ht.typeIs (by decide) ?_)
 refine wpAny_bind (wpAny_callSpecial?_slot (name:=Str.ofString "__getitem__") ht.typeIs PyProof.Rows.slot_tuple_getitem
  (wpAny_call_entry PyProof.Rows.slot_tuple_getitem ht.typeIs entry_tuple_getitem ?_ (args_tuple_getitem _ _)))
 show wpAny _ _ (Builtin.Tuple.tupleItemsOf (.ref t) >>=_) _ _ s
 refine wpAny_bind (tupleItemsOf_ ht ?_)
 refine wpAny_bind (wpAny_typeOf hTs ?_)
 rw [if_pos (by decide)]
 refine wpAny_bind (yT hs pl pu ?_)
 have UY:¬ ((((iw items.size 0 lo:Nat):Int)==0 && (1:Int)==1 && (iw items.size items.size hi - iw items.size 0 lo)==items.size)=true):=by
  intro q
  rw [Bool.and_eq_true,Bool.and_eq_true] at q
  have q1:((iw items.size 0 lo:Nat):Int)=0:=eq_of_beq q.1.1
  have q2:iw items.size items.size hi - iw items.size 0 lo=items.size:=eq_of_beq q.2
  exact hw ⟨by omega,by omega⟩
 show wpAny _ _ (if (((iw items.size 0 lo:Nat):Int)==0 && (1:Int)==1 && (iw items.size items.size hi - iw items.size 0 lo)==items.size)=true then _ else _) _ _ s
 rw [if_neg UY,PN]
 first
  |exact wpAny_bind (m:=Builtin.Tuple.tupleExact _) (wpAny_newObj_type (wpAny_pure ⟨_,rfl,wpAny_pure h⟩) Mh)
  |exact wpAny_bind (m:=Builtin.Tuple.tupleExact _) (wpAny_newObj_type (wpAny_bind (wpAny_pure (wpAny_pure ⟨_,rfl,wpAny_pure h⟩))) Mh)
  |exact wpAny_bind (wpAny_bind (m:=Builtin.Tuple.tupleExact _) (wpAny_newObj_type (wpAny_pure (wpAny_pure ⟨_,rfl,wpAny_pure h⟩)) Mh))
  |exact wpAny_bind (wpAny_bind (m:=Builtin.Tuple.tupleExact _) (wpAny_newObj_type (wpAny_pure ⟨_,rfl,wpAny_pure h⟩) Mh))
end
end HT
namespace L2
open PySem PySem.Spec PyProof.Rows
abbrev TO:=St→Hp→(Option Int→Hp→Prop)→Prop
def PO (X:Cx)(e:Option Expr)(t:TO):Prop:=
 ∀ (pins:List (Addr×Obj))(s:Shared)(σ:St)(H:Hp)(Q:Option Int→Hp→Prop),Inv X pins σ H s→t σ H Q→
  wpAny (model X.prog X.w) X.A (evalPart e X.env) (fun u s'=>∃o H',Inv X pins σ H' s'∧IsPart u o∧Q o H') X.xe s
def Ta:TO:=fun _ H Q=>Q none H
def aal (t:TE):TO:=fun σ H Q=>t σ H fun x H1=>∃i,x= .int i∧Q (some i) H1
section
variable {X:Cx}{e:Expr}{te:TE}{lo hi:Option Expr}{tl th:TO}{pos p2:Pos}
theorem FU:PO X none Ta:=by
 intro pins s σ H Q I h
 rw [evalPart_none]
 exact wpAny_pure ⟨none,H,I,.none,h⟩
theorem wL (h:PE X e te):PO X (some e) (aal te):=by
 intro pins s σ H Q I hw
 rw [evalPart_some]
 refine dq (h pins s σ H _ I hw) fun u s1 ⟨x,H1,I1,r1,q1⟩=> ?_
 obtain ⟨i,rfl,q⟩:=q1
 obtain ⟨t,rfl⟩:=r1
 exact ⟨some i,H1,I1,.int i t,q⟩
def SlR (X:Cx)(r:V→Option Int→Option Int→Hp→VK→Prop):Prop:=
 ∀ (pins:List (Addr×Obj))(s:Shared)(σ:St)(H:Hp)(x:V)(v vl vu:Value)(lo hi:Option Int)(sl:Addr)(Q:VK),Inv X pins σ H s→RelV x v→s.heap.IsSliceOf sl vl vu .none→IsPart vl lo→IsPart vu hi→r x lo hi H Q→
  ∃T id,typeLookup (.type T) "__getitem__"=pure (some (.builtin id))∧s.TypeIs v T∧wpAny (model X.prog X.w) X.A (getItem v (.ref sl)) (EP X pins σ Q) X.xe s
def tSl (r:V→Option Int→Option Int→Hp→VK→Prop)(te:TE)(tl th:TO):TE:=fun σ H Q=>te σ H fun x H1=>tl σ H1 fun l H2=>th σ H2 fun u H3=>r x l u H3 Q
theorem wM {r:V→Option Int→Option Int→Hp→VK→Prop}(hr:SlR X r)(he:PE X e te)(hl:PO X lo tl)(hu:PO X hi th):PE X (.Subscript e (.Slice lo hi none p2) pos) (tSl r te tl th):=by
 intro pins s σ H Q I h
 refine Subscript_ (dq (he pins s σ H _ I h) fun v s1 ⟨x,H1,I1,r1,q1⟩=> ?_)
 refine wpAny_Slice (dq (hl pins s1 σ H1 _ I1 q1) fun vl s2 ⟨l,H2,I2,pl,q2⟩=>dq (hu pins s2 σ H2 _ I2 q2) fun vu s3 ⟨u,H3,I3,pu,q3⟩=> ?_)
 rw [evalPart_none]
 refine wpAny_pure ?_
 have I4:Inv X pins σ H3 {s3 with heap:=s3.heap.push {cls:= .type "slice",data:= .fields #[vl,vu,.none] } }:=I3.kept (t':=s3.toks) fun b ob q=>Heap.get?_push_of_some _ q
 obtain ⟨T,id,hT,ht,hg⟩:=hr pins {s3 with heap:=s3.heap.push {cls:= .type "slice",data:= .fields #[vl,vu,.none] } } σ H3 x v vl vu l u s3.heap.objs.size Q I4 r1 (Heap.IsSliceOf.new ..) pl pu q3
 show wpAny (model X.prog X.w) X.A (subscriptTail e (.Slice lo hi none p2) v (.ref s3.heap.objs.size)) (EP X pins σ Q) X.xe {s3 with heap:=s3.heap.push {cls:= .type "slice",data:= .fields #[vl,vu,.none] } }
 exact tail_any (ops:= [.ref s3.heap.objs.size,v]) ht hT hg (by with_unfolding_all rfl)
def vS (xs:List V)(lo hi:Option Int):List V:=(xs.drop (HT.iw xs.length 0 lo)).take (HT.iw xs.length xs.length hi - HT.iw xs.length 0 lo)
theorem zZ (xs:List V)(lo hi:Option Int):(vS xs lo hi).length≤xs.length:=by
 unfold vS
 rw [List.length_take,List.length_drop]
 omega
def aid (K:PySem.W.Frag):V→Option Int→Option Int→Hp→VK→Prop:=fun x lo hi H Q=>∃a xs,x= .ref a∧bO K H a xs∧
 ¬ (HT.iw xs.length 0 lo=0∧HT.iw xs.length xs.length hi=xs.length)∧∀p,H p=none→Q (.ref p) (upd H p (.tup (vS xs lo hi)))
theorem V0:SlR X (aid X.K):=by
 intro pins s σ H x v vl vu lo hi sl Q I rx hs pl pu h
 obtain ⟨a,xs,rfl,hx,hw,q⟩:=h
 cases rx
 obtain ⟨bf,r,ht,hz⟩:=I.tuple hx
 have hlen:bf.toArray.size=xs.length:=by rw [List.size_toArray];exact r.length.symm
 refine ⟨"tuple",_,PyProof.Rows.slot_tuple_getitem.lookup,ht.typeIs,?_⟩
 refine HT.wK ht hs pl pu (by rw [hlen];exact hw) ?_ (by rw [hlen];exact hz)
 rw [hlen]
 refine ⟨.ref s.heap.objs.size,_,I.laid (t':=s.toks) (o:= .tup (vS xs lo hi)) (fun b ob q=>Heap.get?_push_of_some _ q) (Nat.le_refl _) ?_,rfl,q _ (I.cw.fresh (Nat.le_refl _))⟩
 exact ⟨Nat.le_trans (zZ xs lo hi) hz,_,(r.drop (HT.iw xs.length 0 lo)).take (HT.iw xs.length xs.length hi - HT.iw xs.length 0 lo),IsTup.new _ _⟩
def aam (K:PySem.W.Frag):R2:=fun x y H Q=>∃a b xs ys,x= .ref a∧y= .ref b∧bO K H a xs∧bO K H b ys∧xs≠ [] ∧xs.length + ys.length≤sizeLine∧
 (ys= [] →Q (.ref a) H)∧(ys≠ [] →∀p,H p=none→Q (.ref p) (upd H p (.tup (xs ++ ys))))
theorem Vals.FV {xs:List V}{us:List Value}(r:Vals xs us):us= [] ↔ xs= [] :=by
 cases r with
 |nil=>simp
 |cons _ _=>simp
theorem Mi:AM X (binaryOp .Add) (aam X.K):=by
 intro pins s σ H x y v u Q I rx ry h
 obtain ⟨a,b,xs,ys,rfl,rfl,ha,hb,hx,hz,q1,q2⟩:=h
 cases rx
 cases ry
 obtain ⟨bf,r1,p1,_⟩:=I.tuple ha
 obtain ⟨AN,r2,p2,_⟩:=I.tuple hb
 refine HT.S9 p1 p2 (fun z=>hx (r1.FV.mp z)) (fun z=>⟨.ref a,H,I,rfl,q1 (r2.FV.mp z)⟩) (fun z=> ?_) (by rw [←r1.length,←r2.length];exact hz)
 refine ⟨.ref s.heap.objs.size,_,I.laid (t':=s.toks) (o:= .tup (xs ++ ys)) (fun b ob q=>Heap.get?_push_of_some _ q) (Nat.le_refl _) ?_,rfl,q2 (fun w=>z (r2.FV.mpr w)) _ (I.cw.fresh (Nat.le_refl _))⟩
 exact ⟨by rw [List.length_append];exact hz,_,r1.append r2,IsTup.new _ _⟩
end
end L2
namespace L2
open PySem PySem.Spec PyProof.Rows
def Pd (n:Nat)(i:Int):Option Nat:=if 0≤i then (if i < n then some i.toNat else none) else if -(n:Int)≤i then some (i + n).toNat else none
def Jd {α:Type}(xs:List α)(i:Int):Option α:=(Pd xs.length i).bind fun j=>xs[j]?
theorem FW {n:Nat}{i:Int}{j:Nat}(h:Pd n i=some j):seqIndex? i n=some j∧j < n∧ -(n:Int)≤i∧i < n:=by
 unfold Pd at h
 by_cases h0:0≤i
 ·rw [if_pos h0] at h
  by_cases h1:i < n
  ·rw [if_pos h1] at h
   have e:i.toNat=j:=Option.some.inj h
   exact ⟨by rw [seqIndex_of h0 h1,e],by omega,by omega,h1⟩
  ·rw [if_neg h1] at h;cases h
 ·rw [if_neg h0] at h
  by_cases h1: -(n:Int)≤i
  ·rw [if_pos h1] at h
   have e:(i + n).toNat=j:=Option.some.inj h
   exact ⟨by rw [seqIndex_neg (by omega) h1,e],by omega,h1,by omega⟩
  ·rw [if_neg h1] at h;cases h
theorem Mj {α:Type}{xs:List α}{i:Int}{v:α}(h:Jd xs i=some v):∃j,seqIndex? i xs.length=some j∧xs[j]?=some v∧j < xs.length∧ -(xs.length:Int)≤i∧i < xs.length:=by
 unfold Jd at h
 cases e:Pd xs.length i with
 |none=>rw [e] at h;cases h
 |some j=>
  rw [e] at h
  obtain ⟨h1,h2,h3,h4⟩:=FW e
  exact ⟨j,h1,h,h2,h3,h4⟩
theorem iQ {α:Type}{xs:List α}{j:Nat}{v:α}(h:xs[j]?=some v):Jd xs (j:Int)=some v:=by
 have hj:j < xs.length:=(List.getElem?_eq_some_iff.mp h).1
 have e:Pd xs.length (j:Int)=some j:=by
  unfold Pd
  rw [if_pos (by omega),if_pos (by omega)];simp
 unfold Jd;rw [e];exact h
def Tb (b:Expr):Prop:=∀o i,subscripted b false o i=operate [o,i] (getItem o i)
def IxR (X:Cx)(r:R2):Prop:=
 ∀ (value slice:Expr)(pins:List (Addr×Obj))(s:Shared)(σ:St)(H:Hp)(x y:V)(v u:Value)(Q:VK),Inv X pins σ H s→RelV x v→RelV y u→r x y H Q→
  subscripted slice false v u=operate [v,u] (getItem v u)→wpAny (model X.prog X.w) X.A (subscriptTail value slice v u) (EP X pins σ Q) X.xe s
def MtR (X:Cx)(id:String)(r:V→List V→Hp→VK→Prop):Prop:=
 ∀ (pins:List (Addr×Obj))(s:Shared)(σ:St)(H:Hp)(x:V)(xs:List V)(v:Value)(us:List Value)(Q:VK),Inv X pins σ H s→RelV x v→Vals xs us→r x xs H Q→
  wpAny (model X.prog X.w) X.A (call (.builtin id) (v::us)) (EP X pins σ Q) X.xe s
section
variable {X:Cx}{a b:Expr}{ta tb:TE}{pos:Pos}
theorem aG {r:R2}(hr:IxR X r)(ha:PE X a ta)(hb:PE X b tb)(hs:Tb b):PE X (.Subscript a b pos) (tOp r ta tb):=by
 intro pins s σ H Q I h
 exact Subscript_ (VQ ha hb I h fun v u s2 x y H2 I2 rx ry q=>hr a b pins s2 σ H2 x y v u Q I2 rx ry q (hs _ _))
def aao (K:PySem.W.Frag):R2:=fun x y H Q=>∃p xs i v,x= .ref p∧y= .int i∧cK K H p xs∧Jd xs i=some v∧Q v H
def aap (K:PySem.W.Frag):R2:=fun x y H Q=>∃p xs i v,x= .ref p∧y= .int i∧bO K H p xs∧Jd xs i=some v∧Q v H
theorem aN:IxR X (aao X.K):=by
 intro value slice pins s σ H x y v u Q I rx ry h hs
 obtain ⟨p,xs,i,z,rfl,rfl,hq,he,q⟩:=h
 cases rx
 obtain ⟨t,rfl⟩:=ry
 obtain ⟨bf,r,pl,hz⟩:=I.list hq
 obtain ⟨j,h1,h2,h3,h4,h5⟩:=Mj he
 obtain ⟨w,ew,FX⟩:=r.get h2
 have hl:=r.length
 have hn:=BF
 have fin:EP X pins σ Q w s:=⟨z,H,I,FX,q⟩
 by_cases h0:0≤i
 ·have hj:i.toNat=j:=by
   rw [seqIndex_of h0 h5] at h1
   exact Option.some.inj h1
  exact item_listR pl.isList h0 (by omega) (by rw [hj];simpa using ew) fin hs
 ·have hj:(i + (bf.toArray.size:Int)).toNat=j:=by
   rw [seqIndex_neg (by omega) h4] at h1
   rw [List.size_toArray,←hl]
   exact Option.some.inj h1
  exact subscriptTail_builtinR (x:=w) pl.isList.typeIs slot_list_getitem.lookup
   (wpAny_getItem_list_neg (Q:=fun r s'=>r=w∧EP X pins σ Q r s') pl.isList (by omega) (by rw [List.size_toArray] <;>omega) (by omega) (by rw [hj];simpa using ew) ⟨rfl,fin⟩) hs
theorem bq:IxR X (aap X.K):=by
 intro value slice pins s σ H x y v u Q I rx ry h hs
 obtain ⟨p,xs,i,z,rfl,rfl,hq,he,q⟩:=h
 cases rx
 obtain ⟨t,rfl⟩:=ry
 obtain ⟨bf,r,pl,hz⟩:=I.tuple hq
 obtain ⟨j,h1,h2,h3,h4,h5⟩:=Mj he
 obtain ⟨w,ew,FX⟩:=r.get h2
 have hl:=r.length
 have hn:=BF
 have fin:EP X pins σ Q w s:=⟨z,H,I,FX,q⟩
 exact subscriptTail_builtinR (x:=w) pl.typeIs slot_tuple_getitem.lookup
  (getItem_tuple (j:=j) (Q:=fun r s'=>r=w∧EP X pins σ Q r s') pl (by omega) (by omega) (by rw [List.size_toArray,←hl];exact h1) (by simpa using ew) ⟨rfl,fin⟩) hs
theorem KJ (bf:List Value)(n j:Nat)(u:Value):Obj.mapSeq (·.setIfInBounds j u) {cls:= .type "list",data:= .seq bf.toArray n}={cls:= .type "list",data:= .seq (bf.set j u).toArray n}:=by
 simp [Obj.mapSeq]
theorem Inv.lst {pins:List (Addr×Obj)}{σ:St}{H:Hp}{s:Shared}{p:Addr}{xs:List V}(I:Inv X pins σ H s)(h:H p=some (.lst xs)):
  ∃ (bf:List Value)(n:Nat),Vals xs bf∧s.heap.get? p=some {cls:= .type "list",data:= .seq bf.toArray n}∧xs.length≤sizeLine:=by
 obtain ⟨z,bf,n,r,e⟩:=I.cw p _ h
 exact ⟨bf,n,r,e,z⟩
theorem Inv.V1 {pins:List (Addr×Obj)}{σ:St}{H:Hp}{s:Shared}{p:Addr}{xs ys:List V}{bf its':List Value}{n n':Nat}{f:Obj→Obj}(I:Inv X pins σ H s)(h:H p=some (.lst xs))
  (ho:s.heap.get? p=some {cls:= .type "list",data:= .seq bf.toArray n})(hf:f {cls:= .type "list",data:= .seq bf.toArray n}={cls:= .type "list",data:= .seq its'.toArray n'})(r:Vals ys its')(hz:ys.length≤sizeLine)(t:Nat):
  Inv X pins σ (upd H p (.lst ys)) {s with heap:=s.heap.update p f,toks:=t}:=by
 have e:(s.heap.update p f).get? p=some {cls:= .type "list",data:= .seq its'.toArray n'}:=by
  rw [Heap.get?_update_self f ho (by rw [hf] <;>rfl),hf]
 refine I.write (x:=p) (e:=p) (by rw [h];trivial) (.inl rfl) (fun b u hb q=>(Heap.get?_update_other _ _ (Ne.symm hb)).trans q) ⟨_,e⟩ ?_
 exact ⟨hz,its',n',r,e⟩
def aaq:V→V→V→Hp→(Hp→Prop)→Prop:=fun o i v H Q=>∃p xs k j,o= .ref p∧i= .int k∧H p=some (.lst xs)∧Pd xs.length k=some j∧Q (upd H p (.lst (xs.set j v)))
theorem set_list:ZZ X aaq:=by
 intro pins s σ H o i v ov iv u Q I ro ri rv h
 obtain ⟨p,xs,k,j,rfl,rfl,hp,hj,q⟩:=h
 cases ro
 obtain ⟨t,rfl⟩:=ri
 obtain ⟨bf,n,r,ho,hz⟩:=I.lst hp
 obtain ⟨h1,h2,h3,h4⟩:=FW hj
 have hl:=r.length
 have hn:=BF
 have I':Inv X pins σ (upd H p (.lst (xs.set j v))) {s with heap:=s.heap.update p (Obj.mapSeq (·.setIfInBounds j u))}:=
  I.V1 hp ho (KJ bf n j u) (r.set rv j) (by rw [List.length_set];exact hz) s.toks
 by_cases h0:0≤k
 ·have hk:k.toNat=j:=by
   rw [seqIndex_of h0 h4] at h1
   exact Option.some.inj h1
  exact PySem.W.ki_setAt ho h0 (by omega) (by rw [List.size_toArray,←hl];exact h4) (by rw [hk];exact ⟨_,I',q⟩)
 ·have hk:(k + (bf.toArray.size:Int)).toNat=j:=by
   rw [seqIndex_neg (by omega) h3] at h1
   rw [List.size_toArray,←hl]
   exact Option.some.inj h1
  exact PySem.W.ki_setBack ho (by omega) (by rw [List.size_toArray,←hl];exact h3) (by omega) (by rw [hk];exact ⟨_,I',q⟩)
theorem FY (lo hi:Option Int)(n:Nat):(sliceBounds lo hi none n).1=((HT.iw n 0 lo:Nat):Int)∧(sliceBounds lo hi none n).2.1=((HT.iw n n hi:Nat):Int)∧(sliceBounds lo hi none n).2.2=1:=by
 refine ⟨?_,?_,rfl⟩
 ·cases lo with
  |none=>simp [sliceBounds,HT.iw]
  |some i=>
   simp only [sliceBounds,HT.iw,Option.getD_none,show (1:Int) >0 by decide,if_true]
   by_cases h:i < 0
   ·simp only [h,if_true] <;>omega
   ·simp only [h,if_false] <;>omega
 ·cases hi with
  |none=>simp [sliceBounds,HT.iw]
  |some i=>
   simp only [sliceBounds,HT.iw,Option.getD_none,show (1:Int) >0 by decide,if_true]
   by_cases h:i < 0
   ·simp only [h,if_true] <;>omega
   ·simp only [h,if_false] <;>omega
theorem D0 (bf:List Value)(lo hi:Option Int):slicePick bf.toArray lo hi none=((bf.drop (HT.iw bf.length 0 lo)).take (HT.iw bf.length bf.length hi - HT.iw bf.length 0 lo)).toArray:=by
 obtain ⟨h1,h2,h3⟩:=FY lo hi bf.toArray.size
 unfold slicePick
 rw [h1,h2,h3]
 simp only [sliceRange_one,pick_run,List.size_toArray] <;>rfl
def aie (K:PySem.W.Frag):V→Option Int→Option Int→Hp→VK→Prop:=fun x lo hi H Q=>∃a xs,x= .ref a∧cK K H a xs∧∀p,H p=none→Q (.ref p) (upd H p (.lst (vS xs lo hi)))
theorem FZ:SlR X (aie X.K):=by
 intro pins s σ H x v vl vu lo hi sl Q I rx hs pl pu h
 obtain ⟨a,xs,rfl,hx,q⟩:=h
 cases rx
 obtain ⟨bf,r,ht,hz⟩:=I.list hx
 have hlen:=r.length
 refine ⟨"list",_,slot_list_getitem.lookup,ht.isList.typeIs,?_⟩
 refine wpAny_getItem_list_slice ht.isList hs pl pu .none (by simp) ?_ (by rw [List.size_toArray] <;>omega)
 rw [D0,←hlen]
 refine ⟨.ref s.heap.objs.size,_,I.laid (t':=s.toks) (o:= .lst (vS xs lo hi)) (fun b ob q=>Heap.get?_push_of_some _ q) (Nat.le_refl _) ?_,rfl,q _ (I.cw.fresh (Nat.le_refl _))⟩
 exact ⟨Nat.le_trans (zZ xs lo hi) hz,_,0,(r.drop (HT.iw xs.length 0 lo)).take (HT.iw xs.length xs.length hi - HT.iw xs.length 0 lo),Heap.get?_push_size _ rfl⟩
def qX:V→Bool
 | .bY=>true
 | .bl _=>true
 | .int _=>true
 | .str _=>true
 |_=>false
def Su:V→V→Bool
 | .bY,.bY=>true
 | .bl a,.bl b=>a==b
 | .bl a,.int b=>(if a then 1 else 0)==b
 | .int a,.bl b=>a==(if b then 1 else 0)
 | .int a,.int b=>a==b
 | .str a,.str b=>a==b
 |_,_=>false
theorem V2 {A:Around}{s:Shared}{y x:V}{u v:Value}(ry:RelV y u)(rx:RelV x v)(fy:qX y=true)(fx:qX x=true):SeqAt.EqAt A s u v (Su y x):=by
 cases y with
 |bY=>
  cases ry
  cases x with
  |bY=>cases rx;exact SeqAt.EqAt.same _
  |bl b=>cases rx;exact SeqAt.EqAt.none_bool b
  |int b=>obtain ⟨t,rfl⟩:=rx;exact SeqAt.EqAt.none_int b t
  |str b=>obtain ⟨t,rfl⟩:=rx;exact SeqAt.EqAt.none_str b t
  |_=>exact absurd (show false=true from fx) Bool.false_ne_true
 |bl a=>
  cases ry
  cases x with
  |bY=>cases rx;exact SeqAt.EqAt.bool_none a
  |bl b=>cases rx;exact SeqAt.EqAt.bool_bool a b
  |int b=>obtain ⟨t,rfl⟩:=rx;exact SeqAt.EqAt.bool_int a b t
  |str b=>obtain ⟨t,rfl⟩:=rx;exact SeqAt.EqAt.bool_str a b t
  |_=>exact absurd (show false=true from fx) Bool.false_ne_true
 |int a=>
  obtain ⟨t',rfl⟩:=ry
  cases x with
  |bY=>cases rx;exact SeqAt.EqAt.int_none a t'
  |bl b=>cases rx;exact SeqAt.EqAt.int_bool a t' b
  |int b=>obtain ⟨t,rfl⟩:=rx;exact SeqAt.EqAt.int_int a t' b t
  |str b=>obtain ⟨t,rfl⟩:=rx;exact SeqAt.EqAt.int_str a t' b t
  |_=>exact absurd (show false=true from fx) Bool.false_ne_true
 |str a=>
  obtain ⟨t',rfl⟩:=ry
  cases x with
  |bY=>cases rx;exact SeqAt.EqAt.str_none a t'
  |bl b=>cases rx;exact SeqAt.EqAt.str_bool a t' b
  |int b=>obtain ⟨t,rfl⟩:=rx;exact SeqAt.EqAt.str_int a t' b t
  |str b=>obtain ⟨t,rfl⟩:=rx;exact SeqAt.EqAt.str_str a t' b t
  |_=>exact absurd (show false=true from fx) Bool.false_ne_true
 |_=>exact absurd (show false=true from fy) Bool.false_ne_true
def Sv (x:V)(u:Value):Bool:=match u with
 | .none=>Su .bY x
 | .bool b=>Su (.bl b) x
 | .int i _=>Su (.int i) x
 | .str z _=>Su (.str z) x
 |_=>false
theorem F0 {x y:V}{u:Value}(r:RelV y u)(f:qX y=true):Sv x u=Su y x:=by
 cases y with
 |bY=>cases r;rfl
 |bl b=>cases r;rfl
 |int i=>obtain ⟨t,rfl⟩:=r;rfl
 |str z=>obtain ⟨t,rfl⟩:=r;rfl
 |_=>exact absurd (show false=true from f) Bool.false_ne_true
theorem F8 {x:V}:∀ {xs:List V}{us:List Value},Vals xs us→xs.all qX=true→us.any (Sv x)=xs.any fun y=>Su y x
 |_,_,.nil,_=>rfl
 |y::xs,u::us,.cons r t,f=>by
  rw [List.all_cons,Bool.and_eq_true] at f
  rw [List.any_cons,List.any_cons,F0 r f.1,F8 t f.2]
theorem wN {A:Around}{s:Shared}{x:V}{v:Value}(rx:RelV x v)(fx:qX x=true):∀ {xs:List V}{us:List Value},Vals xs us→xs.all qX=true→∀u∈us,SeqAt.EqAt A s u v (Sv x u)
 |_,_,.nil,_=>fun u hu=>by cases hu
 |y::xs,u::us,.cons r t,f=>fun u' hu=>by
  rw [List.all_cons,Bool.and_eq_true] at f
  rcases List.mem_cons.mp hu with rfl|hu
  ·rw [F0 r f.1];exact V2 r rx f.1 fx
  ·exact wN rx fx t f.2 u' hu
def Tc (x:V)(xs:List V):Bool:=xs.any fun y=>Su y x
def rIn (K:PySem.W.Frag)(neg:Bool):R2:=fun x y H Q=>∃p xs,y= .ref p∧(cK K H p xs∨bO K H p xs)∧qX x=true∧xs.all qX=true∧Q (.bl (if neg then !Tc x xs else Tc x xs)) H
theorem EL:AM X (compareOp .In) (rIn X.K false):=by
 intro pins s σ H x y v u Q I rx ry h
 obtain ⟨p,xs,rfl,hq,fx,fs,q⟩:=h
 cases ry
 rcases hq with hq|hq
 ·obtain ⟨bf,r,pl,hz⟩:=I.list hq
  refine SeqAt.in_listAt (Sv x) pl.isList (fun w hw=>wN rx fx r fs w (by simpa using hw)) ⟨.bl _,H,I,rfl,?_⟩
  rw [show bf.toArray.any (Sv x)=bf.any (Sv x) by simp,F8 r fs]
  exact q
 ·obtain ⟨bf,r,pl,hz⟩:=I.tuple hq
  refine SeqAt.in_tupleAt (Sv x) pl (fun w hw=>wN rx fx r fs w (by simpa using hw)) ⟨.bl _,H,I,rfl,?_⟩
  rw [show bf.toArray.any (Sv x)=bf.any (Sv x) by simp,F8 r fs]
  exact q
theorem aW:mw X (.builtin "len") (fun xs H Q=>∃p ys,xs= [.ref p] ∧(cK X.K H p ys∨bO X.K H p ys)∧Q (.int ys.length) H):=by
 intro pins s σ H xs us Q I r h
 obtain ⟨p,ys,rfl,hq,q⟩:=h
 obtain ⟨u,rfl,rx⟩:=vals1 r
 cases rx
 have hn:=BF
 rcases hq with hq|hq
 ·obtain ⟨bf,r',pl,hz⟩:=I.list hq
  have hlen:=r'.length
  exact Calls.call_len_list pl.isList (by simp only [List.size_toArray] <;>omega) ⟨.int ys.length,H,I.tok _,⟨s.toks + 1,by rw [List.size_toArray,hlen]⟩,q⟩
 ·obtain ⟨bf,r',pl,hz⟩:=I.tuple hq
  have hlen:=r'.length
  exact len_tuple pl (by simp only [List.size_toArray] <;>omega) ⟨.int ys.length,H,I.tok _,⟨s.toks + 1,by rw [List.size_toArray,hlen]⟩,q⟩
theorem F9:mw X (.type "list") (fun xs H Q=>∃p ys,xs= [.ref p] ∧(cK X.K H p ys∨bO X.K H p ys)∧∀l,H l=none→Q (.ref l) (upd H l (.lst ys))):=by
 intro pins s σ H xs us Q I r h
 obtain ⟨p,ys,rfl,hq,q⟩:=h
 obtain ⟨u,rfl,rx⟩:=vals1 r
 cases rx
 have fin:∀ (bf:List Value),Vals ys bf→ys.length≤sizeLine→∀ (h':Heap)(c':Nat),(∀b o',s.heap.get? b=some o'→h'.get? b=some o')→
   h'.get? s.heap.objs.size=some {cls:= .type "list",dict:=none,data:= .seq bf.toArray c',slots:= #[] }→EP X pins σ Q (.ref s.heap.objs.size) {s with heap:=h'}:=fun bf r' hz h' c' kp e=>
  ⟨.ref s.heap.objs.size,_,I.laid (t':=s.toks) kp (Nat.le_refl _) (show d6 X.prog X.w _ h' _ (.lst ys) from ⟨hz,bf,c',r',e⟩),rfl,q _ (I.cw.fresh (Nat.le_refl _))⟩
 rcases hq with hq|hq
 ·obtain ⟨bf,r',pl,hz⟩:=I.list hq
  have hlen:=r'.length
  obtain ⟨o,ho,hc,n,hd⟩:=pl.isList
  exact call_list_seq p (.inl rfl) ho hc hd (fun h' c' kp e=>fin bf r' hz h' c' kp e) (by simp only [List.size_toArray] <;>omega)
 ·obtain ⟨bf,r',pl,hz⟩:=I.tuple hq
  have hlen:=r'.length
  obtain ⟨o,ho,hc,n,hd⟩:=pl
  exact call_list_seq p (.inr rfl) ho hc hd (fun h' c' kp e=>fin bf r' hz h' c' kp e) (by simp only [List.size_toArray] <;>omega)
theorem D1:mw X (.type "tuple") (fun xs H Q=>∃p ys,xs= [.ref p] ∧((cK X.K H p ys∧∀l,H l=none→Q (.ref l) (upd H l (.tup ys)))∨(bO X.K H p ys∧Q (.ref p) H))):=by
 intro pins s σ H xs us Q I r h
 obtain ⟨p,ys,rfl,h⟩:=h
 obtain ⟨u,rfl,rx⟩:=vals1 r
 cases rx
 rcases h with ⟨hq,q⟩|⟨hq,q⟩
 ·obtain ⟨bf,r',pl,hz⟩:=I.list hq
  have hlen:=r'.length
  refine call_tuple_list pl.isList (fun h' kp=> ?_) (by simp only [List.size_toArray] <;>omega)
  have I1:Inv X pins σ H {s with heap:=h'}:=I.kept (t':=s.toks) kp
  have I2:Inv X pins σ (upd H h'.objs.size (.tup ys)) {s with heap:=h'.push {cls:= .type "tuple",data:= .seq bf.toArray} }:=
   I1.laid (t':=s.toks) (fun b o e=>Heap.get?_push_of_some _ e) (Nat.le_refl _) (show d6 X.prog X.w _ _ _ (.tup ys) from ⟨hz,bf,r',IsTup.new _ _⟩)
  exact ⟨.ref h'.objs.size,_,I2,rfl,q _ (I1.cw.fresh (Nat.le_refl _))⟩
 ·obtain ⟨bf,r',pl,hz⟩:=I.tuple hq
  exact call_tuple_same pl ⟨.ref p,H,I,rfl,q⟩
def tyV (K:PySem.W.Frag)(T:String)(x:V)(H:Hp):Prop:=match x with
 | .str _=>T="str"
 | .int _=>T="int"
 | .ref p=>(T="list"∧∃xs,cK K H p xs)∨(T="tuple"∧∃o,K.lookup p=some o∧o.cls= .type "tuple"∧o.dict=none)∨
   (T="dict"∧((∃kvs,H p=some (.dK kvs))∨∃kvs,H p=some (.dT kvs)))∨(T="set"∧∃S n,H p=some (.set S n))
 |_=>False
theorem V3 {pins:List (Addr×Obj)}{σ:St}{H:Hp}{s:Shared}{T:String}{x:V}{v:Value}(I:Inv X pins σ H s)(r:RelV x v)(ty:tyV X.K T x H):
  s.TypeIs v T∧∀a,v= .ref a→∃ob,s.heap.get? a=some ob∧ob.dict=none:=by
 cases x with
 |str z=>
  obtain ⟨t,rfl⟩:=r
  cases (show T="str" from ty)
  exact ⟨typeIs_str s z t,fun _ e=>nomatch e⟩
 |int i=>
  obtain ⟨t,rfl⟩:=r
  cases (show T="int" from ty)
  exact ⟨typeIs_int s i t,fun _ e=>nomatch e⟩
 |ref p=>
  cases r
  rcases ty with ⟨rfl,xs,hq⟩|⟨rfl,o,hk,hc,hd⟩|⟨rfl,hk⟩|⟨rfl,S,n,hk⟩
  ·obtain ⟨bf,_,pl,_⟩:=I.list hq
   refine ⟨pl.isList.typeIs,fun a e=> ?_⟩
   cases e
   obtain ⟨o,n,e,c,hd,_⟩:=pl
   exact ⟨o,e,hd⟩
  ·refine ⟨⟨o,I.L5 p o hk,hc⟩,fun a e=> ?_⟩
   cases e
   exact ⟨o,I.L5 _ o hk,hd⟩
  ·have z:∃o,s.heap.get? p=some o∧o.ExactDict:=by
    rcases hk with ⟨kvs,hk⟩|⟨kvs,hk⟩
    ·obtain ⟨_,_,_,_,o,_,_,e,ex,_⟩:=I.cw p _ hk
     exact ⟨o,e,ex⟩
    ·obtain ⟨_,_,_,_,o,_,_,e,ex,_⟩:=I.cw p _ hk
     exact ⟨o,e,ex⟩
   obtain ⟨o,e,ex⟩:=z
   refine ⟨⟨o,e,ex.1⟩,fun a e2=> ?_⟩
   cases e2
   exact ⟨o,e,ex.2.1⟩
  ·obtain ⟨o,_,_,_,e,ex,_⟩:=I.cw p _ hk
   refine ⟨⟨o,e,ex.1⟩,fun a e2=> ?_⟩
   cases e2
   exact ⟨o,e,ex.2.1⟩
 |_=>exact False.elim ty
def tBM (K:PySem.W.Frag)(T:String)(r:V→List V→Hp→VK→Prop)(to:TE)(t:TA):TE:=fun σ H Q=>to σ H fun x H1=>tyV K T x H1∧t σ H1 fun xs H2=>r x xs H2 Q
variable {o e:Expr}{es:List Expr}{to:TE}{t:TA}{name:Str}{apos gj:Pos}{T id:String}{r:V→List V→Hp→VK→Prop}
theorem iy (pa:PlainAttrs T)(slot:Slot T name id)(hty:typeOf (.builtin id)=pure (.type "method_descriptor"))(hm:MtR X id r)(ho:PE X o to)(ha:PA X (e::es) t)
  (Je:attributeBase o name X.env (eval o X.env)=eval o X.env:=by rfl)
  (aif:((backTo gj (starEach (e::es) X.env)).all (fun x=> !x.1) && (backToKw gj (keywordEach [] X.env)).all (fun x=>x.1.isSome)
   && decide ((e::es).length + ([] :List Keyword).length + (if ([] :List Keyword).isEmpty then 0 else 1) < 30))=true:=by rfl)
  (Jf:(apos.endLine==gj.line)=true:=by rfl)(hs:starEach (e::es) X.env=(false,eval e X.env)::starEach es X.env:=by rfl)(V4:(backTo gj (starEach es X.env)).any (·.1)=false:=by rfl):
  PE X (.Call (.Attribute o name apos) (e::es) [] gj) (tBM X.K T r to t):=by
 intro pins s σ H Q I h
 refine wpAny_Call_method_late Je aif Jf rfl (dq (ho pins s σ H _ I h) fun v s1 ⟨x,H1,I1,r1,ty,q1⟩=> ?_)
 obtain ⟨h1,h2⟩:=V3 I1 r1 ty
 refine ⟨T,id,pa,slot,hty,h1,h2,?_⟩
 have hA:=ha gj pins s1 σ H1 _ I1 q1
 rw [hs] at hA ⊢
 refine Calls.callWith_builtin (by show (false||(backTo gj (starEach es X.env)).any (·.1))=false;rw [V4] <;>rfl) (Calls.evalArgs_plain ?_)
 exact dq hA fun us s2 ⟨vs,H2,I2,r2,q2⟩=>hm pins s2 σ H2 x vs v us Q I2 r1 r2 q2
end
end L2
namespace L2
open PySem PySem.Spec PyProof.Rows
def MtM (X:Cx)(id:String)(r:V→List V→Hp→VK→Prop):Prop:=
 ∀ (pins:List (Addr×Obj))(s:Shared)(σ:St)(H:Hp)(x:V)(xs:List V)(v:Value)(us:List Value)(Q:VK),Inv X pins σ H s→RelV x v→Vals xs us→r x xs H Q→
  wpAny (model X.prog X.w) X.A (call (.builtin id) (v::us)) (EP X pins σ Q) X.xe s
theorem Vals.one:∀ {x:V}{us:List Value},Vals [x] us→∃u,us= [u] ∧RelV x u
 |_,_,.cons r .nil=>⟨_,rfl,r⟩
theorem Vals.two:∀ {x y:V}{us:List Value},Vals [x,y] us→∃u v,us= [u,v] ∧RelV x u∧RelV y v
 |_,_,_,.cons r (.cons q .nil)=>⟨_,_,rfl,r,q⟩
theorem Vals.eraseIdx:∀ {xs:List V}{us:List Value}(i:Nat),Vals xs us→Vals (xs.eraseIdx i) (us.eraseIdx i)
 |_,_,_,.nil=> .nil
 |_,_,0,.cons _ t=>t
 |_,_,i + 1,.cons r t=> .cons r (Vals.eraseIdx i t)
theorem Vals.rep {xs:List V}{us:List Value}(h:Vals xs us):∀k:Nat,Vals (List.replicate k xs).flatten (List.replicate k us).flatten
 |0=> .nil
 |k + 1=>by
  rw [List.replicate_succ,List.replicate_succ,List.flatten_cons,List.flatten_cons]
  exact Vals.append h (Vals.rep h k)
theorem EM {α:Type}:∀ (l:List α)(i:Nat),(l.eraseIdx i).length≤l.length
 | [],_=>Nat.le_refl _
 |_::_,0=>Nat.le_succ _
 |_::r,i + 1=>Nat.succ_le_succ (EM r i)
theorem foldl_rep (bf:List Value):∀ (k:Nat)(acc:List Value),
  List.foldl (fun x1 x2=>x1 ++ x2) acc.toArray (List.replicate k bf.toArray)=(acc ++ (List.replicate k bf).flatten).toArray
 |0,acc=>by simp
 |k + 1,acc=>by
  have e:acc.toArray ++ bf.toArray=(acc ++ bf).toArray:=by simp
  have e2:(acc ++ bf) ++ (List.replicate k bf).flatten=acc ++ (List.replicate (k + 1) bf).flatten:=by
   rw [List.replicate_succ,List.flatten_cons,List.append_assoc]
  rw [←e2,←foldl_rep bf k (acc ++ bf),←e,List.replicate_succ,List.foldl_cons]
section
variable {X:Cx}{pins:List (Addr×Obj)}{σ:St}{H:Hp}{s:Shared}{l b:Addr}{xs ys zs:List V}
theorem Inv.PQ {bf its':List Value}{n:Nat}{f:Array Value→Array Value}{t':Nat}(I:Inv X pins σ H s)(hH:H l=some (.lst xs))
  (e:s.heap.get? l=some {cls:= .type "list",data:= .seq bf.toArray n})(hf:f bf.toArray=its'.toArray)(hv:Vals ys its')(hz:ys.length≤sizeLine):
  Inv X pins σ (upd H l (.lst ys)) {s with heap:=s.heap.update l (Obj.mapSeq f),toks:=t'}:=by
 have q:=PySem.IsL.update e f
 rw [hf] at q
 refine I.write (x:=l) (e:=l) (by rw [hH];exact trivial) (.inl rfl) (fun b' u hb hu=>(Heap.get?_update_other s.heap (Obj.mapSeq f) (Ne.symm hb)).trans hu) ⟨_,q⟩ ?_
 exact ⟨hz,its',_,hv,q⟩
theorem Inv.aas {bf:List Value}{t':Nat}(I:Inv X pins σ H s)(hv:Vals ys bf)(hz:ys.length≤sizeLine):
  Inv X pins σ (upd H s.heap.objs.size (.lst ys)) {s with heap:=s.heap.push {cls:= .type "list",data:= .seq bf.toArray},toks:=t'}:=
 I.laid (fun _ _ q=>Heap.get?_push_of_some _ q) (Nat.le_refl _) ⟨hz,bf,0,hv,Heap.get?_push_size _ rfl⟩
theorem Inv.fresh (I:Inv X pins σ H s):H s.heap.objs.size=none:=I.cw.fresh (Nat.le_refl _)
theorem Inv.Ga (I:Inv X pins σ H s)(hH:H l=some (.lst xs)):xs.length≤sizeLine∧∃ (bf:List Value)(n:Nat),Vals xs bf∧xs.length=bf.length∧s.heap.get? l=some {cls:= .type "list",data:= .seq bf.toArray n}:=by
 obtain ⟨z,bf,n,r,e⟩:=I.cw l _ hH
 exact ⟨z,bf,n,r,r.length,e⟩
theorem BK {n:Nat}(h:n≤sizeLine):Builtin.List.listTooLong n=false:=by
 unfold Builtin.List.listTooLong
 exact decide_eq_false (by omega)
end
section
variable {X:Cx}
def Td:V→List V→Hp→VK→Prop:=fun x vs H Q=>∃l xs y,x= .ref l∧vs= [y] ∧H l=some (.lst xs)∧xs.length < sizeLine∧Q .bY (upd H l (.lst (xs ++ [y])))
theorem oN:MtM X "list.append" Td:=by
 intro pins s σ H x vs v us Q I rx rv h
 obtain ⟨l,xs,y,rfl,rfl,hH,hz,q⟩:=h
 cases rx
 obtain ⟨u,rfl,ru⟩:=rv.one
 obtain ⟨z,bf,n,r,hl,e⟩:=I.Ga hH
 refine call_meets F.slot_list_append ⟨_,e,rfl⟩ F.entry_list_append (F.args_list_append_2 _ _) (PySem.list_append l bf.toArray n u (by rw [List.size_toArray];omega)) ⟨e,?_⟩
 refine ⟨.bY,_,I.PQ (its':=bf ++ [u]) hH e (by simp) (r.append (.cons ru .nil)) ?_,rfl,q⟩
 rw [List.length_append,List.length_singleton]
 omega
def Te:V→List V→Hp→VK→Prop:=fun x vs H Q=>∃l b xs zs,x= .ref l∧vs= [.ref b] ∧H l=some (.lst xs)∧H b=some (.lst zs)∧xs.length + zs.length≤sizeLine∧Q .bY (upd H l (.lst (xs ++ zs)))
theorem oO:MtM X "list.extend" Te:=by
 intro pins s σ H x vs v us Q I rx rv h
 obtain ⟨l,b,xs,zs,rfl,rfl,hH,hB,hz,q⟩:=h
 cases rx
 obtain ⟨u,rfl,ru⟩:=rv.one
 cases ru
 obtain ⟨z,bf,n,r,hl,e⟩:=I.Ga hH
 obtain ⟨z2,AN,n2,r2,Zl,e2⟩:=I.Ga hB
 have hsz:bf.toArray.size + AN.toArray.size≤sizeLine:=by rw [List.size_toArray,List.size_toArray];omega
 have Jg:¬ (!bf.toArray.isEmpty && Builtin.List.listTooLong (bf.toArray.size + AN.toArray.size))=true:=by
  rw [BK hsz,Bool.and_false]
  exact Bool.false_ne_true
 refine call_meets F.slot_list_extend ⟨_,e,rfl⟩ F.entry_list_extend (F.args_list_extend_2 _ _)
  (AutoSeq1.list_extend_list_list_0 l bf.toArray n b AN.toArray n2 Jg (by rw [List.size_toArray];omega) (by omega)) ⟨e,e2,?_⟩
 refine ⟨.bY,_,I.PQ (its':=bf ++ AN) hH e (by simp) (r.append r2) ?_,rfl,q⟩
 rw [List.length_append]
 omega
def V5:V→List V→Hp→VK→Prop:=fun x vs H Q=>∃l xs i k y,x= .ref l∧vs= [.int i] ∧H l=some (.lst xs)∧ -(2 ^ 63)≤i∧i < 2 ^ 63∧seqIndex? i xs.length=some k∧xs[k]?=some y∧Q y (upd H l (.lst (xs.eraseIdx k)))
theorem Jh:MtM X "list.pop" V5:=by
 intro pins s σ H x vs v us Q I rx rv h
 obtain ⟨l,xs,i,k,y,rfl,rfl,hH,h1,h2,hk,hy,q⟩:=h
 cases rx
 obtain ⟨u,rfl,ru⟩:=rv.one
 obtain ⟨t,rfl⟩:=ru
 obtain ⟨z,bf,n,r,hl,e⟩:=I.Ga hH
 obtain ⟨w,hw,FX⟩:=r.get hy
 refine call_meets F.slot_list_pop ⟨_,e,rfl⟩ F.entry_list_pop (F.args_list_pop_2 _ _)
  (MeetsSeq.list_pop_at l bf.toArray n i t k w (fitsIndex_both h1 h2) (by rw [List.size_toArray,←hl];exact hk) (by rw [←Array.getElem?_toList];exact hw) (by rw [List.size_toArray];omega)) ⟨e,?_⟩
 refine ⟨y,_,I.PQ (its':=bf.eraseIdx k) hH e ?_ (r.eraseIdx k) ?_,FX,q⟩
 ·show bf.toArray.eraseIdxIfInBounds k=(bf.eraseIdx k).toArray
  rw [List.eraseIdxIfInBounds_toArray]
 ·have:=EM xs k
  omega
def aih:R2:=fun x y H Q=>∃l b xs zs,x= .ref l∧y= .ref b∧H l=some (.lst xs)∧H b=some (.lst zs)∧xs.length + zs.length≤sizeLine∧∀p,H p=none→Q (.ref p) (upd H p (.lst (xs ++ zs)))
theorem Gb:AM X (binaryOp .Add) aih:=by
 intro pins s σ H x y v u Q I rx ry h
 obtain ⟨l,b,xs,zs,rfl,rfl,hH,hB,hz,q⟩:=h
 cases rx
 cases ry
 obtain ⟨z,bf,n,r,hl,e⟩:=I.Ga hH
 obtain ⟨z2,AN,n2,r2,Zl,e2⟩:=I.Ga hB
 refine PySem.P.add_list e e2 ?_ (by rw [List.size_toArray,List.size_toArray];omega)
 have ea:bf.toArray ++ AN.toArray=(bf ++ AN).toArray:=by simp
 rw [ea]
 exact ⟨.ref _,_,I.aas (t':=s.toks) (r.append r2) (by rw [List.length_append];omega),rfl,q _ I.fresh⟩
def aii:R2:=fun x y H Q=>∃l k xs,x= .ref l∧y= .int k∧H l=some (.lst xs)∧ -(2 ^ 63)≤k∧k < 2 ^ 63∧xs.length * k.toNat≤sizeLine∧
 ∀p,H p=none→Q (.ref p) (upd H p (.lst (List.replicate k.toNat xs).flatten))
theorem len_rep {α:Type}(xs:List α)(k:Nat):(List.replicate k xs).flatten.length=k * xs.length:=by
 induction k with
 |zero=>simp
 |succ k ih=>rw [List.replicate_succ,List.flatten_cons,List.length_append,ih,Nat.succ_mul,Nat.add_comm]
theorem V6:AM X (binaryOp .Mult) aii:=by
 intro pins s σ H x y v u Q I rx ry h
 obtain ⟨l,k,xs,rfl,rfl,hH,h1,h2,hz,q⟩:=h
 cases rx
 obtain ⟨t,rfl⟩:=ry
 obtain ⟨z,bf,n,r,hl,e⟩:=I.Ga hH
 have hlen:bf.toArray.size * k.toNat≤sizeLine:=by rw [List.size_toArray,←hl];exact hz
 have Tf:¬bf.toArray.size * k.toNat >(2 ^ 63 - 1) / 8:=by
  have:(sizeLine:Nat)≤(2 ^ 63 - 1) / 8:=by decide
  omega
 have aij:¬ (!Builtin.List.listFitsIndex k)=true:=by
  rw [fitsIndex_both h1 h2]
  exact Bool.false_ne_true
 have Jg:¬Builtin.List.listTooLong (bf.toArray.size * k.toNat)=true:=by
  rw [BK hlen]
  exact Bool.false_ne_true
 have aik:List.foldl (fun x1 x2=>x1 ++ x2) #[] (List.replicate (if bf.toArray.isEmpty=true then 0 else k.toNat) bf.toArray)=(List.replicate k.toNat bf).flatten.toArray:=by
  have f0:∀m:Nat,List.foldl (fun x1 x2=>x1 ++ x2) #[] (List.replicate m bf.toArray)=(List.replicate m bf).flatten.toArray:=fun m=>by
   have:=foldl_rep bf m []
   rw [List.nil_append] at this
   exact this
  rw [f0]
  cases bf with
  |nil=>simp
  |cons a r'=>rw [if_neg (by simp)]
 refine wpAny_binaryOp_repeat_ref (T:="list") (U:="int") (by decide) ⟨_,e,rfl⟩ (fun s'=>typeIs_int s' k t) noFill_list_mul F.fills_int_mul F.slot_int_rmul repeat_list F.slot_int_index.lookup
  (call_meets F.slot_int_rmul (typeIs_int s k t) F.entry_int_rmul (F.args_int_rmul_2 _ _) (int___rmul___int_list k t l bf.toArray n)
   ⟨e,rfl,⟨_,e,rfl⟩,call_meets F.slot_list_mul ⟨_,e,rfl⟩ F.entry_list_mul (F.args_list_mul_2 _ _) (AutoListH.list___mul___list_int_3 l bf.toArray n k t aij Tf Jg) ⟨e,?_⟩⟩)
 rw [aik]
 exact ⟨.ref _,_,I.aas (t':=s.toks) (r.rep k.toNat) (by rw [len_rep,Nat.mul_comm];exact hz),rfl,q _ I.fresh⟩
end
section
variable {prog:Program}{w:World}{A:Around}{E:Value→Shared→Prop}{s:Shared}
set_option maxRecDepth 100000 in
end
section
variable {X:Cx}
end
end L2
namespace L2
open PySem PySem.Spec PyProof.Rows
theorem Vals.ints:∀ {ns:List Int}{us:List Value},Vals (ns.map V.int) us→IntsAre us ns
 | [],us,h=>by
  rw [List.map_nil] at h
  cases h
  exact IntsAre.nil
 |n::ns,us,h=>by
  rw [List.map_cons] at h
  cases h with
  |cons r t=>
   obtain ⟨k,rfl⟩:=r
   exact IntsAre.cons n k (Vals.ints t)
theorem wO:∀ {us:List Value}{ns:List Int},IntsAre us ns→Vals (ns.map V.int) us
 |_,_,.nil=>by rw [List.map_nil];exact Paired.nil
 |_,_,.cons n t h=>by rw [List.map_cons];exact Paired.cons (show RelV (V.int n) (Value.int n t) from ⟨t,rfl⟩) (wO h)
theorem Vals.bls:∀ {bs:List Bool}{us:List Value},Vals (bs.map V.bl) us→us=bs.map Value.bool
 | [],us,h=>by
  rw [List.map_nil] at h
  cases h
  rfl
 |b::bs,us,h=>by
  rw [List.map_cons] at h
  cases h with
  |cons r t=>
   cases r
   rw [Vals.bls t,List.map_cons]
theorem Vals.KL {a:Addr}{us:List Value}(r:Vals [V.ref a] us):us= [Value.ref a] :=by
 cases r with
 |cons r t=>
  cases t
  cases r
  rfl
section
variable {prog:Program}{w:World}{A:Around}{E:Value→Shared→Prop}{s:Shared}{l:Addr}{bf:List Value}{ns:List Int}{Q:Value→Shared→Prop}
theorem Tg (hh:A.handled=none)(hl:s.heap.IsList l bf.toArray)(hi:IntsAre bf ns)(u4:0 < ns.length)
  (h:∀h' tk M t',(∀b o,s.heap.get? b=some o→h'.get? b=some o)→M∈ns→(∀a,a∈ns→M≤a)→Q (.int M t') {s with heap:=h',toks:=tk}):wpAny (model prog w) A (call (.builtin "min") [.ref l]) Q E s:=by
 obtain ⟨xs,e⟩:=hi.allInts.items
 have hn:numsOf (intItems xs).toList=ns:=by rw [←e];exact hi.numsOf
 rw [nums_intItems] at hn
 subst hn
 rw [e] at hl
 have hsz:0 < xs.size:=by simpa using u4
 refine PySem.min_intList hh hl hsz fun v h' tk hv hk=> ?_
 obtain ⟨t,rfl⟩:=intItems_at hv
 obtain ⟨h1,h2⟩:=argBest_lt (numAt xs) (xs.size - 1)
 refine h h' tk _ t hk ?_ fun a ha=> ?_
 ·rw [numAt_eq];exact PySem.getD_mem (by rw [List.length_map,Array.length_toList];omega)
 ·obtain ⟨j,hj,rfl⟩:=mem_getD ha
  rw [List.length_map,Array.length_toList] at hj
  rw [←numAt_eq];exact h2 j (by omega)
end
section
variable {X:Cx}
def aim (K:PySem.W.Frag):List V→Hp→VK→Prop:=fun vs H Q=>∃ (a:Addr)(ns:List Int),vs= [V.ref a] ∧cK K H a (ns.map V.int)∧0 < ns.length∧∀m,m∈ns→(∀y,y∈ns→m≤y)→Q (.int m) H
theorem V7 (hc:X.calm=true):mw X (.builtin "min") (aim X.K):=by
 intro pins s σ H vs us Q I r h
 obtain ⟨a,ns,rfl,hs,u4,q⟩:=h
 obtain ⟨bf,rv,hl,_⟩:=I.list hs
 rw [Vals.KL r]
 exact Tg (I.ok.hd hc) hl.isList rv.ints u4 fun h' tk m t' hk h1 h2=>⟨.int _,H,I.kept hk,⟨_,rfl⟩,q m h1 h2⟩
end
section
variable {X:Cx}
def V8 (K:PySem.W.Frag):V→List V→Hp→VK→Prop:=fun x xs H Q=>∃ (a:Addr)(ys:List V)(y:V)(j:Nat)(z:V),x=V.ref a∧xs= [y] ∧cK K H a ys∧qX y=true∧ys.all qX=true∧ys[j]?=some z∧Su z y=true∧
 (∀ (m:Nat)(z':V),m < j→ys[m]?=some z'→Su z' y=false)∧Q (.int (j:Nat)) H
theorem Ml {ys:List V}(f:ys.all qX=true){j:Nat}{z:V}(h:ys[j]?=some z):qX z=true:=List.all_eq_true.mp f z (List.mem_of_getElem? h)
theorem PR:MtR X "list.index" (V8 X.K):=by
 intro pins s σ H x xs v us Q I rx rxs h
 obtain ⟨a,ys,y,j,z,rfl,rfl,hs,fy,fys,hz,hzj,UY,q⟩:=h
 cases rx
 cases rxs with
 |cons ry rt=>
  rename_i uy ut
  cases rt
  obtain ⟨bf,rv,⟨⟨cls,dd,data,sl⟩,n,ho,hc,hdn,hd⟩,hlen⟩:=I.list hs
  simp only at hc hd
  subst hc hd
  obtain ⟨u,hu,ru⟩:=rv.get hz
  obtain ⟨hjl,hje⟩:=List.getElem?_eq_some_iff.mp hu
  have hvl:=rv.length
  have hj:j < bf.toArray.size:=by simpa using hjl
  have hsl:=sizeLine_eq
  refine call_meets PySem.F.slot_list_index ⟨_,ho,rfl⟩ PySem.F.entry_list_index (PySem.F.args_list_index_2 _ _)
   (SeqAt.list_indexAt a bf.toArray n dd sl uy (Sv y) j hj (by omega) ?_ ?_) ⟨ho,fun u' hu'=>wN ry fy rv fys u' (by simpa using hu'),?_⟩
  ·have e1:bf.toArray[j] =u:=by simpa using hje
   rw [e1,F0 ru (Ml fys hz)]
   exact hzj
  ·intro m hm hmj
   have EN:m < bf.length:=by simpa using hm
   have hmy:m < ys.length:=by omega
   have hy':ys[m]?=some ys[m] :=List.getElem?_eq_getElem hmy
   obtain ⟨u2,hu2,ru2⟩:=rv.get hy'
   obtain ⟨_,hme⟩:=List.getElem?_eq_some_iff.mp hu2
   have e1:bf.toArray[m] =u2:=by simpa using hme
   rw [e1,F0 ru2 (Ml fys hy')]
   exact UY m _ hmj hy'
  ·exact ⟨.int (j:Nat),H,I.tok _,⟨_,rfl⟩,q⟩
end
section
variable {X:Cx}
end
theorem Ji {prog:Program}{w:World}{A:Around}{E:Value→Shared→Prop}{s:Shared}{l:Addr}{items:Array Value}{Q:Value→Shared→Prop}(hl:s.heap.IsList l items)
  (h:∀s₂:Shared,s₂={s with heap:=s.heap.push {cls:= .type "list_iterator",data:= .fields #[.ref l,.int 0 0] } }→
   (s₂.heap.IsListIter s.heap.objs.size l 0∧s₂.heap.IsList l items)→l≠s.heap.objs.size→Q (.ref s.heap.objs.size) s₂):wpAny (model prog w) A (pyIter (.ref l)) Q E s:=by
 have eA:l < s.heap.objs.size:=by obtain ⟨_,e,_⟩:=hl;exact Heap.lt_size e
 exact wpAny_pyIter_list hl (h _ rfl ⟨⟨_,Heap.get?_push_size _ rfl,rfl,rfl⟩,hl.push _⟩ (Nat.ne_of_lt eA))
theorem z0 {prog:Program}{w:World}{A:Around}{bs:List Bool}{bf:List Value}(e:bf=bs.map Value.bool):
  TruthOf prog w A (fun i v=>bf.toArray[i]?=some v) (fun i=>bs.getD i false):=fun i v s Q E hv hq=>by
 have hv':bf[i]?=some v:=by simpa using hv
 rw [e,List.getElem?_map] at hv'
 obtain ⟨b,hb,rfl⟩:=Option.map_eq_some_iff.mp hv'
 have hg:bs.getD i false=b:=by rw [List.getD_eq_getElem?_getD,hb] <;>rfl
 have UW:Q (bs.getD i false) s:=hq
 rw [hg] at UW
 exact wpAny_truthy_bool UW
theorem any_range:∀bs:List Bool,(List.range bs.length).any (fun i=>bs.getD i false)=bs.any id
 | [] =>rfl
 |b::bs=>by
  rw [List.length_cons,List.range_succ_eq_map,List.any_cons,List.any_map,List.any_cons,←any_range bs]
  all_goals rfl
theorem all_range:∀bs:List Bool,(List.range bs.length).all (fun i=>bs.getD i false)=bs.all id
 | [] =>rfl
 |b::bs=>by
  rw [List.length_cons,List.range_succ_eq_map,List.all_cons,List.all_map,List.all_cons,←all_range bs]
  all_goals rfl
section
variable {X:Cx}
def air (K:PySem.W.Frag):List V→Hp→VK→Prop:=fun vs H Q=>∃ (a:Addr)(bs:List Bool),vs= [V.ref a] ∧cK K H a (bs.map V.bl)∧Q (.bl (bs.any id)) H
def ais (K:PySem.W.Frag):List V→Hp→VK→Prop:=fun vs H Q=>∃ (a:Addr)(bs:List Bool),vs= [V.ref a] ∧cK K H a (bs.map V.bl)∧Q (.bl (bs.all id)) H
theorem V9 (hc:X.calm=true):mw X (.builtin "any") (air X.K):=by
 intro pins s σ H vs us Q I r h
 obtain ⟨a,bs,rfl,hs,q⟩:=h
 obtain ⟨bf,rv,hl,_⟩:=I.list hs
 rw [Vals.KL r]
 have hb:=rv.bls
 refine call_any_walk (Ji hl.isList fun s₂ e2 st u4=> ?_)
 subst e2
 refine ⟨_,_,_,_,_,_,_,rfl,Walks.list (A:=X.A.in1) (I.ok.hd hc) _ a u4 bf.toArray,st,z0 hb,fun h' tk hk=> ?_⟩
 refine ⟨.bl _,H,I.kept fun b o eo=>hk b o (fun Gd=> ?_) (Heap.get?_push_of_some _ eo),?_,q⟩
 ·rcases List.mem_cons.mp Gd with e1|Gd
  ·exact absurd (e1 ▸ Heap.lt_size eo) (Nat.lt_irrefl _)
  ·cases Gd
 ·show Value.bool _=Value.bool _
  rw [←any_range,hb,List.size_toArray,List.length_map]
theorem Wa (hc:X.calm=true):mw X (.builtin "all") (ais X.K):=by
 intro pins s σ H vs us Q I r h
 obtain ⟨a,bs,rfl,hs,q⟩:=h
 obtain ⟨bf,rv,hl,_⟩:=I.list hs
 rw [Vals.KL r]
 have hb:=rv.bls
 refine call_all_walk (Ji hl.isList fun s₂ e2 st u4=> ?_)
 subst e2
 refine ⟨_,_,_,_,_,_,_,rfl,Walks.list (A:=X.A.in1) (I.ok.hd hc) _ a u4 bf.toArray,st,z0 hb,fun h' tk hk=> ?_⟩
 refine ⟨.bl _,H,I.kept fun b o eo=>hk b o (fun Gd=> ?_) (Heap.get?_push_of_some _ eo),?_,q⟩
 ·rcases List.mem_cons.mp Gd with e1|Gd
  ·exact absurd (e1 ▸ Heap.lt_size eo) (Nat.lt_irrefl _)
  ·cases Gd
 ·show Value.bool _=Value.bool _
  rw [←all_range,hb,List.size_toArray,List.length_map]
end
mutual
inductive Dp (K:PySem.W.Frag) (H:Hp):V→PyData→Prop
 |bY:Dp K H .bY .none
 |bl (b:Bool):Dp K H (.bl b) (.bool b)
 |int (i:Int):Dp K H (.int i) (.int i)
 |str (x:Str):Dp K H (.str x) (.str x)
 |lst {a:Addr} {xs:List V} {ds:List PyData}:cK K H a xs→EO K H xs ds→Dp K H (.ref a) (.list ds)
 |tup {a:Addr} {xs:List V} {ds:List PyData}:bO K H a xs→EO K H xs ds→Dp K H (.ref a) (.tuple ds)
inductive EO (K:PySem.W.Frag) (H:Hp):List V→List PyData→Prop
 |nil:EO K H [] []
 |cons {v:V} {vs:List V} {d:PyData} {ds:List PyData}:Dp K H v d→EO K H vs ds→EO K H (v::vs) (d::ds)
end
section
variable {X:Cx}{pins:List (Addr×Obj)}{σ:St}{H:Hp}{s:Shared}
mutual
theorem Dp.reads (I:Inv X pins σ H s):∀ (d:PyData)(v:V)(u:Value),Dp X.K H v d→RelV v u→∃as,Reads s.heap u d as
 | .none,_,_,h,r=>by
  cases h
  cases r
  exact ⟨_,Reads.none⟩
 | .bool b,_,_,h,r=>by
  cases h
  cases r
  exact ⟨_,Reads.bool b⟩
 | .int i,_,_,h,r=>by
  cases h
  obtain ⟨t,rfl⟩:=r
  exact ⟨_,Reads.int i t⟩
 | .str x,_,_,h,r=>by
  cases h
  obtain ⟨t,rfl⟩:=r
  exact ⟨_,Reads.str x t⟩
 | .list ds,_,_,h,r=>by
  cases h with
  |lst hs ha=>
   cases r
   obtain ⟨bf,rv,⟨o,n,ho,hc,_,hd⟩,_⟩:=I.list hs
   obtain ⟨as,hr⟩:=Dp.readsAll I ds _ bf ha rv
   exact ⟨_,Reads.list ho hc hd hr⟩
 | .tuple ds,_,_,h,r=>by
  cases h with
  |tup hs ha=>
   cases r
   obtain ⟨bf,rv,⟨o,ho,hc,n,hd⟩,_⟩:=I.tuple hs
   obtain ⟨as,hr⟩:=Dp.readsAll I ds _ bf ha rv
   exact ⟨_,Reads.tuple ho hc hd hr⟩
 | .dict _,_,_,h,_=>by cases h
theorem Dp.readsAll (I:Inv X pins σ H s):∀ (ds:List PyData)(vs:List V)(us:List Value),EO X.K H vs ds→Vals vs us→∃as,ReadsAll s.heap us ds as
 | [],_,_,h,r=>by
  cases h
  cases r
  exact ⟨_,ReadsAll.nil⟩
 |d::ds,_,_,h,r=>by
  cases h with
  |cons h1 h2=>
   cases r with
   |cons r1 r2=>
    obtain ⟨as,q1⟩:=Dp.reads I d _ _ h1 r1
    obtain ⟨bs,q2⟩:=Dp.readsAll I ds _ _ h2 r2
    exact ⟨_,ReadsAll.cons q1 q2⟩
end
end
section
variable {X:Cx}
def aat (K:PySem.W.Frag):R2:=fun x y H Q=>∃d e,Dp K H x d∧Dp K H y e∧SeqAt.shaped d=true∧SeqAt.shaped e=true∧Q (.bl (PyData.eqv d e)) H
theorem PU (hu:X.A.units + 64 < cLine):AM X (compareOp .Eq) (aat X.K):=by
 intro pins s σ H x y v u Q I rx ry h
 obtain ⟨d,e,hd,he,sd,se,q⟩:=h
 obtain ⟨as,r1⟩:=Dp.reads I d x v hd rx
 obtain ⟨bs,r2⟩:=Dp.reads I e y u he ry
 exact SeqAt.compareEq_shaped r1 r2 sd se hu ⟨.bl _,H,I,rfl,q⟩
end
end L2
namespace L2
open PySem PySem.Spec PyProof.Rows
abbrev PV (h:Heap)(c:Addr)(v:Option Value):Prop:=h.IsCell c v
def ait (scope sc:Scope):Scope:=
 {scope with names:=scope.names.map fun (n,k)=>if (k== .free && sc.kind== .function && sc.names.lookup n==some .cell) then (n,.cell) else (n,k)}
def cW (cells:List (Str×Addr)):List (Str×NameKind)→List (Str×Addr)→List (Str×Addr)
 | [],acc=>acc
 |(n,k)::r,acc=>if k== .free then cW cells r ((n,(cells.lookup n).getD 0)::acc) else cW cells r acc
theorem wQ (env:Env)(f:Str×NameKind→List (Str×Addr)→Sem (ForInStep (List (Str×Addr))))
  (hf:∀n k c,f (n,k) c=if k== .free then (do let a←cellOf env n;pure (.yield ((n,a)::c))) else pure (.yield c)):
  ∀ (names:List (Str×NameKind))(acc:List (Str×Addr)),(∀y∈names,y.2= .free→∃c,env.cells.lookup y.1=some c)→forIn names acc f=pure (cW env.cells names acc)
 | [],acc,_=>by rw [List.forIn_nil];rfl
 |(n,k)::r,acc,h=>by
  rw [List.forIn_cons,hf]
  have ih:=fun acc=>wQ env f hf r acc fun y hy=>h y (List.mem_cons_of_mem _ hy)
  unfold cW
  by_cases hk:(k==NameKind.free)=true
  ·rw [if_pos hk,if_pos hk]
   obtain ⟨c,hc⟩:=h (n,k) List.mem_cons_self (by simpa using hk)
   have e:cellOf env n=pure c:=by unfold cellOf;rw [hc]
   rw [e]
   have e2:(env.cells.lookup n).getD 0=c:=by rw [hc];rfl
   rw [e2]
   exact ih _
  ·rw [if_neg hk,if_neg hk]
   exact ih _
theorem KN {scope:Scope}{env:Env}(h:∀y∈scope.names,y.2= .free→∃c,env.cells.lookup y.1=some c):closureFor scope env=pure (cW env.cells scope.names []):=by
 simp only [closureFor]
 rw [wQ env _ (fun n k c=>rfl) scope.names [] h]
 rfl
theorem mem_lookup {α:Type}:∀ {l:List (Str×α)}{n:Str}{c:α},(n,c)∈l→∃c',l.lookup n=some c'
 |(k,v)::r,n,c,h=>by
  rw [List.lookup_cons]
  cases hb:n==k with
  |true=>exact ⟨_,rfl⟩
  |false=>
   rcases List.mem_cons.mp h with e|h
   ·cases e;simp at hb
   ·exact mem_lookup h
theorem my {cells:List (Str×Addr)}:∀ {names:List (Str×NameKind)}{acc:List (Str×Addr)}{n:Str}{c:Addr},(n,c)∈cW cells names acc→(n,c)∈acc∨((n,.free)∈names∧c=(cells.lookup n).getD 0)
 | [],_,_,_,h=> .inl h
 |(m,k)::r,acc,n,c,h=>by
  unfold cW at h
  split at h
  ·rename_i hk
   have hk:k= .free:=by simpa using hk
   rcases my h with h|⟨h1,h2⟩
   ·rcases List.mem_cons.mp h with e|h
    ·cases e;exact .inr ⟨hk ▸ List.mem_cons_self,rfl⟩
    ·exact .inl h
   ·exact .inr ⟨List.mem_cons_of_mem _ h1,h2⟩
  ·rcases my h with h|⟨h1,h2⟩
   ·exact .inl h
   ·exact .inr ⟨List.mem_cons_of_mem _ h1,h2⟩
theorem rD {cells:List (Str×Addr)}:∀ {names:List (Str×NameKind)}{acc:List (Str×Addr)}{p:Str×Addr},p∈acc→p∈cW cells names acc
 | [],_,_,h=>h
 |(m,k)::r,acc,p,h=>by
  unfold cW
  split
  ·exact rD (List.mem_cons_of_mem _ h)
  ·exact rD h
theorem rE {cells:List (Str×Addr)}:∀ {names:List (Str×NameKind)}{acc:List (Str×Addr)}{n:Str},(n,.free)∈names→(n,(cells.lookup n).getD 0)∈cW cells names acc
 |(m,k)::r,acc,n,h=>by
  unfold cW
  rcases List.mem_cons.mp h with e|h
  ·cases e
   exact rD List.mem_cons_self
  ·split
   ·exact rE h
   ·exact rE h
theorem oP:∀ {names:List (Str×NameKind)}{h:Heap}{acc:List (Str×Addr)}{x:Str}{c:Addr},(x,c)∈cellsFrom h.objs.size names acc→
  (x,c)∈acc∨((x,.cell)∈names∧h.objs.size≤c∧PV (pushCells h names) c none)
 | [],_,_,_,_,h=> .inl h
 |(n,k)::r,h,acc,x,c,hm=>by
  unfold cellsFrom at hm
  unfold pushCells
  split at hm
  ·rename_i hk
   rw [if_pos hk]
   have hk:k= .cell:=by simpa using hk
   rw [←Heap.size_push h {cls:= .type "cell",data:= .cell none}] at hm
   rcases oP hm with hm|⟨h1,h2,h3⟩
   ·rcases List.mem_cons.mp hm with e|hm
    ·cases e
     exact .inr ⟨hk ▸ List.mem_cons_self,Nat.le_refl _,_,pushCells_keeps r _ _ _ (Heap.get?_push_size _ rfl),rfl⟩
    ·exact .inl hm
   ·rw [Heap.size_push] at h2
    exact .inr ⟨List.mem_cons_of_mem _ h1,Nat.le_of_succ_le h2,h3⟩
  ·rename_i hk
   rw [if_neg hk]
   rcases oP hm with hm|⟨h1,h2,h3⟩
   ·exact .inl hm
   ·exact .inr ⟨List.mem_cons_of_mem _ h1,h2,h3⟩
theorem tI:∀ {names:List (Str×NameKind)}{n:Nat}{acc:List (Str×Addr)}{p:Str×Addr},p∈acc→p∈cellsFrom n names acc
 | [],_,_,_,h=>h
 |(m,k)::r,n,acc,p,h=>by
  unfold cellsFrom
  split
  ·exact tI (List.mem_cons_of_mem _ h)
  ·exact tI h
theorem yU:∀ {names:List (Str×NameKind)}{n:Nat}{acc:List (Str×Addr)}{x:Str},(x,.cell)∈names→∃c,(x,c)∈cellsFrom n names acc
 |(m,k)::r,n,acc,x,h=>by
  unfold cellsFrom
  rcases List.mem_cons.mp h with e|h
  ·cases e
   exact ⟨n,tI List.mem_cons_self⟩
  ·split
   ·exact yU h
   ·exact yU h
theorem yV:∀ {names:List (Str×NameKind)}{h:Heap}{acc:List (Str×Addr)}{x y:Str}{c:Addr},(∀p∈acc,p.2 < h.objs.size)→(∀x y c,(x,c)∈acc→(y,c)∈acc→x=y)→
  (x,c)∈cellsFrom h.objs.size names acc→(y,c)∈cellsFrom h.objs.size names acc→x=y
 | [],_,_,_,_,_,_,hi,h1,h2=>hi _ _ _ h1 h2
 |(n,k)::r,h,acc,x,y,c,hl,hi,h1,h2=>by
  unfold cellsFrom at h1 h2
  split at h1
  ·rename_i hk
   rw [if_pos hk] at h2
   rw [←Heap.size_push h {cls:= .type "cell",data:= .cell none}] at h1 h2
   refine yV (h:=h.push _) (fun p hp=> ?_) (fun x y c a b=> ?_) h1 h2
   ·rw [Heap.size_push]
    rcases List.mem_cons.mp hp with rfl|hp
    ·exact Nat.lt_succ_self _
    ·exact Nat.lt_succ_of_lt (hl p hp)
   ·rcases List.mem_cons.mp a with e|a <;>rcases List.mem_cons.mp b with e'|b
    ·cases e;cases e';rfl
    ·cases e;exact absurd (hl _ b) (Nat.lt_irrefl _)
    ·cases e';exact absurd (hl _ a) (Nat.lt_irrefl _)
    ·exact hi _ _ _ a b
  ·rename_i hk
   rw [if_neg hk] at h2
   exact yV hl hi h1 h2
theorem Jj {M:Model}{A:Around}{E:Value→Shared→Prop}{s:Shared}{scope:Scope}{globals:Addr}{closure:List (Str×Addr)}{qual:Str}{func:Option Addr}{code:Value}{around:Env}{builtins:Addr}{Q:Env→Shared→Prop}
  (h:Q (newEnv scope s.heap.objs.size globals (cellsFrom (s.heap.objs.size + 1) scope.names closure) qual func code (some around) builtins)
   {s with heap:=pushCells (s.heap.push {cls:= .type "dict",data:= .dict #[] }) scope.names}):
  wpAny M A (newFunctionEnv scope globals closure [] qual func code (some around) builtins) Q E s:=by
 simp only [newFunctionEnv,Option.isSome_some,if_true]
 refine wpAny_bind (wpAny_alloc ?_)
 refine wpAny_bind (wpAny_layCells _ (fun n k c=>rfl) scope.names closure _ _ ?_)
 rw [show ({s with heap:=s.heap.push {cls:= .type "dict",data:= .dict #[] } }:Shared).heap.objs.size=s.heap.objs.size + 1 from Heap.size_push ..]
 rw [List.forIn_nil]
 exact wpAny_bind (wpAny_pure (wpAny_pure h))
theorem rF {sc:Scope}:∀ {names:List (Str×NameKind)}{x:Str}{k:NameKind},
  (names.map fun (n,k)=>if (k==NameKind.free && sc.kind== .function && sc.names.lookup n==some .cell) then (n,NameKind.cell) else (n,k)).lookup x=some k→
  ∃k',names.lookup x=some k'∧(k=k'∨(k'= .free∧k= .cell))
 | [],_,_,h=>by simp at h
 |(n,k₀)::r,x,k,h=>by
  have ih:= @rF sc r x k
  have h':List.lookup x ((if (k₀==NameKind.free && sc.kind== .function && sc.names.lookup n==some .cell)=true then (n,NameKind.cell) else (n,k₀))::(r.map _))=some k:=h
  cases hx:x==n with
  |true=>
   simp only [List.lookup_cons,hx]
   by_cases hc:(k₀==NameKind.free && sc.kind== .function && sc.names.lookup n==some .cell)=true
   ·rw [if_pos hc] at h'
    simp only [List.lookup_cons,hx] at h'
    cases h'
    simp only [Bool.and_eq_true,beq_iff_eq] at hc
    exact ⟨k₀,rfl,.inr ⟨hc.1.1,rfl⟩⟩
   ·rw [if_neg hc] at h'
    simp only [List.lookup_cons,hx] at h'
    cases h'
    exact ⟨_,rfl,.inl rfl⟩
  |false=>
   simp only [List.lookup_cons,hx]
   by_cases hc:(k₀==NameKind.free && sc.kind== .function && sc.names.lookup n==some .cell)=true
   ·rw [if_pos hc] at h'
    simp only [List.lookup_cons,hx] at h'
    exact ih h'
   ·rw [if_neg hc] at h'
    simp only [List.lookup_cons,hx] at h'
    exact ih h'
structure Jk (N:List Str) (sc scope:Scope) (own:List (Str×Nat)):Prop where
 kind:scope.kind= .function
 uniq:∀y∈scope.names,scope.names.lookup y.1=some y.2
 ix:∀p∈own,N[p.2]?=some p.1
 free:∀y∈scope.names,y.2= .free→sc.names.lookup y.1=some .cell∨sc.names.lookup y.1=some .free
 own:∀y∈scope.names,y.2= .local∨y.2= .cell→y.1∈own.map (·.1)∨y.1 ∉ N
def wipe (σ:St):List Nat→St
 | [] =>σ
 |v::vs=>(wipe σ vs).set v none
theorem rG (σ:St):∀vs:List Nat,(wipe σ vs).length=σ.length
 | [] =>rfl
 |v::vs=>by unfold wipe;rw [List.length_set,rG σ vs]
theorem yW {σ:St}{i:Nat}{x:V}:∀ {vs:List Nat},(wipe σ vs)[i]?=some (some x)→σ[i]?=some (some x)∧i ∉ vs
 | [],h=>⟨h,by simp⟩
 |v::vs,h=>by
  unfold wipe at h
  by_cases hi:v=i
  ·subst hi
   by_cases hv:v < (wipe σ vs).length
   ·rw [List.getElem?_set_self hv] at h;cases h
   ·rw [List.getElem?_eq_none (by simpa using hv)] at h;cases h
  ·rw [List.getElem?_set_ne hi] at h
   obtain ⟨h1,h2⟩:=yW h
   exact ⟨h1,by simp only [List.mem_cons,not_or];exact ⟨fun e=>hi e.symm,h2⟩⟩
abbrev Cx.Ge (X:Cx)(s:Shared)(H:Hp)(scope:Scope)(gP:Env)(fp:List Addr):Cx:={X with EA:=s,VH:=H,env:=gP,outer:=X.stack,ex:=fp,fn:=fun x=>scope.names.lookup x==some .cell,pn:= [],xe:=fun _ _=>False}
section
variable {X:Cx}{pins:List (Addr×Obj)}{σ:St}{H:Hp}{s:Shared}
theorem Jl {scope:Scope}{own:List (Str×Nat)}{fp:List Addr}(I:Inv X pins σ H s)(ok:Jk X.N X.env.scope scope own)(hN:X.N.Nodup)(UZ:∀b∈fp,AL X pins H b∧b < s.heap.objs.size):
  Inv (X.Ge s H scope (compEnvC scope (cellsFrom (s.heap.objs.size + 1) scope.names (cW X.env.cells scope.names [])) s.heap.objs.size X.env) fp) [] (wipe σ (own.map (·.2))) H {s with heap:=pushCells (s.heap.push {cls:= .type "dict",data:= .dict #[] }) scope.names}:=by
 have EC:∀y∈scope.names,y.2= .free→∃c,X.env.cells.lookup y.1=some c:=fun y hy e=>by
  rcases ok.free y hy e with k|k
  ·exact I.ok.has _ (.inl k)
  ·exact I.ok.has _ (.inr k)
 generalize Jm:compEnvC scope (cellsFrom (s.heap.objs.size + 1) scope.names (cW X.env.cells scope.names [])) s.heap.objs.size X.env=gP
 have kp:∀b o,s.heap.get? b=some o→(pushCells (s.heap.push {cls:= .type "dict",data:= .dict #[] }) scope.names).get? b=some o:=fun b o e=>pushCells_keeps _ _ _ _ (Heap.get?_push_of_some _ e)
 have hL:gP.locals=s.heap.objs.size:=by rw [←Jm];rfl
 have Mm:gP.cells=cellsFrom (s.heap.objs.size + 1) scope.names (cW X.env.cells scope.names []):=by rw [←Jm];rfl
 have hsc:gP.scope=ait scope X.env.scope:=by rw [←Jm];rfl
 rw [←Heap.size_push s.heap {cls:= .type "dict",data:= .dict #[] }] at Mm
 have cm:∀ {y c},(y,c)∈cW X.env.cells scope.names [] →X.env.cells.lookup y=some c∧c < s.heap.objs.size:=fun {y c} hm=>by
  rcases my hm with hm|⟨h1,rfl⟩
  ·cases hm
  ·obtain ⟨c,hc⟩:=EC _ h1 rfl
   rw [hc]
   obtain ⟨w,z⟩:=I.cell _ _ hc
   exact ⟨rfl,z.lt⟩
 have mem:∀ {y c},gP.cells.lookup y=some c→(X.env.cells.lookup y=some c∧c < s.heap.objs.size)∨(s.heap.objs.size + 1≤c∧PV (pushCells (s.heap.push {cls:= .type "dict",data:= .dict #[] }) scope.names) c none):=fun {y c} e=>by
  rw [Mm] at e
  rcases oP (PySem.mem_of_lookup e) with hm|⟨_,h2,h3⟩
  ·exact .inl (cm hm)
  ·rw [Heap.size_push] at h2;exact .inr ⟨h2,h3⟩
 have look:∀ {y},scope.names.lookup y=some .free→∃c,gP.cells.lookup y=some c∧X.env.cells.lookup y=some c:=fun {y} hl=>by
  have hy:(y,NameKind.free)∈scope.names:=PySem.mem_of_lookup hl
  obtain ⟨c',e'⟩:=mem_lookup (tI (names:=scope.names) (n:=(s.heap.push {cls:= .type "dict",data:= .dict #[] }).objs.size) (rE (cells:=X.env.cells) (acc:= []) hy))
  rw [←Mm] at e'
  refine ⟨c',e',?_⟩
  rw [Mm] at e'
  rcases oP (PySem.mem_of_lookup e') with hm|⟨h1,_,_⟩
  ·exact (cm hm).1
  ·have:=ok.uniq _ h1
   rw [hl] at this;cases this
 have okB:(X.Ge s H scope gP fp).Ok:=by
  refine ⟨I.ok.mod,by show gP.scope.kind=_;rw [hsc];exact ok.kind,by show gP.globals=_;rw [←Jm];exact I.ok.glob,by show gP.builtins=_;rw [←Jm];exact I.ok.blt,by show s.heap.objs.size≤gP.locals;rw [hL];exact Nat.le_refl _,
   fun y z c e1 e2=> ?_,fun y hy=> ?_,fun y c z e=> ?_,I.ok.hd,I.ok.frames,.inl rfl,fun b hb=>⟨?_,fun y c e z=> ?_⟩,I.bs,Nat.le_trans I.ok.SO I.sz,fun b o e hb=> ?_,fun b hb z=> ?_,I.stack,I.L6⟩
  ·have e1:gP.cells.lookup y=some c:=e1
   have e2:gP.cells.lookup z=some c:=e2
   rw [Mm] at e1 e2
   refine yV (fun p hp=> ?_) (fun y z c a b=>I.ok.inj y z c (cm a).1 (cm b).1) (PySem.mem_of_lookup e1) (PySem.mem_of_lookup e2)
   rw [Heap.size_push]
   exact Nat.lt_succ_of_lt (cm (y:=p.1) (c:=p.2) hp).2
  ·show ∃c,gP.cells.lookup y=some c
   have key:∀k,gP.kindOf y=some k→(k= .cell∨k= .free)→∃c,gP.cells.lookup y=some c:=fun k hk hk'=>by
    unfold Env.kindOf at hk
    rw [hsc] at hk
    obtain ⟨k',e,r⟩:=rF hk
    have:k'= .cell∨k'= .free:=by
     rcases r with rfl|⟨rfl,_⟩
     ·exact hk'
     ·exact .inr rfl
    rcases this with rfl|rfl
    ·obtain ⟨c,hm⟩:=yU (n:=(s.heap.push {cls:= .type "dict",data:= .dict #[] }).objs.size) (acc:=cW X.env.cells scope.names []) (PySem.mem_of_lookup e)
     obtain ⟨c',e'⟩:=mem_lookup hm
     exact ⟨c',by rw [Mm];exact e'⟩
    ·obtain ⟨c,h1,_⟩:=look e
     exact ⟨c,h1⟩
   rcases hy with hy|hy
   ·exact key _ hy (.inl rfl)
   ·exact key _ hy (.inr rfl)
  ·have z:(scope.names.lookup y==some NameKind.cell)=true:=z
   have z:scope.names.lookup y=some .cell:=by simpa using z
   have e:gP.cells.lookup y=some c:=e
   rw [Mm] at e
   rcases oP (PySem.mem_of_lookup e) with hm|⟨_,h2,_⟩
   ·rcases my hm with hm|⟨h1,_⟩
    ·cases hm
    ·have q:=ok.uniq _ h1
     rw [z] at q;cases q
   ·rw [Heap.size_push] at h2
    exact Nat.le_of_succ_le h2
  ·show b≠gP.locals
   rw [hL];exact Nat.ne_of_lt (UZ b hb).2
  ·have e:gP.cells.lookup y=some c:=e
   rcases mem e with ⟨h1,_⟩|⟨h1,_⟩
   ·exact (UZ b hb).1.2.2.2.2.1 y c h1 z
   ·have h2:s.heap.objs.size + 1≤b:=by rw [←z];exact h1
    exact absurd (Nat.lt_of_lt_of_le (UZ b hb).2 (Nat.le_of_succ_le h2)) (Nat.lt_irrefl _)
  ·rcases (UZ b hb).1.2.2.2.1 with z|z
   ·exact I.ok.Pn b o e z
   ·exact absurd (Nat.lt_of_lt_of_le (Heap.lt_size e) (Nat.le_trans I.ok.SO z)) (Nat.lt_irrefl _)
  ·rcases List.mem_cons.mp (I.Ks b z) with z|z
   ·exact (UZ b hb).1.2.1 z
   ·exact (UZ b hb).1.2.2.1 z
 refine ⟨okB,rfl,I.bare,Un.kept kp,⟨fun _=>none,?_,fun i y av e1 e2 e3=> ?_⟩,fun y c e=> ?_,?_,fun y c e=> ?_,fun p hp=> ?_,I.cw.kept kp,by rw [rG];exact I.len⟩
 ·show Heap.Ns _ gP.locals _
  rw [hL]
  exact Heap.Ns.keeps (Heap.Ns.new ..) fun b o e=>pushCells_keeps _ _ _ _ e
 ·obtain ⟨e2,u4⟩:=yW e2
  have ER:scope.names.lookup y=some .free∧(gP.kindOf y=some .cell∨gP.kindOf y=some .free):=by
   have key:∀k,gP.scope.names.lookup y=some k→k= .local∨k= .cell∨k= .free→scope.names.lookup y=some .free∧(gP.kindOf y=some .cell∨gP.kindOf y=some .free):=fun k hk hk'=>by
    have hk0:=hk
    rw [hsc] at hk
    obtain ⟨k',e,r⟩:=rF hk
    have no:¬ (k'= .local∨k'= .cell):=fun hh=>by
     rcases ok.own _ (PySem.mem_of_lookup e) hh with e'|e'
     ·obtain ⟨p,hp,hpy⟩:=List.mem_map.mp e'
      have e3:=ok.ix p hp
      have:p.1=y:=hpy
      rw [this] at e3
      exact u4 (List.mem_map.mpr ⟨p,hp,Bw hN e3 e1⟩)
     ·exact e' (List.mem_of_getElem? e1)
    rcases r with rfl|⟨rfl,rfl⟩
    ·rcases hk' with rfl|rfl|rfl
     ·exact absurd (.inl rfl) no
     ·exact absurd (.inr rfl) no
     ·exact ⟨e,.inr hk0⟩
    ·exact ⟨e,.inl hk0⟩
   have e3:Zg gP.scope y:=e3
   rcases e3 with e3|e3|e3
   ·exact key _ e3 (.inl rfl)
   ·exact key _ e3 (.inr (.inl rfl))
   ·exact key _ e3 (.inr (.inr rfl))
  obtain ⟨m,hn,hl⟩:=I.loc
  have aiv:Zg X.env.scope y:=(ok.free _ (PySem.mem_of_lookup ER.1) rfl).elim (fun k=> .inr (.inl k)) (fun k=> .inr (.inr k))
  obtain ⟨w,r,q⟩:=hl i y av e1 e2 aiv
  refine ⟨w,r,.inr ⟨ER.2,?_⟩⟩
  obtain ⟨c,h1,h2⟩:=look ER.1
  rcases q with ⟨k,_⟩|⟨_,c',e',z⟩
  ·have k:X.env.scope.names.lookup y=some .local:=k
   rcases ok.free _ (PySem.mem_of_lookup ER.1) rfl with k'|k' <;>rw [show X.env.scope.names.lookup y=_ from k'] at k <;>cases k
  ·rw [h2] at e';cases e'
   exact ⟨c,h1,z.keeps kp⟩
 ·have e:gP.cells.lookup y=some c:=e
  rcases mem e with ⟨h1,_⟩|⟨_,z⟩
  ·obtain ⟨w,z⟩:=I.cell y c h1
   exact ⟨w,z.keeps kp⟩
  ·exact ⟨_,z⟩
 ·show H gP.locals=none
  rw [hL];exact I.cw.fresh (Nat.le_refl _)
 ·have e:gP.cells.lookup y=some c:=e
  rcases mem e with ⟨h1,_⟩|⟨h1,_⟩
  ·exact I.oJ y c h1
  ·exact I.cw.fresh (Nat.le_of_succ_le h1)
 ·exact absurd (show p∈([] :List (Addr×Obj)) ++ [] from hp) (by simp)
theorem Wb {E:Value→Shared→Prop}{D:Addr}{xs:List V}{y:V}{v:Value}{Q:Value→Shared→Prop}(I:Inv X pins σ H s)(hD:H D=some (.lst xs))(hz:xs.length < sizeLine)(r:RelV y v)
  (h:∀s',Inv X pins σ (upd H D (.lst (xs ++ [y]))) s'→Q .none s'):wpAny (model X.prog X.w) X.A (call (.builtin "list.append") [.ref D,v]) Q E s:=by
 obtain ⟨Zm,bf,n,ri,e⟩:=I.cw D _ hD
 have hl:=ri.length
 refine append_at (hsz:=by rw [List.size_toArray];omega) e fun h' sb DW=> ?_
 refine h {s with heap:=h'} (I.write (t':=s.toks) (by rw [hD];trivial) (.inl rfl) (fun b u hb q=>(sb.2 b hb).trans q) ⟨_,DW⟩ ⟨by rw [List.length_append];exact hz,bf ++ [v],n + 1,ri.append (.cons r .nil),?_⟩)
 rw [DW]
 simp
def PTs (X:Cx)(ifs:List Expr)(t:TT):Prop:=
 ∀ (pins:List (Addr×Obj))(s:Shared)(σ:St)(H:Hp)(Q:Bool→Hp→Prop),Inv X pins σ H s→t σ H Q→
  wpAny (model X.prog X.w) X.A (forIn ifs true fun c r=>if r=true then do let ok←isTrue c X.env (eval c X.env);pure (ForInStep.yield ok) else pure (ForInStep.yield r)) (TP X pins σ Q) X.xe s
def aaw:TT:=fun _ H Q=>Q true H
theorem A1:PTs X [] aaw:=fun _ _ _ H _ I h=>wpAny_tests_nil ⟨H,I,h⟩
theorem Gf {c:Expr}{t:TT}(h:PT X c t):PTs X [c] t:=fun pins s σ H Q I hw=>wpAny_tests_one (h pins s σ H Q I hw)
end
theorem NK {α:Type}{t:Sem α}{Q Q':α→Shared→Prop}{M:Model}{A:Around}{E:Value→Shared→Prop}{s:Shared}(h:wpAny M A t Q (fun _ _=>False) s)(hQ:∀a s,Q a s→Q' a s):wpAny M A t Q' E s:=wpAny_mono h hQ fun _ _ z=>False.elim z
theorem Gg {prog:Program}{w:World}{A:Around}{R:Result→Shared→Prop}{s:Shared}{elt target iter:Expr}{ifs:List Expr}{scope:Scope}{pos:Pos}{it acc:Value}{env:Env}(I:Nat→Shared→Prop)
  (turn:∀n s,I n s→wpAny (model prog w) A (pyNext it) (fun r s₁=>match r with
   |none=>R (.ok .next) s₁
   |some v=>wpAny (model prog w) A (letOwnedTupleGo target it v) (fun _ s₁'=>wpAny (model prog w) A (assign target env v) (fun _ s₂=>
     wpAny (model prog w) A (forIn ifs true fun c r=>if r=true then do let ok←isTrue c env (eval c env);pure (ForInStep.yield ok) else pure (ForInStep.yield r)) (fun ok s₃=>
      if ok=true then wpAny (model prog w) A (eval elt env) (fun x s₄=>
       wpAny (model prog w) A (call (.builtin "list.append") [acc,x]) (fun _ s₅=>∃m,m < n∧I m s₅) (notedBy (model prog w) A env fun e s'=>R (.error e) s') s₄) (notedBy (model prog w) A env fun e s'=>R (.error e) s') s₃
      else ∃m,m < n∧I m s₃) (notedBy (model prog w) A env fun e s'=>R (.error e) s') s₂) (notedBy (model prog w) A env fun e s'=>R (.error e) s') s₁') (notedBy (model prog w) A env fun e s'=>R (.error e) s') s₁) (notedBy (model prog w) A env fun e s'=>R (.error e) s') s)
  (n:Nat)(h:I n s):
  codeAny (model prog w) A (.compLoop (.ListComp elt [⟨target,iter,ifs,0⟩] scope pos) 0 it acc env) R s:=by
 refine codeAny_loop rfl I (fun n s hI=> ?_) n h
 show wpAny _ A ((compTurn (.ListComp elt [⟨target,iter,ifs,0⟩] scope pos) 0 it acc env).onRaise (fun x=>do noteFrame x env;theTreesLotGoes x)) _ _ s
 refine wpAny_noted ?_
 rw [compTurn_list]
 refine wpAny_bind (wpAny_standAt (wpAny_bind (wpAny_mono (turn n s hI) (fun r s₁ h₁=> ?_) fun _ _ h'=>h')))
 cases r with
 |none=>exact wpAny_pure h₁
 |some v=>
  refine wpAny_bind (wpAny_mono h₁ (fun _ s₁' h₁'=> ?_) fun _ _ h'=>h')
  refine wpAny_bind (wpAny_mono h₁' (fun _ s₂ h₂=>wpAny_bind (wpAny_mono h₂ (fun ok s₃ h₃=> ?_) fun _ _ h'=>h')) fun _ _ h'=>h')
  cases ok with
  |false=>exact wpAny_pure ⟨rfl,h₃⟩
  |true=>
   exact wpAny_bind (wpAny_bind (wpAny_mono h₃ (fun x s₄ h₄=>wpAny_bind (wpAny_mono h₄ (fun _ s₅ h₅=>wpAny_pure (wpAny_pure ⟨rfl,h₅⟩)) fun _ _ h'=>h')) fun _ _ h'=>h'))
section
variable {X:Cx}
def tLc (wi:TI)(g:TG)(tt:TT)(te:TE)(vs:List Nat):TE:=fun σ H Q=>wi σ H fun J H1=>∀D,H1 D=none→∃W:Nat→Nat→Hp→Prop,(∃m,W 0 m (upd H1 D (.lst [])))∧∀i m H,W i m H→
 (J.stop i H∧Q (.ref D) H)∨(J.go i H∧∃Nx:Hp→Prop,(∀H',Nx H'→∃m',m' < m∧W (i + 1) m' H')∧∀x H',J.Pb i H x H'→g x (wipe σ vs) H' fun σ2 H2=>wipe σ2 vs=wipe σ vs∧tt σ2 H2 fun b H3=>
  if b=true then te σ2 H3 fun y H4=>∃acc,H4 D=some (.lst acc)∧acc.length < sizeLine∧Nx (upd H4 D (.lst (acc ++ [y]))) else Nx H3)
theorem Mn {pins:List (Addr×Obj)}{s:Shared}{σ:St}{H:Hp}{Q:VK}{elt tg iter:Expr}{ifs:List Expr}{scope:Scope}{own:List (Str×Nat)}{pos pos':Pos}{wi:TI}{g:TG}{tt:TT}{te:TE}{use:Option (Value→Sem Unit)}{Qf:Value→Shared→Prop}
  (hc:X.calm=true)(hN:X.N.Nodup)(I:Inv X pins σ H s)(hi:PI X tg iter wi)(ok:Jk X.N X.env.scope scope own)
  (hg:∀ (s:Shared)(H:Hp)(C:Addr)(cl:List (Str×Addr))(fp:List Addr),PG (X.Ge s H scope (compEnvC scope cl C X.env) fp) tg g)(ht:∀ (s:Shared)(H:Hp)(C:Addr)(cl:List (Str×Addr))(fp:List Addr),PTs (X.Ge s H scope (compEnvC scope cl C X.env) fp) ifs tt)
  (he:∀ (s:Shared)(H:Hp)(C:Addr)(cl:List (Str×Addr))(fp:List Addr),PE (X.Ge s H scope (compEnvC scope cl C X.env) fp) elt te)(hs:∀x,foldedSetIterable iter X.env x=pure x)
  (h:tLc wi g tt te (own.map (·.2)) σ H Q)
  (hRR:∀D C s' m H',Inv X pins σ H' s'→Q (.ref D) H'→s'.heap.Ns C m→AL X pins H' C→compPost (model X.prog X.w) X.A X.xe use Qf (.ref D) C (.ok .next) s'):
  wpAny (model X.prog X.w) X.A (comprehension (.ListComp elt [⟨tg,iter,ifs,0⟩] scope pos) scope X.env pos' (newList []) false (eval iter X.env) use) Qf X.xe s:=by
 have EC:∀y∈scope.names,y.2= .free→∃c,X.env.cells.lookup y.1=some c:=fun y hy e=>by
  rcases ok.free y hy e with k|k
  ·exact I.ok.has _ (.inl k)
  ·exact I.ok.has _ (.inr k)
 refine wpAny_comprehension_free (use:=use) rfl hs (KN EC) ok.kind (fun y hy e=>by rw [ok.uniq y hy,e])
  (dq (hi pins s σ H _ I h) fun xv s1 hx=>dq hx fun itv s2 h2=> ?_)
 obtain ⟨it,fp,tn,J,H2,e,I2,T,st2,f2,q⟩:=h2
 subst e
 refine wpAny_newObj_type (Jj ?_) (by show 0≤sizeLine;decide)
 generalize hD:s2.heap.objs.size=D
 have hDn:H2 D=none:=I2.cw.fresh (Nat.le_of_eq hD)
 obtain ⟨W,⟨m0,w0⟩,turn⟩:=q D hDn
 generalize hs3:({s2 with heap:=s2.heap.push {cls:= .type "list",data:= .seq ([] :List Value).toArray} }:Shared)=s3
 have I3:Inv X pins σ (upd H2 D (.lst [])) s3:=by
  rw [←hs3]
  refine I2.laid (t':=s2.toks) (fun b o e=>Heap.get?_push_of_some _ e) (Nat.le_of_eq hD) ⟨Nat.zero_le _,[],0,.nil,?_⟩
  rw [←hD]
  exact Heap.get?_push_size _ rfl
 have h3:s3.heap=s2.heap.push {cls:= .type "list",data:= .seq ([] :List Value).toArray}:=by rw [←hs3]
 have sz:∀b∈fp,b < s2.heap.objs.size:=fun b hb=>by
  obtain ⟨o,e,_⟩:=T.obj _ _ st2 b hb
  exact Heap.lt_size e
 have f3:∀b∈fp,AL X pins (upd H2 D (.lst [])) b∧b < s3.heap.objs.size:=fun b hb=>by
  have eA:=sz b hb
  refine ⟨⟨?_,(f2 b hb).2⟩,by rw [h3,Heap.size_push];exact Nat.lt_succ_of_lt eA⟩
  rw [az (by rw [←hD];exact Nat.ne_of_lt eA)]
  exact (f2 b hb).1
 have st3:tn 0 s3.heap:=T.keep _ _ _ st2 fun b _ o e=>by rw [h3];exact Heap.get?_push_of_some _ e
 have I4:=Jl I3 ok hN f3
 have pg:=hg s3 (upd H2 D (.lst [])) s3.heap.objs.size (cellsFrom (s3.heap.objs.size + 1) scope.names (cW X.env.cells scope.names [])) fp
 have pt:=ht s3 (upd H2 D (.lst [])) s3.heap.objs.size (cellsFrom (s3.heap.objs.size + 1) scope.names (cW X.env.cells scope.names [])) fp
 have pe:=he s3 (upd H2 D (.lst [])) s3.heap.objs.size (cellsFrom (s3.heap.objs.size + 1) scope.names (cW X.env.cells scope.names [])) fp
 show codeAny _ _ (.compStart (.ListComp elt [⟨tg,iter,ifs,0⟩] scope pos) 0 (.ref it) (.ref D) (compEnvC scope (cellsFrom (s3.heap.objs.size + 1) scope.names (cW X.env.cells scope.names [])) s3.heap.objs.size X.env)) (compPost (model X.prog X.w) X.A X.xe use Qf (.ref D) s3.heap.objs.size) {s3 with heap:=pushCells (s3.heap.push {cls:= .type "dict",data:= .dict #[] }) scope.names}
 have nfp:∀b∈fp,(upd H2 D (.lst [])) b=none:=fun b hb=>(f3 b hb).1.1
 generalize hce:compEnvC scope (cellsFrom (s3.heap.objs.size + 1) scope.names (cW X.env.cells scope.names [])) s3.heap.objs.size X.env=ce at I4 pg pt pe ⊢
 have cL:ce.locals=s3.heap.objs.size:=by subst hce;rfl
 generalize NL:upd H2 D (.lst [])=H3 at I3 I4 pg pt pe w0 nfp f3
 generalize hs4:({s3 with heap:=pushCells (s3.heap.push {cls:= .type "dict",data:= .dict #[] }) scope.names}:Shared)=s4 at I4 ⊢
 have st4:tn 0 s4.heap:=T.keep _ _ _ st3 fun b _ o e=>by rw [←hs4];exact pushCells_keeps _ _ _ _ (Heap.get?_push_of_some _ e)
 have stat:∀ {σ':St}{H':Hp}{s':Shared},Inv (X.Ge s3 H3 scope ce fp) [] σ' H' s'→(∀b∈fp,H' b=none)→∀b∈fp,AL (X.Ge s3 H3 scope ce fp) [] H' b:=fun {σ' H' s'} I' hn b hb=>
  ⟨hn b hb,(I'.ok.exf b hb).1,I'.ok.Po b hb,.inl hb,fun x c e=>(I'.ok.exf b hb).2 x c e,fun p hp=>absurd (show p∈([] :List (Addr×Obj)) ++ [] from hp) (by simp)⟩
 have loop:codeAny (model X.prog X.w) X.A (.compLoop (.ListComp elt [⟨tg,iter,ifs,0⟩] scope pos) 0 (.ref it) (.ref D) ce) (compPost (model X.prog X.w) X.A X.xe use Qf (.ref D) s3.heap.objs.size) s4:=by
  refine Gg (fun n s'=>∃i H',Inv (X.Ge s3 H3 scope ce fp) [] (wipe σ (own.map (·.2))) H' s'∧tn i s'.heap∧(∀b∈fp,H' b=none)∧W i n H') ?_ m0 ⟨0,H3,I4,st4,nfp,w0⟩
  rintro n s5 ⟨i,H5,I5,Zi,n5,w5⟩
  rcases turn i n H5 w5 with ⟨stop,qq⟩|⟨go,Nx,hNx,step⟩
  ·have td:=T.done (X.Ge s3 H3 scope ce fp) rfl rfl rfl hc i [] s5 _ H5 (fun _ _=>False) I5 (stat I5 n5) Zi stop
   refine NK td fun r s6 ⟨hr,I6⟩=> ?_
   subst hr
   have I7:Inv X pins σ H5 s6:=I3.ZR (ch:=fp) I6.os I6.base I6.cw I6.bare fun b hb=>⟨(f3 b hb).1.2.2.2.1,(f3 b hb).1.2.1,(f3 b hb).1.2.2.2.2.1,(f3 b hb).1.2.2.2.2.2⟩
   have nC:H5 s3.heap.objs.size=none:=by
    have z:H5 ce.locals=none:=I6.free
    rw [cL] at z
    exact z
   obtain ⟨m,hn,_⟩:=I6.loc
   have hn:s6.heap.Ns ce.locals m:=hn
   rw [cL] at hn
   exact hRR D s3.heap.objs.size s6 m H5 I7 qq hn (I3.Nz (Nat.le_refl _) nC)
  ·have ti:=T.item (X.Ge s3 H3 scope ce fp) rfl rfl rfl hc i [] s5 _ H5 (fun _ _=>False) I5 (stat I5 n5) Zi go
   refine NK ti fun r s6 ⟨u,hr,h6⟩=> ?_
   subst hr
   refine NK h6 fun _ s7 ⟨x,H7,I7,r7,y7,st7,n7⟩=> ?_
   have I7':=I7.pinned (stat I7 n7) (T.obj _ _ st7)
   refine NK (pg _ s7 _ H7 x u _ I7' r7 (step x H7 y7)) fun _ s8 ⟨σ8,H8,I8,hw8,q8⟩=> ?_
   refine NK (pt _ s8 σ8 H8 _ I8 q8) fun b s9 ⟨H9,I9,q9⟩=> ?_
   have fin:∀ {s':Shared}{H':Hp},Inv (X.Ge s3 H3 scope ce fp) ([] ++ Bz fp s7.heap) σ8 H' s'→Nx H'→∃m,m < n∧∃i H',Inv (X.Ge s3 H3 scope ce fp) [] (wipe σ (own.map (·.2))) H' s'∧tn i s'.heap∧(∀b∈fp,H' b=none)∧W i m H':=fun {s' H'} I' nx=>by
    obtain ⟨m',hm,w'⟩:=hNx H' nx
    have aay:∀b∈fp,∀o,s7.heap.get? b=some o→s'.heap.get? b=some o∧H' b=none:=fun b hb o e=>
     let z:=I'.pin (b,o) (List.mem_append_right _ (List.mem_append_right _ (vQ hb e)))
     ⟨z.1,z.2.1⟩
    have hl:(wipe σ (own.map (·.2))).length=σ8.length:=by rw [←hw8,rG]
    refine ⟨m',hm,i + 1,H',(I'.wI (pins:= [])).weak hl (fun j v e=> ?_),T.keep _ _ _ st7 fun b hb o e=>(aay b hb o e).1,fun b hb=> ?_,w'⟩
    ·rw [←hw8] at e
     exact (yW e).1
    ·obtain ⟨o,e,_⟩:=T.obj _ _ st7 b hb
     exact (aay b hb o e).2
   cases b with
   |false=>
    simp only [Bool.false_eq_true,if_false] at q9 ⊢
    exact fin I9 q9
   |true=>
    simp only [if_true] at q9 ⊢
    refine NK (pe _ s9 σ8 H9 _ I9 q9) fun z s10 ⟨yv,H10,I10,r10,acc,aix,PX,nx⟩=> ?_
    exact Wb (X:=X.Ge s3 H3 scope ce fp) I10 aix PX r10 fun s11 I11=>fin I11 nx
 exact codeAny_compStart_list loop (T.self X.A 0 _ _ _ st4 loop)
theorem Mo {elt tg iter:Expr}{ifs:List Expr}{scope:Scope}{own:List (Str×Nat)}{pos:Pos}{wi:TI}{g:TG}{tt:TT}{te:TE}(hc:X.calm=true)(hN:X.N.Nodup)(hi:PI X tg iter wi)(ok:Jk X.N X.env.scope scope own)
  (hg:∀ (s:Shared)(H:Hp)(C:Addr)(cl:List (Str×Addr))(fp:List Addr),PG (X.Ge s H scope (compEnvC scope cl C X.env) fp) tg g)(ht:∀ (s:Shared)(H:Hp)(C:Addr)(cl:List (Str×Addr))(fp:List Addr),PTs (X.Ge s H scope (compEnvC scope cl C X.env) fp) ifs tt)
  (he:∀ (s:Shared)(H:Hp)(C:Addr)(cl:List (Str×Addr))(fp:List Addr),PE (X.Ge s H scope (compEnvC scope cl C X.env) fp) elt te)(hs:∀x,foldedSetIterable iter X.env x=pure x:=by intro _;rfl):
  PE X (.ListComp elt [⟨tg,iter,ifs,0⟩] scope pos) (tLc wi g tt te (own.map (·.2))):=by
 intro pins s σ H Q I h
 rw [eval_ListComp]
 refine Mn hc hN I hi ok hg ht he hs h fun D C s' m H' I' q hn f=>⟨m,hn,fun U0 sb=> ?_⟩
 obtain ⟨f0,f1,f2,f3,f4,f5⟩:=f
 exact ⟨.ref D,H',I'.turned (t':=s'.toks) (fun b o hb e=>(sb.2 b hb).trans e) f0 f1 f3 f4 f5,rfl,q⟩
theorem BL {i:Nat}{y:Str}{py:Pos}{elt tg iter:Expr}{ifs:List Expr}{scope:Scope}{own:List (Str×Nat)}{pos aaz:Pos}{wi:TI}{g:TG}{tt:TT}{te:TE}(hc:X.calm=true)(hN:X.N.Nodup)(hy:X.N[i]?=some y)(hyl:X.env.scope.names.lookup y=some .local)
  (hsw:swapsWith (.ListComp elt [⟨tg,iter,ifs,0⟩] scope pos) (some (.Name y py)) aaz.line X.env=pure true)(hi:PI X tg iter wi)(ok:Jk X.N X.env.scope scope own)
  (hg:∀ (s:Shared)(H:Hp)(C:Addr)(cl:List (Str×Addr))(fp:List Addr),PG (X.Ge s H scope (compEnvC scope cl C X.env) fp) tg g)(ht:∀ (s:Shared)(H:Hp)(C:Addr)(cl:List (Str×Addr))(fp:List Addr),PTs (X.Ge s H scope (compEnvC scope cl C X.env) fp) ifs tt)
  (he:∀ (s:Shared)(H:Hp)(C:Addr)(cl:List (Str×Addr))(fp:List Addr),PE (X.Ge s H scope (compEnvC scope cl C X.env) fp) elt te)(hs:∀x,foldedSetIterable iter X.env x=pure x:=by intro _;rfl):
  PS X (.Assign [.Name y py] (.ListComp elt [⟨tg,iter,ifs,0⟩] scope pos) aaz) (VN (tLc wi g tt te (own.map (·.2))) (Ma i)):=by
 intro pins s σ H D I h
 rw [exec_Assign_Name_used _ _ _ _ hsw]
 refine wpAny_bind (wpAny_standAt (wpAny_bind ?_))
 show wpAny _ X.A (do let _←comprehension (.ListComp elt [⟨tg,iter,ifs,0⟩] scope pos) scope X.env (firstIterPos [⟨tg,iter,ifs,0⟩] pos) (newList []) false (eval iter X.env) (some (assign (.Name y py) X.env))) _ _ s
 have h:tLc wi g tt te (own.map (·.2)) σ H (fun x H1=>Ma i x σ H1 D.nx):=h
 refine wpAny_bind (dq (Mn (Qf:=fun _ s'=>SP X pins D .next s') hc hN I hi ok hg ht he hs h fun L C s' m H' I' q hn f=> ?_) fun _ s' hq=>wpAny_pure (wpAny_pure hq))
 show wpAny _ _ (assign (.Name y py) X.env (.ref L)) _ _ _
 refine wpAny_assign_Name (EB (v:=V.ref L) I' hN hy (.inl hyl) rfl (fun s2 I2 ⟨a,sb,ha⟩=> ?_) (.inr hyl))
 obtain ⟨f0,f1,f2,f3,f4,f5⟩:=f
 have haC:C≠a:=by
  rcases ha with z|z
  ·rw [z];exact f1
  ·exact fun e=>f4 y a z e.symm
 refine ⟨m,hn.sameBut sb haC,fun h3 sb3=> ?_⟩
 exact ⟨_,H',I2.turned (t':=s2.toks) (fun b o hb e=>(sb3.2 b hb).trans e) f0 f1 f3 f4 f5,q⟩
theorem Gh {elt:Expr}{gs:List Comprehension}{scope:Scope}{pos py:Pos}{y:Str}{l:Nat}{env:Env}(hk:env.scope.kind= .function)(hy:env.scope.names.lookup y=some .local)(hl:(py.line==pos.line)=true)
  (ha:(scope.names.any fun (n,k)=>n==y && (k== .local||k== .cell))=false):swapsWith (.ListComp elt gs scope pos) (some (.Name y py)) l env=pure true:=by
 have ky:env.kindOf y=some .local:=hy
 have hb:env.blockKind= .function:=by unfold Env.blockKind;rw [hk];rfl
 unfold swapsWith
 simp only [hb,ky,ha,Expr.pos,hl]
 rfl
end
theorem Gi {K:PySem.W.Frag}{a:Addr}{xs:List V}{g:TG}{tt:TT}{te:TE}{vs:List Nat}{σ:St}{H1:Hp}{D:Addr}{Qd:Hp→Prop}(Pv:Nat→Hp→Prop)(h0:Pv 0 (upd H1 D (.lst [])))(hl:∀i H,i≤xs.length→Pv i H→cK K H a xs)
  (hs:∀i x H,xs[i]?=some x→Pv i H→g x (wipe σ vs) H fun σ2 H2=>wipe σ2 vs=wipe σ vs∧tt σ2 H2 fun b H3=>
   if b=true then te σ2 H3 fun y H4=>∃acc,H4 D=some (.lst acc)∧acc.length < sizeLine∧Pv (i + 1) (upd H4 D (.lst (acc ++ [y]))) else Pv (i + 1) H3)(hd:∀H,Pv xs.length H→Qd H):
  ∃W:Nat→Nat→Hp→Prop,(∃m,W 0 m (upd H1 D (.lst [])))∧∀i m H,W i m H→
   ((US K a).stop i H∧Qd H)∨((US K a).go i H∧∃Nx:Hp→Prop,(∀H',Nx H'→∃m',m' < m∧W (i + 1) m' H')∧∀x H',(US K a).Pb i H x H'→g x (wipe σ vs) H' fun σ2 H2=>wipe σ2 vs=wipe σ vs∧tt σ2 H2 fun b H3=>
    if b=true then te σ2 H3 fun y H4=>∃acc,H4 D=some (.lst acc)∧acc.length < sizeLine∧Nx (upd H4 D (.lst (acc ++ [y]))) else Nx H3):=by
 refine ⟨fun i m H=>m=xs.length - i∧i≤xs.length∧Pv i H,⟨xs.length,by simp,Nat.zero_le _,h0⟩,?_⟩
 rintro i m H ⟨rfl,hi,p⟩
 have q:=hl i H hi p
 by_cases eA:i < xs.length
 ·refine .inr ⟨⟨xs,xs[i],q,by simp [eA]⟩,Pv (i + 1),fun H' p'=>⟨xs.length - (i + 1),by omega,rfl,eA,p'⟩,fun x H' y=> ?_⟩
  obtain ⟨e,y⟩:=y
  subst e
  exact hs i x _ (y xs q) p
 ·have e:i=xs.length:=by omega
  subst e
  exact .inl ⟨⟨xs,q,Nat.le_refl _⟩,hd H p⟩
def Gj (N:List Str)(sc scope:Scope)(own:List (Str×Nat)):Bool:=
 (match scope.kind with| .function=>true|_=>false) && (scope.names.all fun y=>decide (scope.names.lookup y.1=some y.2)) && (own.all fun p=>decide (N[p.2]?=some p.1)) &&
  (scope.names.all fun y=>match y.2 with
   | .free=>(match sc.names.lookup y.1 with|some .cell=>true|some .free=>true|_=>false)
   | .local=>decide (y.1∈own.map (·.1))||decide (y.1 ∉ N)
   | .cell=>decide (y.1∈own.map (·.1))||decide (y.1 ∉ N)
   |_=>true)
theorem lU {N:List Str}{sc scope:Scope}{own:List (Str×Nat)}(h:Gj N sc scope own=true):Jk N sc scope own:=by
 unfold Gj at h
 simp only [Bool.and_eq_true,List.all_eq_true,decide_eq_true_eq] at h
 obtain ⟨⟨⟨h1,h2⟩,h3⟩,h4⟩:=h
 refine ⟨?_,h2,h3,fun y hy e=> ?_,fun y hy e=> ?_⟩
 ·split at h1
  ·assumption
  ·cases h1
 ·have q:=h4 y hy
  simp only [e] at q
  split at q <;>first|exact .inl (by assumption)|exact .inr (by assumption)|cases q
 ·have q:=h4 y hy
  rcases e with e|e <;>(simp only [e,Bool.or_eq_true,decide_eq_true_eq] at q;exact q)
end L2
namespace L2
open PySem PySem.Spec PyProof.Rows
section
variable {prog:Program}{w:World}{A:Around}{R:Result→Shared→Prop}{s:Shared}{elt t0 i0 t1 i1:Expr}{atx aty:List Expr}{scope:Scope}{pos:Pos}{it acc:Value}{env:Env}
end
section
variable {X:Cx}
end
end L2
namespace L2
open PySem PySem.Spec PyProof.Rows
section
variable {κ:Type} [DecidableEq κ]
def dz (kvs:List (κ×V))(k:κ):Option V:=(kvs.find? fun kv=>decide (kv.1=k)).map (·.2)
def putK (kvs:List (κ×V))(k:κ)(v:V):List (κ×V):=
 if (kvs.any fun kv=>decide (kv.1=k))=true then kvs.map (fun kv=>if kv.1=k then (kv.1,v) else kv) else kvs ++ [(k,v)]
def BM (kvs:List (κ×V))(k:κ):List (κ×V):=kvs.filter fun kv=>decide (kv.1≠k)
theorem c9 {p:κ×V}{r:List (κ×V)}{k:κ}(e:p.1=k):dz (p::r) k=some p.2:=by simp [dz,List.find?_cons,e]
theorem da {p:κ×V}{r:List (κ×V)}{k:κ}(e:¬p.1=k):dz (p::r) k=dz r k:=by simp [dz,List.find?_cons,e]
theorem lV (k:κ):∀kvs:List (κ×V),(kvs.any fun kv=>decide (kv.1=k))=(dz kvs k).isSome
 | [] =>rfl
 |p::r=>by
  rw [List.any_cons]
  by_cases e:p.1=k
  ·simp only [c9 e,decide_eq_true e,Bool.true_or,Option.isSome_some]
  ·rw [da e,decide_eq_false e,Bool.false_or];exact lV k r
theorem Jn (k j:κ)(y:V):∀kvs:List (κ×V),dz (kvs.map fun kv=>if kv.1=k then (kv.1,y) else kv) j=(dz kvs j).map fun x=>if j=k then y else x
 | [] =>rfl
 |p::r=>by
  have ih:=Jn k j y r
  rw [List.map_cons]
  by_cases h:p.1=k
  ·rw [if_pos h]
   by_cases e:p.1=j
   ·rw [c9 (p:=(p.1,y)) e,c9 e,Option.map_some,if_pos (e.symm.trans h)]
   ·rw [da (p:=(p.1,y)) e,da e,ih]
  ·rw [if_neg h]
   by_cases e:p.1=j
   ·rw [c9 (p:=p) e,c9 e,Option.map_some,if_neg (fun z=>h (e.trans z))]
   ·rw [da (p:=p) e,da e,ih]
theorem ES (k j:κ)(y:V):∀kvs:List (κ×V),dz kvs k=none→dz (kvs ++ [(k,y)]) j=if j=k then some y else dz kvs j
 | [],_=>by
  by_cases e:k=j
  ·rw [if_pos e.symm];exact c9 (p:=(k,y)) e
  ·rw [if_neg (fun z=>e z.symm)];exact da (p:=(k,y)) e
 |p::r,hn=>by
  rw [List.cons_append]
  have hk:¬p.1=k:=fun z=>by rw [c9 z] at hn;cases hn
  rw [da hk] at hn
  have ih:=ES k j y r hn
  by_cases e:p.1=j
  ·rw [c9 e,c9 e,if_neg (fun z=>hk (e.trans z))]
  ·rw [da e,da e,ih]
theorem PY (kvs:List (κ×V))(k j:κ)(y:V):dz (putK kvs k y) j=if j=k then some y else dz kvs j:=by
 unfold putK
 by_cases a:(kvs.any fun kv=>decide (kv.1=k))=true
 ·rw [if_pos a,Jn]
  rw [lV] at a
  by_cases e:j=k
  ·obtain ⟨x,hx⟩:=Option.isSome_iff_exists.mp a
   rw [if_pos e,e,hx,Option.map_some,if_pos rfl]
  ·rw [if_neg e]
   cases dz kvs j with
   |none=>rfl
   |some x=>rw [Option.map_some,if_neg e]
 ·rw [if_neg a]
  refine ES k j y kvs ?_
  rw [lV] at a
  cases q:dz kvs k with
  |none=>rfl
  |some x=>rw [q] at a;exact (a rfl).elim
theorem rH (kvs:List (κ×V))(k:κ)(v:V):(putK kvs k v).length≤kvs.length + 1:=by
 unfold putK
 split
 ·rw [List.length_map];omega
 ·rw [List.length_append,List.length_cons,List.length_nil];omega
theorem PZ {kvs:List (κ×V)}{k:κ}(v:V)(h:dz kvs k=none):putK kvs k v=kvs ++ [(k,v)] :=by
 unfold putK
 rw [lV,h]
 exact if_neg (by decide)
theorem uY.oQ {o:Option V}{u:Option Value}(r:uY o u):o.isSome=u.isSome:=by
 cases o with
 |none=>cases u with
  |none=>rfl
  |some _=>exact (show False from r).elim
 |some _=>cases u with
  |none=>exact (show False from r).elim
  |some _=>rfl
theorem uY.getD {o:Option V}{u:Option Value}{d:V}{d':Value}(r:uY o u)(rd:RelV d d'):RelV (o.getD d) (u.getD d'):=by
 cases o with
 |none=>cases u with
  |none=>exact rd
  |some _=>exact (show False from r).elim
 |some _=>cases u with
  |none=>exact (show False from r).elim
  |some _=>exact r
theorem KV.val {kvs:List (κ×V)}{vs:List (κ×Value)}(r:KV kvs vs)(k:κ):uY (dz kvs k) (valueAt vs k):=by
 unfold KV at r
 induction r with
 |nil=>exact True.intro
 | @cons p q ps qs h t ih=>
  obtain ⟨h1,h2⟩:=h
  by_cases e:p.1=k
  ·have e':q.1=k:=h1.symm.trans e
   have b:valueAt (q::qs) k=some q.2:=by simp [valueAt,List.find?_cons,e']
   rw [c9 e,b];exact h2
  ·have e':¬q.1=k:=fun z=>e (h1.trans z)
   have b:valueAt (q::qs) k=valueAt qs k:=by simp [valueAt,List.find?_cons,e']
   rw [da e,b];exact ih
theorem KV.any {kvs:List (κ×V)}{vs:List (κ×Value)}(r:KV kvs vs)(k:κ):(kvs.any fun kv=>decide (kv.1=k))=vs.any fun kv=>decide (kv.1=k):=by
 unfold KV at r
 induction r with
 |nil=>rfl
 |cons h t ih=>rw [List.any_cons,List.any_cons,ih,h.1]
theorem KV.Wc {kvs:List (κ×V)}{vs:List (κ×Value)}(r:KV kvs vs)(k:κ){y:V}{u:Value}(ry:RelV y u):
  KV (kvs.map fun kv=>if kv.1=k then (kv.1,y) else kv) (vs.map fun kv=>if kv.1=k then (kv.1,u) else kv):=by
 unfold KV at r ⊢
 induction r with
 |nil=>exact .nil
 | @cons p q ps qs h t ih=>
  rw [List.map_cons,List.map_cons]
  refine .cons ?_ ih
  obtain ⟨h1,h2⟩:=h
  by_cases e:p.1=k
  ·rw [if_pos e,if_pos (h1.symm.trans e)];exact ⟨h1,ry⟩
  ·rw [if_neg e,if_neg (fun z=>e (h1.trans z))];exact ⟨h1,h2⟩
theorem KV.put {kvs:List (κ×V)}{vs:List (κ×Value)}(r:KV kvs vs)(k:κ){y:V}{u:Value}(ry:RelV y u):KV (putK kvs k y) (stored vs k u):=by
 unfold putK stored
 rw [r.any k]
 by_cases e:(vs.any fun kv=>decide (kv.1=k))=true
 ·rw [if_pos e,if_pos e];exact r.Wc k ry
 ·rw [if_neg e,if_neg e];exact Paired.snoc r ⟨rfl,ry⟩
theorem KV.keys {kvs:List (κ×V)}{vs:List (κ×Value)}(r:KV kvs vs):kvs.map (·.1)=vs.map (·.1):=by
 unfold KV at r
 induction r with
 |nil=>rfl
 |cons h t ih=>rw [List.map_cons,List.map_cons,ih,h.1]
theorem KV.length {kvs:List (κ×V)}{vs:List (κ×Value)}(r:KV kvs vs):kvs.length=vs.length:=Paired.length r
theorem P0 (kvs:List (κ×V))(k:κ):(BM kvs k).length≤kvs.length:=List.length_filter_le _ _
end
theorem z6 {P:Program}{w:World}{k:Key}{u:Value}(r:RelV (kV k) u):(bZ P w).is k u=true:=by
 cases k with
 |inl i=>obtain ⟨t,e⟩:=(show ∃t,u=Value.int i t from r);subst e;exact zW P w i t
 |inr x=>obtain ⟨t,e⟩:=(show ∃t,u=Value.str x t from r);subst e;exact IX P w x t
theorem ET {P:Program}{w:World}:∀ {ks:List Key}{us:List Value},Vals (ks.map kV) us→ItemsAre (bZ P w) ks us
 | [],_,r=>by rw [List.map_nil] at r;cases r;exact .nil
 |k::ks,_,r=>by
  rw [List.map_cons] at r
  cases r with
  |cons h t=>exact .cons (z6 h) (ET t)
abbrev KT (H:Hp):List (List Key×V)→List (List Key×Addr×Value)→Prop:=Paired fun p q=>p.1=q.1∧H q.2.1=some (.tup (p.1.map kV))∧RelV p.2 q.2.2
theorem KT.val {H:Hp}{kvs:List (List Key×V)}{xs:List (List Key×Addr×Value)}(r:KT H kvs xs)(k:List Key):uY (dz kvs k) ((atKey xs k).map (·.2)):=by
 induction r with
 |nil=>exact True.intro
 | @cons p q ps qs h t ih=>
  obtain ⟨h1,_,h2⟩:=h
  by_cases e:p.1=k
  ·have e':q.1=k:=h1.symm.trans e
   have b:atKey (q::qs) k=some q.2:=by simp [atKey,List.find?_cons,e']
   rw [c9 e,b];exact h2
  ·have e':¬q.1=k:=fun z=>e (h1.trans z)
   have b:atKey (q::qs) k=atKey qs k:=by simp [atKey,List.find?_cons,e']
   rw [da e,b];exact ih
theorem KT.Wc {H:Hp}{kvs:List (List Key×V)}{xs:List (List Key×Addr×Value)}(r:KT H kvs xs)(k:List Key){y:V}{u:Value}(ry:RelV y u):
  KT H (kvs.map fun kv=>if kv.1=k then (kv.1,y) else kv) (xs.map (putAt k u)):=by
 induction r with
 |nil=>exact .nil
 | @cons p q ps qs h t ih=>
  rw [List.map_cons,List.map_cons]
  refine .cons ?_ ih
  obtain ⟨h1,h2,h3⟩:=h
  unfold putAt
  by_cases e:p.1=k
  ·rw [if_pos e,if_pos (h1.symm.trans e)];exact ⟨h1,h2,ry⟩
  ·rw [if_neg e,if_neg (fun z=>e (h1.trans z))];exact ⟨h1,h2,h3⟩
theorem KT.put {H:Hp}{kvs:List (List Key×V)}{xs:List (List Key×Addr×Value)}(r:KT H kvs xs)(k:List Key){b:Addr}{y:V}{u:Value}(hb:H b=some (.tup (k.map kV)))(ry:RelV y u):
  KT H (putK kvs k y) (storedH xs k b u):=by
 have e:(kvs.any fun kv=>decide (kv.1=k))=(atKey xs k).isSome:=by
  rw [lV,(r.val k).oQ,Option.isSome_map]
 unfold putK storedH
 rw [e]
 by_cases q:(atKey xs k).isSome=true
 ·rw [if_pos q,if_pos q];exact r.Wc k ry
 ·rw [if_neg q,if_neg q];exact Paired.snoc r ⟨rfl,hb,ry⟩
theorem KT.keeps {H H':Hp}{kvs:List (List Key×V)}{xs:List (List Key×Addr×Value)}(r:KT H kvs xs)(ht:∀b ys,H b=some (.tup ys)→H' b=some (.tup ys)):KT H' kvs xs:=
 Paired.cN r fun _ _ z=>⟨z.1,ht _ _ z.2.1,z.2.2⟩
section
variable {P:Program}{w:World}{H:Hp}{h:Heap}{a:Addr}
theorem Va {u:HO}(ok:rp P w H h)(e:Rd H a u):d6 P w H h a u:=e.ok ok
theorem wR {kvs:List (Key×V)}(ok:rp P w H h)(e:Rd H a (.dK kvs)):kvs.length≤sizeLine∧(a==sysModules)=false∧∃vs,KV kvs vs∧h.DictOf (bZ P w) a vs:=
 show d6 P w H h a (.dK kvs) from Va ok e
theorem Vb {kvs:List (Key×V)}(ok:rp P w H h)(e:H a=some (.dK kvs)):kvs.length≤sizeLine∧(a==sysModules)=false∧∃vs,KV kvs vs∧h.DictOf (bZ P w) a vs:=wR ok (.inl e)
theorem rJ {ks:List Key}(ok:rp P w H h)(e:H a=some (.tup (ks.map kV))):(tupleKind (bZ P w)).is h ks a:=by
 obtain ⟨_,bf,r,o,h1,h2,n,h3⟩:=(show d6 P w H h a (.tup (ks.map kV)) from ok a _ e)
 exact ⟨o,bf.toArray,n,h1,h2,h3,by simpa using ET r⟩
theorem z7 {kvs:List (List Key×V)}(ok:rp P w H h)(e:Rd H a (.dT kvs)):kvs.length≤sizeLine∧(a==sysModules)=false∧
  ∃xs,KT H kvs xs∧h.DictOfH (tupleKind (bZ P w)) a xs:=by
 obtain ⟨z,y,xs,r,o,es,ep,h1,h2,h3,h4,h5⟩:=(show d6 P w H h a (.dT kvs) from Va ok e)
 refine ⟨z,y,xs,r,o,es,ep,h1,h2,h3,h4,fun x hx=> ?_,h5⟩
 have all:∀ {l:List (List Key×V)}{m:List (List Key×Addr×Value)},KT H l m→∀x∈m,(tupleKind (bZ P w)).is h x.1 x.2.1:=by
  intro l m q
  induction q with
  |nil=>intro x hx;exact nomatch hx
  | @cons p q ps qs hq t ih=>
   intro x hx
   rcases List.mem_cons.mp hx with e|hx
   ·subst e
    exact rJ ok (by rw [←hq.1];exact hq.2.1)
   ·exact ih x hx
 exact all r x hx
theorem Vc {kvs:List (List Key×V)}(ok:rp P w H h)(e:H a=some (.dT kvs)):kvs.length≤sizeLine∧(a==sysModules)=false∧
  ∃xs,KT H kvs xs∧h.DictOfH (tupleKind (bZ P w)) a xs:=z7 ok (.inl e)
end
def gC (H:Hp)(a:Addr)(y:V)(r:Option V):Prop:=
 (∃kvs k,Rd H a (.dK kvs)∧y=kV k∧r=dz kvs k)∨∃kvs k b,Rd H a (.dT kvs)∧y= .ref b∧H b=some (.tup (k.map kV))∧r=dz kvs k
def BN (H:Hp)(a:Addr)(y v:V)(H':Hp):Prop:=
 (∃kvs k,H a=some (.dK kvs)∧y=kV k∧kvs.length < sizeLine∧H'=upd H a (.dK (putK kvs k v)))∨
 ∃kvs k b,H a=some (.dT kvs)∧y= .ref b∧H b=some (.tup (k.map kV))∧kvs.length < sizeLine∧H'=upd H a (.dT (putK kvs k v))
theorem gC.k {H:Hp}{a:Addr}{kvs:List (Key×V)}{k:Key}(e:H a=some (.dK kvs)):gC H a (kV k) (dz kvs k):= .inl ⟨kvs,k,.inl e,rfl,rfl⟩
theorem gC.t {H:Hp}{a b:Addr}{kvs:List (List Key×V)}{k:List Key}(e:H a=some (.dT kvs))(eb:H b=some (.tup (k.map kV))):gC H a (.ref b) (dz kvs k):= .inr ⟨kvs,k,b,.inl e,rfl,eb,rfl⟩
theorem BN.k {H:Hp}{a:Addr}{kvs:List (Key×V)}{k:Key}{v:V}(e:H a=some (.dK kvs))(hl:kvs.length < sizeLine):BN H a (kV k) v (upd H a (.dK (putK kvs k v))):= .inl ⟨kvs,k,e,rfl,hl,rfl⟩
theorem BN.t {H:Hp}{a b:Addr}{kvs:List (List Key×V)}{k:List Key}{v:V}(e:H a=some (.dT kvs))(eb:H b=some (.tup (k.map kV)))(hl:kvs.length < sizeLine):
  BN H a (.ref b) v (upd H a (.dT (putK kvs k v))):= .inr ⟨kvs,k,b,e,rfl,eb,hl,rfl⟩
section
variable {X:Cx}{pins:List (Addr×Obj)}{σ:St}{H:Hp}{s:Shared}{a:Addr}{y v:V}{u r:Value}{o:Option V}{A:Around}{E:Value→Shared→Prop}
theorem Inv.big (I:Inv X pins σ H s):sysModules < s.heap.objs.size:=by
 have h:mainGlobals < s.heap.objs.size:=(I.mod.glob.keeps I.bk).lt
 exact Nat.lt_trans (by decide) h
theorem NM {Q:Value→Shared→Prop}(hu:A.units + 1 < cLine)(I:Inv X pins σ H s)(g:gC H a y (some v))(ry:RelV y u)(h:∀w' s',Inv X pins σ H s'→RelV v w'→Q w' s'):
  wpAny (model X.prog X.w) A (getItem (.ref a) u) Q E s:=by
 rcases g with ⟨kvs,k,e,ey,l⟩|⟨kvs,k,b,e,ey,eb,l⟩
 ·subst ey
  obtain ⟨z,hd,vs,rel,dd⟩:=wR I.cw e
  obtain ⟨w',hw,FX⟩:=uY.some_of (v:=v) (o:=valueAt vs k) (by rw [l];exact rel.val k)
  exact wpAny_getItem_of (z6 ry) dd.mapOf hw (h w' _ (I.tok _) FX)
 ·subst ey
  cases (show u=Value.ref b from ry)
  obtain ⟨z,hd,xs,rel,dd⟩:=z7 I.cw e
  obtain ⟨w',hw,FX⟩:=uY.some_of (v:=v) (o:=(atKey xs k).map (·.2)) (by rw [l];exact rel.val k)
  obtain ⟨p,hp,hp2⟩:=Option.map_eq_some_iff.mp hw
  refine wpAny_getItem_heap (tupleKind_room_in1 hu) (rJ I.cw eb) dd hp ?_
  rw [hp2]
  exact h w' _ (I.tok _) FX
theorem aiy {Q:Value→Shared→Prop}(hu:A.units + 1 < cLine)(I:Inv X pins σ H s)(g:gC H a y o)(ry:RelV y u)(h:∀s',Inv X pins σ H s'→Q (.bool o.isSome) s'):
  wpAny (model X.prog X.w) A (compareOp .In u (.ref a)) Q E s:=by
 rcases g with ⟨kvs,k,e,ey,l⟩|⟨kvs,k,b,e,ey,eb,l⟩
 ·subst ey
  obtain ⟨z,hd,vs,rel,dd⟩:=wR I.cw e
  refine wpAny_in_of (z6 ry) hd dd.mapOf ?_
  rw [←(rel.val k).oQ,←l]
  exact h _ (I.tok _)
 ·subst ey
  cases (show u=Value.ref b from ry)
  obtain ⟨z,hd,xs,rel,dd⟩:=z7 I.cw e
  refine wpAny_in_heap (tupleKind_room_in1 hu) (rJ I.cw eb) hd dd ?_
  have q:=(rel.val k).oQ
  rw [Option.isSome_map] at q
  rw [←q,←l]
  exact h _ (I.tok _)
theorem Th {Q:Value→Shared→Prop}(hu:A.units + 1 < cLine)(I:Inv X pins σ H s)(g:gC H a y o)(ry:RelV y u)(h:∀s',Inv X pins σ H s'→Q (.bool (!o.isSome)) s'):
  wpAny (model X.prog X.w) A (compareOp .NotIn u (.ref a)) Q E s:=by
 rcases g with ⟨kvs,k,e,ey,l⟩|⟨kvs,k,b,e,ey,eb,l⟩
 ·subst ey
  obtain ⟨z,hd,vs,rel,dd⟩:=wR I.cw e
  refine wpAny_notIn_of (z6 ry) hd dd.mapOf ?_
  rw [←(rel.val k).oQ,←l]
  exact h _ (I.tok _)
 ·subst ey
  cases (show u=Value.ref b from ry)
  obtain ⟨z,hd,xs,rel,dd⟩:=z7 I.cw e
  refine wpAny_notIn_heap (tupleKind_room_in1 hu) (rJ I.cw eb) hd dd ?_
  have q:=(rel.val k).oQ
  rw [Option.isSome_map] at q
  rw [←q,←l]
  exact h _ (I.tok _)
theorem Gk {h':Heap}{t':Nat}{ob:HO}(I:Inv X pins σ H s)(mu:UN (H a))(hs:Heap.SameBut a s.heap h')(he:∃q,h'.get? a=some q)(new:d6 X.prog X.w (upd H a ob) h' a ob):
  Inv X pins σ (upd H a ob) {s with heap:=h',toks:=t'}:=
 I.write (x:=a) (e:=a) mu (.inl rfl) (fun b q hb z=>(hs.2 b hb).trans z) he new
theorem Wd {P:Program}{w:World}{H':Hp}{h':Heap}{kvs:List (Key×V)}{vs:List (Key×Value)}(z:kvs.length≤sizeLine)(hd:(a==sysModules)=false)(rel:KV kvs vs)(dd:h'.DictOf (bZ P w) a vs):
  d6 P w H' h' a (.dK kvs):=⟨z,hd,vs,rel,dd⟩
theorem NN {H':Hp}{Q:Unit→Shared→Prop}(hu:A.units + 1 < cLine)(I:Inv X pins σ H s)(g:BN H a y v H')(ry:RelV y u)(rv:RelV v r)(h:∀s',Inv X pins σ H' s'→Q () s'):
  wpAny (model X.prog X.w) A (setItem (.ref a) u r) Q E s:=by
 rcases g with ⟨kvs,k,e,ey,l,eH⟩|⟨kvs,k,b,e,ey,eb,l,eH⟩
 ·subst ey eH
  obtain ⟨z,hd,vs,rel,dd⟩:=Vb I.cw e
  have hz:vs.length≤sizeLine:=by rw [←rel.length];exact z
  have hl:(putK kvs k v).length≤sizeLine:=by have:=rH kvs k v;omega
  refine wpAny_setItem_pairs (hsz:=hz) (z6 ry) dd fun h' Zn hs=>h _ ?_
  have he:∃q,h'.get? a=some q:=let ⟨q,_,_,hq,_⟩:=Zn;⟨q,hq⟩
  exact Gk I (by rw [e];exact True.intro) hs he (Wd hl hd (rel.put k rv) Zn)
 ·subst ey eH
  cases (show u=Value.ref b from ry)
  obtain ⟨z,hd,xs,rel,dd⟩:=Vc I.cw e
  have hz:xs.length≤sizeLine:=by rw [←Paired.length rel];exact z
  have hl:(putK kvs k v).length≤sizeLine:=by have:=rH kvs k v;omega
  refine wpAny_setItem_heap (hsz:=hz) (tupleKind_room_in1 hu) (rJ I.cw eb) dd fun h' Zn hs=>h _ ?_
  obtain ⟨q,es,ep,hq,h2,h3,h4,_,h5⟩:=Zn
  refine Gk I (by rw [e];exact True.intro) hs ⟨q,hq⟩ ⟨hl,hd,_,(rel.put k eb rv).keeps fun c ys ec=> ?_,q,es,ep,hq,h2,h3,h4,h5⟩
  rw [az (bh ec e (fun z=>nomatch z))]
  exact ec
end
section
variable {X:Cx}{pins:List (Addr×Obj)}{σ:St}{H:Hp}{s:Shared}{a:Addr}{kvs:List (Key×V)}{k:Key}{u:Value}{A:Around}{E:Value→Shared→Prop}
theorem aaA {Q:Value→Shared→Prop}(I:Inv X pins σ H s)(e:Rd H a (.dK kvs))(h:∀t s',Inv X pins σ H s'→Q (.int kvs.length t) s'):wpAny (model X.prog X.w) A (call (.builtin "len") [.ref a]) Q E s:=by
 obtain ⟨z,hd,vs,rel,dd⟩:=wR I.cw e
 refine call_len_dict hd dd (by rw [←rel.length];rw [sizeLine_eq] at z;omega) ?_
 rw [←rel.length]
 exact h _ _ (I.tok _)
end
def Ti (i:Expr):Prop:=∀ov iv,subscripted i false ov iv=operate [ov,iv] (getItem ov iv)
theorem Gm {prog:Program}{w:World}{A:Around}{E:Value→Shared→Prop}{s:Shared}{env:Env}{value slice:Expr}{pos:Pos}{T id:String}{Q:Value→Shared→Prop}
  (hl:typeLookup (.type T) "__getitem__"=pure (some (.builtin id)))(hs:Ti slice)
  (h:wpAny (model prog w) A (eval value env) (fun o s₁=>wpAny (model prog w) A (eval slice env) (fun i s₂=>s₂.TypeIs o T∧wpAny (model prog w) A (getItem o i) Q E s₂) E s₁) E s):
  wpAny (model prog w) A (eval (.Subscript value slice pos) env) Q E s:=by
 refine Subscript_ (wpAny_mono h (fun o s₁ h₁=>wpAny_mono h₁ (fun i s₂ h₂=> ?_) fun _ _ x=>x) fun _ _ x=>x)
 obtain ⟨hT,h₂⟩:=h₂
 unfold subscriptTail
 refine wpAny_bind ?_
 rw [getitemInPython_of_ne hT.not_modules]
 refine wpAny_bind (wpAny_specialOf hT hl ?_)
 have fin:wpAny (model prog w) A (subscripted slice false o i) (fun r s₃=>wpAny (model prog w) A (letTemporaryGo value o r >>=fun _=>pure r) Q E s₃) E s₂:=by
  rw [hs o i]
  exact wpAny_operating (wpAny_mono h₂ (fun r s₃ h₃=>wpAny_bind (wpAny_letTemporaryGo (wpAny_pure h₃))) fun _ _ x=>x)
 first
  |exact wpAny_pure (wpAny_bind fin)
  |exact wpAny_bind (wpAny_pure (wpAny_bind fin))
  |exact wpAny_bind fin
theorem Jo {X:Cx}{pins:List (Addr×Obj)}{σ:St}{H:Hp}{s:Shared}{a:Addr}{y:V}{o:Option V}(I:Inv X pins σ H s)(g:gC H a y o):s.TypeIs (.ref a) "dict":=by
 rcases g with ⟨kvs,k,e,_,_⟩|⟨kvs,k,b,e,_,_,_⟩
 ·obtain ⟨_,_,vs,_,dd⟩:=wR I.cw e
  exact dd.typeIs
 ·obtain ⟨_,_,xs,_,dd⟩:=z7 I.cw e
  exact dd.typeIs
def aaB (td ty:TE):TE:=fun σ H Q=>td σ H fun x H1=>ty σ H1 fun y H2=>∃a v,x= .ref a∧gC H2 a y (some v)∧Q v H2
def aiz (ty td:TE):TE:=fun σ H Q=>ty σ H fun y H1=>td σ H1 fun x H2=>∃a o,x= .ref a∧gC H2 a y o∧Q (.bl o.isSome) H2
def Tj (ty td:TE):TE:=fun σ H Q=>ty σ H fun y H1=>td σ H1 fun x H2=>∃a o,x= .ref a∧gC H2 a y o∧Q (.bl (!o.isSome)) H2
def aaC (td ty tv:TE):TS:=fun D σ H=>tv σ H fun v H1=>td σ H1 fun x H2=>ty σ H2 fun y H3=>∃a H4,x= .ref a∧BN H3 a y v H4∧D.nx σ H4
section
variable {X:Cx}{o i e value:Expr}{pos pos' BI:Pos}{td ty tv:TE}
theorem Gn (hu:X.A.units + 1 < cLine)(ho:PE X o td)(hi:PE X i ty)(hs:Ti i):PE X (.Subscript o i pos) (aaB td ty):=by
 intro pins s σ H Q I h
 refine Gm PySem.F.slot_dict_getitem.lookup hs (dq (ho pins s σ H _ I h) fun u s1 ⟨x,H1,I1,rx,q1⟩=>dq (hi pins s1 σ H1 _ I1 q1) fun iv s2 ⟨y,H2,I2,ry,a,v,ex,g,q2⟩=> ?_)
 subst ex
 obtain rfl:u=Value.ref a:=rx
 exact ⟨Jo I2 g,NM hu I2 g ry fun w' s3 I3 FX=>⟨v,H2,I3,FX,q2⟩⟩
theorem Gp (hu:X.A.units + 1 < cLine)(hi:PE X i ty)(ho:PE X o td):PC X .In i o (aiz ty td):=by
 intro pins s σ H Q I h
 refine dq (hi pins s σ H _ I h) fun iv s1 ⟨y,H1,I1,ry,q1⟩=>dq (ho pins s1 σ H1 _ I1 q1) fun u s2 ⟨x,H2,I2,rx,a,ov,ex,g,q2⟩=> ?_
 subst ex
 obtain rfl:u=Value.ref a:=rx
 exact aiy hu I2 g ry fun s3 I3=>⟨.bl ov.isSome,H2,I3,rfl,q2⟩
theorem yX (hu:X.A.units + 1 < cLine)(hi:PE X i ty)(ho:PE X o td):PC X .NotIn i o (Tj ty td):=by
 intro pins s σ H Q I h
 refine dq (hi pins s σ H _ I h) fun iv s1 ⟨y,H1,I1,ry,q1⟩=>dq (ho pins s1 σ H1 _ I1 q1) fun u s2 ⟨x,H2,I2,rx,a,ov,ex,g,q2⟩=> ?_
 subst ex
 obtain rfl:u=Value.ref a:=rx
 exact Th hu I2 g ry fun s3 I3=>⟨.bl (!ov.isSome),H2,I3,rfl,q2⟩
theorem A2 (hu:X.A.units + 1 < cLine)(ho:PE X o td)(hi:PE X i ty)(hv:PE X value tv)(hs:swapsWith value (some (.Subscript o i pos')) pos.line X.env=pure false):
  PS X (.Assign [.Subscript o i pos'] value pos) (aaC td ty tv):=by
 intro pins s σ H D I h
 refine wpAny_Assign_Subscript (dq (hv pins s σ H _ I h) fun r s1 ⟨v,H1,I1,rv,q1⟩=>dq (ho pins s1 σ H1 _ I1 q1) fun u s2 ⟨x,H2,I2,rx,q2⟩=>dq (hi pins s2 σ H2 _ I2 q2) fun iv s3 ⟨y,H3,I3,ry,a,H4,ex,g,q3⟩=> ?_) hs
 subst ex
 obtain rfl:u=Value.ref a:=rx
 exact NN hu I3 g ry rv fun s4 I4=>⟨σ,H4,I4,q3⟩
end
theorem P1 {P:Program}{w:World}{H:Hp}(h:Heap)(hb:sysModules < h.objs.size):d6 P w H (h.push {cls:= .type "dict",data:= .dict #[] }) h.objs.size (.dK []):=
 ⟨Nat.zero_le _,beq_eq_false_iff_ne.mpr (Ne.symm (Nat.ne_of_lt hb)),[],.nil,Heap.DictOf.new h⟩
theorem P2 {P:Program}{w:World}{H:Hp}(h:Heap)(hb:sysModules < h.objs.size):d6 P w H (h.push {cls:= .type "dict",data:= .dict #[] }) h.objs.size (.dT []):=
 ⟨Nat.zero_le _,beq_eq_false_iff_ne.mpr (Ne.symm (Nat.ne_of_lt hb)),[],.nil,_,#[],0,Heap.get?_push_size _ rfl,⟨rfl,rfl,rfl⟩,rfl,rfl,List.nodup_nil⟩
def We:TE:=fun _ H Q=>∀p,H p=none→Q (.ref p) (upd H p (.dK []))
def Wf:TE:=fun _ H Q=>∀p,H p=none→Q (.ref p) (upd H p (.dT []))
section
variable {X:Cx}{pos:Pos}
theorem P4:PE X (.Dict [] [] pos) We:=fun pins s σ H Q I h=>
 wpAny_Dict_empty ⟨.ref s.heap.objs.size,_,I.laid (a:=s.heap.objs.size) (o:= .dK []) (t':=s.toks) (fun _ _ q=>Heap.get?_push_of_some _ q) (Nat.le_refl _) (P1 s.heap I.big),rfl,h _ (I.cw.fresh (Nat.le_refl _))⟩
theorem BO:PE X (.Dict [] [] pos) Wf:=fun pins s σ H Q I h=>
 wpAny_Dict_empty ⟨.ref s.heap.objs.size,_,I.laid (a:=s.heap.objs.size) (o:= .dT []) (t':=s.toks) (fun _ _ q=>Heap.get?_push_of_some _ q) (Nat.le_refl _) (P2 s.heap I.big),rfl,h _ (I.cw.fresh (Nat.le_refl _))⟩
end
structure M1 (X:Cx) (o:Expr) (m:Str) (apos:Pos) (e:Expr) (gj:Pos):Prop where
 base:attributeBase o m X.env (eval o X.env)=eval o X.env
 few:((backTo gj (starEach [e] X.env)).all (fun x=> !x.1) && (backToKw gj (keywordEach [] X.env)).all (fun x=>x.1.isSome)
  && decide (([e] :List Expr).length + ([] :List Keyword).length + (if ([] :List Keyword).isEmpty then 0 else 1) < 30))=true
 line:(apos.endLine==gj.line)=true
 trees:backTo gj (starEach [e] X.env)= [(false,eval e X.env)]
structure M2 (X:Cx) (o:Expr) (m:Str) (apos:Pos) (e f:Expr) (gj:Pos):Prop where
 base:attributeBase o m X.env (eval o X.env)=eval o X.env
 few:((backTo gj (starEach [e,f] X.env)).all (fun x=> !x.1) && (backToKw gj (keywordEach [] X.env)).all (fun x=>x.1.isSome)
  && decide (([e,f] :List Expr).length + ([] :List Keyword).length + (if ([] :List Keyword).isEmpty then 0 else 1) < 30))=true
 line:(apos.endLine==gj.line)=true
 trees:backTo gj (starEach [e,f] X.env)= [(false,eval e X.env),(false,eval f X.env)]
def IsD (H:Hp)(a:Addr):Prop:=(∃kvs,Rd H a (.dK kvs))∨∃kvs,Rd H a (.dT kvs)
theorem KO {X:Cx}{pins:List (Addr×Obj)}{σ:St}{H:Hp}{s:Shared}{a:Addr}(I:Inv X pins σ H s)(d:IsD H a):
  s.TypeIs (.ref a) "dict"∧(∀b,Value.ref a= .ref b→∃ob,s.heap.get? b=some ob∧ob.dict=none)∧(a==sysModules)=false:=by
 rcases d with ⟨kvs,e⟩|⟨kvs,e⟩
 ·obtain ⟨_,hd,vs,_,dd⟩:=wR I.cw e
  refine ⟨dd.typeIs,fun b q=> ?_,hd⟩
  cases q
  obtain ⟨ob,_,_,h1,h2,_⟩:=dd
  exact ⟨ob,h1,h2.2.1⟩
 ·obtain ⟨_,hd,xs,_,dd⟩:=z7 I.cw e
  refine ⟨dd.typeIs,fun b q=> ?_,hd⟩
  cases q
  obtain ⟨ob,_,_,h1,h2,_⟩:=dd
  exact ⟨ob,h1,h2.2.1⟩
section
variable {X:Cx}{pins:List (Addr×Obj)}{σ:St}{H:Hp}{s:Shared}{a:Addr}{y d:V}{u r:Value}{o:Option V}{A:Around}{E:Value→Shared→Prop}
theorem Wg {Q:Value→Shared→Prop}(hu:A.units + 1 < cLine)(I:Inv X pins σ H s)(g:gC H a y o)(ry:RelV y u)(h:∀w' s',Inv X pins σ H s'→RelV (o.getD .bY) w'→Q w' s'):
  wpAny (model X.prog X.w) A (call (.builtin "dict.get") [.ref a,u]) Q E s:=by
 rcases g with ⟨kvs,k,e,ey,l⟩|⟨kvs,k,b,e,ey,eb,l⟩
 ·subst ey
  obtain ⟨z,hd,vs,rel,dd⟩:=wR I.cw e
  refine call_meetsIn PySem.F.slot_dict_get dd.typeIs PySem.F.entry_dict_get (PySem.F.args_dict_get_2 _ _) (meets_dict_get (bZ X.prog X.w) a (z6 ry) hd) ⟨_,dd.mapOf,h _ _ (I.tok _) ?_⟩
  rw [l]
  exact (rel.val k).getD rfl
 ·subst ey
  cases (show u=Value.ref b from ry)
  obtain ⟨z,hd,xs,rel,dd⟩:=z7 I.cw e
  refine call_meetsIn PySem.F.slot_dict_get dd.typeIs PySem.F.entry_dict_get (PySem.F.args_dict_get_2 _ _) (meetsH_dict_get (tupleKind (bZ X.prog X.w)) a b hd) ⟨tupleKind_room_in1 hu,k,xs,rJ I.cw eb,dd,h _ _ (I.tok _) ?_⟩
  rw [l]
  exact (rel.val k).getD rfl
theorem Wh {Q:Value→Shared→Prop}(hu:A.units + 1 < cLine)(I:Inv X pins σ H s)(g:gC H a y o)(ry:RelV y u)(rd:RelV d r)(h:∀w' s',Inv X pins σ H s'→RelV (o.getD d) w'→Q w' s'):
  wpAny (model X.prog X.w) A (call (.builtin "dict.get") [.ref a,u,r]) Q E s:=by
 rcases g with ⟨kvs,k,e,ey,l⟩|⟨kvs,k,b,e,ey,eb,l⟩
 ·subst ey
  obtain ⟨z,hd,vs,rel,dd⟩:=wR I.cw e
  refine call_meetsIn PySem.F.slot_dict_get dd.typeIs PySem.F.entry_dict_get (PySem.F.args_dict_get_3 _ _ _) (meets_dict_get_default (bZ X.prog X.w) a (z6 ry) hd r) ⟨_,dd.mapOf,h _ _ (I.tok _) ?_⟩
  rw [l]
  exact (rel.val k).getD rd
 ·subst ey
  cases (show u=Value.ref b from ry)
  obtain ⟨z,hd,xs,rel,dd⟩:=z7 I.cw e
  refine call_meetsIn PySem.F.slot_dict_get dd.typeIs PySem.F.entry_dict_get (PySem.F.args_dict_get_3 _ _ _) (meetsH_dict_get_default (tupleKind (bZ X.prog X.w)) a b hd r) ⟨tupleKind_room_in1 hu,k,xs,rJ I.cw eb,dd,h _ _ (I.tok _) ?_⟩
  rw [l]
  exact (rel.val k).getD rd
end
def Wi (td ty:TE):TE:=fun σ H Q=>td σ H fun x H1=>∃a,x= .ref a∧IsD H1 a∧ty σ H1 fun y H2=>∃o,gC H2 a y o∧Q (o.getD .bY) H2
def Wj (td ty tx:TE):TE:=fun σ H Q=>td σ H fun x H1=>∃a,x= .ref a∧IsD H1 a∧ty σ H1 fun y H2=>tx σ H2 fun z H3=>∃o,gC H3 a y o∧Q (o.getD z) H3
section
variable {X:Cx}{o e f:Expr}{apos gj:Pos}{td ty tx:TE}
theorem gS (hu:X.A.units + 1 < cLine)(ho:PE X o td)(he:PE X e ty)(m:M1 X o "get" apos e gj):PE X (.Call (.Attribute o "get" apos) [e] [] gj) (Wi td ty):=by
 intro pins s σ H Q I h
 refine wpAny_Call_method m.base m.few m.line PySem.F.plainAttrs_dict PySem.F.slot_dict_get PySem.F.type_dict_get (dq (ho pins s σ H _ I h) fun u s1 ⟨x,H1,I1,rx,a,ex,d,q1⟩=> ?_)
 subst ex
 obtain rfl:u=Value.ref a:=rx
 obtain ⟨t1,t2,_⟩:=KO I1 d
 refine ⟨t1,t2,?_⟩
 rw [m.trees]
 refine Calls.callWith_builtin rfl (Calls.evalArgs_plain (Calls.spliced_cons (dq (he pins s1 σ H1 _ I1 q1) fun iv s2 ⟨y,H2,I2,ry,ov,g,q2⟩=>Calls.spliced_nil ?_)))
 exact Wg hu I2 g ry fun w' s3 I3 FX=>⟨_,H2,I3,FX,q2⟩
theorem P5 (hu:X.A.units + 1 < cLine)(ho:PE X o td)(he:PE X e ty)(hf:PE X f tx)(m:M2 X o "get" apos e f gj):PE X (.Call (.Attribute o "get" apos) [e,f] [] gj) (Wj td ty tx):=by
 intro pins s σ H Q I h
 refine wpAny_Call_method m.base m.few m.line PySem.F.plainAttrs_dict PySem.F.slot_dict_get PySem.F.type_dict_get (dq (ho pins s σ H _ I h) fun u s1 ⟨x,H1,I1,rx,a,ex,d,q1⟩=> ?_)
 subst ex
 obtain rfl:u=Value.ref a:=rx
 obtain ⟨t1,t2,_⟩:=KO I1 d
 refine ⟨t1,t2,?_⟩
 rw [m.trees]
 refine Calls.callWith_builtin rfl (Calls.evalArgs_plain (Calls.spliced_cons (dq (he pins s1 σ H1 _ I1 q1) fun iv s2 ⟨y,H2,I2,ry,q2⟩=>
  Calls.spliced_cons (dq (hf pins s2 σ H2 _ I2 q2) fun fv s3 ⟨z,H3,I3,rz,ov,g,q3⟩=>Calls.spliced_nil ?_))))
 exact Wh hu I3 g ry rz fun w' s4 I4 FX=>⟨_,H3,I4,FX,q3⟩
end
section
variable {X:Cx}{pins:List (Addr×Obj)}{σ:St}{H:Hp}{s:Shared}{a:Addr}{kvs:List (Key×V)}{A:Around}{E:Value→Shared→Prop}
end
section
variable {X:Cx}{pins:List (Addr×Obj)}{σ:St}{H:Hp}{s:Shared}{a:Addr}{y:V}{u:Value}{A:Around}{E:Value→Shared→Prop}
end
end L2
namespace L2
open PySem PySem.Spec PyProof.Rows
section
variable {prog:Program}{w:World}{A:Around}{E:Value→Shared→Prop}
end
section
variable {X:Cx}
end
end L2
namespace L2
open PySem PySem.Spec PyProof.Rows
section
variable {X:Cx}{pins:List (Addr×Obj)}{σ:St}{H:Hp}{s:Shared}{h':Heap}
theorem Inv.Tn {t':Nat}{ch:List Addr}(I:Inv X pins σ H s)(k:∀b o,b ∉ ch→s.heap.get? b=some o→h'.get? b=some o)(hf:∀b∈ch,AL X pins H b):Inv X pins σ H {s with heap:=h',toks:=t'}:=by
 have UO:∀b u,H b=some u→b ∉ ch:=fun b u e z=>by
  have q:=(hf b z).1
  rw [q] at e;cases e
 refine I.step (g':=s.gens) (d':=s.drawn) (ch:=ch) (fun b hb=>⟨(hf b hb).2.2.2.1,(hf b hb).2.1,(hf b hb).2.2.2.2.1,(hf b hb).2.2.2.2.2⟩) (fun b o _ _ hc e _=>k b o hc e) (fun b o _ _ hc e _=>⟨o.slots,k b o hc e⟩)
  (fun _ _ _ _ n=>n) (fun b o hc e=>⟨o,k b o hc e⟩) (fun _ _ e=>e) (fun _ _ _ e=>e) (fun b ps e=>⟨#[],by rw [e];simp⟩) (fun m hm=> ?_) (fun b u e=> ?_) I.bare
 ·obtain ⟨o,es,ep,ho,r⟩:=hm
  exact ⟨o,es,ep,k _ o (fun z=>(hf _ z).2.1 rfl) ho,r⟩
 ·refine (I.cw b u e).DV (fun c v hc q=>k c v ?_ q) (fun _ q=>q) fun _ _ q=>q
  rcases hc with z|z
  ·rw [z];exact UO b u e
  ·exact UO c _ z
theorem Inv.EU {t':Nat}{ch:List Addr}{T:Addr}{ob:HO}(I:Inv X pins σ H s)(k:∀b o,b ∉ ch→s.heap.get? b=some o→h'.get? b=some o)(hf:∀b∈ch,AL X pins H b)(hT:s.heap.objs.size≤T)
  (new:d6 X.prog X.w (upd H T ob) h' T ob):Inv X pins σ (upd H T ob) {s with heap:=h',toks:=t'}:=by
 have hn:H T=none:=I.cw.fresh hT
 have UO:∀b u,H b=some u→b ∉ ch:=fun b u e z=>by
  have q:=(hf b z).1
  rw [q] at e;cases e
 refine I.step (g':=s.gens) (d':=s.drawn) (ch:=ch) (fun b hb=>⟨(hf b hb).2.2.2.1,(hf b hb).2.1,(hf b hb).2.2.2.2.1,(hf b hb).2.2.2.2.2⟩) (fun b o _ _ hc e _=>k b o hc e) (fun b o _ _ hc e _=>⟨o.slots,k b o hc e⟩)
  (fun b o _ e n=> ?_) (fun b o hc e=>⟨o,k b o hc e⟩) (fun b xs e=> ?_) (fun b o u e=> ?_) (fun b ps e=>⟨#[],?_⟩) (fun m hm=> ?_) (fun b u e=> ?_) I.bare
 ·rw [az (Nat.ne_of_lt (Nat.lt_of_lt_of_le (Heap.lt_size e) hT))];exact n
 ·rw [az (aI e hn)];exact e
 ·rw [az (aI e hn)];exact e
 ·rw [az (aI e hn),e];simp
 ·obtain ⟨o,es,ep,ho,r⟩:=hm
  exact ⟨o,es,ep,k _ o (fun z=>(hf _ z).2.1 rfl) ho,r⟩
 ·by_cases hb:b=T
  ·subst hb
   rw [ab] at e
   cases e
   exact new
  ·rw [az hb] at e
   refine (I.cw b u e).DV (fun c v hc q=>k c v ?_ q) (fun c q=>by rw [az (aI q hn)];exact q) fun c xs q=>by rw [az (aI q hn)];exact q
   rcases hc with z|z
   ·rw [z];exact UO b u e
   ·exact UO c _ z
theorem Inv.lock {d:Addr}{u:HO}(I:Inv X pins σ H s)(h:H d=some u)(mu:UN (some u)):∃od,Inv X pins σ (upd H d (.jM od u)) s:=by
 have x:=I.cw d u h
 have ex:∃od,s.heap.get? d=some od:=by
  cases u with
  |lst xs=>obtain ⟨_,_,_,_,e⟩:=x;exact ⟨_,e⟩
  |dK kvs=>obtain ⟨_,_,_,_,o,_,_,e,_⟩:=x;exact ⟨o,e⟩
  |dT kvs=>obtain ⟨_,_,_,_,o,_,_,e,_⟩:=x;exact ⟨o,e⟩
  |set S n=>obtain ⟨o,_,_,_,e,_⟩:=x;exact ⟨o,e⟩
  |ins C dx fs=>obtain ⟨_,_,_,e,_⟩:=x;exact ⟨_,e⟩
  |ext φ=>obtain ⟨_,⟨_,e⟩,_⟩:=x;exact ⟨_,e⟩
  |_=>exact False.elim mu
 obtain ⟨od,e⟩:=ex
 have new:d6 X.prog X.w (upd H d (.jM od u)) s.heap d (.jM od u):=by
  refine ⟨e,x.DV (fun b v _ q=>q) (fun b q=> ?_) fun b xs q=> ?_⟩
  ·rw [az (fun z=>by rw [z,h] at q;cases q;exact mu)];exact q
  ·rw [az (fun z=>by rw [z,h] at q;cases q;exact mu)];exact q
 exact ⟨od,I.write (x:=d) (e:=d) (t':=s.toks) (h':=s.heap) (by rw [h];exact mu) (.inl rfl) (fun b v _ q=>q) ⟨od,e⟩ new⟩
theorem Inv.aaD {d:Addr}{u:HO}(I:Inv X pins σ H s)(h:H d=some u)(mu:UN (some u)):∀o' u',X.VH d≠some (.jM o' u'):=fun o' u' e=>by
 have q:=I.base.Bv d o' u' e
 rw [h] at q
 cases q
 exact mu
theorem Inv.unlock {d:Addr}{od:Obj}{u:HO}(I:Inv X pins σ H s)(h:H d=some (.jM od u))(hn:∀o' u',X.VH d≠some (.jM o' u')):Inv X pins σ (upd H d u) s:=by
 have Zo:∀b o,H b=some o→(∀o' u',o≠ .jM o' u')→b≠d:=fun b o e u4 z=>by
  rw [z,h] at e
  cases e
  exact u4 _ _ rfl
 have neN:∀b,H b=none→b≠d:=fun b e z=>by rw [z,h] at e;cases e
 refine ⟨I.ok,I.os,I.bare,⟨I.base.keep,I.base.slot,fun b o e n hx=> ?_,I.base.there,fun b xs e=> ?_,fun b o x e=> ?_,fun b ps e=> ?_⟩,I.loc,I.cell,?_,fun x c e=> ?_,fun p hp=> ?_,fun b o e=> ?_,I.len⟩
 ·rw [az (neN b (I.base.free b o e n hx))];exact I.base.free b o e n hx
 ·have q:=I.base.Bu b xs e
  rw [az (Zo b _ q (fun _ _ z=>nomatch z))];exact q
 ·have q:=I.base.Bv b o x e
  rw [az (fun z=>by rw [z] at e;exact hn _ _ e)];exact q
 ·obtain ⟨m,q⟩:=I.base.FO b ps e
  exact ⟨m,by rw [az (Zo b _ q (fun _ _ z=>nomatch z))];exact q⟩
 ·rw [az (neN _ I.free)];exact I.free
 ·rw [az (neN c (I.oJ x c e))];exact I.oJ x c e
 ·obtain ⟨e,n,r⟩:=I.pin p hp
  exact ⟨e,by rw [az (neN _ n)];exact n,r⟩
 ·by_cases hb:b=d
  ·rw [hb,ab] at e
   cases e
   rw [hb]
   obtain ⟨_,x⟩:=I.cw d _ h
   exact x.DV (fun c v _ q=>q) (fun c q=>by rw [az (Zo c _ q (fun _ _ z=>nomatch z))];exact q) fun c xs q=>by rw [az (Zo c _ q (fun _ _ z=>nomatch z))];exact q
  ·rw [az hb] at e
   exact (I.cw b o e).DV (fun c v _ q=>q) (fun c q=>by rw [az (Zo c _ q (fun _ _ z=>nomatch z))];exact q) fun c xs q=>by rw [az (Zo c _ q (fun _ _ z=>nomatch z))];exact q
end
def Wl (t:TE):TE:=fun σ H Q=>∃d u,H d=some u∧UN (some u)∧∀od,t σ (upd H d (.jM od u)) fun v H'=>H' d=some (.jM od u)∧Q v (upd H' d u)
section
variable {X:Cx}
theorem Gq {e:Expr}{t:TE}(h:PE X e t):PE X e (Wl t):=by
 intro pins s σ H Q I hw
 obtain ⟨d,u,hd,mu,hw⟩:=hw
 obtain ⟨od,I1⟩:=I.lock hd mu
 refine dq (h pins s σ _ _ I1 (hw od)) fun v s1 ⟨x,H1,I2,r,e2,q⟩=> ?_
 exact ⟨x,_,I2.unlock e2 (I.aaD hd mu),r,q⟩
theorem KP {tg:Expr}{pins:List (Addr×Obj)}{σ:St}{H:Hp}{s:Shared}{R:It→Hp→Prop}{J:It}{tn:Nat→Heap→Prop}{tk:Nat}(I:Inv X pins σ H s)(o:Obj)
  (T:Turn X.prog X.w X.K tg J [s.heap.objs.size] s.heap.objs.size tn)(st:tn 0 (s.heap.push o))(q:R J H):Z2 X pins σ tg R (.ref s.heap.objs.size) {s with heap:=s.heap.push o,toks:=tk}:=by
 refine ⟨s.heap.objs.size,[s.heap.objs.size],tn,J,H,rfl,I.kept fun b ob e=>Heap.get?_push_of_some _ e,T,st,fun b hb=> ?_,q⟩
 have e:b=s.heap.objs.size:=by simpa using hb
 subst e
 exact I.Nz (Nat.le_refl _) (I.cw.fresh (Nat.le_refl _))
end
def Itc (lo c:Int)(n:Nat):It:=⟨fun i _=>i < n,fun i H x H'=>H'=H∧x= .int (lo + (i:Nat) * c),fun i _=>n≤i⟩
theorem Jp {P:Program}{w:World}{K:PySem.W.Frag}{tg:Expr}(it:Addr)(lo c:Int)(n:Nat):Turn P w K tg (Itc lo c n) [it] it (fun i h=>IsRangeIter h it (lo + (i:Nat) * c) ((n:Int) - (i:Nat)) c) where
 mem:=by simp
 obj:=fun i h st b hb=>by
  have e:b=it:=by simpa using hb
  subst e
  exact ⟨_,st,fun v z=>nomatch z⟩
 keep:=fun i h h' st k=>k it (by simp) _ st
 item:=by
  intro X hP hw hK hc i pins s σ H E I hf st hg
  subst hP hw hK
  obtain ⟨f0,f1,f2,f3,f4,f5⟩:=hf it (by simp)
  have W:=Walks.range (prog:=X.prog) (w:=X.w) (I.ok.hd hc) it lo c n
  refine W.item i s _ _ hg st fun v h' tk hv DZ kk=> ?_
  obtain ⟨t,rfl⟩:=hv
  have I1:Inv X pins σ H {s with heap:=h',toks:=tk}:=I.turned (fun b o hb e=>kk b o (by simpa using hb) e) f0 f1 f3 f4 f5
  exact ⟨_,rfl,Jb (s:={s with heap:=h',toks:=tk}) (n:="range_iterator") DZ rfl rfl (by decide) ⟨.int (lo + (i:Nat) * c),H,I1,⟨t,rfl⟩,⟨rfl,rfl⟩,DZ,fun b hb=>(hf b hb).1⟩⟩
 done:=by
  intro X hP hw hK hc i pins s σ H E I hf st hg
  subst hP hw hK
  obtain ⟨f0,f1,f2,f3,f4,f5⟩:=hf it (by simp)
  exact wpAny_pyNext_range_end (I.ok.hd hc) st (by have:n≤i:=hg;omega) fun h' eb=>⟨rfl,I.turned (t':=s.toks) (fun b o hb e=>eb b o hb e) f0 f1 f3 f4 f5⟩
 self:=fun A i s Q E st h=>wpAny_pyIter_rangeiter st h
def RgC (i j c:Int)(n:Nat):Prop:=c≠0∧c.natAbs < 1073741824∧Builtin.Range.small i j c=true∧Builtin.Range.rangeSize i j c=n
def aaE (ta:TA):TI:=fun σ H R=>ta σ H fun vs H1=>∃ (i j c:Int)(n:Nat),vs= [.int i,.int j,.int c] ∧RgC i j c n∧R (Itc i c n) H1
section
variable {X:Cx}{tg:Expr}
theorem NO {a b c:Expr}{ta:TA}{p pos:Pos}(hg:Gl X "range")(hm:X.mg "range"=none)(ha:PA X [a,b,c] ta)
  (hs:starEach [a,b,c] X.env=(false,eval a X.env)::starEach [b,c] X.env:=by rfl)(eD:(backTo pos (starEach [b,c] X.env)).any (·.1)=false:=by rfl):
  PI X tg (.Call (.Name "range" p) [a,b,c] [] pos) (aaE ta):=by
 intro pins s σ H R I h
 refine Call_ (yR I hg hm boot_range (PyProof.Rows.callWith_type1 (dq (ha pos pins s σ H _ I h) fun us s1 ⟨vs,H1,I1,r1,q1⟩=> ?_) hs eD))
 obtain ⟨i,j,k,n,e,⟨c0,c1,c2,c3⟩,q⟩:=q1
 subst e
 cases r1 with
 |cons r rr=>
  cases rr with
  |cons r' rr=>
   cases rr with
   |cons r'' rr=>
    cases rr
    obtain ⟨t,rfl⟩:=r
    obtain ⟨t',rfl⟩:=r'
    obtain ⟨t'',rfl⟩:=r''
    refine call_range_3 c0 ?_ (.inl (PyProof.noPylong_small c1))
    refine wpAny_pyIter_range (IsRange.new ..) c2 ?_
    have I2:Inv X pins σ H1 {s1 with heap:=s1.heap.push {cls:= .type "range",data:= .fields #[.int i t,.int j t',.int k t''] } }:=I1.kept (t':=s1.toks) fun b o e=>Heap.get?_push_of_some _ e
    refine KP (tk:=s1.toks) I2 _ (Jp _ i k n) ?_ q
    have e1:i + ((0:Nat):Int) * k=i:=by simp
    have e2:(n:Int) - ((0:Nat):Int)=Builtin.Range.rangeSize i j k:=by rw [c3];simp
    show IsRangeIter _ _ (i + ((0:Nat):Int) * k) ((n:Int) - ((0:Nat):Int)) k
    rw [e1,e2]
    exact Heap.get?_push_size _ rfl
end
section
variable {X:Cx}{tg:Expr}
end
section
variable {prog:Program}{w:World}{A:Around}{E:Value→Shared→Prop}{s:Shared}
end
theorem Wm {κ:Type}{kvs:List (κ×V)}{vs:List (κ×Value)}(h:KV kvs vs):∀ {i:Nat}{k:κ}{v:V},kvs[i]?=some (k,v)→∃u,vs[i]?=some (k,u)∧RelV v u:=by
 unfold KV at h
 induction h with
 |nil=>intro i k v e;simp at e
 | @cons a b l₁ l₂ r t ih=>
  intro i k v e
  cases i with
  |zero=>
   simp only [List.getElem?_cons_zero,Option.some.injEq] at e
   subst e
   refine ⟨b.2,?_,r.2⟩
   simp only [List.getElem?_cons_zero]
   exact congrArg some (Prod.ext r.1.symm rfl)
  |succ j=>
   simp only [List.getElem?_cons_succ] at e ⊢
   exact ih e
theorem KQ {α β:Type}{G:α→β→Prop}{l₁:List α}{l₂:List β}(h:Paired G l₁ l₂):∀ {i:Nat}{a:α},l₁[i]?=some a→∃b,l₂[i]?=some b∧G a b:=by
 induction h with
 |nil=>intro i a e;simp at e
 | @cons a b l₁ l₂ r t ih=>
  intro i a' e
  cases i with
  |zero=>
   simp only [List.getElem?_cons_zero,Option.some.injEq] at e
   subst e
   exact ⟨b,rfl,r⟩
  |succ j=>
   simp only [List.getElem?_cons_succ] at e ⊢
   exact ih e
section
variable {X:Cx}{pins:List (Addr×Obj)}{σ:St}{H:Hp}{s:Shared}{d:Addr}{o:Obj}
theorem Inv.Wn {kvs:List (Key×V)}(I:Inv X pins σ H s)(h:H d=some (.jM o (.dK kvs))):
  (d==sysModules)=false∧s.heap.get? d=some o∧o.ExactDict∧∃ (es:Array DictEntry)(ep:Nat)(vs:List (Key×Value)),o.data= .dict es ep∧es.size=kvs.length∧KV kvs vs∧s.heap.DictAt (bZ X.prog X.w) d vs ep:=by
 obtain ⟨hd,z,hs,vs,kv,o',es,ep,ho,hx,Gr,r⟩:=I.cw d _ h
 rw [hd] at ho
 cases ho
 refine ⟨hs,hd,hx,es,ep,vs,Gr,?_,kv,o,es,hd,hx,Gr,r⟩
 have l1:=r.2.1.length
 have l2:kvs.length=vs.length:=Paired.length kv
 rw [Array.length_toList] at l1
 omega
end
def Itd (d:Addr)(o:Obj)(kvs:List (Key×V)):It:=
 ⟨fun i H=>H d=some (.jM o (.dK kvs))∧i < kvs.length,fun i H x H'=>H'=H∧∃k,kvs[i]?=some (k,x),fun i H=>H d=some (.jM o (.dK kvs))∧kvs.length≤i⟩
theorem A3 {o:Obj}{es Ss:Array DictEntry}{ep Pa:Nat}(h:o.data= .dict es ep)(h':o.data= .dict Ss Pa):Ss=es∧Pa=ep:=by
 rw [h] at h'
 cases h'
 exact ⟨rfl,rfl⟩
section
variable {P:Program}{w:World}{K:PySem.W.Frag}{tg:Expr}{d:Addr}{o:Obj}{es:Array DictEntry}{ep:Nat}
theorem NP {kvs:List (Key×V)}(it:Addr)(hod:o.data= .dict es ep):Turn P w K tg (Itd d o kvs) [it] it (fun i h=>h.IsValIter it d i kvs.length ep) where
 mem:=by simp
 obj:=fun i h st b hb=>by
  have e:b=it:=by simpa using hb
  subst e
  obtain ⟨oi,e,c,dd⟩:=st
  exact ⟨oi,e,fun v z=>by rw [dd] at z;cases z⟩
 keep:=fun i h h' st k=>st.at fun oi e=>k it (by simp) oi e
 item:=by
  intro X hP hw hK hc i pins s σ H E I hf st hg
  subst hP hw hK
  obtain ⟨hd,hi⟩:=hg
  obtain ⟨f0,f1,f2,f3,f4,f5⟩:=hf it (by simp)
  obtain ⟨hs,P6,hx,Ss,Pa,vs,Gr,hsz,kv,hm⟩:=I.Wn hd
  obtain ⟨rfl,rfl⟩:=A3 hod Gr
  obtain ⟨⟨k,v⟩,IU⟩:∃p,kvs[i]?=some p:=⟨kvs[i],List.getElem?_eq_getElem hi⟩
  obtain ⟨u,hu,ru⟩:=Wm kv IU
  have hl:kvs.length=vs.length:=Paired.length kv
  rw [hl] at st
  refine wpAny_pyNext_values_item st hm hu fun h' DZ sb=> ?_
  have I1:Inv X pins σ H {s with heap:=h'}:=I.turned (t':=s.toks) (fun b ob hb e=>(sb.2 b hb).trans e) f0 f1 f3 f4 f5
  obtain ⟨oi,e,c,dd⟩:=id DZ
  refine ⟨u,rfl,Jb (s:={s with heap:=h'}) e c dd (by decide) ⟨v,H,I1,ru,⟨rfl,k,IU⟩,?_,fun b hb=>(hf b hb).1⟩⟩
  show h'.IsValIter it d (i + 1) kvs.length _
  rw [hl]
  exact DZ
 done:=by
  intro X hP hw hK hc i pins s σ H E I hf st hg
  subst hP hw hK
  obtain ⟨hd,hi⟩:=hg
  obtain ⟨f0,f1,f2,f3,f4,f5⟩:=hf it (by simp)
  obtain ⟨hs,P6,hx,Ss,Pa,vs,Gr,hsz,kv,hm⟩:=I.Wn hd
  obtain ⟨rfl,rfl⟩:=A3 hod Gr
  have hl:kvs.length=vs.length:=Paired.length kv
  rw [hl] at st
  exact wpAny_pyNext_values_end (I.ok.hd hc) st hm (List.getElem?_eq_none (by omega)) fun h' eb=>⟨rfl,I.turned (t':=s.toks) (fun b ob hb e=>eb b ob hb e) f0 f1 f3 f4 f5⟩
 self:=fun A i s Q E st h=>wpAny_pyIter_valiter st h
end
def aaH (td:TE):TI:=fun σ H R=>td σ H fun x H1=>∃d o kvs,x= .ref d∧H1 d=some (.jM o (.dK kvs))∧R (Itd d o kvs) H1
section
variable {X:Cx}{tg e:Expr}{td:TE}{apos gj:Pos}
theorem EV (he:PE X e td)(Je:attributeBase e "values" X.env (eval e X.env)=eval e X.env:=by rfl)(Jf:(apos.endLine==gj.line)=true:=by rfl):PI X tg (.Call (.Attribute e "values" apos) [] [] gj) (aaH td):=by
 intro pins s σ H R I h
 refine wpAny_Call_method (T:="dict") (id:="dict.values") Je rfl Jf F.plainAttrs_dict F.slot_dict_values F.type_dict_values (dq (he pins s σ H _ I h) fun u s1 ⟨x,H1,I1,rx,d,o,kvs,ex,hd,q⟩=> ?_)
 subst ex
 obtain rfl:u=Value.ref d:=rx
 obtain ⟨hs,P6,hx,es,ep,vs,Gr,hsz,kv,hm⟩:=I1.Wn hd
 have hl:kvs.length=vs.length:=Paired.length kv
 refine ⟨hm.dictOf.typeIs,hm.dictOf.mapOf.noDict,?_⟩
 have I2:Inv X pins σ H1 {s1 with heap:=s1.heap.push {cls:= .type "dict_values",data:= .fields #[.ref d] } }:=I1.kept (t':=s1.toks) fun b ob q=>Heap.get?_push_of_some _ q
 have fin:wpAny (model X.prog X.w) X.A (pyIter (.ref s1.heap.objs.size)) (Z2 X pins σ tg R) X.xe {s1 with heap:=s1.heap.push {cls:= .type "dict_values",data:= .fields #[.ref d] } }:=by
  refine wpAny_pyIter_values (d:=d) (knd:=bZ X.prog X.w) ⟨_,Heap.get?_push_size _ rfl,rfl,rfl⟩ (hm.push _) (KP (tk:=s1.toks) I2 _ (NP _ Gr) ⟨_,Heap.get?_push_size _ rfl,rfl,?_⟩ q)
  rw [hl] <;>rfl
 show wpAny _ _ (callWith gj (.builtin "dict.values") [.ref d] [] []) _ X.xe s1
 exact method_meetsIn F.slot_dict_values F.entry_dict_values rfl (PySem.evalArgs_none ⟨rfl,hm.dictOf.typeIs,F.args_dict_values_1 _,_,meets_dict_values (bZ X.prog X.w) d hs,⟨vs,hm.dictOf⟩,fin⟩)
end
theorem NQ:bootBuiltins "zip"=some (.type "zip"):=by decide +kernel
end L2
section
namespace aiA
open PySem PyProof.Rows
end aiA
end
section
namespace TL
open PySem PySem.Builtin PySem.Builtin.Str PySem.StrLaws
end TL
end
namespace L2
open PySem PySem.Spec PyProof.Rows
section
variable {X:Cx}{pins:List (Addr×Obj)}{σ:St}{H:Hp}{s:Shared}{Q:VK}
end
section
variable {X:Cx}
end
section
variable {X:Cx}{o e:Expr}{to te:TE}
end
end L2
namespace L2
open PySem PySem.Spec PyProof.Rows
section
variable {X:Cx}
end
end L2
namespace Att
open PySem PySem.W PySem.Calls PyProof.Rows
section
variable {prog:Program}{w:World}{A:Around}{E:Value→Shared→Prop}{s:Shared}{K:Frag}
end
end Att
namespace L2
open PySem PySem.Spec PyProof.Rows
end L2
namespace L2
open PySem PySem.Spec PyProof.Rows
abbrev KOf {K:PySem.W.Frag}{h:Heap}(_:K.In h):PySem.W.Frag:=K
end L2
namespace L2
open PySem PySem.Spec PyProof.Rows
def inClass (s:Stmt)(j:Nat):Stmt:=match s with
 | .ClassDef _ _ _ body _ _ _ _ _ _ _=>body.getD j (.Pass ⟨0,0,0,0⟩)
 |_=> .Pass ⟨0,0,0,0⟩
def wU (s:Stmt):Arguments:=match s with
 | .FunctionDef _ a _ _ _ _ _ _ _ _=>a
 |_=>{posonlyargs:= [],args:= [],vararg:=none,kwonlyargs:= [],kw_defaults:= [],kwarg:=none,defaults:= [] }
def tJ (s:Stmt):List Stmt:=match s with
 | .FunctionDef _ _ b _ _ _ _ _ _ _=>b
 |_=> []
def ay (s:Stmt):Scope:=match s with
 | .FunctionDef _ _ _ _ _ _ sc _ _ _=>sc
 |_=>{kind:= .function,names:= [],isGenerator:=false,isCoroutine:=false}
abbrev fg:KC:=fun _ _ _ _ _ _=>False
abbrev E0:XK:=fun _ _ _=>False
theorem aX {X:Cx}:Passes fg X E0:=fun _ _ _ _ _ _ _ h=>h.elim
structure fz (K:PySem.W.Frag) (x qual:Str) (st:Stmt) (f:Addr) (fd:FuncData):Prop where
 ex:∃ (oc:Value)(od:Option Addr)(kV doc pm:Value)(an:Option Addr)(dZ ct:Value)(S8:Array (Option Value)),
  fd=PySem.W.fnOf x qual (wU st) (tJ st) (ay st) .none kV doc pm an dZ ct∧K.lookup f=some ⟨oc,od,.func fd,S8⟩∧PySem.W.codeIn K dZ qual=true
 kp:PySem.W.keepIn K (.ref f)=true
section
variable {P:Program}{w:World}{K:PySem.W.Frag}{mg:Str→Option Value}{base:Heap}
theorem fz.ok {x qual:Str}{st:Stmt}{f:Addr}{fd:FuncData}{N ps:List Str}{k:Nat}{sp:Sp}(F:fz K x qual st f fd)(S:aC N ps (ay st))(len:∀vs H Q E,sp vs H Q E→vs.length=ps.length)
  (PJ:∀ (dZ:Value)(A:Around)(outer:List Env)(s:Shared)(H:Hp)(vs:List V)(Q:VK)(E:XK),gO k (A.deeper (envOfC qual (ay st) s.heap.objs.size f dZ))→sp vs H Q E→
   ∃t,Ny (NI fg P w K mg base N qual (ay st) f dZ A outer s H E).nox (tJ st) t∧t {nx:=fun _ H'=>Q .bY H',rt:=Q} (start N vs) H):bH P w K mg base fg (k + 1) f fd ps sp:=by
 obtain ⟨oc,od,kV,doc,pm,an,dZ,ct,S8,rfl,lk,wD⟩:=F.ex
 refine aah lk wD S len fun A outer s H vs Q E hr Pc=> ?_
 obtain ⟨t,h,q⟩:=PJ dZ A outer s H vs Q E hr Pc
 exact ⟨t,h.nox,q⟩
theorem fz.binds {x qual:Str}{st:Stmt}{f:Addr}{fd:FuncData}{ps:List Str}(F:fz K x qual st f fd)
  (h:∀ (kV doc pm:Value)(an:Option Addr)(dZ ct:Value)(us:List Value),us.length=ps.length→bindArgs (PySem.W.fnOf x qual (wU st) (tJ st) (ay st) .none kV doc pm an dZ ct) ⟨us,[]⟩=pure (ps.zip us)):Binds K fd ps [] :=by
 obtain ⟨oc,od,kV,doc,pm,an,dZ,ct,S8,rfl,lk,wD⟩:=F.ex
 exact .all (h kV doc pm an dZ ct)
theorem ax {x qual:Str}{st:Stmt}{f:Addr}{oc:Value}{od an:Option Addr}{S8:Array (Option Value)}{kV doc pm dZ ct:Value}(l:K.lookup f=some ⟨oc,od,.func (PySem.W.fnOf x qual (wU st) (tJ st) (ay st) .none kV doc pm an dZ ct),S8⟩)
  (c:PySem.W.codeIn K dZ qual=true)(k:PySem.W.keepIn K (.ref f)=true):fz K x qual st f (PySem.W.fnOf x qual (wU st) (tJ st) (ay st) .none kV doc pm an dZ ct):=⟨⟨oc,od,kV,doc,pm,an,dZ,ct,S8,rfl,l,c⟩,k⟩
end
theorem gE {A:Around}{k:Nat}(hr:gO k A):A.units + 1 < cLine:=Nat.lt_of_le_of_lt (Nat.add_le_add_left (by decide:1≤64) _) hr.units
section
variable {X:Cx}
theorem pv (i:Nat){x:Str}{pos:Pos}(hN:X.N[i]?=some x:=by rfl)(hv:Zg X.env.scope x:=by first|exact Or.inl rfl|exact Or.inr (Or.inl rfl)|exact Or.inr (Or.inr rfl))(hd:(x==("__debug__":Str))=false:=by decide)
  (wD:(x==("__classdict__":Str))=false:=by decide):PE X (.Name x pos) (ZS i):=VL hN hv hd wD
theorem EW:mw X (.builtin "len") (fun xs H Q=>∃a kvs,xs= [V.ref a] ∧H a=some (.dK kvs)∧Q (.int kvs.length) H):=by
 intro pins s σ H xs us Q I r h
 obtain ⟨a,kvs,rfl,ha,q⟩:=h
 obtain ⟨u,rfl,ru⟩:=vals1 r
 cases ru
 exact aaA I (.inl ha) fun t s' I'=>⟨.int kvs.length,H,I',⟨t,rfl⟩,q⟩
end
theorem bQ {A B:Prop}(h:B):if false=true then A else B:=by
 rw [if_neg Bool.false_ne_true]
 exact h
theorem bI {A B:Prop}(h:A):if true=true then A else B:=by
 rw [if_pos rfl]
 exact h
theorem eR {c A B:Prop} [Decidable c] (h1:c→A)(h2:¬c→B):if c then A else B:=by
 by_cases h:c
 ·rw [if_pos h]
  exact h1 h
 ·rw [if_neg h]
  exact h2 h
theorem P7 {c A B:Prop} [Decidable c] (hc:c)(h:B):if (!decide c)=true then A else B:=by
 rw [decide_eq_true hc]
 exact bQ h
def aj (H H':Hp):Prop:=∀b o,H b=some o→H' b=some o
theorem aj.refl (H:Hp):aj H H:=fun _ _ h=>h
theorem aj.trans {H H1 H2:Hp}(a:aj H H1)(b:aj H1 H2):aj H H2:=fun c o h=>b c o (a c o h)
theorem aj.free {H H':Hp}(e:aj H H'){l:Addr}(h:H' l=Option.none):H l=Option.none:=by
 cases q:H l with
 |none=>rfl
 |some o=>
  rw [e l o q] at h
  cases h
theorem aj.seq {K:PySem.W.Frag}{H H':Hp}{a:Addr}{xs:List V}(e:aj H H')(h:cK K H a xs):cK K H' a xs:=by
 rcases h with (h|⟨o,h⟩)|h
 ·exact .inl (.inl (e _ _ h))
 ·exact .inl (.inr ⟨o,e _ _ h⟩)
 ·exact .inr h
section
variable {κ:Type} [DecidableEq κ]
theorem To {kvs:List (κ×V)}{k:κ}{v:V}(h:dz kvs k=some v):k∈kvs.map (·.1):=by
 have q:(kvs.any fun kv=>decide (kv.1=k))=true:=by
  rw [lV,h]
  all_goals rfl
 obtain ⟨p,hp,e⟩:=List.any_eq_true.mp q
 exact List.mem_map.mpr ⟨p,hp,of_decide_eq_true e⟩
end
theorem Vd {α:Type}{l:List α}(hN:l.Nodup){i j:Nat}{x:α}(a:l[i]?=some x)(b:l[j]?=some x):i=j:=by
 obtain ⟨h1,e1⟩:=List.getElem?_eq_some_iff.mp a
 obtain ⟨h2,e2⟩:=List.getElem?_eq_some_iff.mp b
 exact (List.getElem_inj hN).mp (e1.trans e2.symm)
theorem aj.made {H H1:Hp}{x dx C:Addr}(nx:H x=Option.none)(nd:H dx=Option.none)(k:∀b o,(upd (upd H dx (.own x)) x (.ins C dx [])) b=some o→b≠x→H1 b=some o):aj H H1:=fun b o e=>
 k b o (by rw [az (aI e nx),az (aI e nd)];exact e) (aI e nx)
end L2
section
set_option Elab.async false
set_option maxRecDepth 100000
namespace L2
open PySem PySem.Spec PyProof.Rows
open PySem.W (WData Codec OpenSpec Well WellAll ReadsW ReadsAllW)
mutual
inductive Dw (K:PySem.W.Frag) (H:Hp):V→WData→Prop
 |bY:Dw K H .bY .none
 |bl (b:Bool):Dw K H (.bl b) (.bool b)
 |int (i:Int):Dw K H (.int i) (.int i)
 |str (x:Str):Dw K H (.str x) (.str x)
 |IY (b:Array UInt8):Dw K H (.IY b) (.bytes b.toList)
 |lst {a:Addr} {xs:List V} {ds:List WData}:cK K H a xs→qY K H xs ds→Dw K H (.ref a) (.list ds)
 |tup {a:Addr} {xs:List V} {ds:List WData}:bO K H a xs→qY K H xs ds→Dw K H (.ref a) (.tuple ds)
inductive qY (K:PySem.W.Frag) (H:Hp):List V→List WData→Prop
 |nil:qY K H [] []
 |cons {v:V} {vs:List V} {d:WData} {ds:List WData}:Dw K H v d→qY K H vs ds→qY K H (v::vs) (d::ds)
end
theorem Mp {K:PySem.W.Frag}{H:Hp}:∀ns:List Int,qY K H (ns.map V.int) (ns.map WData.int)
 | [] => .nil
 |n::r=> .cons (.int n) (Mp r)
theorem Mq {K:PySem.W.Frag}{H:Hp}:∀ (ns:List Int)(xs:List V),qY K H xs (ns.map WData.int)→xs=ns.map V.int
 | [],xs,h=>by
  cases h
  rfl
 |n::r,xs,h=>by
  cases h with
  |cons h1 h2=>
   cases h1
   rw [Mq r _ h2] <;>rfl
section
variable {P:Program}{w:World}{K:PySem.W.Frag}{H:Hp}{h:Heap}{R:PySem.W.WRecords}{cl:Str→Option Addr}
theorem Wo {a:Addr}{xs:List V}(cw:rp P w H h)(KX:K.In h)(q:cK K H a xs):∃ (bf:List Value)(o:Obj)(n:Nat),Vals xs bf∧h.get? a=some o∧o.cls= .type "list"∧o.data= .seq bf.toArray n:=by
 rcases q with q|⟨o,bf,n,e,hc,_,hd,_,hv⟩
 ·obtain ⟨_,bf,n,hv,e⟩:=(show d6 P w H h a (.lst xs) from q.ok cw)
  exact ⟨bf,_,n,hv,e,rfl,rfl⟩
 ·exact ⟨bf.toList,o,n,hv,KX _ _ e,hc,by simp [hd]⟩
theorem Wq {a:Addr}{xs:List V}(cw:rp P w H h)(KX:K.In h)(q:bO K H a xs):∃ (bf:List Value)(o:Obj)(n:Nat),Vals xs bf∧h.get? a=some o∧o.cls= .type "tuple"∧o.data= .seq bf.toArray n:=by
 rcases q with q|⟨o,bf,n,e,hc,hd,_,hv⟩
 ·obtain ⟨_,bf,hv,o,e,hc,n,hd⟩:=(show d6 P w H h a (.tup xs) from q.ok cw)
  exact ⟨bf,o,n,hv,e,hc,hd⟩
 ·exact ⟨bf.toList,o,n,hv,KX _ _ e,hc,by simp [hd]⟩
mutual
theorem Dw.reads (cw:rp P w H h)(KX:K.In h):∀ (d:WData)(v:V)(u:Value),Dw K H v d→RelV v u→∃as,ReadsW R cl h u d as
 | .none,_,_,x,r=>by
  cases x
  cases r
  exact ⟨_,ReadsW.none⟩
 | .bool b,_,_,x,r=>by
  cases x
  cases r
  exact ⟨_,ReadsW.bool b⟩
 | .int i,_,_,x,r=>by
  cases x
  obtain ⟨t,rfl⟩:=r
  exact ⟨_,ReadsW.int i t⟩
 | .str s,_,_,x,r=>by
  cases x
  obtain ⟨t,rfl⟩:=r
  exact ⟨_,ReadsW.str s t⟩
 | .bytes b,_,_,x,r=>by
  cases x
  obtain ⟨t,rfl⟩:=r
  exact ⟨_,ReadsW.bytes _ t⟩
 | .list ds,_,_,x,r=>by
  cases x with
  |lst hs ha=>
   cases r
   obtain ⟨bf,o,n,rv,ho,hc,hd⟩:=Wo cw KX hs
   obtain ⟨as,hr⟩:=Dw.readsAll cw KX ds _ bf ha rv
   exact ⟨_,ReadsW.list ho hc hd hr⟩
 | .tuple ds,_,_,x,r=>by
  cases x with
  |tup hs ha=>
   cases r
   obtain ⟨bf,o,n,rv,ho,hc,hd⟩:=Wq cw KX hs
   obtain ⟨as,hr⟩:=Dw.readsAll cw KX ds _ bf ha rv
   exact ⟨_,ReadsW.tuple ho hc hd hr⟩
 | .float _,_,_,x,_=>by cases x
 | .dict _,_,_,x,_=>by cases x
 | .bytearray _,_,_,x,_=>by cases x
 | .set _,_,_,x,_=>by cases x
 | .frozenset _,_,_,x,_=>by cases x
 | .obj _ _,_,_,x,_=>by cases x
theorem Dw.readsAll (cw:rp P w H h)(KX:K.In h):∀ (ds:List WData)(vs:List V)(us:List Value),qY K H vs ds→Vals vs us→∃as,ReadsAllW R cl h us ds as
 | [],_,_,x,r=>by
  cases x
  cases r
  exact ⟨_,ReadsAllW.nil⟩
 |d::ds,_,_,x,r=>by
  cases x with
  |cons h1 h2=>
   cases r with
   |cons r1 r2=>
    obtain ⟨as,q1⟩:=Dw.reads cw KX d _ _ h1 r1
    obtain ⟨bs,q2⟩:=Dw.readsAll cw KX ds _ _ h2 r2
    exact ⟨_,ReadsAllW.cons q1 q2⟩
end
end
mutual
def Mr:WData→Bool
 | .none=>true
 | .bool _=>true
 | .int _=>true
 | .str _=>true
 | .bytes _=>true
 | .list xs=>AO xs
 | .tuple xs=>AO xs
 |_=>false
def AO:List WData→Bool
 | [] =>true
 |x::r=>Mr x && AO r
end
theorem Jq {α:Type}{f:α→WData}(h:∀a,Mr (f a)=true):∀l:List α,AO (l.map f)=true
 | [] =>rfl
 |x::r=>by
  show (Mr (f x) && AO (r.map f))=true
  rw [h x,Jq h r] <;>rfl
theorem rK:∀ (c:Codec)(a:c.denote),Mr (c.enc a)=true
 | .unit,_=>rfl
 | .bool,_=>rfl
 | .int _ _,_=>rfl
 | .nat _ _,_=>rfl
 | .u8,_=>rfl
 | .bytes _ _,_=>rfl
 | .text _ _ _ _,_=>rfl
 | .list _ _ c,a=>Jq (fun x=>rK c x) a
 | .pair c d,a=>by
  show (Mr (c.enc a.1) && (Mr (d.enc a.2) && true))=true
  rw [rK c a.1,rK d a.2] <;>rfl
 | .triple c d e,a=>by
  show (Mr (c.enc a.1) && (Mr (d.enc a.2.1) && (Mr (e.enc a.2.2) && true)))=true
  rw [rK c a.1,rK d a.2.1,rK e a.2.2] <;>rfl
 | .option c,none=>rfl
 | .option c,some x=>rK c x
theorem EX:∀ (cs:List Codec)(a:Codec.denoteAll cs),AO (Codec.encAll cs a)=true
 | [],_=>rfl
 |c::cs,a=>by
  show (Mr (c.enc a.1) && AO (Codec.encAll cs a.2))=true
  rw [rK c a.1,EX cs a.2] <;>rfl
theorem vT:∀ {xs:List WData}{d:WData},d∈xs→d.weight≤WData.weightAll xs
 | [],d,h=>absurd h (by simp)
 |x::r,d,h=>by
  show d.weight≤x.weight + 1 + WData.weightAll r
  rcases List.mem_cons.mp h with e|m
  ·rw [e]
   omega
  ·have z:=vT m
   omega
def toV:Value→V
 | .none=> .bY
 | .bool b=> .bl b
 | .int i _=> .int i
 | .str x _=> .str x
 | .bytes b _=> .IY b
 | .ref a=> .ref a
 |_=> .bY
def NR (A:List Addr):Value→Prop
 | .none=>True
 | .bool _=>True
 | .int _ _=>True
 | .str _ _=>True
 | .bytes _ _=>True
 | .ref a=>a∈A
 |_=>False
theorem NR.mono {A B:List Addr}(h:∀a∈A,a∈B):∀ {u:Value},NR A u→NR B u:=fun {u} x=>by
 cases u with
 |ref a=>exact h a x
 |none=>trivial
 |bool b=>trivial
 |int i t=>trivial
 |str s t=>trivial
 |bytes b t=>trivial
 |_=>exact False.elim x
theorem P8 {A:List Addr}{u:Value}(x:NR A u):RelV (toV u) u:=by
 cases u with
 |ref a=>rfl
 |none=>rfl
 |bool b=>rfl
 |int i t=>exact ⟨t,rfl⟩
 |str s t=>exact ⟨t,rfl⟩
 |bytes b t=>exact ⟨t,rfl⟩
 |_=>exact False.elim x
theorem oR {A:List Addr}:∀ {vs:List Value},(∀u∈vs,NR A u)→Vals (vs.map toV) vs
 | [],_=> .nil
 |u::r,h=> .cons (P8 (h u (List.mem_cons_self ..))) (oR fun x hx=>h x (List.mem_cons_of_mem _ hx))
def qZ (h:Heap)(A:List Addr)(a:Addr):Prop:=∃vs:List Value,vs.length≤sizeLine∧(∀u∈vs,NR A u)∧
 (h.get? a=some {cls:= .type "list",data:= .seq vs.toArray}∨h.get? a=some {cls:= .type "tuple",data:= .seq vs.toArray})
theorem qZ.mono {h:Heap}{A B:List Addr}{a:Addr}(k:∀a∈A,a∈B)(x:qZ h A a):qZ h B a:=by
 obtain ⟨vs,h1,h2,h3⟩:=x
 exact ⟨vs,h1,fun u hu=>(h2 u hu).mono k,h3⟩
theorem mz {P:Params}{h:Heap}:∀ {vs:List Value}{ds:List WData},WellAll P h vs ds→vs.length=ds.length
 |_,_,.nil=>rfl
 |_,_,.cons _ b=>by
  show _ + 1=_ + 1
  rw [mz b]
theorem EY {P:Params}{h:Heap}{v:Value}{ds:List WData}(x:Well P h v (.list ds)):∃ (a:Addr)(vs:List Value),v= .ref a∧h.get? a=some {cls:= .type "list",data:= .seq vs.toArray}∧WellAll P h vs ds:=by
 cases x with
 |list ho gk=>exact ⟨_,_,rfl,ho,gk⟩
theorem BP {P:Params}{h:Heap}{v:Value}{ds:List WData}(x:Well P h v (.tuple ds)):∃ (a:Addr)(vs:List Value),v= .ref a∧h.get? a=some {cls:= .type "tuple",data:= .seq vs.toArray}∧WellAll P h vs ds:=by
 cases x with
 |tuple ho gk=>exact ⟨_,_,rfl,ho,gk⟩
theorem EZ {P:Params}{h:Heap}{us:List Value}{d:WData}{ds:List WData}(x:WellAll P h us (d::ds)):∃ (v:Value)(vs:List Value),us=v::vs∧Well P h v d∧WellAll P h vs ds:=by
 cases x with
 |cons a b=>exact ⟨_,_,rfl,a,b⟩
theorem Ms {n:Nat}(h:n≤1048576):n≤sizeLine:=Nat.le_trans h (by decide)
section
variable {P:Params}{h:Heap}
mutual
theorem P9:∀ (d:WData)(v:Value),Well P h v d→Mr d=true→d.weight≤1048576→∃A:List Addr,NR A v∧∀a∈A,qZ h A a
 | .none,_,x,_,_=>by
  cases x
  exact ⟨[],trivial,fun a m=>absurd m (by simp)⟩
 | .bool b,_,x,_,_=>by
  cases x
  exact ⟨[],trivial,fun a m=>absurd m (by simp)⟩
 | .int i,_,x,_,_=>by
  cases x
  exact ⟨[],trivial,fun a m=>absurd m (by simp)⟩
 | .str s,_,x,_,_=>by
  cases x
  exact ⟨[],trivial,fun a m=>absurd m (by simp)⟩
 | .bytes b,_,x,_,_=>by
  cases x
  exact ⟨[],trivial,fun a m=>absurd m (by simp)⟩
 | .list ds,_,x,p,z=>by
  obtain ⟨a,vs,rfl,ho,gk⟩:=EY x
  have z2:WData.weightAll ds≤1048576:=z
  obtain ⟨A,h1,h2⟩:=wV ds _ gk p fun d hd=>Nat.le_trans (vT hd) z2
  have k:∀b∈A,b∈a::A:=fun b hb=>List.mem_cons_of_mem _ hb
  refine ⟨a::A,List.mem_cons_self ..,fun b hb=> ?_⟩
  rcases List.mem_cons.mp hb with e|m
  ·rw [e]
   exact ⟨vs,Ms (by rw [mz gk];exact Nat.le_trans (PySem.W.length_le_weightAllW ds) z2),fun u hu=>(h1 u hu).mono k,.inl ho⟩
  ·exact (h2 b m).mono k
 | .tuple ds,_,x,p,z=>by
  obtain ⟨a,vs,rfl,ho,gk⟩:=BP x
  have z2:WData.weightAll ds≤1048576:=z
  obtain ⟨A,h1,h2⟩:=wV ds _ gk p fun d hd=>Nat.le_trans (vT hd) z2
  have k:∀b∈A,b∈a::A:=fun b hb=>List.mem_cons_of_mem _ hb
  refine ⟨a::A,List.mem_cons_self ..,fun b hb=> ?_⟩
  rcases List.mem_cons.mp hb with e|m
  ·rw [e]
   exact ⟨vs,Ms (by rw [mz gk];exact Nat.le_trans (PySem.W.length_le_weightAllW ds) z2),fun u hu=>(h1 u hu).mono k,.inr ho⟩
  ·exact (h2 b m).mono k
 | .float _,_,_,p,_=>Bool.noConfusion (show false=true from p)
 | .dict _,_,_,p,_=>Bool.noConfusion (show false=true from p)
 | .bytearray _,_,_,p,_=>Bool.noConfusion (show false=true from p)
 | .set _,_,_,p,_=>Bool.noConfusion (show false=true from p)
 | .frozenset _,_,_,p,_=>Bool.noConfusion (show false=true from p)
 | .obj _ _,_,_,p,_=>Bool.noConfusion (show false=true from p)
theorem wV:∀ (ds:List WData)(vs:List Value),WellAll P h vs ds→AO ds=true→(∀d∈ds,d.weight≤1048576)→∃A:List Addr,(∀u∈vs,NR A u)∧∀a∈A,qZ h A a
 | [],_,x,_,_=>by
  cases x
  exact ⟨[],fun u m=>absurd m (by simp),fun a m=>absurd m (by simp)⟩
 |d::ds,_,x,p,z=>by
  obtain ⟨v,vs,rfl,x1,x2⟩:=EZ x
  have q:Mr d=true∧AO ds=true:=Bool.and_eq_true_iff.mp p
  obtain ⟨A,a1,a2⟩:=P9 d v x1 q.1 (z d (List.mem_cons_self ..))
  obtain ⟨B,b1,b2⟩:=wV ds vs x2 q.2 fun e he=>z e (List.mem_cons_of_mem _ he)
  have kA:∀b∈A,b∈A ++ B:=fun b hb=>List.mem_append.mpr (.inl hb)
  have kB:∀b∈B,b∈A ++ B:=fun b hb=>List.mem_append.mpr (.inr hb)
  refine ⟨A ++ B,fun u hu=> ?_,fun b hb=> ?_⟩
  ·rcases List.mem_cons.mp hu with e|m
   ·rw [e]
    exact a1.mono kA
   ·exact (b1 u m).mono kB
  ·rcases List.mem_append.mp hb with m|m
   ·exact (a2 b m).mono kA
   ·exact (b2 b m).mono kB
end
end
def Tp (o:Obj):Option HO:=match o.data with
 | .seq vs _=>if (o.cls==Value.type "list")=true then some (.jM o (.lst (vs.toList.map toV))) else some (.jM o (.tup (vs.toList.map toV)))
 |_=>none
def pw (K:PySem.W.Frag)(h:Heap)(A:List Addr):Hp:=fun b=>if b∈A then (if (K.lookup b).isNone=true then (h.get? b).bind Tp else none) else none
def Jr (H:Hp):Prop:=∀b,H b=none∨∃o u,H b=some (.jM o u)
theorem Js (vs:List Value):Tp {cls:= .type "list",data:= .seq vs.toArray}=some (.jM {cls:= .type "list",data:= .seq vs.toArray} (.lst (vs.map toV))):=by
 show (if (Value.type "list"==Value.type "list")=true then some (HO.jM {cls:= .type "list",data:= .seq vs.toArray} (.lst (vs.toArray.toList.map toV))) else some (HO.jM {cls:= .type "list",data:= .seq vs.toArray} (.tup (vs.toArray.toList.map toV))))=_
 rw [if_pos (beq_self_eq_true _)]
theorem Jt (vs:List Value):Tp {cls:= .type "tuple",data:= .seq vs.toArray}=some (.jM {cls:= .type "tuple",data:= .seq vs.toArray} (.tup (vs.map toV))):=by
 show (if (Value.type "tuple"==Value.type "list")=true then some (HO.jM {cls:= .type "tuple",data:= .seq vs.toArray} (.lst (vs.toArray.toList.map toV))) else some (HO.jM {cls:= .type "tuple",data:= .seq vs.toArray} (.tup (vs.toArray.toList.map toV))))=_
 rw [if_neg (by decide)]
section
variable {P:Program}{w:World}{K:PySem.W.Frag}{h:Heap}{A:List Addr}
theorem A4 {b:Addr}{o:Obj}(hb:b∈A)(hk:K.lookup b=none)(e:h.get? b=some o):pw K h A b=Tp o:=by
 unfold pw
 rw [if_pos hb,hk,if_pos (show (none:Option Obj).isNone=true from rfl),e] <;>rfl
theorem Tq {b:Addr}{u:HO}(q:pw K h A b=some u):b∈A∧K.lookup b=none:=by
 unfold pw at q
 by_cases hb:b∈A
 ·rw [if_pos hb] at q
  cases hk:K.lookup b with
  |none=>exact ⟨hb,rfl⟩
  |some o=>
   rw [hk,if_neg (by simp)] at q
   cases q
 ·rw [if_neg hb] at q
  cases q
theorem A6 (ar:∀a∈A,qZ h A a){b:Addr}{u:HO}(q:pw K h A b=some u):K.lookup b=none∧∃vs:List Value,vs.length≤sizeLine∧(∀u∈vs,NR A u)∧
  ((h.get? b=some {cls:= .type "list",data:= .seq vs.toArray}∧u= .jM {cls:= .type "list",data:= .seq vs.toArray} (.lst (vs.map toV)))∨
   (h.get? b=some {cls:= .type "tuple",data:= .seq vs.toArray}∧u= .jM {cls:= .type "tuple",data:= .seq vs.toArray} (.tup (vs.map toV)))):=by
 obtain ⟨hb,hk⟩:=Tq q
 obtain ⟨vs,h1,h2,h3⟩:=ar b hb
 refine ⟨hk,vs,h1,h2,?_⟩
 rcases h3 with e|e
 ·rw [A4 hb hk e,Js] at q
  exact .inl ⟨e,(Option.some.inj q).symm⟩
 ·rw [A4 hb hk e,Jt] at q
  exact .inr ⟨e,(Option.some.inj q).symm⟩
theorem NS (ar:∀a∈A,qZ h A a):Jr (pw K h A):=fun b=>by
 cases q:pw K h A b with
 |none=>exact .inl rfl
 |some u=>
  obtain ⟨_,vs,_,_,⟨_,e⟩|⟨_,e⟩⟩:=A6 ar q
  ·exact .inr ⟨_,_,by rw [e]⟩
  ·exact .inr ⟨_,_,by rw [e]⟩
theorem Tr (ar:∀a∈A,qZ h A a):rp P w (pw K h A) h:=fun b u q=>by
 obtain ⟨_,vs,h1,h2,⟨e,rfl⟩|⟨e,rfl⟩⟩:=A6 ar q
 ·exact ⟨e,by rw [List.length_map];exact h1,vs,_,oR h2,e⟩
 ·exact ⟨e,by rw [List.length_map];exact h1,vs,oR h2,_,e,rfl,_,rfl⟩
theorem A7 {c c':Value}{vs us:List Value}(e:(some {cls:=c,data:= .seq vs.toArray}:Option Obj)=some {cls:=c',data:= .seq us.toArray}):c=c'∧vs=us:=by
 have e1:=Option.some.inj e
 have e2:c=c':=congrArg Obj.cls e1
 have e3:Data.seq vs.toArray=Data.seq us.toArray:=congrArg Obj.data e1
 injection e3 with e4
 refine ⟨e2,?_⟩
 have e5:=congrArg Array.toList e4
 simpa using e5
theorem aiB (KX:K.In h)(ar:∀a∈A,qZ h A a){a:Addr}{vs:List Value}(ha:a∈A)(e:h.get? a=some {cls:= .type "list",data:= .seq vs.toArray}):(∀u∈vs,NR A u)∧cK K (pw K h A) a (vs.map toV):=by
 obtain ⟨us,h1,h2,h3⟩:=ar a ha
 have hu:us=vs:=by
  rcases h3 with q|q
  ·rw [e] at q
   exact (A7 q).2.symm
  ·rw [e] at q
   exact absurd (Value.type.inj (A7 q).1) (by decide)
 subst hu
 refine ⟨h2,?_⟩
 cases hk:K.lookup a with
 |none=>exact .inl (.inr ⟨_,by rw [A4 ha hk e,Js]⟩)
 |some o=>
  have e2:=KX a o hk
  rw [e] at e2
  obtain rfl:=Option.some.inj e2
  exact .inr ⟨_,us.toArray,_,hk,rfl,rfl,rfl,by rw [List.size_toArray];exact h1,by simpa using oR h2⟩
theorem aiC (KX:K.In h)(ar:∀a∈A,qZ h A a){a:Addr}{vs:List Value}(ha:a∈A)(e:h.get? a=some {cls:= .type "tuple",data:= .seq vs.toArray}):(∀u∈vs,NR A u)∧bO K (pw K h A) a (vs.map toV):=by
 obtain ⟨us,h1,h2,h3⟩:=ar a ha
 have hu:us=vs:=by
  rcases h3 with q|q
  ·rw [e] at q
   exact absurd (Value.type.inj (A7 q).1) (by decide)
  ·rw [e] at q
   exact (A7 q).2.symm
 subst hu
 refine ⟨h2,?_⟩
 cases hk:K.lookup a with
 |none=>exact .inl (.inr ⟨_,by rw [A4 ha hk e,Jt]⟩)
 |some o=>
  have e2:=KX a o hk
  rw [e] at e2
  obtain rfl:=Option.some.inj e2
  exact .inr ⟨_,us.toArray,_,hk,rfl,rfl,by rw [List.size_toArray];exact h1,by simpa using oR h2⟩
mutual
theorem Wr {Pm:Params}(KX:K.In h)(ar:∀a∈A,qZ h A a):∀ (d:WData)(v:Value),Well Pm h v d→Mr d=true→NR A v→Dw K (pw K h A) (toV v) d
 | .none,_,x,_,_=>by
  cases x
  exact .bY
 | .bool b,_,x,_,_=>by
  cases x
  exact .bl b
 | .int i,_,x,_,_=>by
  cases x
  exact .int i
 | .str s,_,x,_,_=>by
  cases x
  exact .str s
 | .bytes b,_,x,_,_=>by
  cases x
  have z:=Dw.IY (K:=K) (H:=pw K h A) b.toArray
  exact z
 | .list ds,_,x,p,hu=>by
  obtain ⟨a,vs,rfl,ho,gk⟩:=EY x
  obtain ⟨h2,hs⟩:=aiB KX ar hu ho
  exact .lst hs (Gs KX ar ds _ gk p h2)
 | .tuple ds,_,x,p,hu=>by
  obtain ⟨a,vs,rfl,ho,gk⟩:=BP x
  obtain ⟨h2,hs⟩:=aiC KX ar hu ho
  exact .tup hs (Gs KX ar ds _ gk p h2)
 | .float _,_,_,p,_=>Bool.noConfusion (show false=true from p)
 | .dict _,_,_,p,_=>Bool.noConfusion (show false=true from p)
 | .bytearray _,_,_,p,_=>Bool.noConfusion (show false=true from p)
 | .set _,_,_,p,_=>Bool.noConfusion (show false=true from p)
 | .frozenset _,_,_,p,_=>Bool.noConfusion (show false=true from p)
 | .obj _ _,_,_,p,_=>Bool.noConfusion (show false=true from p)
theorem Gs {Pm:Params}(KX:K.In h)(ar:∀a∈A,qZ h A a):∀ (ds:List WData)(vs:List Value),WellAll Pm h vs ds→AO ds=true→(∀u∈vs,NR A u)→qY K (pw K h A) (vs.map toV) ds
 | [],_,x,_,_=>by
  cases x
  exact .nil
 |d::ds,_,x,p,hu=>by
  obtain ⟨v,vs,rfl,x1,x2⟩:=EZ x
  have q:Mr d=true∧AO ds=true:=Bool.and_eq_true_iff.mp p
  exact .cons (Wr KX ar d v x1 q.1 (hu _ (List.mem_cons_self ..))) (Gs KX ar ds vs x2 q.2 fun u m=>hu u (List.mem_cons_of_mem _ m))
end
end
theorem NT {P:Program}{w:World}{K:PySem.W.Frag}{mg mb:Str→Option Value}{CX:KC}{k:Nat}{fa:Addr}{fd:FuncData}{ps:List Str}{sp:Sp}{s₁:Shared}{vals:List Value}{ds:List WData}{R:PySem.W.WRecords}{cl:Str→Option Addr}{d0:WData}
  (KX:K.In s₁.heap)(hns:s₁.heap.Ns mainGlobals mg)(hb:s₁.heap.Ns builtinsNs mb)(hbb:∀x:Str,x≠"__name__"→mb x=bootBuiltins x)(aaI:s₁.heap.NoLimit)(hg:s₁.gens= #[])
  (E1:WellAll w.params s₁.heap vals ds)(eD:AO ds=true)(hwt:∀d∈ds,d.weight≤1048576)(hr:gO k callerA)
  (F:∀base:Heap,K.In base→base.Ns mainGlobals mg→bH P w K mg base CX k fa fd ps sp)(aaJ:∀ (s:Shared)(us:List Value),us.length=ps.length→BindsTo s fd ⟨us,[]⟩ (ps.zip us))(hlen:ds.length=ps.length)
  (Pc:∀ (H:Hp)(xs:List V),Jr H→qY K H xs ds→sp xs H (fun v H'=>Dw K H' v d0) fun _ _ _=>False)
  (hCX:∀H e s',CX [] H s₁ (fun _ _ _=>False) e s'→False):
  codeAny (model P w) callerA (.call (.ref fa) ⟨vals,[]⟩) (fun r s'=>∃u as,r= .ok (.ret u)∧ReadsW R cl s'.heap u d0 as∧OldK s₁.heap s'.heap∧s'.os=s₁.os∧AllBare s'.gens) s₁:=by
 obtain ⟨A,ho,ar⟩:=wV ds vals E1 eD hwt
 have hO:Jr (pw K s₁.heap A):=NS ar
 have cw:rp P w (pw K s₁.heap A) s₁.heap:=Tr ar
 have hS:=Gs KX ar ds vals E1 eD ho
 have hV:=oR ho
 have hK:∀b u,pw K s₁.heap A b=some u→K.lookup b=none:=fun b u q=>(A6 ar q).1
 have Zj:∀ {b:Addr}{o:Obj}{es:Array DictEntry}{ep:Nat},s₁.heap.get? b=some o→o.data= .dict es ep→pw K s₁.heap A b=none:=fun {b o es ep} e d=>by
  cases q:pw K s₁.heap A b with
  |none=>rfl
  |some u=>
   obtain ⟨_,vs,_,_,⟨e2,_⟩|⟨e2,_⟩⟩:=A6 ar q
   ·rw [e2] at e
    cases e
    have d':Data.seq vs.toArray _=Data.dict es ep:=d
    cases d'
   ·rw [e2] at e
    cases e
    have d':Data.seq vs.toArray _=Data.dict es ep:=d
    cases d'
 generalize pw K s₁.heap A=H at hO cw hS hK Zj
 have Mt:∀ {b:Addr}{o:Obj},s₁.heap.get? b=some o→H b=none→(FP s₁.heap H).get? b=some o:=fun e n=>Pk e n
 have nsK:∀ {b:Addr}{m:Str→Option Value},s₁.heap.Ns b m→(FP s₁.heap H).Ns b m:=fun {b m} ⟨o,es,ep,e,d,r⟩=>⟨o,es,ep,Mt e (Zj e d),d,r⟩
 have nK:∀b o,K.lookup b=some o→H b=none:=fun b o e=>by
  cases q:H b with
  |none=>rfl
  |some u=>
   rw [hK b u q] at e
   cases e
 have hKb:K.In (FP s₁.heap H):=fun b o e=>Mt (KX b o e) (nK b o e)
 have hM:Mod K mg (FP s₁.heap H):=⟨hKb,nsK hns,⟨mb,nsK hb,hbb⟩,let ⟨mc,h1,h2⟩:=aaI;⟨mc,nsK h1,h2⟩⟩
 have e0:KD P w K mg (FP s₁.heap H) callerA [] s₁ H:=⟨rfl,hM,fun b o e=>SN e,Nat.le_of_eq (Nw _ _),trivial,fun b hb=>absurd (show b∈([] :List Addr) from hb) (by simp),cw,.of_eq hg⟩
 have hl:vals.length=ps.length:=by rw [mz E1];exact hlen
 refine codeAny_mono ((F _ hKb (nsK hns)).run callerA [] s₁ H ⟨vals,[]⟩ vals (vals.map toV) _ _ hr e0 (aaJ s₁ vals hl) hV (Pc H _ hO hS)) fun r s' x=> ?_
 cases r with
 |error e=>exact (hCX H e s' x).elim
 |ok fl=>
  cases fl with
  |next=>exact False.elim x
  |brk=>exact False.elim x
  |cont=>exact False.elim x
  |ret u=>
   obtain ⟨v,H',os,bare,un,aaL,r',q⟩:=x
   have kept:∀b o,s₁.heap.get? b=some o→s'.heap.get? b=some o:=fun b o e=>by
    cases q2:H b with
    |none=>exact un.keep b o e q2 (by intro z;exact absurd (show b∈([] :List Addr) from z) (by simp)) (by simp)
    |some u2=>
     rcases hO b with z|⟨ob,u3,z⟩
     ·rw [q2] at z
      cases z
     ·have z2:=un.Bv b ob _ z
      obtain ⟨e1,_⟩:=cw b _ z
      obtain ⟨e2,_⟩:=aaL b _ z2
      rw [e] at e1
      cases e1
      exact e2
   have KX':K.In s'.heap:=fun b o e=>kept b o (KX b o e)
   obtain ⟨as,hrd⟩:=Dw.reads (R:=R) (cl:=cl) aaL KX' d0 v u q r'
   exact ⟨u,as,rfl,hrd,OldK.of_keep kept,os,bare⟩
theorem BQ {ds:List WData}(h:WData.layableAll ds=true):∀d∈ds,d.weight≤1048576:=fun d hd=>
 (PySem.W.layableW_iff.mp (List.all_eq_true.mp h d hd)).2.2
theorem BR:∀ (cs:List Codec)(a:Codec.denoteAll cs),(Codec.encAll cs a).length=cs.length
 | [],_=>rfl
 |c::cs,a=>by
  show (Codec.encAll cs a.2).length + 1=cs.length + 1
  rw [BR cs a.2]
theorem NU {r:OpenSpec}{k:Nat}{q:Program}{loose:List Str}{XP:(Str→Option Value)→Heap→Prop}{YP:World→Heap→Prop}{d:DefRec}{K:Params→PySem.W.Frag}{CX:World→KC}{ps:List Str}{sp:World→Sp}
  (Qa:r.wellSaid=true)(hdf:d.params.defaults= [])(hlen:r.args.length=ps.length)(hr:gO k callerA)
  (hY:∀ (w:World)(h:Heap),YP w h→(K w.params).In h)
  (F:∀ (w:World)(mg:Str→Option Value)(fa:Addr)(h:Heap),YP w h→(K w.params).In h→h.Ns mainGlobals mg→mg d.name=some (.ref fa)→
   ∃fd:FuncData,(∀ (s:Shared)(us:List Value),us.length=ps.length→BindsTo s fd ⟨us,[]⟩ (ps.zip us))∧
    ∀base:Heap,(K w.params).In base→base.Ns mainGlobals mg→bH r.prog w (K w.params) mg base (CX w) k fa fd ps (sp w))
  (Pc:∀ (w:World)(H:Hp)(xs:List V)(a:Codec.denoteAll r.args),Jr H→Codec.withinAll r.args a=true→Codec.app r.args r.asked a=true→qY (K w.params) H xs (Codec.encAll r.args a)→
   sp w xs H (fun v H'=>Dw (K w.params) H' v (r.ret.enc (Codec.app r.args r.f a))) fun _ _ _=>False)
  (hCX:∀ (w:World)(H:Hp)(s:Shared)(e:Value)(s':Shared),CX w [] H s (fun _ _ _=>False) e s'→False):
  PySem.W.WalkOS q loose XP YP r d [] (fun f vs=>PySem.call f vs):=by
 intro w EA s₁ mg mb G Y fa o pm cd doc dV kV ho hd wD hD hmg hg args vals as aiF aiG hrd E1 hlo
 obtain ⟨a,e1,e2⟩:=PySem.W.os_pre_some aiF
 obtain ⟨e3,Zp⟩:=Codec.encAll_of_decAll r.args args a e1
 subst e3
 have KX:=hY w _ Y
 obtain ⟨fd,hb,hF⟩:=F w mg fa _ Y KX G.T.g hmg
 refine PySem.W.enter_call (codeAny_mono (NT (R:= []) (cl:=classAt EA.heap) (d0:=r.ret.enc (Codec.app r.args r.f a)) KX G.T.g G.T.b G.T.builtins G.T.nolimit hg E1 (EX _ _) (BQ aiG) hr hF hb (by rw [BR];exact hlen)
  (fun H xs hO hS=>Pc w H xs a hO Zp e2 hS) fun H e s'=>hCX w H s₁ e s') fun r' s' hq=> ?_)
 obtain ⟨u,rL,rfl,h1,h2,h3,h4⟩:=hq
 exact ⟨.inl ⟨u,_,rL,rfl,fun _=>rfl,h1,(OpenSpec.post_iff Qa Zp _ _).mpr rfl,fun z=>Bool.noConfusion (show false=true from z)⟩,h2,h3,h4⟩
theorem KR {r:OpenSpec}{k:Nat}{q:Program}{loose:List Str}{XP:(Str→Option Value)→Heap→Prop}{YP:World→Heap→Prop}{d:DefRec}{K:Params→PySem.W.Frag}{CX:KC}{ps:List Str}{sp:PySem.W.Frag→Sp}
  (Qa:r.wellSaid=true)(hdf:d.params.defaults= [])(hlen:r.args.length=ps.length)(hr:gO k callerA)
  (hY:∀ (w:World)(h:Heap),YP w h→(K w.params).In h)
  (F:∀ (w:World)(mg:Str→Option Value)(fa:Addr)(h:Heap),YP w h→(K w.params).In h→h.Ns mainGlobals mg→mg d.name=some (.ref fa)→
   ∃fd:FuncData,(∀ (s:Shared)(us:List Value),us.length=ps.length→BindsTo s fd ⟨us,[]⟩ (ps.zip us))∧
    ∀base:Heap,(K w.params).In base→base.Ns mainGlobals mg→bH r.prog w (K w.params) mg base CX k fa fd ps (sp (K w.params)))
  (Pc:∀ (K:PySem.W.Frag)(H:Hp)(xs:List V)(a:Codec.denoteAll r.args),Jr H→Codec.withinAll r.args a=true→Codec.app r.args r.asked a=true→qY K H xs (Codec.encAll r.args a)→
   sp K xs H (fun v H'=>Dw K H' v (r.ret.enc (Codec.app r.args r.f a))) fun _ _ _=>False)
  (hCX:∀ (H:Hp)(s:Shared)(e:Value)(s':Shared),CX [] H s (fun _ _ _=>False) e s'→False):
  PySem.W.WalkOS q loose XP YP r d [] (fun f vs=>PySem.call f vs):=
 NU (K:=K) (CX:=fun _=>CX) (sp:=fun w=>sp (K w.params)) Qa hdf hlen hr hY F (fun w H xs a h1 h2 h3 h4=>Pc (K w.params) H xs a h1 h2 h3 h4) fun _ H s e s'=>hCX H s e s'
end L2
end
set_option Elab.async false
set_option linter.all false
set_option maxRecDepth 100000
set_option maxHeartbeats 2000000
namespace L2
open PySem PySem.Spec PyProof.Rows PyProof.Rows.KTD
inductive Ju:List DictEntry→List (Int×V)→Prop
 |nil:Ju [] []
 |cons {e:DictEntry} {i:Int} {t:Tok} {v:V} {es:List DictEntry} {kvs:List (Int×V)}:e.key= .int i t→e.hash=hashInt i→RelV v e.val→Ju es kvs→Ju (e::es) ((i,v)::kvs)
def DM (K:PySem.W.Frag)(a:Addr)(kvs:List (Int×V)):Prop:=
 (kvs.map (·.1)).Nodup∧∃ (o:Obj)(es:Array DictEntry)(ep:Nat),K.lookup a=some o∧o.ExactDict∧o.data= .dict es ep∧Ju es.toList kvs
theorem z9 {P:Program}{w:World}:∀ {es:List DictEntry}{kvs:List (Int×V)},Ju es kvs→
  (∀e∈es,∃k,(bZ P w).is k e.key=true∧e.hash=(bZ P w).hash k)∧∃vs:List (Key×Value),Pairs (bZ P w) es vs∧KV (kvs.map fun p=>((Sum.inl p.1:Key),p.2)) vs
 |_,_,.nil=>⟨fun _ h=>(nomatch h),[],.nil,.nil⟩
 |_,_,.cons (e:=e) (i:=i) (t:=t) hk hh hv r=>by
  obtain ⟨h1,vs,h2,h3⟩:=z9 (P:=P) (w:=w) r
  have hi:(bZ P w).is (Sum.inl i) e.key=true:=by rw [hk];exact zW P w i t
  refine ⟨fun x hx=> ?_,(Sum.inl i,e.val)::vs,.cons hi rfl h2,.cons ⟨rfl,hv⟩ h3⟩
  rcases List.mem_cons.mp hx with q|q
  ·rw [q];exact ⟨Sum.inl i,hi,hh⟩
  ·exact h1 x q
theorem E2:∀ {kvs:List (Int×V)},(kvs.map (·.1)).Nodup→((kvs.map fun p=>((Sum.inl p.1:Key),p.2)).map (·.1)).Nodup
 | [],_=>List.nodup_nil
 |p::r,h=>by
  rw [List.map_cons,List.nodup_cons] at h
  rw [List.map_cons,List.map_cons,List.nodup_cons]
  refine ⟨fun q=>h.1 ?_,E2 h.2⟩
  obtain ⟨x,hx,e⟩:=List.mem_map.mp q
  obtain ⟨y,hy,rfl⟩:=List.mem_map.mp hx
  have e':y.1=p.1:=Sum.inl.inj e
  rw [←e']
  exact List.mem_map_of_mem hy
theorem Jv (i:Int):∀kvs:List (Int×V),dz (kvs.map fun p=>((Sum.inl p.1:Key),p.2)) (Sum.inl i)=dz kvs i
 | [] =>rfl
 |p::r=>by
  by_cases e:p.1=i
  ·rw [List.map_cons,c9 (show (Sum.inl p.1:Key)=Sum.inl i by rw [e]),c9 e]
  ·rw [List.map_cons,da (fun q=>e (Sum.inl.inj q)),da e,Jv i r]
section
variable {X:Cx}{pins:List (Addr×Obj)}{σ:St}{H:Hp}{s:Shared}{a:Addr}
theorem DM.at {kvs:List (Int×V)}(I:Inv X pins σ H s)(d:DM X.K a kvs):∃vs,KV (kvs.map fun p=>((Sum.inl p.1:Key),p.2)) vs∧s.heap.DictOf (bZ X.prog X.w) a vs:=by
 obtain ⟨nd,o,es,ep,hk,hx,hd,he⟩:=d
 obtain ⟨h1,vs,h2,h3⟩:=z9 (P:=X.prog) (w:=X.w) he
 refine ⟨vs,h3,o,es,ep,I.L5 a o hk,hx,hd,fun e m=>h1 e (Array.mem_toList_iff.mpr m),h2,?_⟩
 rw [←h3.keys]
 exact E2 nd
def aaM (K:PySem.W.Frag)(td ty:TE):TE:=fun σ H Q=>td σ H fun x H1=>ty σ H1 fun y H2=>∃a kvs i v,x= .ref a∧y= .int i∧DM K a kvs∧dz kvs i=some v∧Q v H2
theorem Gu {o i:Expr}{pos:Pos}{td ty:TE}(ho:PE X o td)(hi:PE X i ty)(hs:Ti i):PE X (.Subscript o i pos) (aaM X.K td ty):=by
 intro pins s σ H Q I h
 refine Gm PySem.F.slot_dict_getitem.lookup hs (dq (ho pins s σ H _ I h) fun u s1 ⟨x,H1,I1,rx,q1⟩=>dq (hi pins s1 σ H1 _ I1 q1) fun iv s2 ⟨y,H2,I2,ry,a,kvs,i,v,ex,ey,d,l,q2⟩=> ?_)
 subst ex ey
 obtain rfl:u=Value.ref a:=rx
 obtain ⟨vs,rel,dd⟩:=d.at I2
 refine ⟨dd.typeIs,?_⟩
 obtain ⟨w',hw,FX⟩:=uY.some_of (v:=v) (o:=valueAt vs (Sum.inl i)) (by rw [←l,←Jv];exact rel.val (Sum.inl i))
 exact wpAny_getItem_of (z6 (k:=Sum.inl i) ry) dd.mapOf hw ⟨v,H2,I2.tok _,FX,q2⟩
end
def DMS (K:PySem.W.Frag)(a:Addr)(kvs:List (Str×V)):Prop:=
 ∃ (o:Obj)(es:Array DictEntry)(ep:Nat),K.lookup a=some o∧o.ExactDict∧o.data= .dict es ep∧Rows RelV es.toList kvs
section
variable {X:Cx}
def Ws (K:PySem.W.Frag)(td ty:TE):TE:=fun σ H Q=>td σ H fun x H1=>ty σ H1 fun y H2=>∃a kvs k v,x= .ref a∧y= .str k∧DMS K a kvs∧datumAt k kvs=some v∧Q v H2
theorem Jw {o i:Expr}{pos:Pos}{td ty:TE}(ho:PE X o td)(hi:PE X i ty)(hs:Ti i):PE X (.Subscript o i pos) (Ws X.K td ty):=by
 intro pins s σ H Q I h
 refine Gm PySem.F.slot_dict_getitem.lookup hs (dq (ho pins s σ H _ I h) fun u s1 ⟨x,H1,I1,rx,q1⟩=>dq (hi pins s1 σ H1 _ I1 q1) fun iv s2 ⟨y,H2,I2,ry,a,kvs,k,v,ex,ey,d,l,q2⟩=> ?_)
 subst ex ey
 obtain rfl:u=Value.ref a:=rx
 obtain ⟨tk,rfl⟩:=ry
 obtain ⟨o,es,ep,hk,hc,hd,hr⟩:=d
 have ho:=I2.L5 a o hk
 have hT:s2.TypeIs (.ref a) "dict":=⟨o,ho,hc.1⟩
 refine ⟨hT,?_⟩
 unfold getItem
 try with_reducible refine wpAny_holding ?_
 refine wpAny_bind (wpAny_sequenceKey hT (by decide) ?_)
 refine wpAny_bind (wpAny_callSpecial?_slot (name:=Str.ofString "__getitem__") hT slot_dict_getitem
  (wpAny_call_entry slot_dict_getitem hT entry_dict_getitem ?_ (args_dict_getitem _ _)))
 show wpAny _ _ (dictGet a (.str k tk) >>=_) _ _ s2
 obtain ⟨u,hu,ru⟩:=hr.find_some l
 refine wpAny_bind ?_
 unfold dictGet
 try with_reducible refine wpAny_holding ?_
 refine wpAny_bind (wpAny_pyHash_str (wpAny_bind (kt_dictFind_strs (s:={s2 with toks:=s2.toks + 1}) ho hd (by obtain ⟨l⟩:=es;simpa using hr.exact) ?_)))
 have hf:findBy (fun k v=>v.isStr k) es k=some u:=by
  rw [←hu]
  obtain ⟨l⟩:=es
  simp [findBy]
 rw [findBy_of_findIdx?] at hf
 cases Zq:es.findIdx? fun e=>e.key.isStr k with
 |none=>rw [Zq] at hf;cases hf
 |some j=>
  rw [Zq] at hf
  refine wpAny_bind (wpAny_dictEntries (s:={s2 with toks:=s2.toks + 1}) ho hd (wpAny_pure ?_))
  have hf':(es[j]?).map (·.val)=some u:=hf
  rw [hf']
  exact wpAny_pure ⟨u,rfl,wpAny_pure ⟨v,H2,I2.tok _,ru,q2⟩⟩
end
section
variable {X:Cx}
theorem Gv {prog:Program}{w:World}{d:Addr}(hd:(d==sysModules)=false):
  MeetsIn prog w (Builtin.«dict.__len__» ⟨[.ref d],[]⟩) (fun _ R s=>∃o es ep,s.heap.get? d=some o∧o.data= .dict es ep∧R (.ok (.ret (.int es.size s.toks))) {s with toks:=s.toks + 1}):=
 .of_wp fun A R s ⟨o,es,ep,ho,aiI,h⟩=>by
  show wpAny _ _ (dictSize d >>=_) _ _ s
  unfold dictSize
  refine wpAny_bind (wpAny_bind (wpAny_dictEntries ho aiI (wpAny_pure ?_)))
  show wpAny _ _ (Builtin.Dict.pendingCount d >>=_) _ _ s
  refine wpAny_bind (wpAny_pendingCount_other hd (wpAny_ret_mkInt ?_))
  rw [Nat.add_zero]
  exact h
theorem NV:mw X (.builtin "len") (fun xs H Q=>∃a kvs,xs= [V.ref a] ∧H a=some (.dT kvs)∧Q (.int kvs.length) H):=by
 intro pins s σ H vs us Q I r h
 obtain ⟨a,kvs,rfl,e,q⟩:=h
 rw [Vals.KL r]
 obtain ⟨z,hd,xs,rel,o,es,ep,h1,h2,h3,h4,h5⟩:=I.cw a _ e
 have hT:s.TypeIs (.ref a) "dict":=⟨o,h1,h2.1⟩
 have hz:es.size=kvs.length:=by
  rw [size_of_entries h4]
  exact (Paired.length rel).symm
 have hl:=BF
 refine Calls.call_function_entry kind_len plain_len entry_len (args_len1 _) ?_
 unfold Builtin.«len»
 refine wpAny_bind (m:=oneArg "len" _) (wpAny_pure ?_)
 refine wpAny_bind (m:=callSpecial? (.ref a) (Str.ofString "__len__")) (wpAny_callSpecial?_slot (name:=Str.ofString "__len__") hT PySem.F.slot_dict_len
  (call_meetsIn PySem.F.slot_dict_len hT PySem.F.entry_dict_len (PySem.F.args_dict_len_1 _) (Gv hd) ⟨o,es,ep,h1,h3,?_⟩))
 rw [hz]
 show wpAny _ _ _ _ _ {s with toks:=s.toks + 1}
 refine wpAny_bind (wpAny_holding (wpAny_pure ?_))
 refine wpAny_bind (wpAny_letGo ?_)
 show wpAny _ _ (if ((kvs.length:Nat):Int) < 0 then _ else _) _ _ _
 rw [if_neg (by omega)]
 show wpAny _ _ (if ((kvs.length:Nat):Int) ≥ 2 ^ 63 then _ else _) _ _ _
 rw [if_neg (by omega)]
 exact wpAny_bind (wpAny_mkInt (wpAny_pure ⟨_,rfl,⟨.int _,H,I.tok _,⟨_,rfl⟩,q⟩⟩))
end
section
variable {X:Cx}{CX:KC}{k:Nat}{E:XK}{pos:Pos}{g e:Expr}{es:List Expr}{te:TE}{t:TA}
def Wt (G:Addr→Sp→Prop)(E:XK)(te:TE)(t:TA):TE:=fun σ H Q=>te σ H fun x H1=>∃f sp,x= .ref f∧G f sp∧t σ H1 fun vs H2=>sp vs H2 Q E
structure GOk (X:Cx) (CX:KC) (k:Nat) (G:Addr→Sp→Prop):Prop where
 ok:∀f sp,G f sp→∃fd ps,bH X.prog X.w X.K X.mg X.base CX k f fd ps sp∧Binds X.K fd ps [] ∧PySem.W.keepIn X.K (.ref f)=true
theorem Qb {G:Addr→Sp→Prop}(hG:GOk X CX k G)(hr:gO k X.A)(hx:Passes CX X E)(hg:PE X g te)(ha:PA X (e::es) t)
  (hc:eval (.Call g (e::es) [] pos) X.env=(do callWith pos (←eval g X.env) [] (backTo pos (starEach (e::es) X.env)) (backToKw pos (keywordEach [] X.env))):=by rfl)
  (he:starEach (e::es) X.env=(false,eval e X.env)::starEach es X.env:=by rfl)(eD:(backTo pos (starEach es X.env)).any (·.1)=false:=by rfl):
  PE X (.Call g (e::es) [] pos) (Wt G E te t):=by
 intro pins s σ H Q I h
 refine Call_ (dq (hg pins s σ H _ I h) fun u s1 ⟨x,H1,I1,rx,f,sp,ex,hgf,q1⟩=> ?_) hc
 subst ex
 obtain rfl:u=Value.ref f:=rx
 obtain ⟨fd,ps,F,hb,hk⟩:=hG.ok f sp hgf
 refine PySem.W.callWith_K (h₀:=X.base) I.ok.mod.ZN hk (dq (ha pos pins s1 σ H1 _ I1 q1) fun us s2 ⟨vs,H2,I2,r,q2⟩=>⟨I2.L5,?_⟩) he eD
 exact PF F hr hb .nil hx I2 r (by rw [List.append_nil];exact q2)
end
end L2
namespace L2
open PySem PySem.Spec PyProof.Rows
theorem wW {κ α:Type} [DecidableEq κ] {k:κ}:∀ {xs:List (κ×α)}{j:Nat}{p:α},(xs.map (·.1)).Nodup→xs[j]?=some (k,p)→(xs.filter fun x=>decide (x.1≠k))=xs.eraseIdx j
 | [],j,p,_,h=>by simp at h
 |x::xs,0,p,nd,h=>by
  rw [List.map_cons,List.nodup_cons] at nd
  have e:x=(k,p):=Option.some.inj h
  subst e
  have all:∀y∈xs,decide (y.1≠k)=true:=fun y hy=>decide_eq_true fun q=>nd.1 (by show k∈_;rw [←q];exact List.mem_map_of_mem hy)
  rw [List.filter_cons,if_neg (by simp),List.filter_eq_self.mpr all]
  rfl
 |x::xs,j + 1,p,nd,h=>by
  rw [List.map_cons,List.nodup_cons] at nd
  have hj:xs[j]?=some (k,p):=h
  have ne:x.1≠k:=fun q=>nd.1 (by rw [q];exact List.mem_map.mpr ⟨(k,p),List.mem_of_getElem? hj,rfl⟩)
  rw [List.filter_cons,if_pos (decide_eq_true ne),wW nd.2 hj]
  rfl
theorem tK {α β:Type}(f:α→β):∀ (l:List α)(i:Nat),(l.map f).eraseIdx i=(l.eraseIdx i).map f
 | [],_=>rfl
 |_::_,0=>rfl
 |x::l,i + 1=>by
  show f x::(l.map f).eraseIdx i=f x::(l.eraseIdx i).map f
  rw [tK f l i]
section
variable {prog:Program}{w:World}{A:Around}{E:Value→Shared→Prop}{s:Shared}{κ:Type} [DecidableEq κ] {knd:HeapKind prog w κ}{d a:Addr}{k:κ}{xs:List (κ×Addr×Value)}{p:Addr×Value}{j:Nat}
theorem Qc {Q:Option DictEntry→Shared→Prop}(hu:knd.room A)(vR:knd.is s.heap k a)(hm:s.heap.DictOfH knd d xs)(hz:xs.length≤sizeLine)(hj:xs[j]?=some (k,p))
  (h:∀h',h'.DictOfH knd d (xs.filter fun x=>decide (x.1≠k))→Heap.SameBut d s.heap h'→Q (some (entryOfKey knd (k,p))) {s with heap:=h',toks:=s.toks + knd.draws k}):
  wpAny (model prog w) A (Builtin.Dict.takeOut d (.ref a)) Q E s:=by
 obtain ⟨o,es,ep,ho,hc,hd,he,his,hn⟩:=hm
 unfold Builtin.Dict.takeOut
 try with_reducible refine wpAny_holding ?_
 refine wpAny_bind (knd.pyHash hu vR (wpAny_bind (wpAny_dictFind_heap (s:={s with toks:=s.toks + knd.draws k}) hu vR ho hd he his hn (fun no=>absurd hj (no j p)) fun i q hi=> ?_)))
 have hij:i=j:=by
  have e1:(xs.map (·.1))[i]?=some k:=by rw [List.getElem?_map,hi] <;>rfl
  have e2:(xs.map (·.1))[j]?=some k:=by rw [List.getElem?_map,hj] <;>rfl
  exact Vd hn e1 e2
 subst hij
 refine wpAny_bind (wpAny_dictEntries (s:={s with toks:=s.toks + knd.draws k}) ho hd ?_)
 rw [entry_at he i,hj]
 refine wpAny_bind (wpAny_updateDictKeys (hz:=by have e:=size_of_entries he;omega) (s:={s with toks:=s.toks + knd.draws k}) ho hd (wpAny_pure (h _ ⟨_,_,ep + 1,Heap.get?_update_self _ ho (Obj.isFreed_of_dict (Obj.data_mapDictKeys hd _)),
  hc.mapDictKeys _,Obj.data_mapDictKeys hd _,?_,?_,?_⟩ (Heap.SameBut.update ..))))
 ·rw [wW hn hj]
  obtain ⟨l⟩:=es
  have hel:l=xs.map (entryOfKey knd):=he
  subst hel
  have Ve:i < (xs.map (entryOfKey knd)).length:=by rw [List.length_map];exact (List.getElem?_eq_some_iff.mp hj).1
  have eA:i < xs.length:=(List.getElem?_eq_some_iff.mp hj).1
  simp only [Array.eraseIdxIfInBounds]
  rw [dif_pos (by simpa using eA),←tK]
  simp
 ·intro x hx
  exact knd.keeps (his x (List.mem_filter.mp hx).1) ho hd (Heap.SameBut.update ..)
 ·exact (List.filter_sublist.map _).nodup hn
theorem KS {v:Value}:
  MeetsIn prog w (Builtin.«dict.pop» ⟨[.ref d,.ref a],[]⟩) (fun A R s=>knd.room A.in1∧∃ (k:κ)(xs:List (κ×Addr×Value))(j:Nat)(b:Addr),knd.is s.heap k a∧s.heap.DictOfH knd d xs∧xs.length≤sizeLine∧xs[j]?=some (k,(b,v))∧
   ∀h',h'.DictOfH knd d (xs.filter fun x=>decide (x.1≠k))→Heap.SameBut d s.heap h'→R (.ok (.ret v)) {s with heap:=h',toks:=s.toks + knd.draws k}):=
 .of_wp fun A R s ⟨hu,k,xs,j,b,vR,hm,hz,hj,h⟩=>by
  obtain ⟨o,es,ep,ho,hc,hd,he,his,hn⟩:=id hm
  unfold Builtin.«dict.pop»
  refine wpAny_bind ?_
  unfold Builtin.Dict.keyAndDefault
  refine wpAny_bind (wpAny_notOrdered_dict hm.typeIs ?_)
  show wpAny _ _ (pure (d,Value.ref a,none)) _ _ s
  refine wpAny_pure ?_
  have u4:es.isEmpty=false:=by
   have h0:j < xs.length:=(List.getElem?_eq_some_iff.mp hj).1
   have h1:=size_of_entries he
   rw [Array.isEmpty_eq_false_iff]
   intro q
   rw [q] at h1
   simp at h1
   omega
  simp only [show (keyPart (Value.ref a)).isSome=false from rfl,Bool.false_eq_true,if_false]
  refine wpAny_bind (wpAny_dictEntries ho hd (wpAny_bind (wpAny_pure ?_)))
  rw [u4]
  simp only [Bool.false_eq_true,if_false]
  refine wpAny_bind (Qc hu vR hm hz hj fun h' Wu hs'=> ?_)
  simp only [Option.isNone_some,Bool.false_eq_true,if_false]
  exact wpAny_bind (wpAny_letGo (wpAny_pure ⟨v,rfl,h h' Wu hs'⟩))
end
section
variable {X:Cx}{o e:Expr}{apos gj:Pos}{td ty:TE}
theorem KT.drop {H:Hp}{kvs:List (List Key×V)}{xs:List (List Key×Addr×Value)}(r:KT H kvs xs)(k:List Key):KT H (BM kvs k) (xs.filter fun x=>decide (x.1≠k)):=by
 induction r with
 |nil=>exact .nil
 | @cons p q ps qs h t ih=>
  unfold BM
  by_cases z:p.1=k
  ·rw [List.filter_cons,List.filter_cons,if_neg (by simp [z]),if_neg (by simp [←h.1,z])]
   exact ih
  ·rw [List.filter_cons,List.filter_cons,if_pos (by simp [z]),if_pos (by simp [←h.1,z])]
   exact .cons h ih
theorem KT.has {H:Hp}{kvs:List (List Key×V)}{xs:List (List Key×Addr×Value)}(r:KT H kvs xs){k:List Key}{v:V}(l:dz kvs k=some v):∃ (j:Nat)(b:Addr)(u:Value),xs[j]?=some (k,(b,u))∧RelV v u:=by
 induction r with
 |nil=>cases l
 | @cons p q ps qs h t ih=>
  by_cases z:p.1=k
  ·rw [c9 z] at l
   cases l
   exact ⟨0,q.2.1,q.2.2,by rw [←z,h.1];rfl,h.2.2⟩
  ·rw [da z] at l
   obtain ⟨j,b,u,e1,e2⟩:=ih l
   exact ⟨j + 1,b,u,e1,e2⟩
def Wv (td ty:TE):TE:=fun σ H Q=>td σ H fun x H1=>∃a,x= .ref a∧IsD H1 a∧ty σ H1 fun y H2=>∃kvs k b v,H2 a=some (.dT kvs)∧y= .ref b∧H2 b=some (.tup (k.map kV))∧dz kvs k=some v∧Q v (upd H2 a (.dT (BM kvs k)))
theorem Qe (hu:X.A.units + 1 < cLine)(ho:PE X o td)(he:PE X e ty)(m:M1 X o "pop" apos e gj):PE X (.Call (.Attribute o "pop" apos) [e] [] gj) (Wv td ty):=by
 intro pins s σ H Q I h
 refine wpAny_Call_method m.base m.few m.line PySem.F.plainAttrs_dict PySem.F.slot_dict_pop PySem.F.type_dict_pop (dq (ho pins s σ H _ I h) fun u s1 ⟨x,H1,I1,rx,a,ex,d,q1⟩=> ?_)
 subst ex
 obtain rfl:u=Value.ref a:=rx
 obtain ⟨t1,t2,_⟩:=KO I1 d
 refine ⟨t1,t2,?_⟩
 rw [m.trees]
 refine Calls.callWith_builtin rfl (Calls.evalArgs_plain (Calls.spliced_cons (dq (he pins s1 σ H1 _ I1 q1) fun iv s2 ⟨y,H2,I2,ry,kvs,k,b,v,ea,ey,eb,l,q2⟩=>Calls.spliced_nil ?_)))
 subst ey
 obtain rfl:iv=Value.ref b:=ry
 obtain ⟨z,hd,xs,rel,dd⟩:=Vc I2.cw ea
 obtain ⟨j,c,w',hj,FX⟩:=KT.has rel l
 refine call_meetsIn PySem.F.slot_dict_pop dd.typeIs PySem.F.entry_dict_pop (PySem.F.args_dict_pop_2 _ _) (KS (knd:=tupleKind (bZ X.prog X.w)) (v:=w'))
  ⟨tupleKind_room_in1 hu,k,xs,j,c,rJ I2.cw eb,dd,by rw [←Paired.length rel];exact z,hj,fun h' Zn hs=> ?_⟩
 obtain ⟨q,es,ep,hq,h2,h3,h4,_,h5⟩:=Zn
 refine ⟨v,_,Gk (ob:= .dT (BM kvs k)) I2 (by rw [ea];exact True.intro) hs ⟨q,hq⟩ ⟨Nat.le_trans (P0 kvs k) z,hd,_,(KT.drop rel k).keeps fun c ys ec=> ?_,q,es,ep,hq,h2,h3,h4,h5⟩,FX,q2⟩
 rw [az (bh ec ea (fun z=>nomatch z))]
 exact ec
end
end L2
namespace L2
open PySem PySem.Spec PyProof.Rows
section
variable {X:Cx}
def Qg:List V→Hp→VK→Prop:=fun vs H Q=>∃ (a:Addr)(kvs:List (Key×V))(ns:List Int),vs= [V.ref a] ∧H a=some (.dK kvs)∧kvs.map (·.1)=ns.map Sum.inl∧
 ∀ (Ww:List Int)(p:Addr),Ww.Perm ns→Ww.Pairwise (· ≤ ·)→H p=none→Q (.ref p) (upd H p (.lst (Ww.map V.int)))
theorem KU (hc:X.calm=true):mw X (.builtin "sorted") Qg:=by
 intro pins s σ H vs us Q I r h
 obtain ⟨a,kvs,ns,rfl,e,hk,q⟩:=h
 rw [Vals.KL r]
 obtain ⟨z,hd,ws,rel,dd⟩:=Vb I.cw e
 obtain ⟨ep,Sw⟩:=dd.dictAt
 have Vf:ws.map (·.1)=ns.map Sum.inl:=by rw [←rel.keys];exact hk
 have hlw:ws.length=ns.length:=by
  have:=congrArg List.length Vf
  simpa using this
 have hzw:ws.length≤sizeLine:=by rw [←rel.length];exact z
 refine Calls.call_function_entry kind_sorted plain_sorted entry_sorted (args_sorted1 _) ?_
 unfold Builtin.«sorted»
 refine wpAny_bind (m:=checkCount "sorted" 1 1 _) (wpAny_pure ?_)
 refine wpAny_bind (PySem.W.kdu_collect (A:=X.A.in1) (PySem.W.kdl_dict (knd:=bZ X.prog X.w) (kvs:=ws) (ep:=ep) hd) (I.ok.hd hc) Sw hzw fun h' tk acc hk' aaO=> ?_)
 have Ts:acc.toList.length=ns.length:=by rw [Array.length_toList,aaO.1,hlw]
 have hI:IntsAre acc.toList ns:=by
  have all:∀ (j:Nat)(v:Value),acc.toList[j]?=some v→∃i t,ns[j]?=some i∧v= .int i t:=fun j v hv=>by
   obtain ⟨k,x,hx,hkx⟩:=aaO.2 j v (by rw [←Array.getElem?_toList];exact hv)
   have h1:(ws.map (·.1))[j]?=some k:=by rw [List.getElem?_map,hx] <;>rfl
   rw [Vf,List.getElem?_map] at h1
   cases hn:ns[j]? with
   |none=>rw [hn] at h1;cases h1
   |some i=>
    rw [hn] at h1
    have hki:k=Sum.inl i:=(Option.some.inj h1).symm
    subst hki
    rcases dM (k:=Sum.inl i) (v:=v) hkx with ⟨i',t,e1,e2⟩|⟨x',t,e1,e2⟩
    ·exact ⟨i,t,rfl,by rw [e2,←Sum.inl.inj e1]⟩
    ·cases e1
  have gen:∀ (l:List Value)(m:List Int),l.length=m.length→(∀ (j:Nat)(v:Value),l[j]?=some v→∃i t,m[j]?=some i∧v= .int i t)→IntsAre l m:=by
   intro l
   induction l with
   |nil=>
    intro m hm _
    cases m with
    |nil=>exact .nil
    |cons _ _=>simp at hm
   |cons v l ih=>
    intro m hm gk
    cases m with
    |nil=>simp at hm
    |cons i m=>
     obtain ⟨i',t,e1,e2⟩:=gk 0 v rfl
     have e1':i=i':=Option.some.inj e1
     subst e1' e2
     exact .cons _ _ (ih m (by simpa using hm) fun j v hv=>gk (j + 1) v hv)
  exact gen _ _ Ts all
 have hlz:acc.toList.length≤sizeLine:=by rw [Ts,←hlw];exact hzw
 refine wpAny_bind (wpAny_newList ?_ hlz)
 have hob:(h'.push {cls:= .type "list",data:= .seq acc.toList.toArray}).get? h'.objs.size=some (seqObj "list" acc.toList.toArray 0):=Heap.get?_push_size _ rfl
 have I2:Inv X pins σ H {s with heap:=h',toks:=tk}:=I.kept (t':=tk) hk'
 refine wpAny_bind (wpAny_holding (wpAny_call_entry (s:={s with heap:=h'.push {cls:= .type "list",data:= .seq acc.toList.toArray},toks:=tk}) PyProof.Rows.slot_list_sort ⟨_,hob,rfl⟩ PyProof.Rows.entry_list_sort
  (PyProof.Rows.list_sort_treeAny hob hI hlz fun out Ww h1 h2 h3=>⟨.none,rfl,?_⟩) (PyProof.Rows.args_list_sort _)))
 obtain ⟨Pa,Vg⟩:=PyProof.Rows.sortedHeap_at (vs:=acc.toList) (out:=out) hob
 have Zm:(Ww.map V.int).length≤sizeLine:=by rw [List.length_map,h2.length_eq,←hlw];exact hzw
 refine wpAny_pure ⟨_,rfl,?_⟩
 have kept:∀b u,h'.get? b=some u→(PyProof.Rows.sortedHeap (h'.push {cls:= .type "list",data:= .seq acc.toList.toArray}) h'.objs.size acc.toList out).get? b=some u:=fun b u h1=>by
  have eA:=Heap.lt_size h1
  rw [PyProof.Rows.sortedHeap_old (Nat.ne_of_lt eA) (by rw [size_push'];exact Nat.lt_succ_of_lt eA)]
  exact Heap.get?_push_of_some _ h1
 exact ⟨.ref _,upd H h'.objs.size (.lst (Ww.map V.int)),I2.laid (t':=tk) kept (Nat.le_refl _) ⟨Zm,out.toList,Pa,wO h1,Vg⟩,rfl,q Ww _ h2 h3 (I2.cw.fresh (Nat.le_refl _))⟩
end
end L2
namespace L2
open PySem PySem.Spec PyProof.Rows
section
variable {prog:Program}{w:World}{A:Around}{R:Result→Shared→Prop}{I:Addr}{fp wr:List Addr}{n:Nat}{P:Nat→Value→Prop}{St:Nat→Heap→Prop}{kw:List (Str×Value)}
theorem tL:(toString "min" ++ toString ".loop":String)="min.loop":=by decide
theorem NW (W:Walks prog w A.in1 I fp wr n P St)(bt:Nat→Nat→Bool)(Wx:CmpOf prog w A.in1 .Lt P bt)(S:Addr)(Qh:S ∉ fp):
  ∀ (k j:Nat)(s:Shared)(vb:Value)(c:Nat),n - (j + 1)=k→j + 1≤n→St (j + 1) s.heap→P (argBest bt j) vb→
  s.heap.get? S=some {cls:= .type "list",dict:=none,data:= .seq #[vb,vb] c,slots:= #[] }→
  (∀v h' tk,P (argBest bt (n - 1)) v→(∀b o,b ∉ wr→b≠S→s.heap.get? b=some o→h'.get? b=some o)→R (.ok (.ret v)) {s with heap:=h',toks:=tk})→
  codeAny (model prog w) A (.builtin "min.loop" ⟨[.ref I,.none,.ref S],kw⟩) R s:=by
 have E3:S ∉ wr:=fun h=>Qh (W.sub _ h)
 intro k
 induction k with
 |zero=>
  intro j s vb c hk hj qW hb hS goal
  have Zr:j + 1=n:=by omega
  refine codeAny_builtin PySem.F.entry_min_loop ?_
  rw [Around.under_plainId PySem.F.plain_min_loop _]
  show wpAny _ A.in1 (seqItems? (.ref S) >>=_) _ _ s
  refine wpAny_bind (wpAny_seqItems hS rfl ?_)
  show wpAny _ A.in1 (tryCatch (pyNext (.ref I)) _ >>=_) _ _ s
  refine wpAny_bind (wpAny_tryCatch (W.done s _ _ (by rw [←Zr];exact qW) fun h1 t1 keep=> ?_))
  show wpAny _ A.in1 (updateSeq S (fun _=> #[]) >>=_) _ _ _
  refine wpAny_bind (wpAny_updateSeq (keep S _ E3 hS) rfl (wpAny_bind (wpAny_letGo (wpAny_pure ?_))))
  exact goal vb _ t1 (by rw [←Zr];exact hb) fun b o hw Tt e=>(Heap.get?_update_other _ _ (Ne.symm Tt)).trans (keep b o hw e)
 |succ k ih=>
  intro j s vb c hk hj qW hb hS goal
  have eA:j + 1 < n:=by omega
  refine codeAny_builtin PySem.F.entry_min_loop ?_
  rw [Around.under_plainId PySem.F.plain_min_loop _]
  show wpAny _ A.in1 (seqItems? (.ref S) >>=_) _ _ s
  refine wpAny_bind (wpAny_seqItems hS rfl ?_)
  show wpAny _ A.in1 (tryCatch (pyNext (.ref I)) _ >>=_) _ _ s
  refine wpAny_bind (wpAny_tryCatch (W.item (j + 1) s _ _ eA qW fun v h1 t1 hP st1 keep=> ?_))
  have Pe:=keep S _ E3 hS
  show wpAny _ A.in1 (tryCatch (holding [v,v] (richCompare .Lt v vb >>=_)) _ >>=_) _ _ _
  refine wpAny_bind (wpAny_tryCatch (wpAny_holding (wpAny_bind (Wx (j + 1) (argBest bt j) v vb _ _ _ hP hb ?_))))
  refine wpAny_bind (wpAny_holding (wpAny_truthy_bool (wpAny_bind (wpAny_letGo (wpAny_pure ?_)))))
  cases Gw:bt (j + 1) (argBest bt j) with
  |true=>
   simp only [if_true]
   refine wpAny_bind (wpAny_updateSeq Pe rfl (wpAny_bind (wpAny_letGo ?_)))
   rw [tL]
   refine wpAny_pure ⟨plainId_quiet PySem.F.plain_min_loop _,ih (j + 1) _ v _ (by omega) eA (W.frame _ _ _ st1 fun b hf o e=> ?_) (by simp only [argBest,Gw,if_true];exact hP) (Heap.get?_update_self _ Pe rfl) fun v2 h2 t2 KW Jx=> ?_⟩
   ·exact (Heap.get?_update_other _ _ (fun q:S=b=>Qh (by rw [q];exact hf))).trans e
   ·exact goal v2 h2 t2 KW fun b o hw Tt e=>Jx b o hw Tt ((Heap.get?_update_other _ _ (Ne.symm Tt)).trans (keep b o hw e))
  |false=>
   simp only [Bool.false_eq_true,if_false]
   refine wpAny_bind (wpAny_letGo ?_)
   rw [tL]
   refine wpAny_pure ⟨plainId_quiet PySem.F.plain_min_loop _,ih (j + 1) _ vb c (by omega) eA st1 (by simp only [argBest,Gw,Bool.false_eq_true,if_false];exact hb) Pe fun v2 h2 t2 KW Jx=> ?_⟩
   exact goal v2 h2 t2 KW fun b o hw Tt e=>Jx b o hw Tt (keep b o hw e)
theorem KY (W:Walks prog w A.in1 I fp wr n P St)(bt:Nat→Nat→Bool)(Wx:CmpOf prog w A.in1 .Lt P bt)(S:Addr)(Qh:S ∉ fp)(hn:0 < n){s:Shared}{c:Nat}(qW:St 0 s.heap)
  (hS:s.heap.get? S=some {cls:= .type "list",dict:=none,data:= .seq #[] c,slots:= #[] })
  (goal:∀v h' tk,P (argBest bt (n - 1)) v→(∀b o,b ∉ wr→b≠S→s.heap.get? b=some o→h'.get? b=some o)→R (.ok (.ret v)) {s with heap:=h',toks:=tk}):
  codeAny (model prog w) A (.builtin "min.loop" ⟨[.ref I,.none,.ref S],kw⟩) R s:=by
 have E3:S ∉ wr:=fun h=>Qh (W.sub _ h)
 refine codeAny_builtin PySem.F.entry_min_loop ?_
 rw [Around.under_plainId PySem.F.plain_min_loop _]
 show wpAny _ A.in1 (seqItems? (.ref S) >>=_) _ _ s
 refine wpAny_bind (wpAny_seqItems hS rfl ?_)
 show wpAny _ A.in1 (tryCatch (pyNext (.ref I)) _ >>=_) _ _ s
 refine wpAny_bind (wpAny_tryCatch (W.item 0 s _ _ hn qW fun v h1 t1 hP st1 keep=> ?_))
 have Pe:=keep S _ E3 hS
 show wpAny _ A.in1 (updateSeq S (fun _=> #[v,v]) >>=_) _ _ _
 refine wpAny_bind (wpAny_updateSeq Pe rfl ?_)
 rw [tL]
 refine wpAny_pure ⟨plainId_quiet PySem.F.plain_min_loop _,NW W bt Wx S Qh _ 0 _ v _ rfl hn (W.frame _ _ _ st1 fun b hf o e=> ?_) hP (Heap.get?_update_self _ Pe rfl) fun v2 h2 t2 KW Jx=> ?_⟩
 ·exact (Heap.get?_update_other _ _ (fun q:S=b=>Qh (by rw [q];exact hf))).trans e
 ·exact goal v2 h2 t2 KW fun b o hw Tt e=>Jx b o hw Tt ((Heap.get?_update_other _ _ (Ne.symm Tt)).trans (keep b o hw e))
theorem NX (W:Walks prog w A.in1 I fp wr 0 P St)(S:Addr)(Qh:S ∉ fp){d:Value}{x:Str}{s:Shared}{c:Nat}(qW:St 0 s.heap)
  (hS:s.heap.get? S=some {cls:= .type "list",dict:=none,data:= .seq #[] c,slots:= #[] })
  (goal:∀h' tk,(∀b o,b ∉ wr→s.heap.get? b=some o→h'.get? b=some o)→R (.ok (.ret d)) {s with heap:=h',toks:=tk}):
  codeAny (model prog w) A (.builtin "min.loop" ⟨[.ref I,.none,.ref S],[(x,d)]⟩) R s:=by
 refine codeAny_builtin PySem.F.entry_min_loop ?_
 rw [Around.under_plainId PySem.F.plain_min_loop _]
 show wpAny _ A.in1 (seqItems? (.ref S) >>=_) _ _ s
 refine wpAny_bind (wpAny_seqItems hS rfl ?_)
 show wpAny _ A.in1 (tryCatch (pyNext (.ref I)) _ >>=_) _ _ s
 refine wpAny_bind (wpAny_tryCatch (W.done s _ _ qW fun h1 t1 keep=> ?_))
 refine wpAny_bind (wpAny_rule (wpAny_pure ?_))
 exact goal h1 t1 keep
end
section
variable {prog:Program}{w:World}{A:Around}{E:Value→Shared→Prop}{s:Shared}{l:Addr}{bf:List Value}{ns:List Int}{Q:Value→Shared→Prop}
theorem NY (a v:Value):argsOk "min" ⟨[a],[(Str.ofString "default",v)]⟩:=by unfold argsOk;kernel_rfl
theorem Qi {d:Value}(hh:A.handled=none)(hl:s.heap.IsList l bf.toArray)(hi:IntsAre bf ns)
  (h0:ns= [] →∀h' tk,(∀b o,s.heap.get? b=some o→h'.get? b=some o)→Q d {s with heap:=h',toks:=tk})
  (h:∀h' tk M t',(∀b o,s.heap.get? b=some o→h'.get? b=some o)→M∈ns→(∀a,a∈ns→M≤a)→Q (.int M t') {s with heap:=h',toks:=tk}):
  wpAny (model prog w) A (call (.builtin "min") [.ref l] [(Str.ofString "default",d)]) Q E s:=by
 obtain ⟨xs,e⟩:=hi.allInts.items
 have hn:numsOf (intItems xs).toList=ns:=by rw [←e];exact hi.numsOf
 rw [nums_intItems] at hn
 subst hn
 rw [e] at hl
 refine wpAny_call (codeAny_call_builtin PySem.F.plain_min PySem.F.entry_min ?_)
 simp only [checkBuiltinCall,PySem.F.kind_min]
 have body:wpAny (model prog w) A.in1 (Builtin.«min» ⟨[.ref l],[(Str.ofString "default",d)]⟩) (fun fin s'=>match fin with
   | .done f=>(match (Except.ok f:Result) with| .ok (.ret v)=>Q v s'| .ok _=>False| .error e=>E e s')
   | .again c'=>c'.quiet=true∧codeAny (model prog w) A c' (fun r s'=>match r with| .ok (.ret v)=>Q v s'| .ok _=>False| .error e=>E e s') s') E s:=by
  show wpAny _ A.in1 (Builtin.Builtins.bindParams "min" ["key","default"] 0 ⟨[],[(Str.ofString "default",d)]⟩ >>=_) _ _ s
  refine wpAny_bind (wpAny_of_eq (show Builtin.Builtins.bindParams "min" ["key","default"] 0 ⟨[],[(Str.ofString "default",d)]⟩=pure [none,some d] from rfl) ?_)
  refine wpAny_bind (wpAny_pure ?_)
  refine wpAny_bind (iter_intList hl fun s₂ e2 st UZ hlI=> ?_)
  subst e2
  refine wpAny_bind (wpAny_newObj_type ?_)
  have hSf:(s.heap.push {cls:= .type "list_iterator",data:= .fields #[.ref l,.int 0 0] }).objs.size ∉ [s.heap.objs.size,l] :=fun hm=>Nat.lt_irrefl _ (UZ _ hm)
  rw [tL]
  have W:=Walks.list (prog:=prog) (w:=w) (A:=A.in1) hh s.heap.objs.size l hlI (intItems xs)
  by_cases hz:xs.size=0
  ·have Zm:(intItems xs).size=0:=by simpa [intItems] using hz
   rw [Zm] at W
   refine wpAny_pure ⟨plainId_quiet PySem.F.plain_min_loop _,NX W _ hSf (W.frame _ _ _ st fun b _ o e=>Heap.get?_push_of_some _ e) (Heap.get?_push_size _ rfl) fun h' tk keep=> ?_⟩
   refine h0 ?_ h' tk (old_kept fun b o hb e=>keep b o hb (Heap.get?_push_of_some _ e))
   have:xs= #[] :=Array.eq_empty_of_size_eq_zero hz
   rw [this]
   rfl
  ·have Wy:0 < (intItems xs).size:=by
    have:(intItems xs).size=xs.size:=by simp [intItems]
    omega
   refine wpAny_pure ⟨plainId_quiet PySem.F.plain_min_loop _,KY W _ (CmpOf.ints_lt (numAt xs) (fun _ _=>intItems_at)) _ hSf Wy (W.frame _ _ _ st fun b _ o e=>Heap.get?_push_of_some _ e) (Heap.get?_push_size _ rfl) fun v h' tk hP keep=> ?_⟩
   have hv:(intItems xs)[argBest (fun i j=>decide (numAt xs i < numAt xs j)) (xs.size - 1)]?=some v:=by simpa [intItems] using hP
   obtain ⟨t,rfl⟩:=intItems_at hv
   obtain ⟨h1,h2⟩:=argBest_lt (numAt xs) (xs.size - 1)
   refine h h' tk _ t (old_kept fun b o hb e=>keep b o hb (fun q=> ?_) (Heap.get?_push_of_some _ e)) ?_ fun a ha=> ?_
   ·exact absurd (Heap.lt_size e) (by rw [q];exact Nat.lt_irrefl _)
   ·rw [numAt_eq];exact PySem.getD_mem (by rw [List.length_map,Array.length_toList];omega)
   ·obtain ⟨j,hj,rfl⟩:=mem_getD ha
    rw [List.length_map,Array.length_toList] at hj
    rw [←numAt_eq];exact h2 j (by omega)
 cases aiO:Manifest.signature? "min" with
 |none=>exact wpAny_pure body
 |some sig=>
  have ha:=NY (.ref l) d
  simp only [argsOk,aiO] at ha
  have h2:Bind.checkArgs "min" sig ⟨[.ref l],[(Str.ofString "default",d)]⟩=pure ():=ha
  simp only [h2]
  exact wpAny_pure body
end
section
variable {X:Cx}{p pos kpos:Pos}{e d:Expr}{te td:TE}
def aaP (K:PySem.W.Frag)(te td:TE):TE:=fun σ H Q=>te σ H fun x H1=>td σ H1 fun y H2=>∃ (a:Addr)(ns:List Int),x= .ref a∧cK K H2 a (ns.map V.int)∧(ns= [] →Q y H2)∧∀m,m∈ns→(∀z,z∈ns→m≤z)→Q (.int m) H2
theorem Mu (hc:X.calm=true)(hg:Gl X "min")(hm:X.mg "min"=none)(he:PE X e te)(hd:PE X d td)(hs:starEach [e] X.env=(false,eval e X.env)::starEach [] X.env:=by rfl)
  (hb:backTo pos (starEach [e] X.env)=(false,eval e X.env)::backTo pos (starEach [] X.env):=by rfl)(eD:(backTo pos (starEach [e] X.env)).any (·.1)=false:=by rfl):
  PE X (.Call (.Name "min" p) [e] [⟨some "default",d,kpos⟩] pos) (aaP X.K te td):=by
 intro pins s σ H Q I h
 refine wpAny_Call_Name_kw (yR I hg hm PyProof.Rows.boot_min ?_)
 refine callWith_kw ?_ hb eD
 have h1:Mf te SX σ H (fun vs H1=>match vs with
   | [x] =>td σ H1 fun y H2=>∃ (a:Addr)(ns:List Int),x= .ref a∧cK X.K H2 a (ns.map V.int)∧(ns= [] →Q y H2)∧∀m,m∈ns→(∀z,z∈ns→m≤z)→Q (.int m) H2
   |_=>False):=h
 refine dq ((aa he af hs) pos pins s σ H _ I h1) fun us s1 ⟨vs,H1,I1,r1,q1⟩=> ?_
 match vs,r1,q1 with
 | [x],r1,q1=>
  have h2:Mf td SX σ H1 (fun ws H2=>match ws with
    | [y] =>∃ (a:Addr)(ns:List Int),x= .ref a∧cK X.K H2 a (ns.map V.int)∧(ns= [] →Q y H2)∧∀m,m∈ns→(∀z,z∈ns→m≤z)→Q (.int m) H2
    |_=>False):=q1
  refine dq ((SY (nm:=some "default") (kpos:=kpos) hd VX) pos pins s1 σ H1 _ I1 h2) fun ws s2 ⟨zs,H2,I2,r2,q2⟩=> ?_
  match zs,r2,q2 with
  | [y],r2,q2=>
   obtain ⟨a,ns,rfl,hq,q3,q4⟩:=q2
   obtain ⟨u,rfl,ru⟩:=vals1 r2
   rw [Vals.KL r1]
   obtain ⟨bf,rv,hl,_⟩:=I2.list hq
   exact Qi (I2.ok.hd hc) hl.isList rv.ints (fun z h' tk hk=>⟨y,H2,I2.kept hk,ru,q3 z⟩) fun h' tk m t' hk h1 h2=>⟨.int m,H2,I2.kept hk,⟨_,rfl⟩,q4 m h1 h2⟩
end
end L2
namespace L2
open PySem PySem.Spec PyProof.Rows
section
variable {X:Cx}{K:PySem.W.Frag}{e:Expr}{f:Str}{pos:Pos}{ta:TE}
theorem px (K:PySem.W.Frag)(hK:X.K=K)(he:PE X e ta)(hb:attributeBase e f X.env (eval e X.env)=eval e X.env):PE X (.Attribute e f pos) (aab K ta f):=by
 subst hK
 exact ai he hb
theorem Tu (K:PySem.W.Frag)(hK:X.K=K)(hu:X.A.units + 64 < cLine):AM X (compareOp .Eq) (aat K):=by
 subst hK
 exact PU hu
theorem Gx (K:PySem.W.Frag)(hK:X.K=K):IxR X (aap K):=by
 subst hK
 exact bq
theorem Jy (K:PySem.W.Frag)(hK:X.K=K):IxR X (aao K):=by
 subst hK
 exact aN
theorem Tv {es:List Expr}{k n:Nat}{t:UR}(K:PySem.W.Frag)(hK:X.K=K)(hc:X.calm=true)(h:ZY X es t)
  (hn:(assignEach es X.env).length=n:=by rfl)(qW:(assignEach es X.env).findIdx? (·.1)=none:=by rfl):PG X (.Tuple es k pos) (Z1 K n t):=by
 subst hK
 exact Kt hc h hn qW
end
end L2
namespace L2
open PySem PySem.Spec PyProof.Rows
theorem D2 (l:Addr)(us:Array Value)(n:Nat)(b:Addr)(ws:Array Value)(n2:Nat)(dd:Option Addr)(sl:Array (Option Value))(hs0:¬(!us.isEmpty && Builtin.List.listTooLong (us.size + ws.size))=true)(hs1:us.size≤sizeLine)(hs2:us.size + ws.size≤sizeLine + 1):
  Meets (Builtin.«list.extend» ⟨[.ref l,.ref b],[]⟩) (fun _ R s=>s.heap.get? l=some {cls:= .type "list",data:= .seq us n}∧s.heap.get? b=some ⟨.type "tuple",dd,.seq ws n2,sl⟩∧
   R (.ok (.ret Value.none)) {s with heap:=s.heap.update l (Obj.mapSeq fun x=>x ++ ws),toks:=s.toks}):=
 .of_wp fun prog w A R s h=>by
  obtain ⟨hp,g,d,tk,os⟩:=s
  obtain ⟨hl,hb,h⟩:=h
  have f1:=AutoSeq1.idx_int
  have f2:=AutoSeq1.sub_tuple_tuple
  have f3:=AutoSeq1.sub_list_list
  have f4:=AutoSeq1.sub_tuple_list
  have f5:=AutoSeq1.sub_list_tuple
  have hz:(us ++ ws).size≤sizeLine + 1:=by rw [Array.size_append];exact hs2
  wp_walk using (wpAny_updateSeq hl rfl (hz:=hs1) (_hz':=hz)),wpAny_loadPart' hl,wpAny_loadPart' hb
  exact ⟨_,rfl,h⟩
section
variable {X:Cx}
def Qj (K:PySem.W.Frag):V→List V→Hp→VK→Prop:=fun x vs H Q=>∃l b xs zs,x= .ref l∧vs= [.ref b] ∧H l=some (.lst xs)∧bO K H b zs∧xs.length + zs.length≤sizeLine∧Q .bY (upd H l (.lst (xs ++ zs)))
theorem pz:MtM X "list.extend" (Qj X.K):=by
 intro pins s σ H x vs v us Q I rx rv h
 obtain ⟨l,b,xs,zs,rfl,rfl,hH,hB,hz,q⟩:=h
 cases rx
 obtain ⟨u,rfl,ru⟩:=rv.one
 cases ru
 obtain ⟨z,bf,n,r,hl,e⟩:=I.Ga hH
 obtain ⟨ws,r2,⟨⟨oc,dd,od,sl⟩,ho,hc,n2,hd⟩,_⟩:=I.tuple hB
 have UQ:oc= .type "tuple":=hc
 have ZP:od= .seq ws.toArray n2:=hd
 subst UQ ZP
 have Zl:=r2.length
 have hsz:bf.toArray.size + ws.toArray.size≤sizeLine:=by rw [List.size_toArray,List.size_toArray];omega
 have Jg:¬ (!bf.toArray.isEmpty && Builtin.List.listTooLong (bf.toArray.size + ws.toArray.size))=true:=by
  rw [BK hsz,Bool.and_false]
  exact Bool.false_ne_true
 refine call_meets F.slot_list_extend ⟨_,e,rfl⟩ F.entry_list_extend (F.args_list_extend_2 _ _) (D2 l bf.toArray n b ws.toArray n2 dd sl Jg (by rw [List.size_toArray];omega) (by omega)) ⟨e,ho,?_⟩
 refine ⟨.bY,_,I.PQ (its':=bf ++ ws) hH e (by simp) (r.append r2) ?_,rfl,q⟩
 rw [List.length_append]
 omega
def aaQ:V→List V→Hp→VK→Prop:=fun x vs H Q=>∃l xs y,x= .ref l∧vs= [.int 0,y] ∧H l=some (.lst xs)∧xs.length < sizeLine∧Q .bY (upd H l (.lst (y::xs)))
theorem Tw:MtM X "list.insert" aaQ:=by
 intro pins s σ H x vs v us Q I rx rv h
 obtain ⟨l,xs,y,rfl,rfl,hH,hz,q⟩:=h
 cases rx
 obtain ⟨u0,u,rfl,r0,ru⟩:=rv.two
 obtain ⟨t,rfl⟩:=r0
 obtain ⟨z,bf,n,r,hl,e⟩:=I.Ga hH
 refine call_meets F.slot_list_insert ⟨_,e,rfl⟩ F.entry_list_insert (F.args_list_insert_3 _ _ _) (AutoSeq1.list_insert_list_int_val_1 l bf.toArray n 0 t u (by decide) (by rw [List.size_toArray];omega)) ⟨e,?_⟩
 refine ⟨.bY,_,I.PQ (its':=u::bf) hH e ?_ (.cons ru r) ?_,rfl,q⟩
 ·simp
 ·rw [List.length_cons]
  omega
end
theorem Jz {α β:Type}(g:α→β)(u:β→α)(hu:∀a,u (g a)=a){l:List β}{as:List α}(h:l.Perm (as.map g)):∃rL:List α,rL.Perm as∧l=rL.map g:=by
 refine ⟨l.map u,?_,?_⟩
 ·have:=h.map u
  rw [List.map_map] at this
  have e:as.map (u ∘ g)=as:=by
   conv=>rhs;rw [←List.map_id as]
   exact List.map_congr_left fun a _=>hu a
  rw [e] at this
  exact this
 ·rw [List.map_map]
  conv=>lhs;rw [←List.map_id l]
  refine List.map_congr_left fun b hb=> ?_
  obtain ⟨a,_,rfl⟩:=List.mem_map.mp (h.mem_iff.mp hb)
  show g a=g (u (g a))
  rw [hu]
theorem E4:∀ {as:List Addr}{vs:List Value},Vals (as.map V.ref) vs→vs=as.map Value.ref
 | [],_,.nil=>rfl
 |a::as,_,.cons r t=>by
  cases r
  rw [E4 t]
  rfl
section
variable {X:Cx}
def Qk (K:PySem.W.Frag):List V→Hp→VK→Prop:=fun vs H Q=>∃ (a:Addr)(as:List Addr)(f:Addr→Int×Int),vs= [V.ref a] ∧cK K H a (as.map V.ref)∧(∀b∈as,bO K H b [V.int (f b).1,V.int (f b).2])∧
 ∀ (rL:List Addr)(p:Addr),rL.Perm as→rL.Pairwise (fun x y=>(f x).1≤(f y).1)→H p=none→Q (.ref p) (upd H p (.lst (rL.map V.ref)))
def shI:Nat→Bool:=fun _=>false
theorem KZ:mw X (.builtin "sorted") (Qk X.K):=by
 intro pins s σ H vs us Q I r h
 obtain ⟨a,as,f,rfl,hs,gk,q⟩:=h
 obtain ⟨bf,rv,hl,hz⟩:=I.list hs
 rw [Vals.KL r]
 have ei:=E4 rv
 subst ei
 have one:∀b∈as,∃ (o:Obj)(n:Nat)(t t':Tok),s.heap.get? b=some o∧o.cls= .type "tuple"∧o.data= .seq #[.int (f b).1 t,.int (f b).2 t'] n:=fun b hb=>by
  obtain ⟨bf,rv,⟨o,ho,hc,n,hd⟩,_⟩:=I.tuple (gk b hb)
  match bf,rv with
  | [u,v],.cons r1 (.cons r2 .nil)=>
   obtain ⟨t,rfl⟩:=r1
   obtain ⟨t',rfl⟩:=r2
   exact ⟨o,n,t,t',ho,hc,hd⟩
 have key:∀b∈as,G.tupKeyC s.heap shI (.ref b)=some [Sum.inl (f b).1,Sum.inl (f b).2] :=fun b hb=>by
  obtain ⟨o,n,t,t',ho,hc,hd⟩:=one b hb
  unfold G.tupKeyC
  have e1:G.isTupObj s.heap (.ref b)=true:=by simp [G.isTupObj,ho,hc]
  rw [if_pos e1]
  simp only [tupKey,ho,hd]
  rfl
 have Bu:∀ (l:List Addr),(∀b∈l,b∈as)→∃fs,TupsOf s.heap shI (l.map Value.ref) fs:=by
  intro l
  induction l with
  |nil=>exact fun _=>⟨[],.nil⟩
  |cons b l ih=>
   intro hm
   obtain ⟨fs,hf⟩:=ih fun c hc=>hm c (List.mem_cons_of_mem _ hc)
   obtain ⟨o,n,t,t',ho,hc,hd⟩:=one b (hm b (List.mem_cons_self ..))
   exact ⟨_::fs,.cons ⟨b,o,_,n,rfl,ho,hc,hd,rfl,fun _=>⟨_,_,rfl⟩,fun e=>absurd e (by decide)⟩ hf⟩
 obtain ⟨fs,hfs⟩:=Bu as fun b hb=>hb
 refine G.sorted_tups (vs:=as.map Value.ref) (shape:=shI) hl.isList hfs (fun v hv=> ?_) (by rw [List.length_map];rw [List.length_map] at hz;exact hz) fun DZ hp NZ _=> ?_
 ·obtain ⟨b,hb,rfl⟩:=List.mem_map.mp hv
  exact ⟨_,key b hb⟩
 have eD:(arrOf DZ).toList.Perm (as.map fun b=>((Value.ref b,Value.ref b):Keyed)):=by
  have e:=Array.perm_iff_toList_perm.mp hp
  rw [pairsOf_toList] at e
  have z:∀l:List Addr,(l.map Value.ref).zip (l.map Value.ref)=l.map fun b=>((Value.ref b,Value.ref b):Keyed):=by
   intro l
   induction l with
   |nil=>rfl
   |cons b l ih=>
    show (Value.ref b,Value.ref b)::(l.map Value.ref).zip (l.map Value.ref)=_
    rw [ih]
    rfl
  rw [z] at e
  exact e
 obtain ⟨rL,Zs,Vg⟩:=Jz (fun b=>((Value.ref b,Value.ref b):Keyed)) (fun p=>match p.1 with| .ref b=>b|_=>0) (fun _=>rfl) eD
 obtain ⟨ep,Sw⟩:=PyProof.Rows.sortedAll_at s.heap (as.map Value.ref) ((arrOf DZ).map (·.2))
 have e2:((arrOf DZ).map (·.2)).toList=rL.map Value.ref:=by
  rw [Array.toList_map,Vg,List.map_map]
  rfl
 have hV:Vals (rL.map V.ref) ((arrOf DZ).map (·.2)).toList:=by
  rw [e2]
  clear Zs Vg e2
  induction rL with
  |nil=>exact .nil
  |cons b l ih=>exact .cons rfl ih
 have Zm:(rL.map V.ref).length≤sizeLine:=by
  rw [List.length_map,Zs.length_eq]
  rw [List.length_map] at hz
  exact hz
 refine ⟨.ref _,upd H (s.heap.objs.size + 1) (.lst (rL.map V.ref)),I.laid (t':=s.toks) (fun _ _=>PyProof.Rows.sortedAll_old) (Nat.le_succ _) ⟨Zm,_,ep,hV,Sw⟩,rfl,q rL _ Zs ?_ (I.cw.fresh (Nat.le_succ _))⟩
 rw [List.pairwise_iff_getElem]
 intro i j hi hj hij
 have hlen:(pairsOf (as.map Value.ref)).size=rL.length:=by
  rw [←Array.length_toList,←(Array.perm_iff_toList_perm.mp hp).length_eq,Vg,List.length_map]
 have hle:=NZ i j (Nat.le_of_lt hij) (by rw [hlen];exact hj)
 have kk:∀ (k:Nat)(hk:k < rL.length),KK (G.tupKindC s.heap shI) (arrOf DZ) k= [Sum.inl (f rL[k]).1,Sum.inl (f rL[k]).2] :=fun k hk=>by
  unfold KK
  have:(arrOf DZ)[k]?=some (Value.ref rL[k],Value.ref rL[k]):=by
   rw [←Array.getElem?_toList,Vg,List.getElem?_map,List.getElem?_eq_getElem hk]
   rfl
  rw [this]
  show (G.tupKeyC s.heap shI (Value.ref rL[k])).getD [] =_
  rw [key _ (Zs.mem_iff.mp (List.getElem_mem hk))]
  rfl
 rw [kk i hi,kk j hj] at hle
 have Wz:lexLt itemOrd [Sum.inl (f rL[j]).1,Sum.inl (f rL[j]).2] [Sum.inl (f rL[i]).1,Sum.inl (f rL[i]).2] =false:=hle
 obtain ⟨h1,_⟩:=lex_false.mp Wz
 have h2:decide ((f rL[j]).1 < (f rL[i]).1)=false:=h1
 have:=of_decide_eq_false h2
 omega
end
end L2
namespace L2
open PySem PySem.Spec PyProof.Rows
theorem K0 {J:It}{n:Nat}{g:TG}{tt:TT}{te:TE}{vs:List Nat}{σ:St}{H1:Hp}{D:Addr}{Qd:Hp→Prop}(Pv:Nat→Hp→Prop)(h0:Pv 0 (upd H1 D (.lst [])))(Tx:∀i H,i < n→Pv i H→J.go i H)(qW:∀H,Pv n H→J.stop n H)
  (hs:∀i x H H',i < n→Pv i H→J.Pb i H x H'→g x (wipe σ vs) H' fun σ2 H2=>wipe σ2 vs=wipe σ vs∧tt σ2 H2 fun b H3=>
   if b=true then te σ2 H3 fun y H4=>∃acc,H4 D=some (.lst acc)∧acc.length < sizeLine∧Pv (i + 1) (upd H4 D (.lst (acc ++ [y]))) else Pv (i + 1) H3)(hd:∀H,Pv n H→Qd H):
  ∃W:Nat→Nat→Hp→Prop,(∃m,W 0 m (upd H1 D (.lst [])))∧∀i m H,W i m H→
   (J.stop i H∧Qd H)∨(J.go i H∧∃Nx:Hp→Prop,(∀H',Nx H'→∃m',m' < m∧W (i + 1) m' H')∧∀x H',J.Pb i H x H'→g x (wipe σ vs) H' fun σ2 H2=>wipe σ2 vs=wipe σ vs∧tt σ2 H2 fun b H3=>
    if b=true then te σ2 H3 fun y H4=>∃acc,H4 D=some (.lst acc)∧acc.length < sizeLine∧Nx (upd H4 D (.lst (acc ++ [y]))) else Nx H3):=by
 refine ⟨fun i m H=>m=n - i∧i≤n∧Pv i H,⟨n,by simp,Nat.zero_le _,h0⟩,?_⟩
 rintro i m H ⟨rfl,hi,p⟩
 by_cases eA:i < n
 ·exact .inr ⟨Tx i H eA p,Pv (i + 1),fun H' p'=>⟨n - (i + 1),by omega,rfl,eA,p'⟩,fun x H' y=>hs i x H H' eA p y⟩
 ·have e:i=n:=by omega
  subst e
  exact .inl ⟨qW H p,hd H p⟩
theorem Tz {J:It}{n:Nat}{g:TG}{tb:TS}{D:Ends}{σ:St}{H:Hp}(Pv:Nat→St→Hp→Prop)(h0:Pv 0 σ H)(Tx:∀i σ H,i < n→Pv i σ H→J.go i H)(qW:∀σ H,Pv n σ H→J.stop n H)
  (hs:∀i x σ H H',i < n→Pv i σ H→J.Pb i H x H'→g x σ H' fun σ2 H2=>tb {D with nx:=Pv (i + 1),ct:=Pv (i + 1),bk:=D.nx} σ2 H2)(hd:∀σ H,Pv n σ H→D.nx σ H):
  ∃W:Nat→Nat→St→Hp→Prop,(∃m,W 0 m σ H)∧∀i m σ H,W i m σ H→
   (J.stop i H∧D.nx σ H)∨(J.go i H∧∃N:St→Hp→Prop,(∀σ' H',N σ' H'→∃m',m' < m∧W (i + 1) m' σ' H')∧∀x H',J.Pb i H x H'→g x σ H' fun σ2 H2=>tb {D with nx:=N,ct:=N,bk:=D.nx} σ2 H2):=by
 refine ⟨fun i m σ H=>m=n - i∧i≤n∧Pv i σ H,⟨n,by simp,Nat.zero_le _,h0⟩,?_⟩
 rintro i m σ H ⟨rfl,hi,p⟩
 by_cases eA:i < n
 ·exact .inr ⟨Tx i σ H eA p,Pv (i + 1),fun σ' H' p'=>⟨n - (i + 1),by omega,rfl,eA,p'⟩,fun x H' y=>hs i x σ H H' eA p y⟩
 ·have e:i=n:=by omega
  subst e
  exact .inl ⟨qW σ H p,hd σ H p⟩
section
variable {prog:Program}{w:World}{A:Around}{E:Value→Shared→Prop}{s:Shared}
theorem K1 {d:Addr}{o:Obj}(nd:(d==sysModules)=false):MeetsIn prog w (Builtin.«dict.items» ⟨[.ref d],[]⟩) (fun _ R s=>(s.heap.get? d=some o∧o.ExactDict)∧
   R (.ok (.ret (.ref s.heap.objs.size))) {s with heap:=s.heap.push {cls:= .type "dict_items",data:= .fields #[.ref d] } }):=
 .of_wp fun A R s ⟨⟨h0,hx⟩,k⟩=>by
  have ty:s.TypeIs (.ref d) "dict":=⟨o,h0,hx.1⟩
  unfold Builtin.«dict.items»;refine wpAny_bind ?_
  unfold Builtin.Dict.noArgs;refine wpAny_bind (wpAny_notOrdered_dict ty ?_)
  show wpAny _ _ (pure d) _ _ s;refine wpAny_pure ?_
  show wpAny _ _ (Builtin.Dict.showsAll d >>=_) _ _ s;unfold Builtin.Dict.showsAll
  rw [if_neg (show ¬ (d==sysModules)=true by rw [nd];exact Bool.false_ne_true)];refine wpAny_bind (wpAny_pure ?_)
  exact wpAny_bind (wpAny_newObj_type (wpAny_pure ⟨_,rfl,k⟩))
theorem K2 {v d:Addr}{o:Obj}{es:Array DictEntry}{ep:Nat}{Q:Value→Shared→Prop}(hv:s.heap.IsItemsView v d)(g0:s.heap.get? d=some o)(g1:o.data= .dict es ep)
  (hQ:Q (.ref s.heap.objs.size) {s with heap:=s.heap.push {cls:= .type "dict_itemiterator",data:= .fields #[.none,.bool false,.ref d,.int 0 0,.int es.size 0,.int ep 0,.none,.none] } }):
  wpAny (model prog w) A (pyIter (.ref v)) Q E s:=by
 obtain ⟨ov,v0,v1,v2⟩:=id hv
 refine wpAny_pyIter_slot hv.typeIs F.slot_dict_items_iter (wpAny_call_entry F.slot_dict_items_iter hv.typeIs F.entry_dict_items_iter ?_ (F.args_dict_items_iter_1 _))
 unfold Builtin.«dict_items.__iter__»;refine wpAny_bind (wpAny_pure (wpAny_bind ?_))
 unfold Builtin.Dict_items.dictOf;refine wpAny_bind (wpAny_field v0 v2 (x:= .ref d) rfl (wpAny_pure (wpAny_bind ?_)))
 unfold Builtin.Dict_items.newIterator;refine wpAny_bind (wpAny_dictEntries g0 g1 (wpAny_bind (wpAny_dictEpoch g0 g1 ?_)))
 simp only [show Builtin.Dict_items.ownsTuple "dict_itemiterator"=true by decide,if_true]
 refine wpAny_newObj_type (wpAny_pure ⟨_,rfl,"dict_itemiterator",_,⟨_,Heap.get?_push_size _ rfl,rfl⟩,F.slot_dict_itemiterator_next.lookup,?_⟩)
  (by simp only [sizeOk,Builtin.Dict_items.ownedTupleFields,List.size_toArray,List.length_append,List.length_cons,List.length_nil,sizeLine_eq];omega)
 simpa [rawInt,Builtin.Dict_items.ownedTupleFields] using hQ
theorem K3 {it d:Addr}{i ep:Nat}{o:Obj}{es:Array DictEntry}{en:DictEntry}{ok ov:Value}{Q:Option Value→Shared→Prop}(hit:IsItemIter s.heap it d i es.size ep ok ov)(g0:s.heap.get? d=some o)(g1:o.data= .dict es ep)(gx:es[i]?=some en)
  (hQ:∀h',IsItemIterOut h' it d (i + 1) es.size ep en.key en.val s.heap.objs.size→h'.get? s.heap.objs.size=some {cls:= .type "tuple",data:= .seq #[en.key,en.val] }→h'.objs.size=s.heap.objs.size + 1→
   (∀b o,b≠it→s.heap.get? b=some o→h'.get? b=some o)→Q (some (.ref s.heap.objs.size)) {s with heap:=h'}):
  wpAny (model prog w) A (pyNext (.ref it)) Q E s:=by
 obtain ⟨hp,g,dr,tk,os⟩:=s
 have ty:Shared.TypeIs ⟨hp,g,dr,tk,os⟩ (.ref it) "dict_itemiterator":=⟨_,hit,rfl⟩
 unfold pyNext
 refine wpAny_bind (wpAny_attempt (wpAny_callSpecial?_slot (name:=Str.ofString "__next__") ty F.slot_dict_itemiterator_next (wpAny_call_entry F.slot_dict_itemiterator_next ty F.entry_dict_itemiterator_next ?_ (F.args_dict_itemiterator_next_1 _))))
 refine wpAny_bind (wpAny_pure (wpAny_bind (wpAny_bind ?_)))
 first|refine wpAny_bind (wpAny_typeNameOfWhole_itemiter ty (wpAny_pure ?_))|refine wpAny_bind (wpAny_typeNameOf_itemiter ty (wpAny_pure ?_))
 refine wpAny_bind (wpAny_fieldsOf hit rfl ?_)
 simp only [show Builtin.Dict_items.ownsTuple "dict_itemiterator"=true by decide,if_true]
 show wpAny _ _ (if (Value.ref d==Value.none)=true then _ else _) _ _ _;rw [if_neg (show ¬ ((Value.ref d==Value.none)=true) by exact Bool.false_ne_true)]
 refine wpAny_bind (wpAny_pure (wpAny_bind (wpAny_dictEntries g0 g1 ?_)))
 rw [if_neg (show ¬_ by simp)]
 refine wpAny_bind (wpAny_pure (wpAny_bind (wpAny_dictEpoch g0 g1 ?_)))
 rw [if_neg (show ¬_ by simp)];refine wpAny_pure ?_
 simp only [show ¬ ((i:Int) < 0) by omega,if_false,Int.toNat_natCast,gx];refine wpAny_bind ?_
 first|refine wpAny_bind (wpAny_typeNameOfWhole_itemiter ty (wpAny_pure ?_))|refine wpAny_bind (wpAny_typeNameOf_itemiter ty (wpAny_pure ?_))
 refine wpAny_bind (wpAny_isOneOf_itemiter ty ?_);show wpAny _ _ (setField (.ref it) 3 (rawInt ((i:Int) + 1)) >>=_) _ _ ⟨hp,g,dr,tk,os⟩
 refine wpAny_bind (wpAny_setField_rec hit (by simp) fun h1 e1 s1=> ?_)
 replace s1:Heap.SameBut it hp h1:=s1
 replace e1:IsItemIter h1 it d (i + 1) es.size ep ok ov:=by
  have e:((i + 1:Nat):Int)=(i:Int) + 1:=by omega
  unfold IsItemIter;rw [e];simpa [rawInt] using e1
 have ty1:Shared.TypeIs ⟨h1,g,dr,tk,os⟩ (.ref it) "dict_itemiterator":=⟨_,e1,rfl⟩
 refine wpAny_bind (wpAny_holding (wpAny_bind (wpAny_isOneOf_itemiter ty1 (wpAny_bind (wpAny_isOneOf_itemiter ty1 ?_)))))
 show wpAny _ _ (Builtin.Dict_items.pairFromOwner (.ref it) 6 en.key en.val) _ _ ⟨h1,g,dr,tk,os⟩
 unfold Builtin.Dict_items.pairFromOwner;refine wpAny_bind (wpAny_newTuple ?_)
 have e2:IsItemIter (h1.push {cls:= .type "tuple",data:= .seq #[en.key,en.val] }) it d (i + 1) es.size ep ok ov:=Heap.get?_push_of_some _ e1
 generalize q2:h1.push {cls:= .type "tuple",data:= .seq #[en.key,en.val] }=h2 at e2
 have z1:h1.objs.size=hp.objs.size:=s1.1
 have lt1:it < hp.objs.size:=Heap.lt_size hit
 have t2:h2.get? hp.objs.size=some {cls:= .type "tuple",data:= .seq #[en.key,en.val] }:=by rw [←q2,←z1];exact Heap.get?_push_size _ rfl
 have z2:h2.objs.size=hp.objs.size + 1:=by rw [←q2,Heap.size_push,z1]
 have k2:∀b o,b≠it→hp.get? b=some o→h2.get? b=some o:=fun b o hb e=>by rw [←q2];exact Heap.get?_push_of_some _ (s1.extBut b o hb e)
 show wpAny _ _ (Builtin.Dict_items.ownedTupleIsFree (.ref it) >>=_) _ _ ⟨h2,g,dr,tk,os⟩
 rw [z1]
 clear q2 e1 s1 ty1 z1 h1
 refine wpAny_bind ?_;unfold Builtin.Dict_items.ownedTupleIsFree
 refine wpAny_bind (wpAny_field e2 rfl (x:= .none) rfl (wpAny_pure ?_));simp only [if_true]
 refine wpAny_bind (wpAny_field e2 rfl (x:=ok) rfl (wpAny_bind (wpAny_field e2 rfl (x:=ov) rfl ?_)))
 refine wpAny_bind (wpAny_setField_rec e2 (by simp) fun h3 e3 s3=> ?_)
 replace s3:Heap.SameBut it h2 h3:=s3
 replace e3:IsItemIter h3 it d (i + 1) es.size ep en.key ov:=e3
 refine wpAny_bind (wpAny_setField_rec e3 (by simp) fun h4 e4 s4=> ?_)
 replace s4:Heap.SameBut it h3 h4:=s4
 replace e4:IsItemIter h4 it d (i + 1) es.size ep en.key en.val:=e4
 refine wpAny_bind (wpAny_setField_rec e4 (by simp) fun h5 e5 s5=> ?_)
 replace s5:Heap.SameBut it h4 h5:=s5
 replace e5:IsItemIterOut h5 it d (i + 1) es.size ep en.key en.val hp.objs.size:=e5
 refine wpAny_bind (wpAny_setField_rec e5 (by simp) fun h6 e6 s6=> ?_)
 replace s6:Heap.SameBut it h5 h6:=s6
 replace e6:IsItemIterOut h6 it d (i + 1) es.size ep en.key en.val hp.objs.size:=e6
 have up:∀b o,b≠it→h2.get? b=some o→h6.get? b=some o:=fun b o hb e=>s6.extBut b o hb (s5.extBut b o hb (s4.extBut b o hb (s3.extBut b o hb e)))
 refine wpAny_bind (wpAny_letGo (wpAny_pure (wpAny_pure ⟨_,rfl,wpAny_pure (hQ h6 e6 (up _ _ (Nat.ne_of_gt lt1) t2) ?_ fun b o hb e=>up b o hb (k2 b o hb e))⟩)))
 show h6.objs.size=hp.objs.size + 1
 rw [s6.1,s5.1,s4.1,s3.1,z2]
theorem K4 {it d:Addr}{i ep:Nat}{o:Obj}{es:Array DictEntry}{ok ov:Value}{Q:Option Value→Shared→Prop}(hh:A.handled=none)(hit:IsItemIter s.heap it d i es.size ep ok ov)(g0:s.heap.get? d=some o)(g1:o.data= .dict es ep)(ge:es.size≤i)
  (hQ:∀h',Heap.ExtBut it s.heap h'→Q none {s with heap:=h'}):wpAny (model prog w) A (pyNext (.ref it)) Q E s:=by
 have ty:s.TypeIs (.ref it) "dict_itemiterator":=⟨_,hit,rfl⟩
 unfold pyNext
 refine wpAny_bind (wpAny_attempt (wpAny_callSpecial?_slot (name:=Str.ofString "__next__") ty F.slot_dict_itemiterator_next (wpAny_call_entry F.slot_dict_itemiterator_next ty F.entry_dict_itemiterator_next ?_ (F.args_dict_itemiterator_next_1 _))))
 refine wpAny_bind (wpAny_pure (wpAny_bind (wpAny_bind ?_)))
 first|refine wpAny_bind (wpAny_typeNameOfWhole_itemiter ty (wpAny_pure ?_))|refine wpAny_bind (wpAny_typeNameOf_itemiter ty (wpAny_pure ?_))
 refine wpAny_bind (wpAny_fieldsOf hit rfl ?_)
 simp only [show Builtin.Dict_items.ownsTuple "dict_itemiterator"=true by decide,if_true]
 show wpAny _ _ (if (Value.ref d==Value.none)=true then _ else _) _ _ _;rw [if_neg (show ¬ ((Value.ref d==Value.none)=true) by exact Bool.false_ne_true)]
 refine wpAny_bind (wpAny_pure (wpAny_bind (wpAny_dictEntries g0 g1 ?_)))
 rw [if_neg (show ¬_ by simp)]
 refine wpAny_bind (wpAny_pure (wpAny_bind (wpAny_dictEpoch g0 g1 ?_)))
 rw [if_neg (show ¬_ by simp)];refine wpAny_pure ?_
 simp only [show ¬ ((i:Int) < 0) by omega,if_false,Int.toNat_natCast,Array.getElem?_eq_none ge];refine wpAny_bind ?_
 first|refine wpAny_bind (wpAny_typeNameOfWhole_itemiter ty (wpAny_pure ?_))|refine wpAny_bind (wpAny_typeNameOf_itemiter ty (wpAny_pure ?_))
 show wpAny _ _ (setField (.ref it) 2 .none >>=_) _ _ s;refine wpAny_bind (wpAny_setField hit rfl (by simp) ?_)
 show wpAny _ _ (newExc (.type "StopIteration") [] >>=_) _ _ _;refine wpAny_bind ?_;simp only [newExc,newTuple]
 refine wpAny_bind (wpAny_newObj_type ?_ (by size_fits));refine wpAny_bind (m:=firstArgMember _ _) (wpAny_of_eq (a:=Value.none) (by first|rfl|(simp only [firstArgMember];rfl)) ?_)
 refine wpAny_newObj_type ?_ (by size_fits);simp only [raiseNew];refine wpAny_bind (wpAny_handled ?_)
 first|rw [show A.in1.handled=none by exact hh] |rw [hh]
 refine wpAny_bind (wpAny_pure (wpAny_throw ?_));refine wpAny_bind (wpAny_isInstance (T:="StopIteration") (b:=true) ⟨_,Heap.get?_push_size _ rfl,rfl⟩ isSubtype_stop ?_)
 exact wpAny_pure (hQ _ (((Heap.SameBut.update ..).extBut.push _).push _))
end
section
variable {X:Cx}{pins:List (Addr×Obj)}{σ:St}{H:Hp}{s:Shared}{d:Addr}{o:Obj}
theorem Inv.Ql {kvs:List (List Key×V)}(I:Inv X pins σ H s)(h:H d=some (.jM o (.dT kvs))):
  (d==sysModules)=false∧s.heap.get? d=some o∧o.ExactDict∧∃ (es:Array DictEntry)(ep:Nat),o.data= .dict es ep∧es.size=kvs.length∧
   ∀ (i:Nat)(k:List Key)(v:V),kvs[i]?=some (k,v)→∃ (en:DictEntry)(q:Addr),es[i]?=some en∧en.key= .ref q∧H q=some (.tup (k.map kV))∧RelV v en.val:=by
 obtain ⟨hd,z,hs,xs,pr,o',es,ep,ho,hx,Gr,he,_⟩:=I.cw d _ h
 rw [hd] at ho
 cases ho
 refine ⟨hs,hd,hx,es,ep,Gr,?_,fun i k v e=> ?_⟩
 ·have l1:es.size=xs.length:=size_of_entries he
  have l2:kvs.length=xs.length:=Paired.length pr
  omega
 ·obtain ⟨b,hb,e1,e2,e3⟩:=KQ pr e
  have q:=entry_at he i
  rw [hb] at q
  exact ⟨_,b.2.1,q,rfl,e2,e3⟩
def aaS (d:Addr)(o:Obj)(kvs:List (List Key×V)):It:=
 ⟨fun i H=>H d=some (.jM o (.dT kvs))∧i < kvs.length,fun i H x H'=>∃T k v q,kvs[i]?=some (k,v)∧x= .ref T∧H T=none∧H'=upd H T (.tup [.ref q,v])∧H q=some (.tup (k.map kV)),fun i H=>H d=some (.jM o (.dT kvs))∧kvs.length≤i⟩
theorem JA {P:Program}{w:World}{K:PySem.W.Frag}{es:Array DictEntry}{ep:Nat}{kvs:List (List Key×V)}{elts:List Expr}{kk:Nat}{BI:Pos}(it:Addr)(hod:o.data= .dict es ep):
  Turn P w K (.Tuple elts kk BI) (aaS d o kvs) [it] it (fun i h=>∃ok ov,IsItemIter h it d i kvs.length ep ok ov) where
 mem:=by simp
 obj:=fun i h st b hb=>by
  have e:b=it:=by simpa using hb
  subst e
  obtain ⟨ok,ov,e⟩:=st
  exact ⟨_,e,fun v z=>nomatch z⟩
 keep:=fun i h h' st k=>let ⟨ok,ov,e⟩:=st;⟨ok,ov,k it (by simp) _ e⟩
 item:=by
  intro X hP hw hK hc i pins s σ H E I hf st hg
  subst hP hw hK
  obtain ⟨hd,hi⟩:=hg
  obtain ⟨hs,P6,hx,Ss,Pa,Gr,hsz,ent⟩:=I.Ql hd
  obtain ⟨rfl,rfl⟩:=A3 hod Gr
  obtain ⟨⟨k,v⟩,IU⟩:∃p,kvs[i]?=some p:=⟨kvs[i],List.getElem?_eq_getElem hi⟩
  obtain ⟨en,q,hen,vR,hq,hv⟩:=ent i k v IU
  obtain ⟨ok,ov,he⟩:=st
  rw [←hsz] at he
  have eA:it < s.heap.objs.size:=Heap.lt_size he
  refine K3 he P6 Gr hen fun h' ho hT hz hk=> ?_
  refine ⟨_,rfl,wpAny_letOwnedTupleGo_items (s:={s with heap:=h'}) ho fun U0 Vg sb=> ?_⟩
  have hT2:U0.get? s.heap.objs.size=some {cls:= .type "tuple",data:= .seq #[en.key,en.val] }:=(sb.2 _ (Nat.ne_of_gt eA)).trans hT
  have new:d6 X.prog X.w (upd H s.heap.objs.size (.tup [.ref q,v])) U0 s.heap.objs.size (.tup [.ref q,v]):=
   ⟨by show 2≤sizeLine;decide,[en.key,en.val],.cons vR (.cons hv .nil),⟨_,hT2,rfl,_,rfl⟩⟩
  have I1:Inv X pins σ (upd H s.heap.objs.size (.tup [.ref q,v])) {s with heap:=U0}:=
   I.EU (t':=s.toks) (ch:= [it]) (fun b ob hb e=>(sb.2 b (by simpa using hb)).trans (hk b ob (by simpa using hb) e)) hf (Nat.le_refl _) new
  refine ⟨.ref s.heap.objs.size,_,I1,rfl,⟨_,k,v,q,IU,rfl,I.cw.fresh (Nat.le_refl _),rfl,hq⟩,⟨en.key,en.val,?_⟩,fun b hb=> ?_⟩
  ·rw [←hsz];exact Vg
  ·have e:b=it:=by simpa using hb
   rw [e,az (Nat.ne_of_lt eA)]
   exact (hf it (by simp)).1
 done:=by
  intro X hP hw hK hc i pins s σ H E I hf st hg
  subst hP hw hK
  obtain ⟨hd,hi⟩:=hg
  obtain ⟨f0,f1,f2,f3,f4,f5⟩:=hf it (by simp)
  obtain ⟨hs,P6,hx,Ss,Pa,Gr,hsz,ent⟩:=I.Ql hd
  obtain ⟨rfl,rfl⟩:=A3 hod Gr
  obtain ⟨ok,ov,he⟩:=st
  rw [←hsz] at he hi
  exact K4 (I.ok.hd hc) he P6 Gr hi fun h' eb=>⟨rfl,I.turned (t':=s.toks) (fun b ob hb e=>eb b ob hb e) f0 f1 f3 f4 f5⟩
 self:=fun A i s Q E st h=>let ⟨_,_,e⟩:=st;PySem.W.kcp_self e h
end
def TB (td:TE):TI:=fun σ H R=>td σ H fun x H1=>∃d o kvs,x= .ref d∧H1 d=some (.jM o (.dT kvs))∧R (aaS d o kvs) H1
section
variable {X:Cx}{e:Expr}{td:TE}{apos gj:Pos}
theorem N0 {elts:List Expr}{kk:Nat}{BI:Pos}(he:PE X e td)(Je:attributeBase e "items" X.env (eval e X.env)=eval e X.env:=by rfl)(Jf:(apos.endLine==gj.line)=true:=by rfl):
  PI X (.Tuple elts kk BI) (.Call (.Attribute e "items" apos) [] [] gj) (TB td):=by
 intro pins s σ H R I h
 refine wpAny_Call_method (T:="dict") (id:="dict.items") Je rfl Jf F.plainAttrs_dict F.slot_dict_items F.type_dict_items (dq (he pins s σ H _ I h) fun u s1 ⟨x,H1,I1,rx,d,o,kvs,ex,hd,q⟩=> ?_)
 subst ex
 obtain rfl:u=Value.ref d:=rx
 obtain ⟨hs,P6,hx,es,ep,Gr,hsz,ent⟩:=I1.Ql hd
 have ty:s1.TypeIs (.ref d) "dict":=⟨o,P6,hx.1⟩
 refine ⟨ty,fun a z=> ?_,?_⟩
 ·cases z
  exact ⟨o,P6,hx.2.1⟩
 have I2:Inv X pins σ H1 {s1 with heap:=s1.heap.push {cls:= .type "dict_items",data:= .fields #[.ref d] } }:=I1.kept (t':=s1.toks) fun b ob q=>Heap.get?_push_of_some _ q
 have fin:wpAny (model X.prog X.w) X.A (pyIter (.ref s1.heap.objs.size)) (Z2 X pins σ (.Tuple elts kk BI) R) X.xe {s1 with heap:=s1.heap.push {cls:= .type "dict_items",data:= .fields #[.ref d] } }:=by
  refine K2 (d:=d) (o:=o) (es:=es) (ep:=ep) ⟨_,Heap.get?_push_size _ rfl,rfl,rfl⟩ (Heap.get?_push_of_some _ P6) Gr (KP (tk:=s1.toks) I2 _ (JA _ Gr) ⟨.none,.none,?_⟩ q)
  rw [←hsz]
  exact Heap.get?_push_size _ rfl
 show wpAny _ _ (callWith gj (.builtin "dict.items") [.ref d] [] []) _ X.xe s1
 exact method_meetsIn F.slot_dict_items F.entry_dict_items rfl (PySem.evalArgs_none ⟨rfl,ty,F.args_dict_items_1 _,_,K1 (o:=o) hs,⟨P6,hx⟩,fin⟩)
end
end L2
namespace L2
open PySem PySem.Spec PyProof.Rows
section
variable {prog:Program}{w:World}{A:Around}{E:Value→Shared→Prop}{s:Shared}
theorem BS {it a:Addr}{i:Nat}{us:Array Value}{x:Value}{Q:Value→Shared→Prop}(hit:s.heap.IsTupleIter it a i)(ha:s.heap.IsTuple a us)(hx:us[i]?=some x)
  (hQ:∀h',h'.IsTupleIter it a (i + 1)→Heap.SameBut it s.heap h'→Q x {s with heap:=h'}):wpAny (model prog w) A (Builtin.SmallTypes.nextOf (.ref it)) Q E s:=by
 obtain ⟨o,g0,gc,g1⟩:=id hit
 obtain ⟨oa,a0,_,na,a1⟩:=ha
 unfold Builtin.SmallTypes.nextOf
 refine wpAny_bind (wpAny_callSpecial?_slot (name:=Str.ofString "__next__") hit.typeIs F.slot_tuple_iterator_next (wpAny_call_entry F.slot_tuple_iterator_next hit.typeIs F.entry_tuple_iterator_next ?_ (F.args_tuple_iterator_next_1 _)))
 show wpAny _ _ (field (.ref it) 0 >>=_) _ _ s;refine wpAny_bind (wpAny_field g0 g1 (x:= .ref a) rfl ?_)
 show wpAny _ _ (if (Value.ref a==Value.none)=true then _ else _) _ _ s;rw [if_neg (show ¬ ((Value.ref a==Value.none)=true) by exact Bool.false_ne_true)]
 show wpAny _ _ (field (.ref it) 1 >>=_) _ _ s;refine wpAny_bind (wpAny_field g0 g1 (x:= .int i 0) rfl ?_)
 show wpAny _ _ (seqItems? (.ref a) >>=_) _ _ s;refine wpAny_bind (wpAny_seqItems a0 a1 ?_)
 simp only [Int.toNat_natCast,hx]
 refine wpAny_bind (wpAny_setField g0 g1 (by simp) (wpAny_pure ⟨x,rfl,wpAny_pure (hQ _ ?_ (Heap.SameBut.update ..))⟩))
 exact ⟨_,Heap.get?_update_self _ g0 (Obj.isFreed_of_fields (Obj.data_mapFields g1 _)),(Obj.cls_mapFields ..).trans gc,by rw [Obj.data_mapFields g1];simp [rawInt]⟩
theorem N1 {it a:Addr}{i:Nat}{us:Array Value}{Q:Value→Shared→Prop}(hh:A.handled=none)(hit:s.heap.IsTupleIter it a i)(ha:s.heap.IsTuple a us)(hx:us[i]?=none)
  (hE:∀h' e,Heap.ExtBut it s.heap h'→(∃o,h'.get? e=some o∧o.cls= .type "StopIteration")→E (.ref e) {s with heap:=h'}):wpAny (model prog w) A (Builtin.SmallTypes.nextOf (.ref it)) Q E s:=by
 obtain ⟨o,g0,gc,g1⟩:=id hit
 obtain ⟨oa,a0,_,na,a1⟩:=ha
 unfold Builtin.SmallTypes.nextOf
 refine wpAny_bind (wpAny_callSpecial?_slot (name:=Str.ofString "__next__") hit.typeIs F.slot_tuple_iterator_next (wpAny_call_entry F.slot_tuple_iterator_next hit.typeIs F.entry_tuple_iterator_next ?_ (F.args_tuple_iterator_next_1 _)))
 show wpAny _ _ (field (.ref it) 0 >>=_) _ _ s;refine wpAny_bind (wpAny_field g0 g1 (x:= .ref a) rfl ?_)
 show wpAny _ _ (if (Value.ref a==Value.none)=true then _ else _) _ _ s;rw [if_neg (show ¬ ((Value.ref a==Value.none)=true) by exact Bool.false_ne_true)]
 show wpAny _ _ (field (.ref it) 1 >>=_) _ _ s;refine wpAny_bind (wpAny_field g0 g1 (x:= .int i 0) rfl ?_)
 show wpAny _ _ (seqItems? (.ref a) >>=_) _ _ s;refine wpAny_bind (wpAny_seqItems a0 a1 ?_)
 simp only [Int.toNat_natCast,hx]
 refine wpAny_bind (wpAny_rule (wpAny_bind (wpAny_setField g0 g1 (by simp) ?_)))
 show wpAny _ _ (newExc (.type "StopIteration") [] >>=_) _ _ _;refine wpAny_bind ?_;simp only [newExc,newTuple]
 refine wpAny_bind (wpAny_newObj_type ?_ (by size_fits));refine wpAny_bind (m:=firstArgMember _ _) (wpAny_of_eq (a:=Value.none) (by first|rfl|(simp only [firstArgMember];rfl)) ?_)
 refine wpAny_newObj_type ?_ (by size_fits);simp only [raiseNew];refine wpAny_bind (wpAny_handled ?_)
 first|rw [show A.in1.handled=none by exact hh] |rw [hh]
 refine wpAny_bind (wpAny_pure (wpAny_throw ?_));exact hE _ _ (((Heap.SameBut.update ..).extBut.push _).push _) ⟨_,Heap.get?_push_size _ rfl,rfl⟩
theorem N2 {z TI TO i1 i2 l1 l2:Addr}{k1 k2:Nat}{xs ys:Array Value}{x y a b:Value}{Q:Value→Shared→Prop}(D:ZipApart z TI TO i1 i2 l1 l2)(g0:IsZip s.heap z TI TO .none)(g1:IsPair s.heap TI (.ref i1) (.ref i2))(g2:IsPair s.heap TO a b)
  (h1:s.heap.IsTupleIter i1 l1 k1)(h2:s.heap.IsListIter i2 l2 k2)(Zt:s.heap.IsTuple l1 xs)(Zl:s.heap.IsList l2 ys)(hx:xs[k1]?=some x)(hy:ys[k2]?=some y)
  (hQ:∀h',IsZip h' z TI TO (rawInt s.heap.objs.size)→IsPair h' TO x y→h'.IsTupleIter i1 l1 (k1 + 1)→h'.IsListIter i2 l2 (k2 + 1)→IsPair h' s.heap.objs.size x y→h'.objs.size=s.heap.objs.size + 1→
   (∀c o,c≠z→c≠TO→c≠i1→c≠i2→s.heap.get? c=some o→h'.get? c=some o)→Q (.ref s.heap.objs.size) {s with heap:=h'}):
  wpAny (model prog w) A (Builtin.«zip.__next__» ⟨[.ref z],[]⟩) (fun fin s'=>∃v,fin= .done (.ret v)∧Q v s') E s:=by
 show wpAny _ _ (field (.ref z) 2 >>=_) _ _ _;refine wpAny_bind (wpAny_field g0 rfl (x:= .bool false) rfl ?_)
 show wpAny _ _ (field (.ref z) 3 >>=_) _ _ _;refine wpAny_bind (wpAny_field g0 rfl (x:= .ref TI) rfl (wpAny_bind (wpAny_seqItems g1 rfl ?_)))
 show wpAny _ _ (Builtin.SmallTypes.ownedTupleIsFree (.ref z) >>=_) _ _ _;refine wpAny_bind ?_;unfold Builtin.SmallTypes.ownedTupleIsFree
 refine wpAny_bind (wpAny_field g0 rfl (x:= .none) rfl (wpAny_pure ?_));simp only [if_true]
 refine wpAny_bind (wpAny_rule (wpAny_bind (wpAny_field g0 rfl (x:= .ref TO) rfl (wpAny_bind (wpAny_setField_rec g0 (by simp) fun e1 z1 s1=> ?_)))))
 replace z1:IsZip e1 z TI TO .ellipsis:=z1
 refine wpAny_bind ?_;simp only [List.zipIdx_cons,List.zipIdx_nil,List.forIn_cons,List.forIn_nil]
 refine wpAny_bind (wpAny_bind (wpAny_onRaise ?_));show wpAny _ _ (Builtin.SmallTypes.nextOf (.ref i1) >>=_) _ _ _
 refine wpAny_bind (BS (h1.extBut s1.extBut D.i1z) (Zt.extBut s1.extBut D.l1z) hx fun e2 t2 s2=>wpAny_pure ?_)
 have p2:IsPair e2 TO a b:=s2.extBut _ _ D.TOi1 (s1.extBut _ _ D.TOz g2)
 refine wpAny_bind (wpAny_seqItems p2 rfl (wpAny_bind (wpAny_updateSeq_pair p2 fun e3 p3 s3=> ?_)))
 replace p3:IsPair e3 TO x b:=p3
 refine wpAny_bind (wpAny_letGo (wpAny_pure (wpAny_bind (wpAny_bind (wpAny_onRaise ?_)))));show wpAny _ _ (Builtin.SmallTypes.nextOf (.ref i2) >>=_) _ _ _
 refine wpAny_bind (wpAny_nextOf_list_item (((h2.extBut s1.extBut D.i2z).extBut s2.extBut D.i12.symm).extBut s3.extBut D.TOi2.symm) (((Zl.extBut s1.extBut D.l2z).extBut s2.extBut D.l2i1).extBut s3.extBut D.l2TO) hy fun e4 t4 s4=>wpAny_pure ?_)
 have p4:IsPair e4 TO x b:=s4.extBut _ _ D.TOi2 p3
 refine wpAny_bind (wpAny_seqItems p4 rfl (wpAny_bind (wpAny_updateSeq_pair p4 fun e5 p5 s5=> ?_)))
 replace p5:IsPair e5 TO x y:=p5
 refine wpAny_bind (wpAny_letGo (wpAny_pure (wpAny_pure (wpAny_bind (wpAny_seqItems p5 rfl (wpAny_bind (wpAny_newTuple ?_)))))))
 have z5:e5.objs.size=s.heap.objs.size:=by rw [s5.1,s4.1,s3.1,s2.1,s1.1]
 have g5:IsZip e5 z TI TO .ellipsis:=s5.extBut _ _ D.TOz.symm (s4.extBut _ _ D.i2z.symm (s3.extBut _ _ D.TOz.symm (s2.extBut _ _ D.i1z.symm z1)))
 have k5:∀c o,c≠z→c≠TO→c≠i1→c≠i2→s.heap.get? c=some o→e5.get? c=some o:=fun c o c1 c2 c3 c4 e=>s5.extBut _ _ c2 (s4.extBut _ _ c4 (s3.extBut _ _ c2 (s2.extBut _ _ c3 (s1.extBut _ _ c1 e))))
 have a5:e5.IsTupleIter i1 l1 (k1 + 1):=((t2.extBut s3.extBut D.TOi1.symm).extBut s4.extBut D.i12).extBut s5.extBut D.TOi1.symm
 have b5:e5.IsListIter i2 l2 (k2 + 1):=t4.extBut s5.extBut D.TOi2.symm
 have lz:z < e5.objs.size:=Heap.lt_size g5
 show wpAny _ _ (Builtin.SmallTypes.ownedTupleHandOut (.ref z) (.ref e5.objs.size) >>=_) _ _ _;refine wpAny_bind ?_;unfold Builtin.SmallTypes.ownedTupleHandOut
 have g6:IsZip (e5.push {cls:= .type "tuple",data:= .seq #[x,y] }) z TI TO .ellipsis:=Heap.get?_push_of_some _ g5
 refine wpAny_bind (wpAny_setField_rec g6 (by simp) fun e7 g7 s7=> ?_)
 replace g7:IsZip e7 z TI TO (rawInt e5.objs.size):=g7
 refine wpAny_setField_rec g7 (by simp) fun e8 g8 s8=> ?_
 replace g8:IsZip e8 z TI TO (rawInt e5.objs.size):=g8
 have up:∀c o,c≠z→e5.get? c=some o→e8.get? c=some o:=fun c o c1 e=>s8.extBut _ _ c1 (s7.extBut _ _ c1 (Heap.get?_push_of_some _ e))
 have p8:IsPair e8 e5.objs.size x y:=s8.extBut _ _ (Nat.ne_of_gt lz) (s7.extBut _ _ (Nat.ne_of_gt lz) (Heap.get?_push_size _ rfl))
 have z8:e8.objs.size=e5.objs.size + 1:=by rw [s8.1,s7.1,Heap.size_push]
 rw [z5] at g8 p8 z8
 refine wpAny_pure ⟨_,rfl,?_⟩
 show Q (.ref e5.objs.size) _
 rw [z5]
 exact hQ e8 g8 (up _ _ D.TOz p5) (a5.at fun o e=>up _ o D.i1z e) (b5.at fun o e=>up _ o D.i2z e) p8 z8 fun c o c1 c2 c3 c4 e=>up c o c1 (k5 c o c1 c2 c3 c4 e)
theorem N3 {z TI TO i1 i2 l1 l2:Addr}{k1 k2:Nat}{xs ys:Array Value}{a b:Value}{Q:PySem.Fin→Shared→Prop}(hh:A.handled=none)(D:ZipApart z TI TO i1 i2 l1 l2)(g0:IsZip s.heap z TI TO .none)(g1:IsPair s.heap TI (.ref i1) (.ref i2))(g2:IsPair s.heap TO a b)
  (h1:s.heap.IsTupleIter i1 l1 k1)(h2:s.heap.IsListIter i2 l2 k2)(Zt:s.heap.IsTuple l1 xs)(Zl:s.heap.IsList l2 ys)(Qm:xs[k1]?=none∨ys[k2]?=none)
  (hE:∀h' e,(∀c o,c≠z→c≠TO→c≠i1→c≠i2→s.heap.get? c=some o→h'.get? c=some o)→(∃o,h'.get? e=some o∧o.cls= .type "StopIteration")→E (.ref e) {s with heap:=h'}):
  wpAny (model prog w) A (Builtin.«zip.__next__» ⟨[.ref z],[]⟩) Q E s:=by
 show wpAny _ _ (field (.ref z) 2 >>=_) _ _ _;refine wpAny_bind (wpAny_field g0 rfl (x:= .bool false) rfl ?_)
 show wpAny _ _ (field (.ref z) 3 >>=_) _ _ _;refine wpAny_bind (wpAny_field g0 rfl (x:= .ref TI) rfl (wpAny_bind (wpAny_seqItems g1 rfl ?_)))
 show wpAny _ _ (Builtin.SmallTypes.ownedTupleIsFree (.ref z) >>=_) _ _ _;refine wpAny_bind ?_;unfold Builtin.SmallTypes.ownedTupleIsFree
 refine wpAny_bind (wpAny_field g0 rfl (x:= .none) rfl (wpAny_pure ?_));simp only [if_true]
 refine wpAny_bind (wpAny_rule (wpAny_bind (wpAny_field g0 rfl (x:= .ref TO) rfl (wpAny_bind (wpAny_setField_rec g0 (by simp) fun e1 z1 s1=> ?_)))))
 replace z1:IsZip e1 z TI TO .ellipsis:=z1
 refine wpAny_bind ?_;simp only [List.zipIdx_cons,List.zipIdx_nil,List.forIn_cons,List.forIn_nil]
 refine wpAny_bind (wpAny_bind (wpAny_onRaise ?_));show wpAny _ _ (Builtin.SmallTypes.nextOf (.ref i1) >>=_) _ _ _
 cases hx:xs[k1]? with
 |none=>
  refine wpAny_bind (N1 hh (h1.extBut s1.extBut D.i1z) (Zt.extBut s1.extBut D.l1z) hx fun e2 e s2 he=> ?_)
  obtain ⟨oe,x0,xc⟩:=he
  have z2:IsZip e2 z TI TO .ellipsis:=s2 _ _ D.i1z.symm z1
  have ne:e≠z:=fun q=>by subst q;rw [z2] at x0;cases x0;simp at xc
  refine wpAny_setField_rec z2 (by simp) fun e3 _ s3=>hE e3 e (fun c o c1 _ c3 _ q=>s3.extBut _ _ c1 (s2 _ _ c3 (s1.extBut _ _ c1 q))) ⟨oe,s3.extBut _ _ ne x0,xc⟩
 |some x=>
  have hy:ys[k2]?=none:=by
   rcases Qm with h|h
   ·rw [hx] at h;cases h
   ·exact h
  refine wpAny_bind (BS (h1.extBut s1.extBut D.i1z) (Zt.extBut s1.extBut D.l1z) hx fun e2 t2 s2=>wpAny_pure ?_)
  have p2:IsPair e2 TO a b:=s2.extBut _ _ D.TOi1 (s1.extBut _ _ D.TOz g2)
  refine wpAny_bind (wpAny_seqItems p2 rfl (wpAny_bind (wpAny_updateSeq_pair p2 fun e3 p3 s3=> ?_)))
  refine wpAny_bind (wpAny_letGo (wpAny_pure (wpAny_bind (wpAny_bind (wpAny_onRaise ?_)))));show wpAny _ _ (Builtin.SmallTypes.nextOf (.ref i2) >>=_) _ _ _
  refine wpAny_bind (wpAny_nextOf_list_end hh (((h2.extBut s1.extBut D.i2z).extBut s2.extBut D.i12.symm).extBut s3.extBut D.TOi2.symm) (((Zl.extBut s1.extBut D.l2z).extBut s2.extBut D.l2i1).extBut s3.extBut D.l2TO) hy fun e4 e s4 he=> ?_)
  obtain ⟨oe,x0,xc⟩:=he
  have z4:IsZip e4 z TI TO .ellipsis:=s4 _ _ D.i2z.symm (s3.extBut _ _ D.TOz.symm (s2.extBut _ _ D.i1z.symm z1))
  have ne:e≠z:=fun q=>by subst q;rw [z4] at x0;cases x0;simp at xc
  refine wpAny_setField_rec z4 (by simp) fun e5 _ s5=>hE e5 e (fun c o c1 c2 c3 c4 q=>s5.extBut _ _ c1 (s4 _ _ c4 (s3.extBut _ _ c2 (s2.extBut _ _ c3 (s1.extBut _ _ c1 q))))) ⟨oe,s5.extBut _ _ ne x0,xc⟩
end
end L2
namespace L2
open PySem PySem.Spec PyProof.Rows
abbrev zt1 (h:Heap)(a:Addr):Heap:=h.push {cls:= .type "tuple_iterator",data:= .fields #[.ref a,.int 0 0] }
abbrev zt2 (h:Heap)(a b:Addr):Heap:=(zt1 h a).push {cls:= .type "list_iterator",data:= .fields #[.ref b,.int 0 0] }
abbrev zt3 (h:Heap)(a b:Addr):Heap:=(zt2 h a b).push {cls:= .type "tuple",data:= .seq #[.ref h.objs.size,.ref (zt1 h a).objs.size] }
abbrev zt4 (h:Heap)(a b:Addr):Heap:=(zt3 h a b).push {cls:= .type "tuple",data:= .seq #[.none,.none] }
abbrev Zu (h:Heap)(a b:Addr):Heap:=(zt4 h a b).push {cls:= .type "zip",data:= .fields #[.none,.bool false,.bool false,.ref (zt2 h a b).objs.size,.ref (zt3 h a b).objs.size] }
theorem K5 (a b:Addr)(xs ys:Array Value):Meets (Builtin.«zip.__new__» ⟨[.type "zip",.ref a,.ref b],[]⟩) (fun _ R s=>s.heap.IsTuple a xs∧s.heap.IsList b ys∧R (.ok (.ret (.ref (zt4 s.heap a b).objs.size))) {s with heap:=Zu s.heap a b}):=
 .of_wp fun prog w A R s h=>by
  obtain ⟨hp,g,d,tk,os⟩:=s
  obtain ⟨q1,q2,h⟩:=h
  have sub:=sub_zip
  have p1:Heap.IsTuple (Shared.heap ⟨hp,g,d,tk,os⟩) a xs:=q1
  have p2:Heap.IsList (Shared.heap ⟨hp.push {cls:= .type "tuple_iterator",data:= .fields #[.ref a,.int 0 0] },g,d,tk,os⟩) b ys:=Heap.IsList.push q2 _
  wp_walk using wpAny_pyIter_tuple p1,wpAny_pyIter_list p2
  exact ⟨_,rfl,h⟩
section
variable {prog:Program}{w:World}{A:Around}{E:Value→Shared→Prop}{s:Shared}
theorem N4 {a b:Addr}{xs ys:Array Value}{Q:Value→Shared→Prop}(q1:s.heap.IsTuple a xs)(q2:s.heap.IsList b ys)
  (h:∀h',IsZip h' (s.heap.objs.size + 4) (s.heap.objs.size + 2) (s.heap.objs.size + 3) .none→IsPair h' (s.heap.objs.size + 2) (.ref s.heap.objs.size) (.ref (s.heap.objs.size + 1))→IsPair h' (s.heap.objs.size + 3) .none .none→
   h'.IsTupleIter s.heap.objs.size a 0→h'.IsListIter (s.heap.objs.size + 1) b 0→(∀c o,s.heap.get? c=some o→h'.get? c=some o)→Q (.ref (s.heap.objs.size + 4)) {s with heap:=h'}):
  wpAny (model prog w) A (call (.type "zip") [.ref a,.ref b]) Q E s:=by
 refine callType_new F.called_zip (by decide) (F.typeCall_zip_2 _ _) (F.newCall_zip_2 _ _) (fun obj=>F.args_object_init_3 obj _ _) F.entry_zip_new (K5 a b xs ys) ⟨q1,q2,?_⟩
 have z1:(zt1 s.heap a).objs.size=s.heap.objs.size + 1:=Heap.size_push ..
 have z2:(zt2 s.heap a b).objs.size=s.heap.objs.size + 2:=by rw [Heap.size_push,z1]
 have z3:(zt3 s.heap a b).objs.size=s.heap.objs.size + 3:=by rw [Heap.size_push,z2]
 have z4:(zt4 s.heap a b).objs.size=s.heap.objs.size + 4:=by rw [Heap.size_push,z3]
 have g5:(Zu s.heap a b).get? (zt4 s.heap a b).objs.size=some _:=Heap.get?_push_size _ rfl
 have g4:(Zu s.heap a b).get? (zt3 s.heap a b).objs.size=some _:=Heap.get?_push_of_some _ (Heap.get?_push_size _ rfl)
 have g3:(Zu s.heap a b).get? (zt2 s.heap a b).objs.size=some _:=Heap.get?_push_of_some _ (Heap.get?_push_of_some _ (Heap.get?_push_size _ rfl))
 have g2:(Zu s.heap a b).get? (zt1 s.heap a).objs.size=some _:=Heap.get?_push_of_some _ (Heap.get?_push_of_some _ (Heap.get?_push_of_some _ (Heap.get?_push_size _ rfl)))
 have g1:(Zu s.heap a b).get? s.heap.objs.size=some _:=Heap.get?_push_of_some _ (Heap.get?_push_of_some _ (Heap.get?_push_of_some _ (Heap.get?_push_of_some _ (Heap.get?_push_size _ rfl))))
 show _∧_
 rw [z2,z3,z4] at g5
 rw [z1,z2] at g3
 rw [z3] at g4
 rw [z1] at g2
 rw [z4]
 exact ⟨⟨_,g5,rfl⟩,h _ g5 g3 g4 ⟨_,g1,rfl,rfl⟩ ⟨_,g2,rfl,rfl⟩ fun c o x=>Heap.get?_push_of_some _ (Heap.get?_push_of_some _ (Heap.get?_push_of_some _ (Heap.get?_push_of_some _ (Heap.get?_push_of_some _ x))))⟩
end
def aaT (K:PySem.W.Frag)(a b:Addr):It:=
 ⟨fun i H=>∃ (xs ys:List V)(x y:V),bO K H a xs∧cK K H b ys∧xs[i]?=some x∧ys[i]?=some y,
  fun i H v H'=>∃T x y,v= .ref T∧H T=none∧H'=upd H T (.tup [x,y])∧(∀xs,bO K H a xs→xs[i]?=some x)∧∀ys,cK K H b ys→ys[i]?=some y,
  fun i H=>∃xs ys:List V,bO K H a xs∧cK K H b ys∧(xs.length≤i∨ys.length≤i)⟩
theorem N5 {P:Program}{w:World}{K:PySem.W.Frag}{elts:List Expr}{kk:Nat}{BI:Pos}{a b z TI TO i1 i2:Addr}(D:ZipApart z TI TO i1 i2 a b):
  Turn P w K (.Tuple elts kk BI) (aaT K a b) [z,TI,TO,i1,i2] z (fun i h=>IsZip h z TI TO .none∧IsPair h TI (.ref i1) (.ref i2)∧(∃x y,IsPair h TO x y)∧h.IsTupleIter i1 a i∧h.IsListIter i2 b i) where
 mem:=by simp
 obj:=fun i h st c hc=>by
  obtain ⟨hz,Qn,⟨x,y,Sx⟩,⟨o1,e1,_,d1⟩,⟨o2,e2,_,d2⟩⟩:=st
  have e':c=z∨c=TI∨c=TO∨c=i1∨c=i2:=by simpa using hc
  rcases e' with q|q|q|q|q
  ·rw [q];exact ⟨_,hz,fun v q=>nomatch q⟩
  ·rw [q];exact ⟨_,Qn,fun v q=>nomatch q⟩
  ·rw [q];exact ⟨_,Sx,fun v q=>nomatch q⟩
  ·rw [q];exact ⟨o1,e1,fun v q=>by rw [d1] at q;cases q⟩
  ·rw [q];exact ⟨o2,e2,fun v q=>by rw [d2] at q;cases q⟩
 keep:=fun i h h' st k=>by
  obtain ⟨hz,Qn,⟨x,y,Sx⟩,h1,h2⟩:=st
  exact ⟨k z (by simp) _ hz,k TI (by simp) _ Qn,⟨x,y,k TO (by simp) _ Sx⟩,h1.at fun o q=>k i1 (by simp) o q,h2.at fun o q=>k i2 (by simp) o q⟩
 item:=by
  intro X hP hw hK hc i pins s σ H E I hf st hg
  subst hP hw hK
  obtain ⟨hz,Qn,⟨x0,y0,Sx⟩,h1,h2⟩:=st
  obtain ⟨xs,ys,x,y,Zv,Zw,hx,hy⟩:=hg
  obtain ⟨bf,rv,p,_⟩:=I.tuple Zv
  obtain ⟨AN,rv2,p2,_⟩:=I.list Zw
  obtain ⟨u,hu,ru⟩:=rv.get hx
  obtain ⟨u2,hu2,ru2⟩:=rv2.get hy
  have hzl:z < s.heap.objs.size:=Heap.lt_size hz
  have ty:s.TypeIs (.ref z) "zip":=⟨_,hz,rfl⟩
  unfold pyNext
  refine wpAny_bind (wpAny_attempt (wpAny_callSpecial?_slot (name:=Str.ofString "__next__") ty F.slot_zip_next (wpAny_call_entry F.slot_zip_next ty F.entry_zip_next
   (N2 D hz Qn Sx h1 h2 (show s.heap.IsTuple a bf.toArray from p) p2.isList (x:=u) (y:=u2) (by simpa using hu) (by simpa using hu2) fun h' z' TO' Vh h2' hT hsz hk=>wpAny_pure ?_) (F.args_zip_next_1 _))))
  refine ⟨_,rfl,wpAny_letOwnedTupleGo_zip (s:={s with heap:=h'}) z' fun U0 z'' sb=> ?_⟩
  have hT2:U0.get? s.heap.objs.size=some {cls:= .type "tuple",data:= .seq #[u,u2] }:=(sb.2 _ (Nat.ne_of_gt hzl)).trans hT
  have new:d6 X.prog X.w (upd H s.heap.objs.size (.tup [x,y])) U0 s.heap.objs.size (.tup [x,y]):=
   ⟨by show 2≤sizeLine;decide,[u,u2],.cons ru (.cons ru2 .nil),⟨_,hT2,rfl,_,rfl⟩⟩
  have I1:Inv X pins σ (upd H s.heap.objs.size (.tup [x,y])) {s with heap:=U0}:=
   I.EU (t':=s.toks) (ch:= [z,TI,TO,i1,i2]) (fun c o hb q=>(sb.2 c (fun q'=>hb (by simp [q']))).trans (hk c o (fun q'=>hb (by simp [q'])) (fun q'=>hb (by simp [q'])) (fun q'=>hb (by simp [q'])) (fun q'=>hb (by simp [q'])) q)) hf (Nat.le_refl _) new
  refine ⟨.ref s.heap.objs.size,_,I1,rfl,⟨_,x,y,rfl,I.cw.fresh (Nat.le_refl _),rfl,fun l hl=>by rw [I.ED hl Zv];exact hx,fun l hl=>by rw [I.Ja hl Zw];exact hy⟩,⟨z'',?_,⟨u,u2,?_⟩,?_,?_⟩,fun c Zx=> ?_⟩
  ·exact (sb.2 _ D.TIz).trans (hk _ _ D.TIz D.TITO D.TIi1 D.TIi2 Qn)
  ·exact (sb.2 _ D.TOz).trans TO'
  ·exact Vh.at fun o q=>(sb.2 _ D.i1z).trans q
  ·exact h2'.at fun o q=>(sb.2 _ D.i2z).trans q
  ·have eA:c < s.heap.objs.size:=by
    have e':c=z∨c=TI∨c=TO∨c=i1∨c=i2:=by simpa using Zx
    rcases e' with q|q|q|q|q
    ·rw [q];exact hzl
    ·rw [q];exact Heap.lt_size Qn
    ·rw [q];exact Heap.lt_size Sx
    ·rw [q];obtain ⟨_,e1,_⟩:=h1;exact Heap.lt_size e1
    ·rw [q];obtain ⟨_,e2,_⟩:=h2;exact Heap.lt_size e2
   rw [az (Nat.ne_of_lt eA)]
   exact (hf c Zx).1
 done:=by
  intro X hP hw hK hc i pins s σ H E I hf st hg
  subst hP hw hK
  obtain ⟨hz,Qn,⟨x0,y0,Sx⟩,h1,h2⟩:=st
  obtain ⟨xs,ys,Zv,Zw,Qm⟩:=hg
  obtain ⟨bf,rv,p,_⟩:=I.tuple Zv
  obtain ⟨AN,rv2,p2,_⟩:=I.list Zw
  have l1:=rv.length
  have l2:=rv2.length
  have he:bf.toArray[i]?=none∨AN.toArray[i]?=none:=by
   rcases Qm with q|q
   ·exact .inl (by simp;omega)
   ·exact .inr (by simp;omega)
  have ty:s.TypeIs (.ref z) "zip":=⟨_,hz,rfl⟩
  unfold pyNext
  refine wpAny_bind (wpAny_attempt (wpAny_callSpecial?_slot (name:=Str.ofString "__next__") ty F.slot_zip_next (wpAny_call_entry F.slot_zip_next ty F.entry_zip_next
   (N3 (I.ok.hd hc) D hz Qn Sx h1 h2 (show s.heap.IsTuple a bf.toArray from p) p2.isList he fun h' e hk hx=> ?_) (F.args_zip_next_1 _))))
  obtain ⟨oe,x0,xc⟩:=hx
  refine wpAny_bind (wpAny_isInstance (T:="StopIteration") (b:=true) ⟨oe,x0,xc⟩ isSubtype_stop (wpAny_pure ?_))
  exact ⟨rfl,I.Tn (t':=s.toks) (ch:= [z,TI,TO,i1,i2]) (fun c o hb q=>hk c o (fun q'=>hb (by simp [q'])) (fun q'=>hb (by simp [q'])) (fun q'=>hb (by simp [q'])) (fun q'=>hb (by simp [q'])) q) hf⟩
 self:=fun A i s Q E st h=>wpAny_pyIter_zip st.1 h
def aaU (K:PySem.W.Frag)(ta:TA):TI:=fun σ H R=>ta σ H fun vs H1=>∃a b xs ys,vs= [.ref a,.ref b] ∧bO K H1 a xs∧cK K H1 b ys∧R (aaT K a b) H1
theorem TC {X:Cx}{e e2:Expr}{ta:TA}{p pos BI:Pos}{elts:List Expr}{kk:Nat}(hg:Gl X "zip")(hm:X.mg "zip"=none)(ha:PA X [e,e2] ta)
  (hs:starEach [e,e2] X.env=(false,eval e X.env)::starEach [e2] X.env:=by rfl)(eD:(backTo pos (starEach [e2] X.env)).any (·.1)=false:=by rfl):
  PI X (.Tuple elts kk BI) (.Call (.Name "zip" p) [e,e2] [] pos) (aaU X.K ta):=by
 intro pins s σ H R I h
 refine Call_ (yR I hg hm NQ (PyProof.Rows.callWith_type1 (dq (ha pos pins s σ H _ I h) fun us s1 ⟨vs,H1,I1,r1,q1⟩=> ?_) hs eD))
 obtain ⟨a,b,xs,ys,ex,Zv,Zw,q⟩:=q1
 subst ex
 cases r1 with
 |cons r rr=>
  cases rr with
  |cons r' rr=>
   cases rr
   cases r
   cases r'
   obtain ⟨bf,rv,p1,_⟩:=I1.tuple Zv
   obtain ⟨AN,rv2,p2,_⟩:=I1.list Zw
   have la:a < s1.heap.objs.size:=by obtain ⟨_,e,_⟩:=p1;exact Heap.lt_size e
   have lb:b < s1.heap.objs.size:=p2.lt
   refine N4 (show s1.heap.IsTuple a bf.toArray from p1) p2.isList fun h' hz Qn Sx h1 h2 hk=>wpAny_pyIter_zip hz ?_
   have I2:Inv X pins σ H1 {s1 with heap:=h'}:=I1.kept (t':=s1.toks) hk
   refine ⟨s1.heap.objs.size + 4,[s1.heap.objs.size + 4,s1.heap.objs.size + 2,s1.heap.objs.size + 3,s1.heap.objs.size,s1.heap.objs.size + 1],_,_,H1,rfl,I2,N5 (PySem.W.ktu_apart s1.heap.objs.size a b la lb),⟨hz,Qn,⟨_,_,Sx⟩,h1,h2⟩,fun c Zx=> ?_,q⟩
   have e':c=s1.heap.objs.size + 4∨c=s1.heap.objs.size + 2∨c=s1.heap.objs.size + 3∨c=s1.heap.objs.size∨c=s1.heap.objs.size + 1:=by simpa using Zx
   have hle:s1.heap.objs.size≤c:=by rcases e' with z|z|z|z|z <;>rw [z] <;>first|exact Nat.le_add_right _ _|exact Nat.le_refl _
   exact I1.Nz hle (I1.cw.fresh hle)
end L2
namespace Rl
open PySem PySem.Spec PyProof.Rows L2 PySem.W
abbrev fO (n q:Str)(s:Stmt)(kV dc pm:Value)(an:Option Addr)(cd ct:Value):=fnOf n q (wU s) (tJ s) (ay s) .none kV dc pm an cd ct
def top (i:Nat):Stmt:=PySem.Challenge.pw_relayleases_s01_answers.main.body.getD i (.Pass ⟨0,0,0,0⟩)
abbrev fL:Stmt:=inClass (top 18) 0
abbrev Gy:List Str:= ["self","parent","circuit","limit"]
abbrev jZ:List Str:= ["self","parent","circuit","limit"]
theorem D3:aC Gy jZ (ay fL):=⟨rfl,rfl,rfl,by decide +kernel,rfl,by decide +kernel,by decide +kernel⟩
abbrev eF:Stmt:=inClass (top 19) 0
abbrev BU:List Str:= ["self","place","host","number","kind","server","address","length","hops","marks"]
abbrev gT:List Str:= ["self","place","host","number","kind","server","address","length","hops","marks"]
theorem AQ:aC BU gT (ay eF):=⟨rfl,rfl,rfl,by decide +kernel,rfl,by decide +kernel,by decide +kernel⟩
abbrev fk:Stmt:=inClass (top 20) 0
abbrev D4:List Str:= ["self","host"]
abbrev iR:List Str:= ["self","host"]
theorem BV:aC D4 iR (ay fk):=⟨rfl,rfl,rfl,by decide +kernel,rfl,by decide +kernel,by decide +kernel⟩
abbrev fM:Stmt:=inClass (top 21) 0
abbrev Gz:List Str:= ["self","servers","cap","now"]
abbrev j0:List Str:= ["self","servers","cap","now"]
theorem D5:aC Gz j0 (ay fM):=⟨rfl,rfl,rfl,by decide +kernel,rfl,by decide +kernel,by decide +kernel⟩
abbrev E5:Stmt:=top 22
abbrev aaV:List Str:= ["world","message"]
abbrev Mv:List Str:= ["world","message"]
theorem WA:aC aaV Mv (ay E5):=⟨rfl,rfl,rfl,by decide +kernel,rfl,by decide +kernel,by decide +kernel⟩
abbrev yY:Stmt:=top 29
abbrev WB:List Str:= ["world","client","kind","server","address","place"]
abbrev GA:List Str:= ["world","client","kind","server","address"]
theorem Mw:aC WB GA (ay yY):=⟨rfl,rfl,rfl,by decide +kernel,rfl,by decide +kernel,by decide +kernel⟩
abbrev lE:Stmt:=top 30
abbrev N6:List Str:= ["client"]
abbrev tM:List Str:= ["client"]
theorem K6:aC N6 tM (ay lE):=⟨rfl,rfl,rfl,by decide +kernel,rfl,by decide +kernel,by decide +kernel⟩
abbrev yZ:Stmt:=top 31
abbrev WC:List Str:= ["world","client","tries"]
abbrev GB:List Str:= ["world","client","tries"]
theorem TF:aC WC GB (ay yZ):=⟨rfl,rfl,rfl,by decide +kernel,rfl,by decide +kernel,by decide +kernel⟩
abbrev E6:Stmt:=top 32
abbrev aaW:List Str:= ["world","client","tries"]
abbrev Mx:List Str:= ["world","client","tries"]
theorem WD:aC aaW Mx (ay E6):=⟨rfl,rfl,rfl,by decide +kernel,rfl,by decide +kernel,by decide +kernel⟩
abbrev gF:Stmt:=top 33
abbrev JB:List Str:= ["world","client","tries"]
abbrev mB:List Str:= ["world","client","tries"]
theorem GC:aC JB mB (ay gF):=⟨rfl,rfl,rfl,by decide +kernel,rfl,by decide +kernel,by decide +kernel⟩
abbrev oS:Stmt:=top 34
abbrev Qo:List Str:= ["world","client"]
abbrev wX:List Str:= ["world","client"]
theorem N7:aC Qo wX (ay oS):=⟨rfl,rfl,rfl,by decide +kernel,rfl,by decide +kernel,by decide +kernel⟩
abbrev y1:Stmt:=top 35
abbrev WE:List Str:= ["client"]
abbrev GD:List Str:= ["client"]
theorem TH:aC WE GD (ay y1):=⟨rfl,rfl,rfl,by decide +kernel,rfl,by decide +kernel,by decide +kernel⟩
abbrev tN:Stmt:=top 36
abbrev TJ:List Str:= ["world","client","phase","server","limit","pause"]
abbrev A8:List Str:= ["world","client","phase","server","limit"]
theorem JC:aC TJ A8 (ay tN):=⟨rfl,rfl,rfl,by decide +kernel,rfl,by decide +kernel,by decide +kernel⟩
abbrev E7:Stmt:=top 37
abbrev aaX:List Str:= ["world","client"]
abbrev My:List Str:= ["world","client"]
theorem WG:aC aaX My (ay E7):=⟨rfl,rfl,rfl,by decide +kernel,rfl,by decide +kernel,by decide +kernel⟩
abbrev fm:Stmt:=top 38
abbrev D6:List Str:= ["world","client"]
abbrev iS:List Str:= ["world","client"]
theorem BW:aC D6 iS (ay fm):=⟨rfl,rfl,rfl,by decide +kernel,rfl,by decide +kernel,by decide +kernel⟩
abbrev fN:Stmt:=top 39
abbrev GF:List Str:= ["world","client"]
abbrev j1:List Str:= ["world","client"]
theorem D7:aC GF j1 (ay fN):=⟨rfl,rfl,rfl,by decide +kernel,rfl,by decide +kernel,by decide +kernel⟩
abbrev eS:Stmt:=top 40
abbrev rM:List Str:= ["world","until","waiting","dues","acts","earliest","first","host","client"]
abbrev mC:List Str:= ["world","until"]
theorem cX:aC rM mC (ay eS):=⟨rfl,rfl,rfl,by decide +kernel,rfl,by decide +kernel,by decide +kernel⟩
abbrev y2:Stmt:=top 41
abbrev WH:List Str:= ["world","client","message"]
abbrev GG:List Str:= ["world","client","message"]
theorem TK:aC WH GG (ay y2):=⟨rfl,rfl,rfl,by decide +kernel,rfl,by decide +kernel,by decide +kernel⟩
abbrev fP:Stmt:=top 42
abbrev GH:List Str:= ["client","message"]
abbrev j2:List Str:= ["client","message"]
theorem D8:aC GH j2 (ay fP):=⟨rfl,rfl,rfl,by decide +kernel,rfl,by decide +kernel,by decide +kernel⟩
abbrev gG:Stmt:=top 43
abbrev JD:List Str:= ["message","best"]
abbrev mE:List Str:= ["message","best"]
theorem GI:aC JD mE (ay gG):=⟨rfl,rfl,rfl,by decide +kernel,rfl,by decide +kernel,by decide +kernel⟩
abbrev iC:Stmt:=top 44
abbrev K7:List Str:= ["world","client","message","end","half","late"]
abbrev lW:List Str:= ["world","client","message"]
theorem mG:aC K7 lW (ay iC):=⟨rfl,rfl,rfl,by decide +kernel,rfl,by decide +kernel,by decide +kernel⟩
abbrev fQ:Stmt:=top 45
abbrev GJ:List Str:= ["client","message"]
abbrev j3:List Str:= ["client","message"]
theorem D9:aC GJ j3 (ay fQ):=⟨rfl,rfl,rfl,by decide +kernel,rfl,by decide +kernel,by decide +kernel⟩
abbrev fR:Stmt:=top 47
abbrev GK:List Str:= ["world","k","message"]
abbrev j4:List Str:= ["world","k"]
theorem u5:aC GK j4 (ay fR):=⟨rfl,rfl,rfl,by decide +kernel,rfl,by decide +kernel,by decide +kernel⟩
abbrev oT:Stmt:=top 48
abbrev Qp:List Str:= ["world","message","place","hops","marks"]
abbrev wY:List Str:= ["world","message","place","hops","marks"]
theorem N8:aC Qp wY (ay oT):=⟨rfl,rfl,rfl,by decide +kernel,rfl,by decide +kernel,by decide +kernel⟩
abbrev lF:Stmt:=top 49
abbrev N9:List Str:= ["world","message","here","relay","hops","marks","server"]
abbrev tO:List Str:= ["world","message"]
theorem iD:aC N9 tO (ay lF):=⟨rfl,rfl,rfl,by decide +kernel,rfl,by decide +kernel,by decide +kernel⟩
abbrev tP:Stmt:=top 50
abbrev TM:List Str:= ["world","message","server","oldest","assigned"]
abbrev A9:List Str:= ["world","message"]
theorem wZ:aC TM A9 (ay tP):=⟨rfl,rfl,rfl,by decide +kernel,rfl,by decide +kernel,by decide +kernel⟩
abbrev eG:Stmt:=top 51
abbrev BX:List Str:= ["world","message","assigned"]
abbrev gU:List Str:= ["world","message","assigned"]
theorem AR:aC BX gU (ay eG):=⟨rfl,rfl,rfl,by decide +kernel,rfl,by decide +kernel,by decide +kernel⟩
abbrev fS:Stmt:=top 52
abbrev GL:List Str:= ["world","message","length","key","end"]
abbrev j5:List Str:= ["world","message","length"]
theorem nX:aC GL j5 (ay fS):=⟨rfl,rfl,rfl,by decide +kernel,rfl,by decide +kernel,by decide +kernel⟩
abbrev oU:Stmt:=top 53
abbrev Qq:List Str:= ["world","message","kind","address","length"]
abbrev w6:List Str:= ["world","message","kind","address","length"]
theorem Oa:aC Qq w6 (ay oU):=⟨rfl,rfl,rfl,by decide +kernel,rfl,by decide +kernel,by decide +kernel⟩
abbrev gH:Stmt:=top 54
abbrev JE:List Str:= ["world","message","relay","mark","place"]
abbrev mH:List Str:= ["world","message"]
theorem gW:aC JE mH (ay gH):=⟨rfl,rfl,rfl,by decide +kernel,rfl,by decide +kernel,by decide +kernel⟩
abbrev iE:Stmt:=top 55
abbrev K8:List Str:= ["world","message","client"]
abbrev pB:List Str:= ["world","message"]
theorem Aa:aC K8 pB (ay iE):=⟨rfl,rfl,rfl,by decide +kernel,rfl,by decide +kernel,by decide +kernel⟩
abbrev lG:Stmt:=top 60
abbrev Ob:List Str:= ["value","instead"]
abbrev tQ:List Str:= ["value","instead"]
theorem K9:aC Ob tQ (ay lG):=⟨rfl,rfl,rfl,by decide +kernel,rfl,by decide +kernel,by decide +kernel⟩
abbrev gI:Stmt:=top 61
abbrev JF:List Str:= ["pairs","row","pair"]
abbrev fA:List Str:= ["pairs"]
theorem pC:aC JF fA (ay gI):=⟨rfl,rfl,rfl,by decide +kernel,rfl,by decide +kernel,by decide +kernel⟩
abbrev fo:Stmt:=top 62
abbrev Ea:List Str:= ["message","row"]
abbrev iT:List Str:= ["message"]
theorem rN:aC Ea iT (ay fo):=⟨rfl,rfl,rfl,by decide +kernel,rfl,by decide +kernel,by decide +kernel⟩
abbrev fT:Stmt:=top 63
abbrev GN:List Str:= ["client","row"]
abbrev j6:List Str:= ["client"]
theorem u6:aC GN j6 (ay fT):=⟨rfl,rfl,rfl,by decide +kernel,rfl,by decide +kernel,by decide +kernel⟩
abbrev eX:Stmt:=top 64
abbrev w8:List Str:= ["world","server","host","key","end"]
abbrev j7:List Str:= ["world","server","host"]
theorem iU:aC w8 j7 (ay eX):=⟨rfl,rfl,rfl,by decide +kernel,rfl,by decide +kernel,by decide +kernel⟩
abbrev lH:Stmt:=top 65
abbrev Oc:List Str:= ["world","relay","circuit","marks","at"]
abbrev tR:List Str:= ["world","relay","circuit"]
theorem pD:aC Oc tR (ay lH):=⟨rfl,rfl,rfl,by decide +kernel,rfl,by decide +kernel,by decide +kernel⟩
abbrev dk:Stmt:=top 71
abbrev rf:List Str:= ["world","relay","circuit","client"]
abbrev gv:List Str:= ["world","relay","circuit"]
theorem iF:aC rf gv (ay dk):=⟨rfl,rfl,rfl,by decide +kernel,rfl,by decide +kernel,by decide +kernel⟩
abbrev gJ:Stmt:=top 72
abbrev JG:List Str:= ["world","numbers","parent","circuit","new"]
abbrev mI:List Str:= ["world","numbers"]
theorem j8:aC JG mI (ay gJ):=⟨rfl,rfl,rfl,by decide +kernel,rfl,by decide +kernel,by decide +kernel⟩
abbrev y3:Stmt:=top 73
abbrev WI:List Str:= ["world","numbers","host","where","client"]
abbrev GO:List Str:= ["world","numbers"]
theorem w9:aC WI GO (ay y3):=⟨rfl,rfl,rfl,by decide +kernel,rfl,by decide +kernel,by decide +kernel⟩
abbrev oW:Stmt:=top 74
abbrev Qr:List Str:= ["world","numbers","client"]
abbrev xa:List Str:= ["world","numbers"]
theorem E8:aC Qr xa (ay oW):=⟨rfl,rfl,rfl,by decide +kernel,rfl,by decide +kernel,by decide +kernel⟩
abbrev lI:Stmt:=top 75
abbrev Od:List Str:= ["world","numbers","client"]
abbrev tS:List Str:= ["world","numbers"]
theorem BY:aC Od tS (ay lI):=⟨rfl,rfl,rfl,by decide +kernel,rfl,by decide +kernel,by decide +kernel⟩
abbrev iG:Stmt:=top 76
abbrev La:List Str:= ["world","numbers","client"]
abbrev pE:List Str:= ["world","numbers"]
theorem Ab:aC La pE (ay iG):=⟨rfl,rfl,rfl,by decide +kernel,rfl,by decide +kernel,by decide +kernel⟩
abbrev oX:Stmt:=top 77
abbrev Qs:List Str:= ["world","numbers","client"]
abbrev xb:List Str:= ["world","numbers"]
theorem E9:aC Qs xb (ay oX):=⟨rfl,rfl,rfl,by decide +kernel,rfl,by decide +kernel,by decide +kernel⟩
abbrev oY:Stmt:=top 78
abbrev Qt:List Str:= ["world","numbers","key"]
abbrev xf:List Str:= ["world","numbers"]
theorem Fb:aC Qt xf (ay oY):=⟨rfl,rfl,rfl,by decide +kernel,rfl,by decide +kernel,by decide +kernel⟩
abbrev iH:Stmt:=top 79
abbrev Lb:List Str:= ["world","numbers","key"]
abbrev pF:List Str:= ["world","numbers"]
theorem Ac:aC Lb pF (ay iH):=⟨rfl,rfl,rfl,by decide +kernel,rfl,by decide +kernel,by decide +kernel⟩
abbrev y4:Stmt:=top 80
abbrev WJ:List Str:= ["world","numbers"]
abbrev GP:List Str:= ["world","numbers"]
theorem TN:aC WJ GP (ay y4):=⟨rfl,rfl,rfl,by decide +kernel,rfl,by decide +kernel,by decide +kernel⟩
abbrev y6:Stmt:=top 81
abbrev WK:List Str:= ["world","numbers","until","acts"]
abbrev GQ:List Str:= ["world","numbers"]
theorem GR:aC WK GQ (ay y6):=⟨rfl,rfl,rfl,by decide +kernel,rfl,by decide +kernel,by decide +kernel⟩
abbrev lJ:Stmt:=top 82
abbrev Oe:List Str:= ["world"]
abbrev tT:List Str:= ["world"]
theorem Lc:aC Oe tT (ay lJ):=⟨rfl,rfl,rfl,by decide +kernel,rfl,by decide +kernel,by decide +kernel⟩
abbrev lK:Stmt:=top 83
abbrev Of:List Str:= ["world","numbers","left","row","message","told"]
abbrev tU:List Str:= ["world","numbers"]
theorem lX:aC Of tU (ay lK):=⟨rfl,rfl,rfl,by decide +kernel,rfl,by decide +kernel,by decide +kernel⟩
abbrev y8:Stmt:=top 84
abbrev WL:List Str:= ["world","numbers"]
abbrev GS:List Str:= ["world","numbers"]
theorem TQ:aC WL GS (ay y8):=⟨rfl,rfl,rfl,by decide +kernel,rfl,by decide +kernel,by decide +kernel⟩
abbrev oZ:Stmt:=top 85
abbrev Qu:List Str:= ["world","numbers"]
abbrev xg:List Str:= ["world","numbers"]
theorem Og:aC Qu xg (ay oZ):=⟨rfl,rfl,rfl,by decide +kernel,rfl,by decide +kernel,by decide +kernel⟩
abbrev y9:Stmt:=top 86
abbrev WM:List Str:= ["world","numbers","delivered"]
abbrev GU:List Str:= ["world","numbers"]
theorem GV:aC WM GU (ay y9):=⟨rfl,rfl,rfl,by decide +kernel,rfl,by decide +kernel,by decide +kernel⟩
abbrev pG:Stmt:=top 87
abbrev Mz:List Str:= ["world","numbers","where","client","server","marks","at"]
abbrev Ba:List Str:= ["world","numbers"]
theorem o3:aC Mz Ba (ay pG):=⟨rfl,rfl,rfl,by decide +kernel,rfl,by decide +kernel,by decide +kernel⟩
abbrev fq:Stmt:=top 88
abbrev Eb:List Str:= ["world","numbers","client"]
abbrev iV:List Str:= ["world","numbers"]
theorem rP:aC Eb iV (ay fq):=⟨rfl,rfl,rfl,by decide +kernel,rfl,by decide +kernel,by decide +kernel⟩
abbrev eI:Stmt:=top 89
abbrev BZ:List Str:= ["world","numbers"]
abbrev gX:List Str:= ["world","numbers"]
theorem AS:aC BZ gX (ay eI):=⟨rfl,rfl,rfl,by decide +kernel,rfl,by decide +kernel,by decide +kernel⟩
abbrev za:Stmt:=top 90
abbrev WN:List Str:= ["world","numbers"]
abbrev GW:List Str:= ["world","numbers"]
theorem TR:aC WN GW (ay za):=⟨rfl,rfl,rfl,by decide +kernel,rfl,by decide +kernel,by decide +kernel⟩
abbrev gL:Stmt:=top 91
abbrev JH:List Str:= ["world","numbers"]
abbrev mJ:List Str:= ["world","numbers"]
theorem GX:aC JH mJ (ay gL):=⟨rfl,rfl,rfl,by decide +kernel,rfl,by decide +kernel,by decide +kernel⟩
abbrev fB:Stmt:=top 92
abbrev Ae:List Str:= ["world","numbers","client"]
abbrev mK:List Str:= ["world","numbers"]
theorem pH:aC Ae mK (ay fB):=⟨rfl,rfl,rfl,by decide +kernel,rfl,by decide +kernel,by decide +kernel⟩
abbrev fU:Stmt:=top 93
abbrev GY:List Str:= ["world","numbers"]
abbrev j9:List Str:= ["world","numbers"]
theorem Ec:aC GY j9 (ay fU):=⟨rfl,rfl,rfl,by decide +kernel,rfl,by decide +kernel,by decide +kernel⟩
abbrev o4:Stmt:=top 95
abbrev Qv:List Str:= ["world","place","numbers"]
abbrev xh:List Str:= ["world","place","numbers"]
theorem Oh:aC Qv xh (ay o4):=⟨rfl,rfl,rfl,by decide +kernel,rfl,by decide +kernel,by decide +kernel⟩
abbrev fV:Stmt:=top 100
abbrev GZ:List Str:= ["world","name","number"]
abbrev ka:List Str:= ["world","name","number"]
theorem Ed:aC GZ ka (ay fV):=⟨rfl,rfl,rfl,by decide +kernel,rfl,by decide +kernel,by decide +kernel⟩
abbrev fC:Stmt:=top 101
abbrev Af:List Str:= ["world","further","number"]
abbrev mL:List Str:= ["world","further"]
theorem pI:aC Af mL (ay fC):=⟨rfl,rfl,rfl,by decide +kernel,rfl,by decide +kernel,by decide +kernel⟩
abbrev fu:Stmt:=top 102
abbrev Ee:List Str:= ["world","place","numbers","name","number"]
abbrev iW:List Str:= ["world","place","numbers"]
theorem lY:aC Ee iW (ay fu):=⟨rfl,rfl,rfl,by decide +kernel,rfl,by decide +kernel,by decide +kernel⟩
abbrev fw:Stmt:=top 105
abbrev Ef:List Str:= ["calls","split","at","numbers"]
abbrev iX:List Str:= ["calls"]
theorem fD:aC Ef iX (ay fw):=⟨rfl,rfl,rfl,by decide +kernel,rfl,by decide +kernel,by decide +kernel⟩
abbrev zb:Stmt:=top 106
abbrev WO:List Str:= ["world","place","numbers"]
abbrev B0:List Str:= ["world","place","numbers"]
theorem TU:aC WO B0 (ay zb):=⟨rfl,rfl,rfl,by decide +kernel,rfl,by decide +kernel,by decide +kernel⟩
abbrev lL:Stmt:=top 107
abbrev Oi:List Str:= ["calls","world","given","place","numbers","played"]
abbrev tV:List Str:= ["calls"]
theorem gD:aC Oi tV (ay lL):=⟨rfl,rfl,rfl,by decide +kernel,rfl,by decide +kernel,by decide +kernel⟩
structure ke where
 cb:Addr
 aO:Addr
 aT:Addr
 bj:Addr
 cY:Addr
 kf:FuncData
 cu:Addr
 gY:FuncData
 cF:Addr
 iY:FuncData
 cZ:Addr
 kg:FuncData
 xi:Addr
 MB:FuncData
 pJ:Addr
 G0:FuncData
 fW:Addr
 tW:FuncData
 pK:Addr
 G2:FuncData
 xj:Addr
 MC:FuncData
 d8:Addr
 mM:FuncData
 gZ:Addr
 xk:FuncData
 pL:Addr
 G3:FuncData
 kh:Addr
 Bb:FuncData
 xl:Addr
 MD:FuncData
 c5:Addr
 iZ:FuncData
 dA:Addr
 kj:FuncData
 d9:Addr
 mN:FuncData
 pM:Addr
 G4:FuncData
 dB:Addr
 kl:FuncData
 ee:Addr
 mP:FuncData
 eC:Addr
 lZ:FuncData
 dC:Addr
 km:FuncData
 dD:Addr
 kn:FuncData
 g9:Addr
 xm:FuncData
 fX:Addr
 tX:FuncData
 ko:Addr
 Bc:FuncData
 cH:Addr
 hC:FuncData
 dE:Addr
 kr:FuncData
 hJ:Addr
 xn:FuncData
 ef:Addr
 mQ:FuncData
 eY:Addr
 pN:FuncData
 fY:Addr
 tY:FuncData
 cI:Addr
 fE:FuncData
 c6:Addr
 i3:FuncData
 dF:Addr
 ku:FuncData
 dG:Addr
 kx:FuncData
 fZ:Addr
 tZ:FuncData
 cx:Addr
 gw:FuncData
 cy:Addr
 mR:FuncData
 iI:Addr
 G5:FuncData
 eJ:Addr
 xo:FuncData
 dP:Addr
 ua:FuncData
 cR:Addr
 pO:FuncData
 eK:Addr
 xp:FuncData
 f_assign:Addr
 xq:FuncData
 cS:Addr
 pP:FuncData
 iJ:Addr
 G6:FuncData
 iK:Addr
 G7:FuncData
 f6:Addr
 ub:FuncData
 dQ:Addr
 uc:FuncData
 iL:Addr
 G8:FuncData
 eM:Addr
 xr:FuncData
 iM:Addr
 G9:FuncData
 f7:Addr
 Bd:FuncData
 bU:Addr
 i4:FuncData
 bJ:Addr
 hR:FuncData
 iN:Addr
 Ha:FuncData
 cz:Addr
 mS:FuncData
 cA:Addr
 mT:FuncData
 cf:Addr
 kz:FuncData
 hU:Addr
 xt:FuncData
 dH:Addr
 kC:FuncData
 eh:Addr
 mV:FuncData
 c7:Addr
 i5:FuncData
 c8:Addr
 i6:FuncData
 nY:Addr
 B2:FuncData
 f9:Addr
 lM:FuncData
 kE:Addr
 gb:Addr
 eZ:Addr
 e9:Addr
 gy:Addr
 fh:Addr
 rQ:Addr
 rR:Addr
 rS:Addr
 rT:Addr
 rV:Addr
 rW:Addr
 rX:Addr
 rY:Addr
 rZ:Addr
 pQ:Addr
 pR:Addr
 pS:Addr
 pT:Addr
 pU:Addr
 pV:Addr
 dg:Addr
 gm:Addr
 i7:Addr
 i8:Addr
 i9:Addr
 ja:Addr
 jb:Addr
 jc:Addr
 jd:Addr
 je:Addr
 jf:Addr
 jg:Addr
 jh:Addr
 ji:Addr
 jj:Addr
 jk:Addr
 jl:Addr
 jm:Addr
 jn:Addr
 jo:Addr
 jq:Addr
 jr:Addr
 js:Addr
structure Txt (K:Frag) (mg:Str→Option Value) (t:ke):Prop where
 Hb:mg "Relay"=some (.ref t.cb)
 cn:PD K t.cb
 a6:bP K t.cb "parent"
 bK:bP K t.cb "circuit"
 de:bP K t.cb "limit"
 o5:mg "Message"=some (.ref t.aO)
 au:PD K t.aO
 aD:bP K t.aO "place"
 bA:bP K t.aO "host"
 bM:bP K t.aO "number"
 bB:bP K t.aO "kind"
 a3:bP K t.aO "server"
 a4:bP K t.aO "address"
 a9:bP K t.aO "length"
 bu:bP K t.aO "hops"
 aR:bP K t.aO "marks"
 JI:mg "Client"=some (.ref t.aT)
 aq:PD K t.aT
 dS:bP K t.aT "host"
 aP:bP K t.aT "plugged"
 aH:bP K t.aT "phase"
 bw:bP K t.aT "counter"
 bD:bP K t.aT "awaited"
 bT:bP K t.aT "sent"
 aV:bP K t.aT "tries"
 bp:bP K t.aT "due"
 a7:bP K t.aT "offer"
 aK:bP K t.aT "lease"
 ME:mg "World"=some (.ref t.bj)
 aw:PD K t.bj
 a8:bP K t.bj "now"
 bC:bP K t.bj "servers"
 ej:bP K t.bj "cap"
 bx:bP K t.bj "relays"
 bN:bP K t.bj "hung"
 aA:bP K t.bj "clients"
 cB:bP K t.bj "resting"
 ba:bP K t.bj "assigned"
 cj:bP K t.bj "written"
 bo:bP K t.bj "bag"
 eN:t.cb≠t.aO
 d3:t.cb≠t.aT
 eO:t.cb≠t.bj
 dh:t.aO≠t.aT
 dR:t.aO≠t.bj
 d4:t.aT≠t.bj
 l3:Mk K t.cb t.cY
 xu:fz K "__init__" "Relay.__init__" fL t.cY t.kf
 pW:Binds K t.kf jZ []
 fc:Mk K t.aO t.cu
 r6:fz K "__init__" "Message.__init__" eF t.cu t.gY
 fF:Binds K t.gY gT []
 lN:Mk K t.aT t.cF
 u7:fz K "__init__" "Client.__init__" fk t.cF t.iY
 u9:Binds K t.iY iR []
 o6:Mk K t.bj t.cZ
 xw:fz K "__init__" "World.__init__" fM t.cZ t.kg
 xx:Binds K t.kg j0 []
 B6:fz K "put" "put" E5 t.xi t.MB
 Fc:mg "put"=some (.ref t.xi)
 Fd:Binds K t.MB Mv []
 zc:fz K "send" "send" yY t.pJ t.G0
 Ca:mg "send"=some (.ref t.pJ)
 Cb:Binds K t.G0 GA []
 o7:fz K "wait_of" "wait_of" lE t.fW t.tW
 ud:mg "wait_of"=some (.ref t.fW)
 ue:Binds K t.tW tM []
 vU:fz K "seek" "seek" yZ t.pK t.G2
 zd:mg "seek"=some (.ref t.pK)
 ze:Binds K t.G2 GB []
 MF:fz K "ask" "ask" E6 t.xj t.MC
 Qw:mg "ask"=some (.ref t.xj)
 Qx:Binds K t.MC Mx []
 mW:fz K "come_back" "come_back" gF t.d8 t.mM
 sf:mg "come_back"=some (.ref t.d8)
 si:Binds K t.mM mB []
 xy:fz K "settle" "settle" oS t.gZ t.xk
 Cc:mg "settle"=some (.ref t.gZ)
 Cd:Binds K t.xk wX []
 Ld:fz K "bind" "bind" y1 t.pL t.G3
 Qy:mg "bind"=some (.ref t.pL)
 Qz:Binds K t.G3 GD []
 Be:fz K "renew" "renew" tN t.kh t.Bb
 Hc:mg "renew"=some (.ref t.kh)
 Hd:Binds K t.Bb A8 []
 QA:fz K "act" "act" E7 t.xl t.MD
 Vi:mg "act"=some (.ref t.xl)
 Vj:Binds K t.MD My []
 nZ:fz K "act_seeking" "act_seeking" fm t.c5 t.iZ
 va:mg "act_seeking"=some (.ref t.c5)
 vc:Binds K t.iZ iS []
 pX:fz K "act_asking" "act_asking" fN t.dA t.kj
 xB:mg "act_asking"=some (.ref t.dA)
 xC:Binds K t.kj j1 []
 sj:fz K "act_until" "act_until" eS t.d9 t.mN
 Ag:mg "act_until"=some (.ref t.d9)
 Ah:Binds K t.mN mC []
 Le:fz K "hear" "hear" y2 t.pM t.G4
 QB:mg "hear"=some (.ref t.pM)
 QC:Binds K t.G4 GG []
 pY:fz K "hear_offer" "hear_offer" fP t.dB t.kl
 xD:mg "hear_offer"=some (.ref t.dB)
 xE:Binds K t.kl j2 []
 sk:fz K "is_better" "is_better" gG t.ee t.mP
 Ai:mg "is_better"=some (.ref t.ee)
 Aj:Binds K t.mP mE []
 vV:fz K "hear_yes" "hear_yes" iC t.eC t.lZ
 Ce:mg "hear_yes"=some (.ref t.eC)
 Cf:Binds K t.lZ lW []
 pZ:fz K "is_fitting" "is_fitting" fQ t.dC t.km
 xF:mg "is_fitting"=some (.ref t.dC)
 xG:Binds K t.km j3 []
 kF:fz K "deliver_at" "deliver_at" fR t.dD t.kn
 p0:mg "deliver_at"=some (.ref t.dD)
 qa:Binds K t.kn j4 []
 sm:fz K "put_on" "put_on" oT t.g9 t.xm
 xH:mg "put_on"=some (.ref t.g9)
 xI:Binds K t.xm wY []
 zf:fz K "hand_up" "hand_up" lF t.fX t.tX
 Fe:mg "hand_up"=some (.ref t.fX)
 Ff:Binds K t.tX tO []
 He:fz K "serve" "serve" tP t.ko t.Bc
 MH:mg "serve"=some (.ref t.ko)
 MI:Binds K t.Bc A9 []
 l4:fz K "serve_asking" "serve_asking" eG t.cH t.hC
 so:mg "serve_asking"=some (.ref t.cH)
 sq:Binds K t.hC gU []
 qb:fz K "write_down" "write_down" fS t.dE t.kr
 xJ:mg "write_down"=some (.ref t.dE)
 xK:Binds K t.kr j5 []
 o8:fz K "answer" "answer" oU t.hJ t.xn
 sr:mg "answer"=some (.ref t.hJ)
 su:Binds K t.xn w6 []
 sx:fz K "hand_down" "hand_down" gH t.ef t.mQ
 Ak:mg "hand_down"=some (.ref t.ef)
 Al:Binds K t.mQ mH []
 vW:fz K "come_out" "come_out" iE t.eY t.pN
 Cg:mg "come_out"=some (.ref t.eY)
 Ci:Binds K t.pN pB []
 iO:fz K "or_else" "or_else" lG t.fY t.tY
 lO:mg "or_else"=some (.ref t.fY)
 lP:Binds K t.tY tQ []
 jN:fz K "pairs_row" "pairs_row" gI t.cI t.fE
 mX:mg "pairs_row"=some (.ref t.cI)
 mY:Binds K t.fE fA []
 jt:fz K "message_row" "message_row" fo t.c6 t.i3
 n6:mg "message_row"=some (.ref t.c6)
 og:Binds K t.i3 iT []
 qc:fz K "client_row" "client_row" fT t.dF t.ku
 xM:mg "client_row"=some (.ref t.dF)
 xN:Binds K t.ku j6 []
 qd:fz K "written_of" "written_of" eX t.dG t.kx
 xO:mg "written_of"=some (.ref t.dG)
 xP:Binds K t.kx j7 []
 zg:fz K "path_of" "path_of" lH t.fZ t.tZ
 Fg:mg "path_of"=some (.ref t.fZ)
 Fh:Binds K t.tZ tR []
 jR:fz K "is_plugged_at" "is_plugged_at" dk t.cx t.gw
 rg:mg "is_plugged_at"=some (.ref t.cx)
 rh:Binds K t.gw gv []
 sy:fz K "add_relay" "add_relay" gJ t.cy t.mR
 JJ:mg "add_relay"=some (.ref t.cy)
 Am:Binds K t.mR mI []
 Lf:fz K "plug" "plug" y3 t.iI t.G5
 WQ:mg "plug"=some (.ref t.iI)
 QD:Binds K t.G5 GO []
 Cj:fz K "unplug" "unplug" oW t.eJ t.xo
 QE:mg "unplug"=some (.ref t.eJ)
 JK:Binds K t.xo xa []
 zh:fz K "turn_on" "turn_on" lI t.dP t.ua
 Oj:mg "turn_on"=some (.ref t.dP)
 Fi:Binds K t.ua tS []
 vX:fz K "turn_off" "turn_off" iG t.cR t.pO
 Lg:mg "turn_off"=some (.ref t.cR)
 Ck:Binds K t.pO pE []
 Cm:fz K "forget" "forget" oX t.eK t.xp
 QF:mg "forget"=some (.ref t.eK)
 JL:Binds K t.xp xb []
 Cn:fz K "assign" "assign" oY t.f_assign t.xq
 QG:mg "assign"=some (.ref t.f_assign)
 JM:Binds K t.xq xf []
 vY:fz K "withdraw" "withdraw" iH t.cS t.pP
 Lh:mg "withdraw"=some (.ref t.cS)
 Co:Binds K t.pP pF []
 Li:fz K "rest" "rest" y4 t.iJ t.G6
 WR:mg "rest"=some (.ref t.iJ)
 QH:Binds K t.G6 GP []
 Lj:fz K "tick" "tick" y6 t.iK t.G7
 WT:mg "tick"=some (.ref t.iK)
 QI:Binds K t.G7 GQ []
 uf:fz K "is_full" "is_full" lJ t.f6 t.ub
 zi:mg "is_full"=some (.ref t.f6)
 zj:Binds K t.ub tT []
 zk:fz K "deliver" "deliver" lK t.dQ t.uc
 Ol:mg "deliver"=some (.ref t.dQ)
 Fj:Binds K t.uc tU []
 Lk:fz K "lose" "lose" y8 t.iL t.G8
 WU:mg "lose"=some (.ref t.iL)
 QJ:Binds K t.G8 GS []
 Cp:fz K "double" "double" oZ t.eM t.xr
 QK:mg "double"=some (.ref t.eM)
 JN:Binds K t.xr xg []
 Ll:fz K "flow" "flow" y9 t.iM t.G9
 WV:mg "flow"=some (.ref t.iM)
 QL:Binds K t.G9 GU []
 Hf:fz K "forge" "forge" pG t.f7 t.Bd
 TV:mg "forge"=some (.ref t.f7)
 MJ:Binds K t.Bd Ba []
 oh:fz K "tell_client" "tell_client" fq t.bU t.i4
 Eg:mg "tell_client"=some (.ref t.bU)
 vd:Binds K t.i4 iV []
 l5:fz K "tell_written" "tell_written" eI t.bJ t.hR
 Cq:mg "tell_written"=some (.ref t.bJ)
 sA:Binds K t.hR gX []
 Lm:fz K "peek" "peek" za t.iN t.Ha
 WW:mg "peek"=some (.ref t.iN)
 QM:Binds K t.Ha GW []
 sC:fz K "tell_path" "tell_path" gL t.cz t.mS
 JO:mg "tell_path"=some (.ref t.cz)
 An:Binds K t.mS mJ []
 sD:fz K "tell_next" "tell_next" fB t.cA t.mT
 JP:mg "tell_next"=some (.ref t.cA)
 Ao:Binds K t.mT mK []
 qe:fz K "tell_state" "tell_state" fU t.cf t.kz
 Hg:mg "tell_state"=some (.ref t.cf)
 xQ:Binds K t.kz j9 []
 Cr:fz K "row_of" "row_of" o4 t.hU t.xt
 JQ:mg "row_of"=some (.ref t.hU)
 JR:Binds K t.xt xh []
 kG:fz K "is_granted" "is_granted" fV t.dH t.kC
 qf:mg "is_granted"=some (.ref t.dH)
 qg:Binds K t.kC ka []
 sE:fz K "are_pairs" "are_pairs" fC t.eh t.mV
 Ap:mg "are_pairs"=some (.ref t.eh)
 Aq:Binds K t.mV mL []
 oj:fz K "are_granted" "are_granted" fu t.c7 t.i5
 ve:mg "are_granted"=some (.ref t.c7)
 vf:Binds K t.i5 iW []
 om:fz K "split_calls" "split_calls" fw t.c8 t.i6
 vg:mg "split_calls"=some (.ref t.c8)
 vh:Binds K t.i6 iX []
 Ln:fz K "play" "play" zb t.nY t.B2
 QN:mg "play"=some (.ref t.nY)
 QO:Binds K t.B2 B0 []
 zl:fz K "answers" "answers" lL t.f9 t.lM
 Fl:mg "answers"=some (.ref t.f9)
 Om:Binds K t.lM tV []
 vi:∃u,mg "FIRST_LIMIT"=some u∧RelV (V.int 16) u
 QP:∃u,mg "UP"=some u∧RelV (V.int 0) u
 sF:∃u,mg "AT_SERVER"=some u∧RelV (V.int 1) u
 Hh:∃u,mg "DOWN"=some u∧RelV (V.int 2) u
 Vk:∃u,mg "OUT"=some u∧RelV (V.int 3) u
 zm:∃u,mg "SEEKING"=some u∧RelV (V.int 1) u
 Hi:∃u,mg "OFFER"=some u∧RelV (V.int 2) u
 sG:∃u,mg "ASKING"=some u∧RelV (V.int 3) u
 QQ:∃u,mg "YES"=some u∧RelV (V.int 4) u
 WX:∃u,mg "NO"=some u∧RelV (V.int 5) u
 Fm:∃u,mg "OFF"=some u∧RelV (V.int 0) u
 Bf:∃u,mg "SEEKS"=some u∧RelV (V.int 1) u
 Ct:∃u,mg "ASKS"=some u∧RelV (V.int 2) u
 MK:∃u,mg "BOUND"=some u∧RelV (V.int 3) u
 xR:∃u,mg "RENEWS"=some u∧RelV (V.int 4) u
 qh:∃u,mg "ASKS_ALL"=some u∧RelV (V.int 5) u
 hW:∃u,mg "COMES_BACK"=some u∧RelV (V.int 6) u
 ML:mg "WAITS"=some (.ref t.kE)
 MM:∀H,bO K H t.kE [V.int 3,V.int 7,V.int 15,V.int 31,V.int 63,V.int 63,V.int 63,V.int 63,V.int 63,V.int 63,V.int 63]
 jO:∃u,mg "MOST_SEEKING_TRIES"=some u∧RelV (V.int 10) u
 mZ:∃u,mg "LAST_ASKING_TRY"=some u∧RelV (V.int 3) u
 jP:∃u,mg "LAST_RETURNING_TRY"=some u∧RelV (V.int 2) u
 vj:∃u,mg "LEAST_PAUSE"=some u∧RelV (V.int 60) u
 Fn:mg "NOWHERE"=some (.ref t.gb)
 Fo:∀H,bO K H t.gb [V.int (-1),V.int (-1)]
 Cu:mg "NO_OFFER"=some (.ref t.eZ)
 Cv:∀H,bO K H t.eZ [V.int (-1),V.int 0,V.int 0]
 Cw:mg "NO_LEASE"=some (.ref t.e9)
 Cy:∀H,bO K H t.e9 [V.int (-1),V.int 0,V.int 0,V.int 0,V.int 0]
 vk:∃u,mg "MOST_RELAYS"=some u∧RelV (V.int 64) u
 sH:∃u,mg "MOST_CLIENTS"=some u∧RelV (V.int 64) u
 rj:∃u,mg "MOST_ASSIGNED"=some u∧RelV (V.int 128) u
 JS:∃u,mg "LATEST"=some u∧RelV (V.int 1000000000000000) u
 MN:mg "CALLS"=some (.ref t.gy)
 cM:DM K t.gy [(1,V.ref t.cy),(2,V.ref t.iI),(3,V.ref t.eJ),(4,V.ref t.dP),(5,V.ref t.cR),(6,V.ref t.eK),(7,V.ref t.f_assign),(8,V.ref t.cS),(9,V.ref t.iJ),(10,V.ref t.iK),(11,V.ref t.dQ),(12,V.ref t.iL),(13,V.ref t.eM),(14,V.ref t.iM),(15,V.ref t.f7),(16,V.ref t.bU),(17,V.ref t.bJ),(18,V.ref t.iN),(19,V.ref t.cz),(20,V.ref t.cA),(21,V.ref t.cf)]
 Cz:mg "RANGES"=some (.ref t.fh)
 dv:DMS K t.fh [("servers",V.ref t.rQ),("cap",V.ref t.rR),("time",V.ref t.rS),("circuit",V.ref t.rT),("limit",V.ref t.rV),("host",V.ref t.rW),("address",V.ref t.rX),("len",V.ref t.rY),("x",V.ref t.rZ),("t",V.ref t.pQ),("m",V.ref t.pR),("number",V.ref t.pS),("kind",V.ref t.pT),("hops",V.ref t.pU),("of a pair",V.ref t.pV)]
 Ar:∀H,bO K H t.rQ [V.int 1,V.int 4]
 As:∀H,bO K H t.rR [V.int 1,V.int 10000]
 Au:∀H,bO K H t.rS [V.int 0,V.int 1000000000000000]
 Av:∀H,bO K H t.rT [V.int 0,V.int 4095]
 Aw:∀H,bO K H t.rV [V.int 1,V.int 16]
 Ax:∀H,bO K H t.rW [V.int 0,V.int 281474976710655]
 Ay:∀H,bO K H t.rX [V.int 0,V.int 4294967295]
 Az:∀H,bO K H t.rY [V.int 1,V.int 1000000000]
 AA:∀H,bO K H t.rZ [V.int 0,V.int 1]
 xS:∀H,bO K H t.pQ [V.int 0,V.int 20000]
 xT:∀H,bO K H t.pR [V.int 0,V.int 1000]
 xU:∀H,bO K H t.pS [V.int 1,V.int 1000000000000000000]
 xV:∀H,bO K H t.pT [V.int 1,V.int 5]
 xW:∀H,bO K H t.pU [V.int 0,V.int 16]
 xX:∀H,bO K H t.pV [V.int 0,V.int 4095]
 sI:∃u,mg "MOST_FURTHER"=some u∧RelV (V.int 32) u
 zo:mg "NUMBERS"=some (.ref t.dg)
 bF:DM K t.dg [(0,V.ref t.gm),(1,V.ref t.i7),(2,V.ref t.i8),(3,V.ref t.i9),(4,V.ref t.ja),(5,V.ref t.jb),(6,V.ref t.jc),(7,V.ref t.jd),(8,V.ref t.je),(9,V.ref t.jf),(10,V.ref t.jg),(11,V.ref t.jh),(12,V.ref t.ji),(13,V.ref t.jj),(14,V.ref t.jk),(15,V.ref t.jl),(16,V.ref t.jm),(17,V.ref t.jn),(18,V.ref t.jo),(19,V.ref t.jq),(20,V.ref t.jr),(21,V.ref t.js)]
 oo:∀H,bO K H t.gm [V.str "servers",V.str "cap",V.str "time"]
 vm:∀H,bO K H t.i7 [V.str "relay",V.str "circuit",V.str "limit"]
 vn:∀H,bO K H t.i8 [V.str "host",V.str "relay",V.str "circuit"]
 vo:∀H,bO K H t.i9 [V.str "host"]
 vp:∀H,bO K H t.ja [V.str "host"]
 vq:∀H,bO K H t.jb [V.str "host"]
 vt:∀H,bO K H t.jc [V.str "host"]
 vv:∀H,bO K H t.jd [V.str "server",V.str "host",V.str "relay",V.str "address",V.str "len"]
 vw:∀H,bO K H t.je [V.str "server",V.str "host",V.str "relay"]
 vx:∀H,bO K H t.jf [V.str "server",V.str "x"]
 vy:∀H,bO K H t.jg [V.str "t"]
 vz:∀H,bO K H t.jh [V.str "k"]
 vA:∀H,bO K H t.ji [V.str "k"]
 vB:∀H,bO K H t.jj [V.str "k"]
 vC:∀H,bO K H t.jk [V.str "m"]
 vD:∀H,bO K H t.jl [V.str "relay",V.str "circuit",V.str "host",V.str "number",V.str "kind",V.str "server or none",V.str "address",V.str "hops"]
 vE:∀H,bO K H t.jm [V.str "host"]
 vF:∀H,bO K H t.jn [V.str "server",V.str "host"]
 vG:∀H,bO K H t.jo [V.str "k"]
 vH:∀H,bO K H t.jq [V.str "relay",V.str "circuit"]
 vI:∀H,bO K H t.jr []
 vJ:∀H,bO K H t.js []
 MO:∃u,mg "BEGIN"=some u∧RelV (V.int 0) u
 Fp:mg "all"=none
 Fq:mg "any"=none
 dN:mg "len"=none
 zp:mg "list"=none
 CB:mg "max"=none
 vK:mg "min"=none
 qi:mg "range"=none
 l6:mg "sorted"=none
 ug:mg "tuple"=none
 Fs:mg "zip"=none
theorem WY {K:Frag}{h:Heap}{mg:Str→Option Value}(X:K.In h)(G:h.Ns mainGlobals mg)
  {cb aO aT bj cY cu cF cZ xi pJ fW pK xj d8 gZ pL kh xl c5 dA d9 pM dB ee eC dC dD g9 fX ko cH dE hJ ef eY fY cI c6 dF dG fZ cx cy iI eJ dP cR eK f_assign cS iJ iK f6 dQ iL eM iM f7 bU bJ iN cz cA cf hU dH eh c7 c8 nY f9 kE gb eZ e9 gy fh b1 b2 b3 b4 b5 b6 b7 b8 b9 b10 b11 b12 b13 b14 b15 dg b16 b17 b18 b19 b20 b21 b22 b23 b24 b25 b26 b27 b28 b29 b30 b31 b32 b33 b34 b35 b36 b37:Addr}{sl1 sl2 sl3 sl4 sl5 sl6 sl7 sl8 sl9 ajj ajk ajl ajm ajn ajo ajp ajq ajr ajs ajt aju ajv ajw ajx ajy ajz ajA ajB ajC ajD ajE ajF ajG ajH ajI ajJ ajK ajL ajM ajN ajO ajP ajQ ajR ajS ajT ajU ajV ajW ajX ajY ajZ aj0 aj1 aj2 aj3 aj4 aj5 aj6 aj7 aj8 aj9 aka akb akc akd ake akf akg akh aki akj akk akl akm akn ako akp akq akr aks akt aku akv akw akx aky akz akA akB akC akD akE akF akG akH akI akJ akK aaY aaZ aa0 aa1 aa2 aa3 aa4 aa5 aa6:Array (Option Value)}{hh1 hh2 hh3 hh4 hh5 hh6 hh7 hh8 hh9 akN akO akP akQ akR akS:Int}{nn1 nn2 nn3 nn4 nn5 nn6 nn7 nn8 nn9 akT akU akV akW akX akY akZ ak0 ak1 ak2 ak3 ak4 ak5 ak6 ak7 ak8 ak9 ala alb alc ald ale alf alg alh ali alj alk alm aln alo alp alq alr als:Nat}{od1 an1 od2 an2 od3 an3 od4 an4 od5 an5 od6 an6 od7 an7 od8 an8 od9 an9 alu aa7 alv aa8 alw aa9 alx aba aly abb alz abc alA abd alB abe alC abf alD abg alE abh alF abi alG abj alH abk alI abl alJ abm alK abn alL abo alM abp alN abq alO abr alP abt alQ abu alR abv alS abw alT abx alU aby alV abz alW abA alX abB alY abC alZ abD al0 abE al1 abF al2 abG al3 abH al4 abI al5 abJ al6 abK al7 abL al8 abM al9 abN ama abO amb abP amc abQ amd abR ame abS amf abT amg abU amh abV ami abW amj abX amk abY aml abZ amm ab0 amn ab1 amo ab2 amq ab3 dd1 dd2 dd3 dd4 dd5 dd6 dd7 dd8 dd9 amr ams amt amu amv amw amx amy amz amA amB amC amD amE amF amG amH amI amJ amK amL amM amN amO amP amQ amR amS amT amU amV amW:Option Addr}{t1 t2 t3 t4 t5 t6 t7 t8 t9 t10 t11 t12 t13 t14 t15 t16 t17 t18 t19 t20 t21 t22 t23 t24 t25 t26 t27 t28 t29 t30 t31 t32 t33 t34 t35 t36 t37 t38 t39 t40 t41 t42 t43 t44 t45 t46 t47 t48 t49 t50 t51 t52 t53 t54 t55 t56 t57 t58 t59 t60 t61 t62 t63 t64 t65 t66 t67 t68 t69 t70 t71 t72 t73 t74 t75 t76 t77 t78 t79 t80 t81 t82 t83 t84 t85 t86 t87 t88 t89 t90 t91 t92 t93 t94 t95 t96 t97 t98 t99 amX amY amZ am0 am1 am2 am3 am4 am5 am6 am7 am8 am9 ana anb anc ane anf ang anh ani anj ank anl anm ano anp anq anr ans ant anu anv anw anx anz anA anB anC anD anE anF anG anH anI anJ anK anL anM anN anO anP anQ anR anS anT anU anV anW anY anZ an0 aoa aob aoc aod aoe aof aog aoh aoi aoj aok aol aom aon aoo aop aoq:Tok}{oc1 kV1 dc1 pm1 cd1 ct1 oc2 kV2 dc2 pm2 cd2 ct2 oc3 kV3 dc3 pm3 cd3 ct3 oc4 kV4 dc4 pm4 cd4 ct4 oc5 kV5 dc5 pm5 cd5 ct5 oc6 kV6 dc6 pm6 cd6 ct6 oc7 kV7 dc7 pm7 cd7 ct7 oc8 kV8 dc8 pm8 cd8 ct8 oc9 kV9 dc9 pm9 cd9 ct9 aoA ab4 ab5 ab6 WZ ab7 aoB ab8 ab9 aca W0 acb aoC acd ace acf W2 acg aoD ach aci acj W3 ack aoE acm acn aco W4 acp aoF acq acr acs W5 acu aoG acv acw acx W6 acy aoH acz acA acB W7 acC aoI acD acE acF W8 acG aoJ acH acI acJ W9 acK aoK acL acM acN Xa acO aoL acP acQ acR Xb acS aoM acT acU acV Xc acW aoN acX acY acZ Xd ac0 aoO ac1 ac2 ac3 Xe ac4 aoP ac5 ac6 ac7 Xf ac8 aoQ ac9 ada adb Xg ade aoR adf adg adh Xh adi aoS adj adk adl Xi adm aoT adn ado adp Xj adq aoU ads adt adu Xk adv aoV adw adx ady Xl adz aoW adA adB adC Xm adD aoX adE adF adG Xn adH aoY adI adJ adK Xo adL aoZ adM adN adO Xp adP ao0 adQ adR adS Xq adT ao1 adU adV adW Xr adX ao2 adY adZ ad0 Xs ad1 ao3 ad2 ad3 ad4 Xt ad5 ao4 ad6 ad7 ad8 Xu ad9 ao5 aea aeb aec Xv aed ao6 aee aef aeg Xw aeh ao7 aei aej aek Xx ael ao8 aem aen aeo Xy aep ao9 aeq aer aes Xz aet apa aeu aev aew XA aex apb aey aez aeA XB aeB apc aeC aeD aeE XC aeF apd aeG aeH aeI XD aeJ ape aeK aeL aeM XE aeN apf aeO aeP aeQ XF aeR apg aeS aeT aeU XG aeV aph aeW aeX aeY XH aeZ api ae0 ae1 ae2 XI ae3 apj ae4 ae5 ae6 XJ ae7 apk ae8 ae9 afa XM afb apl afc afd afe XN aff apm afg afh afi XO afj apn afk afl afm XQ afn apo afo afp afq XR afr apq afs aft afu XS afv apr afw afx afy XT afz aps afA afB afC XU afD apt afE afF afG XW afH apu afI afJ afK XX afL apv afM afN afO XY afP apw afQ afR afS XZ afT:Value}
  (Hj:nsIn K mainGlobals "Relay"=some (some (.ref cb)))
  (CC:plainGet K cb Str.empty=true)
  (CD:hasDictIn K cb=true)
  (CF:plainOver K cb=true)
  (CG:findIn K (.ref cb) "__setattr__"=some (some (.builtin "object.__setattr__")))
  (l3:makesIn K cb=true)
  (CH:keepIn K (.ref cb)=true)
  (a6:findIn K (.ref cb) "parent"=some none)
  (bK:findIn K (.ref cb) "circuit"=some none)
  (de:findIn K (.ref cb) "limit"=some none)
  (zq:nsIn K mainGlobals "Message"=some (some (.ref aO)))
  (vZ:plainGet K aO Str.empty=true)
  (v7:hasDictIn K aO=true)
  (v8:plainOver K aO=true)
  (v9:findIn K (.ref aO) "__setattr__"=some (some (.builtin "object.__setattr__")))
  (fc:makesIn K aO=true)
  (wa:keepIn K (.ref aO)=true)
  (aD:findIn K (.ref aO) "place"=some none)
  (bA:findIn K (.ref aO) "host"=some none)
  (bM:findIn K (.ref aO) "number"=some none)
  (bB:findIn K (.ref aO) "kind"=some none)
  (a3:findIn K (.ref aO) "server"=some none)
  (a4:findIn K (.ref aO) "address"=some none)
  (a9:findIn K (.ref aO) "length"=some none)
  (bu:findIn K (.ref aO) "hops"=some none)
  (aR:findIn K (.ref aO) "marks"=some none)
  (CI:nsIn K mainGlobals "Client"=some (some (.ref aT)))
  (zr:plainGet K aT Str.empty=true)
  (zt:hasDictIn K aT=true)
  (zu:plainOver K aT=true)
  (zw:findIn K (.ref aT) "__setattr__"=some (some (.builtin "object.__setattr__")))
  (lN:makesIn K aT=true)
  (zx:keepIn K (.ref aT)=true)
  (dS:findIn K (.ref aT) "host"=some none)
  (aP:findIn K (.ref aT) "plugged"=some none)
  (aH:findIn K (.ref aT) "phase"=some none)
  (bw:findIn K (.ref aT) "counter"=some none)
  (bD:findIn K (.ref aT) "awaited"=some none)
  (bT:findIn K (.ref aT) "sent"=some none)
  (aV:findIn K (.ref aT) "tries"=some none)
  (bp:findIn K (.ref aT) "due"=some none)
  (a7:findIn K (.ref aT) "offer"=some none)
  (aK:findIn K (.ref aT) "lease"=some none)
  (Hl:nsIn K mainGlobals "World"=some (some (.ref bj)))
  (CJ:plainGet K bj Str.empty=true)
  (CL:hasDictIn K bj=true)
  (CM:plainOver K bj=true)
  (CN:findIn K (.ref bj) "__setattr__"=some (some (.builtin "object.__setattr__")))
  (o6:makesIn K bj=true)
  (CO:keepIn K (.ref bj)=true)
  (a8:findIn K (.ref bj) "now"=some none)
  (bC:findIn K (.ref bj) "servers"=some none)
  (ej:findIn K (.ref bj) "cap"=some none)
  (bx:findIn K (.ref bj) "relays"=some none)
  (bN:findIn K (.ref bj) "hung"=some none)
  (aA:findIn K (.ref bj) "clients"=some none)
  (cB:findIn K (.ref bj) "resting"=some none)
  (ba:findIn K (.ref bj) "assigned"=some none)
  (cj:findIn K (.ref bj) "written"=some none)
  (bo:findIn K (.ref bj) "bag"=some none)
  (qj:findIn K (.ref cb) "__init__"=some (some (.ref cY)))
  (qk:isFn K (.ref cY)=true)
  (kH:K.lookup cY=some ⟨oc1,od1,.func (fO "__init__" "Relay.__init__" fL kV1 dc1 pm1 an1 cd1 ct1),sl1⟩)
  (kI:codeIn K cd1 "Relay.__init__"=true)
  (kJ:keepIn K (.ref cY)=true)
  (l7:findIn K (.ref aO) "__init__"=some (some (.ref cu)))
  (l8:isFn K (.ref cu)=true)
  (hX:K.lookup cu=some ⟨oc2,od2,.func (fO "__init__" "Message.__init__" eF kV2 dc2 pm2 an2 cd2 ct2),sl2⟩)
  (hZ:codeIn K cd2 "Message.__init__"=true)
  (ia:keepIn K (.ref cu)=true)
  (oq:findIn K (.ref aT) "__init__"=some (some (.ref cF)))
  (ot:isFn K (.ref cF)=true)
  (ju:K.lookup cF=some ⟨oc3,od3,.func (fO "__init__" "Client.__init__" fk kV3 dc3 pm3 an3 cd3 ct3),sl3⟩)
  (jv:codeIn K cd3 "Client.__init__"=true)
  (jw:keepIn K (.ref cF)=true)
  (ql:findIn K (.ref bj) "__init__"=some (some (.ref cZ)))
  (qm:isFn K (.ref cZ)=true)
  (kK:K.lookup cZ=some ⟨oc4,od4,.func (fO "__init__" "World.__init__" fM kV4 dc4 pm4 an4 cd4 ct4),sl4⟩)
  (kL:codeIn K cd4 "World.__init__"=true)
  (kM:keepIn K (.ref cZ)=true)
  (QR:nsIn K mainGlobals "put"=some (some (.ref xi)))
  (MP:K.lookup xi=some ⟨oc5,od5,.func (fO "put" "put" E5 kV5 dc5 pm5 an5 cd5 ct5),sl5⟩)
  (MQ:codeIn K cd5 "put"=true)
  (k_put:keepIn K (.ref xi)=true)
  (Lo:nsIn K mainGlobals "send"=some (some (.ref pJ)))
  (Hm:K.lookup pJ=some ⟨oc6,od6,.func (fO "send" "send" yY kV6 dc6 pm6 an6 cd6 ct6),sl6⟩)
  (Hn:codeIn K cd6 "send"=true)
  (Ho:keepIn K (.ref pJ)=true)
  (zy:nsIn K mainGlobals "wait_of"=some (some (.ref fW)))
  (uh:K.lookup fW=some ⟨oc7,od7,.func (fO "wait_of" "wait_of" lE kV7 dc7 pm7 an7 cd7 ct7),sl7⟩)
  (ui:codeIn K cd7 "wait_of"=true)
  (uj:keepIn K (.ref fW)=true)
  (Lp:nsIn K mainGlobals "seek"=some (some (.ref pK)))
  (Hq:K.lookup pK=some ⟨oc8,od8,.func (fO "seek" "seek" yZ kV8 dc8 pm8 an8 cd8 ct8),sl8⟩)
  (Hr:codeIn K cd8 "seek"=true)
  (Hs:keepIn K (.ref pK)=true)
  (QS:nsIn K mainGlobals "ask"=some (some (.ref xj)))
  (MR:K.lookup xj=some ⟨oc9,od9,.func (fO "ask" "ask" E6 kV9 dc9 pm9 an9 cd9 ct9),sl9⟩)
  (MS:codeIn K cd9 "ask"=true)
  (MT:keepIn K (.ref xj)=true)
  (sJ:nsIn K mainGlobals "come_back"=some (some (.ref d8)))
  (m3:K.lookup d8=some ⟨aoA,alu,.func (fO "come_back" "come_back" gF ab4 ab5 ab6 aa7 WZ ab7),ajj⟩)
  (m4:codeIn K WZ "come_back"=true)
  (m6:keepIn K (.ref d8)=true)
  (CP:nsIn K mainGlobals "settle"=some (some (.ref gZ)))
  (xY:K.lookup gZ=some ⟨aoB,alv,.func (fO "settle" "settle" oS ab8 ab9 aca aa8 W0 acb),ajk⟩)
  (xZ:codeIn K W0 "settle"=true)
  (x3:keepIn K (.ref gZ)=true)
  (Lq:nsIn K mainGlobals "bind"=some (some (.ref pL)))
  (Ht:K.lookup pL=some ⟨aoC,alw,.func (fO "bind" "bind" y1 acd ace acf aa9 W2 acg),ajl⟩)
  (Hu:codeIn K W2 "bind"=true)
  (Hv:keepIn K (.ref pL)=true)
  (Hw:nsIn K mainGlobals "renew"=some (some (.ref kh)))
  (Bg:K.lookup kh=some ⟨aoD,alx,.func (fO "renew" "renew" tN ach aci acj aba W3 ack),ajm⟩)
  (Bh:codeIn K W3 "renew"=true)
  (Bi:keepIn K (.ref kh)=true)
  (QT:nsIn K mainGlobals "act"=some (some (.ref xl)))
  (MU:K.lookup xl=some ⟨aoE,aly,.func (fO "act" "act" E7 acm acn aco abb W4 acp),ajn⟩)
  (MV:codeIn K W4 "act"=true)
  (MW:keepIn K (.ref xl)=true)
  (ou:nsIn K mainGlobals "act_seeking"=some (some (.ref c5)))
  (jx:K.lookup c5=some ⟨aoF,alz,.func (fO "act_seeking" "act_seeking" fm acq acr acs abc W5 acu),ajo⟩)
  (jy:codeIn K W5 "act_seeking"=true)
  (jz:keepIn K (.ref c5)=true)
  (qo:nsIn K mainGlobals "act_asking"=some (some (.ref dA)))
  (kN:K.lookup dA=some ⟨aoG,alA,.func (fO "act_asking" "act_asking" fN acv acw acx abd W6 acy),ajp⟩)
  (kO:codeIn K W6 "act_asking"=true)
  (kP:keepIn K (.ref dA)=true)
  (sL:nsIn K mainGlobals "act_until"=some (some (.ref d9)))
  (m7:K.lookup d9=some ⟨aoH,alB,.func (fO "act_until" "act_until" eS acz acA acB abe W7 acC),ajq⟩)
  (m8:codeIn K W7 "act_until"=true)
  (m9:keepIn K (.ref d9)=true)
  (Lr:nsIn K mainGlobals "hear"=some (some (.ref pM)))
  (Hy:K.lookup pM=some ⟨aoI,alC,.func (fO "hear" "hear" y2 acD acE acF abf W8 acG),ajr⟩)
  (Hz:codeIn K W8 "hear"=true)
  (HB:keepIn K (.ref pM)=true)
  (qp:nsIn K mainGlobals "hear_offer"=some (some (.ref dB)))
  (kQ:K.lookup dB=some ⟨aoJ,alD,.func (fO "hear_offer" "hear_offer" fP acH acI acJ abg W9 acK),ajs⟩)
  (kR:codeIn K W9 "hear_offer"=true)
  (kS:keepIn K (.ref dB)=true)
  (sM:nsIn K mainGlobals "is_better"=some (some (.ref ee)))
  (ng:K.lookup ee=some ⟨aoK,alE,.func (fO "is_better" "is_better" gG acL acM acN abh Xa acO),ajt⟩)
  (nh:codeIn K Xa "is_better"=true)
  (ni:keepIn K (.ref ee)=true)
  (wb:nsIn K mainGlobals "hear_yes"=some (some (.ref eC)))
  (qr:K.lookup eC=some ⟨aoL,alF,.func (fO "hear_yes" "hear_yes" iC acP acQ acR abi Xb acS),aju⟩)
  (qt:codeIn K Xb "hear_yes"=true)
  (qu:keepIn K (.ref eC)=true)
  (qv:nsIn K mainGlobals "is_fitting"=some (some (.ref dC)))
  (kT:K.lookup dC=some ⟨aoM,alG,.func (fO "is_fitting" "is_fitting" fQ acT acU acV abj Xc acW),ajv⟩)
  (kU:codeIn K Xc "is_fitting"=true)
  (kX:keepIn K (.ref dC)=true)
  (qw:nsIn K mainGlobals "deliver_at"=some (some (.ref dD)))
  (kY:K.lookup dD=some ⟨aoN,alH,.func (fO "deliver_at" "deliver_at" fR acX acY acZ abk Xd ac0),ajw⟩)
  (kZ:codeIn K Xd "deliver_at"=true)
  (k0:keepIn K (.ref dD)=true)
  (CQ:nsIn K mainGlobals "put_on"=some (some (.ref g9)))
  (x4:K.lookup g9=some ⟨aoO,alI,.func (fO "put_on" "put_on" oT ac1 ac2 ac3 abl Xe ac4),ajx⟩)
  (x5:codeIn K Xe "put_on"=true)
  (x6:keepIn K (.ref g9)=true)
  (zz:nsIn K mainGlobals "hand_up"=some (some (.ref fX)))
  (uk:K.lookup fX=some ⟨aoP,alJ,.func (fO "hand_up" "hand_up" lF ac5 ac6 ac7 abm Xf ac8),ajy⟩)
  (um:codeIn K Xf "hand_up"=true)
  (uo:keepIn K (.ref fX)=true)
  (HC:nsIn K mainGlobals "serve"=some (some (.ref ko)))
  (Bj:K.lookup ko=some ⟨aoQ,alK,.func (fO "serve" "serve" tP ac9 ada adb abn Xg ade),ajz⟩)
  (Bk:codeIn K Xg "serve"=true)
  (Bl:keepIn K (.ref ko)=true)
  (l9:nsIn K mainGlobals "serve_asking"=some (some (.ref cH)))
  (ib:K.lookup cH=some ⟨aoR,alL,.func (fO "serve_asking" "serve_asking" eG adf adg adh abo Xh adi),ajA⟩)
  (ic:codeIn K Xh "serve_asking"=true)
  (ie:keepIn K (.ref cH)=true)
  (qx:nsIn K mainGlobals "write_down"=some (some (.ref dE)))
  (k7:K.lookup dE=some ⟨aoS,alM,.func (fO "write_down" "write_down" fS adj adk adl abp Xi adm),ajB⟩)
  (k8:codeIn K Xi "write_down"=true)
  (k9:keepIn K (.ref dE)=true)
  (CS:nsIn K mainGlobals "answer"=some (some (.ref hJ)))
  (x8:K.lookup hJ=some ⟨aoT,alN,.func (fO "answer" "answer" oU adn ado adp abq Xj adq),ajC⟩)
  (x9:codeIn K Xj "answer"=true)
  (ya:keepIn K (.ref hJ)=true)
  (sN:nsIn K mainGlobals "hand_down"=some (some (.ref ef)))
  (nj:K.lookup ef=some ⟨aoU,alO,.func (fO "hand_down" "hand_down" gH ads adt adu abr Xk adv),ajD⟩)
  (nk:codeIn K Xk "hand_down"=true)
  (nq:keepIn K (.ref ef)=true)
  (wd:nsIn K mainGlobals "come_out"=some (some (.ref eY)))
  (qy:K.lookup eY=some ⟨aoV,alP,.func (fO "come_out" "come_out" iE adw adx ady abt Xl adz),ajE⟩)
  (qz:codeIn K Xl "come_out"=true)
  (qA:keepIn K (.ref eY)=true)
  (zA:nsIn K mainGlobals "or_else"=some (some (.ref fY)))
  (uq:K.lookup fY=some ⟨aoW,alQ,.func (fO "or_else" "or_else" lG adA adB adC abu Xm adD),ajF⟩)
  (ur:codeIn K Xm "or_else"=true)
  (uu:keepIn K (.ref fY)=true)
  (sO:nsIn K mainGlobals "pairs_row"=some (some (.ref cI)))
  (nt:K.lookup cI=some ⟨aoX,alR,.func (fO "pairs_row" "pairs_row" gI adE adF adG abv Xn adH),ajG⟩)
  (nv:codeIn K Xn "pairs_row"=true)
  (ny:keepIn K (.ref cI)=true)
  (ow:nsIn K mainGlobals "message_row"=some (some (.ref c6)))
  (jA:K.lookup c6=some ⟨aoY,alS,.func (fO "message_row" "message_row" fo adI adJ adK abw Xo adL),ajH⟩)
  (jB:codeIn K Xo "message_row"=true)
  (jC:keepIn K (.ref c6)=true)
  (qB:nsIn K mainGlobals "client_row"=some (some (.ref dF)))
  (lg:K.lookup dF=some ⟨aoZ,alT,.func (fO "client_row" "client_row" fT adM adN adO abx Xp adP),ajI⟩)
  (lh:codeIn K Xp "client_row"=true)
  (lj:keepIn K (.ref dF)=true)
  (qC:nsIn K mainGlobals "written_of"=some (some (.ref dG)))
  (ll:K.lookup dG=some ⟨ao0,alU,.func (fO "written_of" "written_of" eX adQ adR adS aby Xq adT),ajJ⟩)
  (lp:codeIn K Xq "written_of"=true)
  (lq:keepIn K (.ref dG)=true)
  (zB:nsIn K mainGlobals "path_of"=some (some (.ref fZ)))
  (uv:K.lookup fZ=some ⟨ao1,alV,.func (fO "path_of" "path_of" lH adU adV adW abz Xr adX),ajK⟩)
  (uw:codeIn K Xr "path_of"=true)
  (ux:keepIn K (.ref fZ)=true)
  (jS:nsIn K mainGlobals "is_plugged_at"=some (some (.ref cx)))
  (gz:K.lookup cx=some ⟨ao2,alW,.func (fO "is_plugged_at" "is_plugged_at" dk adY adZ ad0 abA Xs ad1),ajL⟩)
  (gA:codeIn K Xs "is_plugged_at"=true)
  (gB:keepIn K (.ref cx)=true)
  (sP:nsIn K mainGlobals "add_relay"=some (some (.ref cy)))
  (nB:K.lookup cy=some ⟨ao3,alX,.func (fO "add_relay" "add_relay" gJ ad2 ad3 ad4 abB Xt ad5),ajM⟩)
  (nE:codeIn K Xt "add_relay"=true)
  (nF:keepIn K (.ref cy)=true)
  (Ls:nsIn K mainGlobals "plug"=some (some (.ref iI)))
  (HD:K.lookup iI=some ⟨ao4,alY,.func (fO "plug" "plug" y3 ad6 ad7 ad8 abC Xu ad9),ajN⟩)
  (HE:codeIn K Xu "plug"=true)
  (HF:keepIn K (.ref iI)=true)
  (CT:nsIn K mainGlobals "unplug"=some (some (.ref eJ)))
  (yb:K.lookup eJ=some ⟨ao5,alZ,.func (fO "unplug" "unplug" oW aea aeb aec abD Xv aed),ajO⟩)
  (yc:codeIn K Xv "unplug"=true)
  (yd:keepIn K (.ref eJ)=true)
  (zC:nsIn K mainGlobals "turn_on"=some (some (.ref dP)))
  (uz:K.lookup dP=some ⟨ao6,al0,.func (fO "turn_on" "turn_on" lI aee aef aeg abE Xw aeh),ajP⟩)
  (uA:codeIn K Xw "turn_on"=true)
  (uB:keepIn K (.ref dP)=true)
  (we:nsIn K mainGlobals "turn_off"=some (some (.ref cR)))
  (qD:K.lookup cR=some ⟨ao7,al1,.func (fO "turn_off" "turn_off" iG aei aej aek abF Xx ael),ajQ⟩)
  (qE:codeIn K Xx "turn_off"=true)
  (qF:keepIn K (.ref cR)=true)
  (CU:nsIn K mainGlobals "forget"=some (some (.ref eK)))
  (ye:K.lookup eK=some ⟨ao8,al2,.func (fO "forget" "forget" oX aem aen aeo abG Xy aep),ajR⟩)
  (yf:codeIn K Xy "forget"=true)
  (yg:keepIn K (.ref eK)=true)
  (CV:nsIn K mainGlobals "assign"=some (some (.ref f_assign)))
  (yh:K.lookup f_assign=some ⟨ao9,al3,.func (fO "assign" "assign" oY aeq aer aes abH Xz aet),ajS⟩)
  (yi:codeIn K Xz "assign"=true)
  (yj:keepIn K (.ref f_assign)=true)
  (wj:nsIn K mainGlobals "withdraw"=some (some (.ref cS)))
  (qG:K.lookup cS=some ⟨apa,al4,.func (fO "withdraw" "withdraw" iH aeu aev aew abI XA aex),ajT⟩)
  (qH:codeIn K XA "withdraw"=true)
  (qI:keepIn K (.ref cS)=true)
  (Lu:nsIn K mainGlobals "rest"=some (some (.ref iJ)))
  (HG:K.lookup iJ=some ⟨apb,al5,.func (fO "rest" "rest" y4 aey aez aeA abJ XB aeB),ajU⟩)
  (HH:codeIn K XB "rest"=true)
  (HI:keepIn K (.ref iJ)=true)
  (Lv:nsIn K mainGlobals "tick"=some (some (.ref iK)))
  (HJ:K.lookup iK=some ⟨apc,al6,.func (fO "tick" "tick" y6 aeC aeD aeE abK XC aeF),ajV⟩)
  (HK:codeIn K XC "tick"=true)
  (HL:keepIn K (.ref iK)=true)
  (zD:nsIn K mainGlobals "is_full"=some (some (.ref f6)))
  (uC:K.lookup f6=some ⟨apd,al7,.func (fO "is_full" "is_full" lJ aeG aeH aeI abL XD aeJ),ajW⟩)
  (uD:codeIn K XD "is_full"=true)
  (uE:keepIn K (.ref f6)=true)
  (zE:nsIn K mainGlobals "deliver"=some (some (.ref dQ)))
  (uF:K.lookup dQ=some ⟨ape,al8,.func (fO "deliver" "deliver" lK aeK aeL aeM abM XE aeN),ajX⟩)
  (uG:codeIn K XE "deliver"=true)
  (uH:keepIn K (.ref dQ)=true)
  (Lw:nsIn K mainGlobals "lose"=some (some (.ref iL)))
  (HM:K.lookup iL=some ⟨apf,al9,.func (fO "lose" "lose" y8 aeO aeP aeQ abN XF aeR),ajY⟩)
  (HN:codeIn K XF "lose"=true)
  (HP:keepIn K (.ref iL)=true)
  (CW:nsIn K mainGlobals "double"=some (some (.ref eM)))
  (yk:K.lookup eM=some ⟨apg,ama,.func (fO "double" "double" oZ aeS aeT aeU abO XG aeV),ajZ⟩)
  (yl:codeIn K XG "double"=true)
  (ym:keepIn K (.ref eM)=true)
  (Lx:nsIn K mainGlobals "flow"=some (some (.ref iM)))
  (HQ:K.lookup iM=some ⟨aph,amb,.func (fO "flow" "flow" y9 aeW aeX aeY abP XH aeZ),aj0⟩)
  (HR:codeIn K XH "flow"=true)
  (HS:keepIn K (.ref iM)=true)
  (HU:nsIn K mainGlobals "forge"=some (some (.ref f7)))
  (Bm:K.lookup f7=some ⟨api,amc,.func (fO "forge" "forge" pG ae0 ae1 ae2 abQ XI ae3),aj1⟩)
  (Bn:codeIn K XI "forge"=true)
  (Bo:keepIn K (.ref f7)=true)
  (ox:nsIn K mainGlobals "tell_client"=some (some (.ref bU)))
  (jD:K.lookup bU=some ⟨apj,amd,.func (fO "tell_client" "tell_client" fq ae4 ae5 ae6 abR XJ ae7),aj2⟩)
  (jE:codeIn K XJ "tell_client"=true)
  (jF:keepIn K (.ref bU)=true)
  (md:nsIn K mainGlobals "tell_written"=some (some (.ref bJ)))
  (ig:K.lookup bJ=some ⟨apk,ame,.func (fO "tell_written" "tell_written" eI ae8 ae9 afa abS XM afb),aj3⟩)
  (ij:codeIn K XM "tell_written"=true)
  (ik:keepIn K (.ref bJ)=true)
  (Ly:nsIn K mainGlobals "peek"=some (some (.ref iN)))
  (HV:K.lookup iN=some ⟨apl,amf,.func (fO "peek" "peek" za afc afd afe abT XN aff),aj4⟩)
  (HW:codeIn K XN "peek"=true)
  (HX:keepIn K (.ref iN)=true)
  (sQ:nsIn K mainGlobals "tell_path"=some (some (.ref cz)))
  (nG:K.lookup cz=some ⟨apm,amg,.func (fO "tell_path" "tell_path" gL afg afh afi abU XO afj),aj5⟩)
  (nH:codeIn K XO "tell_path"=true)
  (nI:keepIn K (.ref cz)=true)
  (sR:nsIn K mainGlobals "tell_next"=some (some (.ref cA)))
  (nJ:K.lookup cA=some ⟨apn,amh,.func (fO "tell_next" "tell_next" fB afk afl afm abV XQ afn),aj6⟩)
  (nL:codeIn K XQ "tell_next"=true)
  (nM:keepIn K (.ref cA)=true)
  (qJ:nsIn K mainGlobals "tell_state"=some (some (.ref cf)))
  (lr:K.lookup cf=some ⟨apo,ami,.func (fO "tell_state" "tell_state" fU afo afp afq abW XR afr),aj7⟩)
  (lu:codeIn K XR "tell_state"=true)
  (lx:keepIn K (.ref cf)=true)
  (CY:nsIn K mainGlobals "row_of"=some (some (.ref hU)))
  (yn:K.lookup hU=some ⟨apq,amj,.func (fO "row_of" "row_of" o4 afs aft afu abX XS afv),aj8⟩)
  (yo:codeIn K XS "row_of"=true)
  (yp:keepIn K (.ref hU)=true)
  (qK:nsIn K mainGlobals "is_granted"=some (some (.ref dH)))
  (ly:K.lookup dH=some ⟨apr,amk,.func (fO "is_granted" "is_granted" fV afw afx afy abY XT afz),aj9⟩)
  (lA:codeIn K XT "is_granted"=true)
  (lB:keepIn K (.ref dH)=true)
  (sS:nsIn K mainGlobals "are_pairs"=some (some (.ref eh)))
  (nN:K.lookup eh=some ⟨aps,aml,.func (fO "are_pairs" "are_pairs" fC afA afB afC abZ XU afD),aka⟩)
  (nO:codeIn K XU "are_pairs"=true)
  (nP:keepIn K (.ref eh)=true)
  (oy:nsIn K mainGlobals "are_granted"=some (some (.ref c7)))
  (jG:K.lookup c7=some ⟨apt,amm,.func (fO "are_granted" "are_granted" fu afE afF afG ab0 XW afH),akb⟩)
  (jH:codeIn K XW "are_granted"=true)
  (jI:keepIn K (.ref c7)=true)
  (oz:nsIn K mainGlobals "split_calls"=some (some (.ref c8)))
  (jJ:K.lookup c8=some ⟨apu,amn,.func (fO "split_calls" "split_calls" fw afI afJ afK ab1 XX afL),akc⟩)
  (jK:codeIn K XX "split_calls"=true)
  (jL:keepIn K (.ref c8)=true)
  (Lz:nsIn K mainGlobals "play"=some (some (.ref nY)))
  (HY:K.lookup nY=some ⟨apv,amo,.func (fO "play" "play" zb afM afN afO ab2 XY afP),akd⟩)
  (HZ:codeIn K XY "play"=true)
  (Ia:keepIn K (.ref nY)=true)
  (zF:nsIn K mainGlobals "answers"=some (some (.ref f9)))
  (uI:K.lookup f9=some ⟨apw,amq,.func (fO "answers" "answers" lL afQ afR afS ab3 XZ afT),ake⟩)
  (uJ:codeIn K XZ "answers"=true)
  (uK:keepIn K (.ref f9)=true)
  (oA:nsIn K mainGlobals "FIRST_LIMIT"=some (some (Value.int 16 t1)))
  (X0:nsIn K mainGlobals "UP"=some (some (Value.int 0 t2)))
  (sT:nsIn K mainGlobals "AT_SERVER"=some (some (Value.int 1 t3)))
  (LA:nsIn K mainGlobals "DOWN"=some (some (Value.int 2 t4)))
  (QU:nsIn K mainGlobals "OUT"=some (some (Value.int 3 t5)))
  (zG:nsIn K mainGlobals "SEEKING"=some (some (Value.int 1 t6)))
  (Ib:nsIn K mainGlobals "OFFER"=some (some (Value.int 2 t7)))
  (CZ:nsIn K mainGlobals "ASKING"=some (some (Value.int 3 t8)))
  (QV:nsIn K mainGlobals "YES"=some (some (Value.int 4 t9)))
  (X1:nsIn K mainGlobals "NO"=some (some (Value.int 5 t10)))
  (QW:nsIn K mainGlobals "OFF"=some (some (Value.int 0 t11)))
  (Ic:nsIn K mainGlobals "SEEKS"=some (some (Value.int 1 t12)))
  (LB:nsIn K mainGlobals "ASKS"=some (some (Value.int 2 t13)))
  (Ie:nsIn K mainGlobals "BOUND"=some (some (Value.int 3 t14)))
  (C0:nsIn K mainGlobals "RENEWS"=some (some (Value.int 4 t15)))
  (wk:nsIn K mainGlobals "ASKS_ALL"=some (some (Value.int 5 t16)))
  (qL:nsIn K mainGlobals "COMES_BACK"=some (some (Value.int 6 t17)))
  (Ig:nsIn K mainGlobals "WAITS"=some (some (.ref kE)))
  (lk1:K.lookup kE=some ⟨.type "tuple",dd1,.seq #[Value.int 3 t18,Value.int 7 t19,Value.int 15 t20,Value.int 31 t21,Value.int 63 t22,Value.int 63 t23,Value.int 63 t24,Value.int 63 t25,Value.int 63 t26,Value.int 63 t27,Value.int 63 t28] nn1,akf⟩)
  (fG:nsIn K mainGlobals "MOST_SEEKING_TRIES"=some (some (Value.int 10 t29)))
  (il:nsIn K mainGlobals "LAST_ASKING_TRY"=some (some (Value.int 3 t30)))
  (fH:nsIn K mainGlobals "LAST_RETURNING_TRY"=some (some (Value.int 2 t31)))
  (oB:nsIn K mainGlobals "LEAST_PAUSE"=some (some (Value.int 60 t32)))
  (zH:nsIn K mainGlobals "NOWHERE"=some (some (.ref gb)))
  (lk2:K.lookup gb=some ⟨.type "tuple",dd2,.seq #[Value.int (-1) t33,Value.int (-1) t34] nn2,akg⟩)
  (wo:nsIn K mainGlobals "NO_OFFER"=some (some (.ref eZ)))
  (lk3:K.lookup eZ=some ⟨.type "tuple",dd3,.seq #[Value.int (-1) t35,Value.int 0 t36,Value.int 0 t37] nn3,akh⟩)
  (wq:nsIn K mainGlobals "NO_LEASE"=some (some (.ref e9)))
  (lk4:K.lookup e9=some ⟨.type "tuple",dd4,.seq #[Value.int (-1) t38,Value.int 0 t39,Value.int 0 t40,Value.int 0 t41,Value.int 0 t42] nn4,aki⟩)
  (oC:nsIn K mainGlobals "MOST_RELAYS"=some (some (Value.int 64 t43)))
  (me:nsIn K mainGlobals "MOST_CLIENTS"=some (some (Value.int 64 t44)))
  (jT:nsIn K mainGlobals "MOST_ASSIGNED"=some (some (Value.int 128 t45)))
  (C1:nsIn K mainGlobals "LATEST"=some (some (Value.int 1000000000000000 t46)))
  (Ih:nsIn K mainGlobals "CALLS"=some (some (.ref gy)))
  (lk5:K.lookup gy=some ⟨.type "dict",none,.dict #[⟨1,.int 1 t47,Value.ref cy⟩,⟨2,.int 2 t48,Value.ref iI⟩,⟨3,.int 3 t49,Value.ref eJ⟩,⟨4,.int 4 t50,Value.ref dP⟩,⟨5,.int 5 t51,Value.ref cR⟩,⟨6,.int 6 t52,Value.ref eK⟩,⟨7,.int 7 t53,Value.ref f_assign⟩,⟨8,.int 8 t54,Value.ref cS⟩,⟨9,.int 9 t55,Value.ref iJ⟩,⟨10,.int 10 t56,Value.ref iK⟩,⟨11,.int 11 t57,Value.ref dQ⟩,⟨12,.int 12 t58,Value.ref iL⟩,⟨13,.int 13 t59,Value.ref eM⟩,⟨14,.int 14 t60,Value.ref iM⟩,⟨15,.int 15 t61,Value.ref f7⟩,⟨16,.int 16 t62,Value.ref bU⟩,⟨17,.int 17 t63,Value.ref bJ⟩,⟨18,.int 18 t64,Value.ref iN⟩,⟨19,.int 19 t65,Value.ref cz⟩,⟨20,.int 20 t66,Value.ref cA⟩,⟨21,.int 21 t67,Value.ref cf⟩] nn5,#[]⟩)
  (C2:nsIn K mainGlobals "RANGES"=some (some (.ref fh)))
  (lk6:K.lookup fh=some ⟨.type "dict",none,.dict #[⟨hh1,.str "servers" t68,Value.ref b1⟩,⟨hh2,.str "cap" t69,Value.ref b2⟩,⟨hh3,.str "time" t70,Value.ref b3⟩,⟨hh4,.str "circuit" t71,Value.ref b4⟩,⟨hh5,.str "limit" t72,Value.ref b5⟩,⟨hh6,.str "host" t73,Value.ref b6⟩,⟨hh7,.str "address" t74,Value.ref b7⟩,⟨hh8,.str "len" t75,Value.ref b8⟩,⟨hh9,.str "x" t76,Value.ref b9⟩,⟨akN,.str "t" t77,Value.ref b10⟩,⟨akO,.str "m" t78,Value.ref b11⟩,⟨akP,.str "number" t79,Value.ref b12⟩,⟨akQ,.str "kind" t80,Value.ref b13⟩,⟨akR,.str "hops" t81,Value.ref b14⟩,⟨akS,.str "of a pair" t82,Value.ref b15⟩] nn6,#[]⟩)
  (lk7:K.lookup b1=some ⟨.type "tuple",dd5,.seq #[Value.int 1 t83,Value.int 4 t84] nn7,akj⟩)
  (lk8:K.lookup b2=some ⟨.type "tuple",dd6,.seq #[Value.int 1 t85,Value.int 10000 t86] nn8,akk⟩)
  (lk9:K.lookup b3=some ⟨.type "tuple",dd7,.seq #[Value.int 0 t87,Value.int 1000000000000000 t88] nn9,akl⟩)
  (X2:K.lookup b4=some ⟨.type "tuple",dd8,.seq #[Value.int 0 t89,Value.int 4095 t90] akT,akm⟩)
  (X3:K.lookup b5=some ⟨.type "tuple",dd9,.seq #[Value.int 1 t91,Value.int 16 t92] akU,akn⟩)
  (X4:K.lookup b6=some ⟨.type "tuple",amr,.seq #[Value.int 0 t93,Value.int 281474976710655 t94] akV,ako⟩)
  (X5:K.lookup b7=some ⟨.type "tuple",ams,.seq #[Value.int 0 t95,Value.int 4294967295 t96] akW,akp⟩)
  (X6:K.lookup b8=some ⟨.type "tuple",amt,.seq #[Value.int 1 t97,Value.int 1000000000 t98] akX,akq⟩)
  (X7:K.lookup b9=some ⟨.type "tuple",amu,.seq #[Value.int 0 t99,Value.int 1 amX] akY,akr⟩)
  (X8:K.lookup b10=some ⟨.type "tuple",amv,.seq #[Value.int 0 amY,Value.int 20000 amZ] akZ,aks⟩)
  (X9:K.lookup b11=some ⟨.type "tuple",amw,.seq #[Value.int 0 am0,Value.int 1000 am1] ak0,akt⟩)
  (YaZ:K.lookup b12=some ⟨.type "tuple",amx,.seq #[Value.int 1 am2,Value.int 1000000000000000000 am3] ak1,aku⟩)
  (Yb:K.lookup b13=some ⟨.type "tuple",amy,.seq #[Value.int 1 am4,Value.int 5 am5] ak2,akv⟩)
  (Yc:K.lookup b14=some ⟨.type "tuple",amz,.seq #[Value.int 0 am6,Value.int 16 am7] ak3,akw⟩)
  (Yd:K.lookup b15=some ⟨.type "tuple",amA,.seq #[Value.int 0 am8,Value.int 4095 am9] ak4,akx⟩)
  (mf:nsIn K mainGlobals "MOST_FURTHER"=some (some (Value.int 32 ana)))
  (zI:nsIn K mainGlobals "NUMBERS"=some (some (.ref dg)))
  (Ye:K.lookup dg=some ⟨.type "dict",none,.dict #[⟨0,.int 0 anb,Value.ref b16⟩,⟨1,.int 1 anc,Value.ref b17⟩,⟨2,.int 2 ane,Value.ref b18⟩,⟨3,.int 3 anf,Value.ref b19⟩,⟨4,.int 4 ang,Value.ref b20⟩,⟨5,.int 5 anh,Value.ref b21⟩,⟨6,.int 6 ani,Value.ref b22⟩,⟨7,.int 7 anj,Value.ref b23⟩,⟨8,.int 8 ank,Value.ref b24⟩,⟨9,.int 9 anl,Value.ref b25⟩,⟨10,.int 10 anm,Value.ref b26⟩,⟨11,.int 11 ano,Value.ref b27⟩,⟨12,.int 12 anp,Value.ref b28⟩,⟨13,.int 13 anq,Value.ref b29⟩,⟨14,.int 14 anr,Value.ref b30⟩,⟨15,.int 15 ans,Value.ref b31⟩,⟨16,.int 16 ant,Value.ref b32⟩,⟨17,.int 17 anu,Value.ref b33⟩,⟨18,.int 18 anv,Value.ref b34⟩,⟨19,.int 19 anw,Value.ref b35⟩,⟨20,.int 20 anx,Value.ref b36⟩,⟨21,.int 21 anz,Value.ref b37⟩] ak5,#[]⟩)
  (Yf:K.lookup b16=some ⟨.type "tuple",amB,.seq #[Value.str "servers" anA,Value.str "cap" anB,Value.str "time" anC] ak6,aky⟩)
  (Yg:K.lookup b17=some ⟨.type "tuple",amC,.seq #[Value.str "relay" anD,Value.str "circuit" anE,Value.str "limit" anF] ak7,akz⟩)
  (Yh:K.lookup b18=some ⟨.type "tuple",amD,.seq #[Value.str "host" anG,Value.str "relay" anH,Value.str "circuit" anI] ak8,akA⟩)
  (Yi:K.lookup b19=some ⟨.type "tuple",amE,.seq #[Value.str "host" anJ] ak9,akB⟩)
  (Yj:K.lookup b20=some ⟨.type "tuple",amF,.seq #[Value.str "host" anK] ala,akC⟩)
  (Yk:K.lookup b21=some ⟨.type "tuple",amG,.seq #[Value.str "host" anL] alb,akD⟩)
  (Yl:K.lookup b22=some ⟨.type "tuple",amH,.seq #[Value.str "host" anM] alc,akE⟩)
  (Ym:K.lookup b23=some ⟨.type "tuple",amI,.seq #[Value.str "server" anN,Value.str "host" anO,Value.str "relay" anP,Value.str "address" anQ,Value.str "len" anR] ald,akF⟩)
  (Yn:K.lookup b24=some ⟨.type "tuple",amJ,.seq #[Value.str "server" anS,Value.str "host" anT,Value.str "relay" anU] ale,akG⟩)
  (Yo:K.lookup b25=some ⟨.type "tuple",amK,.seq #[Value.str "server" anV,Value.str "x" anW] alf,akH⟩)
  (Yp:K.lookup b26=some ⟨.type "tuple",amL,.seq #[Value.str "t" anY] alg,akI⟩)
  (Yq:K.lookup b27=some ⟨.type "tuple",amM,.seq #[Value.str "k" anZ] alh,akJ⟩)
  (Yr:K.lookup b28=some ⟨.type "tuple",amN,.seq #[Value.str "k" an0] ali,akK⟩)
  (Ys:K.lookup b29=some ⟨.type "tuple",amO,.seq #[Value.str "k" aoa] alj,aaY⟩)
  (Yt:K.lookup b30=some ⟨.type "tuple",amP,.seq #[Value.str "m" aob] alk,aaZ⟩)
  (Yu:K.lookup b31=some ⟨.type "tuple",amQ,.seq #[Value.str "relay" aoc,Value.str "circuit" aod,Value.str "host" aoe,Value.str "number" aof,Value.str "kind" aog,Value.str "server or none" aoh,Value.str "address" aoi,Value.str "hops" aoj] alm,aa0⟩)
  (Yv:K.lookup b32=some ⟨.type "tuple",amR,.seq #[Value.str "host" aok] aln,aa1⟩)
  (Yw:K.lookup b33=some ⟨.type "tuple",amS,.seq #[Value.str "server" aol,Value.str "host" aom] alo,aa2⟩)
  (Yx:K.lookup b34=some ⟨.type "tuple",amT,.seq #[Value.str "k" aon] alp,aa3⟩)
  (Yy:K.lookup b35=some ⟨.type "tuple",amU,.seq #[Value.str "relay" aoo,Value.str "circuit" aop] alq,aa4⟩)
  (Yz:K.lookup b36=some ⟨.type "tuple",amV,.seq #[] alr,aa5⟩)
  (YA:K.lookup b37=some ⟨.type "tuple",amW,.seq #[] als,aa6⟩)
  (Ii:nsIn K mainGlobals "BEGIN"=some (some (Value.int 0 aoq)))
  (eN:cb≠aO)
  (d3:cb≠aT)
  (eO:cb≠bj)
  (dh:aO≠aT)
  (dR:aO≠bj)
  (d4:aT≠bj)
  (Fp:nsIn K mainGlobals "all"=some none)
  (Fq:nsIn K mainGlobals "any"=some none)
  (dN:nsIn K mainGlobals "len"=some none)
  (zp:nsIn K mainGlobals "list"=some none)
  (CB:nsIn K mainGlobals "max"=some none)
  (vK:nsIn K mainGlobals "min"=some none)
  (qi:nsIn K mainGlobals "range"=some none)
  (l6:nsIn K mainGlobals "sorted"=some none)
  (ug:nsIn K mainGlobals "tuple"=some none)
  (Fs:nsIn K mainGlobals "zip"=some none):
  ∃t,Txt K mg t:=by
 refine ⟨{cb:=cb,aO:=aO,aT:=aT,bj:=bj,cY:=cY,kf:=fO "__init__" "Relay.__init__" fL kV1 dc1 pm1 an1 cd1 ct1,cu:=cu,gY:=fO "__init__" "Message.__init__" eF kV2 dc2 pm2 an2 cd2 ct2,cF:=cF,iY:=fO "__init__" "Client.__init__" fk kV3 dc3 pm3 an3 cd3 ct3,cZ:=cZ,kg:=fO "__init__" "World.__init__" fM kV4 dc4 pm4 an4 cd4 ct4,xi:=xi,MB:=fO "put" "put" E5 kV5 dc5 pm5 an5 cd5 ct5,pJ:=pJ,G0:=fO "send" "send" yY kV6 dc6 pm6 an6 cd6 ct6,fW:=fW,tW:=fO "wait_of" "wait_of" lE kV7 dc7 pm7 an7 cd7 ct7,pK:=pK,G2:=fO "seek" "seek" yZ kV8 dc8 pm8 an8 cd8 ct8,xj:=xj,MC:=fO "ask" "ask" E6 kV9 dc9 pm9 an9 cd9 ct9,d8:=d8,mM:=fO "come_back" "come_back" gF ab4 ab5 ab6 aa7 WZ ab7,gZ:=gZ,xk:=fO "settle" "settle" oS ab8 ab9 aca aa8 W0 acb,pL:=pL,G3:=fO "bind" "bind" y1 acd ace acf aa9 W2 acg,kh:=kh,Bb:=fO "renew" "renew" tN ach aci acj aba W3 ack,xl:=xl,MD:=fO "act" "act" E7 acm acn aco abb W4 acp,c5:=c5,iZ:=fO "act_seeking" "act_seeking" fm acq acr acs abc W5 acu,dA:=dA,kj:=fO "act_asking" "act_asking" fN acv acw acx abd W6 acy,d9:=d9,mN:=fO "act_until" "act_until" eS acz acA acB abe W7 acC,pM:=pM,G4:=fO "hear" "hear" y2 acD acE acF abf W8 acG,dB:=dB,kl:=fO "hear_offer" "hear_offer" fP acH acI acJ abg W9 acK,ee:=ee,mP:=fO "is_better" "is_better" gG acL acM acN abh Xa acO,eC:=eC,lZ:=fO "hear_yes" "hear_yes" iC acP acQ acR abi Xb acS,dC:=dC,km:=fO "is_fitting" "is_fitting" fQ acT acU acV abj Xc acW,dD:=dD,kn:=fO "deliver_at" "deliver_at" fR acX acY acZ abk Xd ac0,g9:=g9,xm:=fO "put_on" "put_on" oT ac1 ac2 ac3 abl Xe ac4,fX:=fX,tX:=fO "hand_up" "hand_up" lF ac5 ac6 ac7 abm Xf ac8,ko:=ko,Bc:=fO "serve" "serve" tP ac9 ada adb abn Xg ade,cH:=cH,hC:=fO "serve_asking" "serve_asking" eG adf adg adh abo Xh adi,dE:=dE,kr:=fO "write_down" "write_down" fS adj adk adl abp Xi adm,hJ:=hJ,xn:=fO "answer" "answer" oU adn ado adp abq Xj adq,ef:=ef,mQ:=fO "hand_down" "hand_down" gH ads adt adu abr Xk adv,eY:=eY,pN:=fO "come_out" "come_out" iE adw adx ady abt Xl adz,fY:=fY,tY:=fO "or_else" "or_else" lG adA adB adC abu Xm adD,cI:=cI,fE:=fO "pairs_row" "pairs_row" gI adE adF adG abv Xn adH,c6:=c6,i3:=fO "message_row" "message_row" fo adI adJ adK abw Xo adL,dF:=dF,ku:=fO "client_row" "client_row" fT adM adN adO abx Xp adP,dG:=dG,kx:=fO "written_of" "written_of" eX adQ adR adS aby Xq adT,fZ:=fZ,tZ:=fO "path_of" "path_of" lH adU adV adW abz Xr adX,cx:=cx,gw:=fO "is_plugged_at" "is_plugged_at" dk adY adZ ad0 abA Xs ad1,cy:=cy,mR:=fO "add_relay" "add_relay" gJ ad2 ad3 ad4 abB Xt ad5,iI:=iI,G5:=fO "plug" "plug" y3 ad6 ad7 ad8 abC Xu ad9,eJ:=eJ,xo:=fO "unplug" "unplug" oW aea aeb aec abD Xv aed,dP:=dP,ua:=fO "turn_on" "turn_on" lI aee aef aeg abE Xw aeh,cR:=cR,pO:=fO "turn_off" "turn_off" iG aei aej aek abF Xx ael,eK:=eK,xp:=fO "forget" "forget" oX aem aen aeo abG Xy aep,f_assign:=f_assign,xq:=fO "assign" "assign" oY aeq aer aes abH Xz aet,cS:=cS,pP:=fO "withdraw" "withdraw" iH aeu aev aew abI XA aex,iJ:=iJ,G6:=fO "rest" "rest" y4 aey aez aeA abJ XB aeB,iK:=iK,G7:=fO "tick" "tick" y6 aeC aeD aeE abK XC aeF,f6:=f6,ub:=fO "is_full" "is_full" lJ aeG aeH aeI abL XD aeJ,dQ:=dQ,uc:=fO "deliver" "deliver" lK aeK aeL aeM abM XE aeN,iL:=iL,G8:=fO "lose" "lose" y8 aeO aeP aeQ abN XF aeR,eM:=eM,xr:=fO "double" "double" oZ aeS aeT aeU abO XG aeV,iM:=iM,G9:=fO "flow" "flow" y9 aeW aeX aeY abP XH aeZ,f7:=f7,Bd:=fO "forge" "forge" pG ae0 ae1 ae2 abQ XI ae3,bU:=bU,i4:=fO "tell_client" "tell_client" fq ae4 ae5 ae6 abR XJ ae7,bJ:=bJ,hR:=fO "tell_written" "tell_written" eI ae8 ae9 afa abS XM afb,iN:=iN,Ha:=fO "peek" "peek" za afc afd afe abT XN aff,cz:=cz,mS:=fO "tell_path" "tell_path" gL afg afh afi abU XO afj,cA:=cA,mT:=fO "tell_next" "tell_next" fB afk afl afm abV XQ afn,cf:=cf,kz:=fO "tell_state" "tell_state" fU afo afp afq abW XR afr,hU:=hU,xt:=fO "row_of" "row_of" o4 afs aft afu abX XS afv,dH:=dH,kC:=fO "is_granted" "is_granted" fV afw afx afy abY XT afz,eh:=eh,mV:=fO "are_pairs" "are_pairs" fC afA afB afC abZ XU afD,c7:=c7,i5:=fO "are_granted" "are_granted" fu afE afF afG ab0 XW afH,c8:=c8,i6:=fO "split_calls" "split_calls" fw afI afJ afK ab1 XX afL,nY:=nY,B2:=fO "play" "play" zb afM afN afO ab2 XY afP,f9:=f9,lM:=fO "answers" "answers" lL afQ afR afS ab3 XZ afT,kE:=kE,gb:=gb,eZ:=eZ,e9:=e9,gy:=gy,fh:=fh,rQ:=b1,rR:=b2,rS:=b3,rT:=b4,rV:=b5,rW:=b6,rX:=b7,rY:=b8,rZ:=b9,pQ:=b10,pR:=b11,pS:=b12,pT:=b13,pU:=b14,pV:=b15,dg:=dg,gm:=b16,i7:=b17,i8:=b18,i9:=b19,ja:=b20,jb:=b21,jc:=b22,jd:=b23,je:=b24,jf:=b25,jg:=b26,jh:=b27,ji:=b28,jj:=b29,jk:=b30,jl:=b31,jm:=b32,jn:=b33,jo:=b34,jq:=b35,jr:=b36,js:=b37},?_⟩
 exact {
  Hb:=mg_of X G Hj,
  cn:=⟨CC,CD,CF,CG⟩,
  a6:=a6,
  bK:=bK,
  de:=de,
  o5:=mg_of X G zq,
  au:=⟨vZ,v7,v8,v9⟩,
  aD:=aD,
  bA:=bA,
  bM:=bM,
  bB:=bB,
  a3:=a3,
  a4:=a4,
  a9:=a9,
  bu:=bu,
  aR:=aR,
  JI:=mg_of X G CI,
  aq:=⟨zr,zt,zu,zw⟩,
  dS:=dS,
  aP:=aP,
  aH:=aH,
  bw:=bw,
  bD:=bD,
  bT:=bT,
  aV:=aV,
  bp:=bp,
  a7:=a7,
  aK:=aK,
  ME:=mg_of X G Hl,
  aw:=⟨CJ,CL,CM,CN⟩,
  a8:=a8,
  bC:=bC,
  ej:=ej,
  bx:=bx,
  bN:=bN,
  aA:=aA,
  cB:=cB,
  ba:=ba,
  cj:=cj,
  bo:=bo,
  eN:=eN,
  d3:=d3,
  eO:=eO,
  dh:=dh,
  dR:=dR,
  d4:=d4,
  l3:=⟨l3,qj,qk,CH⟩,
  xu:=ax (st:=fL) kH kI kJ,
  pW:=(ax (st:=fL) kH kI kJ).binds (ps:=jZ) fun _ _ _ _ _ _ us hl=>match us,hl with| [_,_,_,_],_=>rfl,
  fc:=⟨fc,l7,l8,wa⟩,
  r6:=ax (st:=eF) hX hZ ia,
  fF:=(ax (st:=eF) hX hZ ia).binds (ps:=gT) fun _ _ _ _ _ _ us hl=>match us,hl with| [_,_,_,_,_,_,_,_,_,_],_=>rfl,
  lN:=⟨lN,oq,ot,zx⟩,
  u7:=ax (st:=fk) ju jv jw,
  u9:=(ax (st:=fk) ju jv jw).binds (ps:=iR) fun _ _ _ _ _ _ us hl=>match us,hl with| [_,_],_=>rfl,
  o6:=⟨o6,ql,qm,CO⟩,
  xw:=ax (st:=fM) kK kL kM,
  xx:=(ax (st:=fM) kK kL kM).binds (ps:=j0) fun _ _ _ _ _ _ us hl=>match us,hl with| [_,_,_,_],_=>rfl,
  B6:=ax (st:=E5) MP MQ k_put,
  Fc:=mg_of X G QR,
  Fd:=(ax (st:=E5) MP MQ k_put).binds (ps:=Mv) fun _ _ _ _ _ _ us hl=>match us,hl with| [_,_],_=>rfl,
  zc:=ax (st:=yY) Hm Hn Ho,
  Ca:=mg_of X G Lo,
  Cb:=(ax (st:=yY) Hm Hn Ho).binds (ps:=GA) fun _ _ _ _ _ _ us hl=>match us,hl with| [_,_,_,_,_],_=>rfl,
  o7:=ax (st:=lE) uh ui uj,
  ud:=mg_of X G zy,
  ue:=(ax (st:=lE) uh ui uj).binds (ps:=tM) fun _ _ _ _ _ _ us hl=>match us,hl with| [_],_=>rfl,
  vU:=ax (st:=yZ) Hq Hr Hs,
  zd:=mg_of X G Lp,
  ze:=(ax (st:=yZ) Hq Hr Hs).binds (ps:=GB) fun _ _ _ _ _ _ us hl=>match us,hl with| [_,_,_],_=>rfl,
  MF:=ax (st:=E6) MR MS MT,
  Qw:=mg_of X G QS,
  Qx:=(ax (st:=E6) MR MS MT).binds (ps:=Mx) fun _ _ _ _ _ _ us hl=>match us,hl with| [_,_,_],_=>rfl,
  mW:=ax (st:=gF) m3 m4 m6,
  sf:=mg_of X G sJ,
  si:=(ax (st:=gF) m3 m4 m6).binds (ps:=mB) fun _ _ _ _ _ _ us hl=>match us,hl with| [_,_,_],_=>rfl,
  xy:=ax (st:=oS) xY xZ x3,
  Cc:=mg_of X G CP,
  Cd:=(ax (st:=oS) xY xZ x3).binds (ps:=wX) fun _ _ _ _ _ _ us hl=>match us,hl with| [_,_],_=>rfl,
  Ld:=ax (st:=y1) Ht Hu Hv,
  Qy:=mg_of X G Lq,
  Qz:=(ax (st:=y1) Ht Hu Hv).binds (ps:=GD) fun _ _ _ _ _ _ us hl=>match us,hl with| [_],_=>rfl,
  Be:=ax (st:=tN) Bg Bh Bi,
  Hc:=mg_of X G Hw,
  Hd:=(ax (st:=tN) Bg Bh Bi).binds (ps:=A8) fun _ _ _ _ _ _ us hl=>match us,hl with| [_,_,_,_,_],_=>rfl,
  QA:=ax (st:=E7) MU MV MW,
  Vi:=mg_of X G QT,
  Vj:=(ax (st:=E7) MU MV MW).binds (ps:=My) fun _ _ _ _ _ _ us hl=>match us,hl with| [_,_],_=>rfl,
  nZ:=ax (st:=fm) jx jy jz,
  va:=mg_of X G ou,
  vc:=(ax (st:=fm) jx jy jz).binds (ps:=iS) fun _ _ _ _ _ _ us hl=>match us,hl with| [_,_],_=>rfl,
  pX:=ax (st:=fN) kN kO kP,
  xB:=mg_of X G qo,
  xC:=(ax (st:=fN) kN kO kP).binds (ps:=j1) fun _ _ _ _ _ _ us hl=>match us,hl with| [_,_],_=>rfl,
  sj:=ax (st:=eS) m7 m8 m9,
  Ag:=mg_of X G sL,
  Ah:=(ax (st:=eS) m7 m8 m9).binds (ps:=mC) fun _ _ _ _ _ _ us hl=>match us,hl with| [_,_],_=>rfl,
  Le:=ax (st:=y2) Hy Hz HB,
  QB:=mg_of X G Lr,
  QC:=(ax (st:=y2) Hy Hz HB).binds (ps:=GG) fun _ _ _ _ _ _ us hl=>match us,hl with| [_,_,_],_=>rfl,
  pY:=ax (st:=fP) kQ kR kS,
  xD:=mg_of X G qp,
  xE:=(ax (st:=fP) kQ kR kS).binds (ps:=j2) fun _ _ _ _ _ _ us hl=>match us,hl with| [_,_],_=>rfl,
  sk:=ax (st:=gG) ng nh ni,
  Ai:=mg_of X G sM,
  Aj:=(ax (st:=gG) ng nh ni).binds (ps:=mE) fun _ _ _ _ _ _ us hl=>match us,hl with| [_,_],_=>rfl,
  vV:=ax (st:=iC) qr qt qu,
  Ce:=mg_of X G wb,
  Cf:=(ax (st:=iC) qr qt qu).binds (ps:=lW) fun _ _ _ _ _ _ us hl=>match us,hl with| [_,_,_],_=>rfl,
  pZ:=ax (st:=fQ) kT kU kX,
  xF:=mg_of X G qv,
  xG:=(ax (st:=fQ) kT kU kX).binds (ps:=j3) fun _ _ _ _ _ _ us hl=>match us,hl with| [_,_],_=>rfl,
  kF:=ax (st:=fR) kY kZ k0,
  p0:=mg_of X G qw,
  qa:=(ax (st:=fR) kY kZ k0).binds (ps:=j4) fun _ _ _ _ _ _ us hl=>match us,hl with| [_,_],_=>rfl,
  sm:=ax (st:=oT) x4 x5 x6,
  xH:=mg_of X G CQ,
  xI:=(ax (st:=oT) x4 x5 x6).binds (ps:=wY) fun _ _ _ _ _ _ us hl=>match us,hl with| [_,_,_,_,_],_=>rfl,
  zf:=ax (st:=lF) uk um uo,
  Fe:=mg_of X G zz,
  Ff:=(ax (st:=lF) uk um uo).binds (ps:=tO) fun _ _ _ _ _ _ us hl=>match us,hl with| [_,_],_=>rfl,
  He:=ax (st:=tP) Bj Bk Bl,
  MH:=mg_of X G HC,
  MI:=(ax (st:=tP) Bj Bk Bl).binds (ps:=A9) fun _ _ _ _ _ _ us hl=>match us,hl with| [_,_],_=>rfl,
  l4:=ax (st:=eG) ib ic ie,
  so:=mg_of X G l9,
  sq:=(ax (st:=eG) ib ic ie).binds (ps:=gU) fun _ _ _ _ _ _ us hl=>match us,hl with| [_,_,_],_=>rfl,
  qb:=ax (st:=fS) k7 k8 k9,
  xJ:=mg_of X G qx,
  xK:=(ax (st:=fS) k7 k8 k9).binds (ps:=j5) fun _ _ _ _ _ _ us hl=>match us,hl with| [_,_,_],_=>rfl,
  o8:=ax (st:=oU) x8 x9 ya,
  sr:=mg_of X G CS,
  su:=(ax (st:=oU) x8 x9 ya).binds (ps:=w6) fun _ _ _ _ _ _ us hl=>match us,hl with| [_,_,_,_,_],_=>rfl,
  sx:=ax (st:=gH) nj nk nq,
  Ak:=mg_of X G sN,
  Al:=(ax (st:=gH) nj nk nq).binds (ps:=mH) fun _ _ _ _ _ _ us hl=>match us,hl with| [_,_],_=>rfl,
  vW:=ax (st:=iE) qy qz qA,
  Cg:=mg_of X G wd,
  Ci:=(ax (st:=iE) qy qz qA).binds (ps:=pB) fun _ _ _ _ _ _ us hl=>match us,hl with| [_,_],_=>rfl,
  iO:=ax (st:=lG) uq ur uu,
  lO:=mg_of X G zA,
  lP:=(ax (st:=lG) uq ur uu).binds (ps:=tQ) fun _ _ _ _ _ _ us hl=>match us,hl with| [_,_],_=>rfl,
  jN:=ax (st:=gI) nt nv ny,
  mX:=mg_of X G sO,
  mY:=(ax (st:=gI) nt nv ny).binds (ps:=fA) fun _ _ _ _ _ _ us hl=>match us,hl with| [_],_=>rfl,
  jt:=ax (st:=fo) jA jB jC,
  n6:=mg_of X G ow,
  og:=(ax (st:=fo) jA jB jC).binds (ps:=iT) fun _ _ _ _ _ _ us hl=>match us,hl with| [_],_=>rfl,
  qc:=ax (st:=fT) lg lh lj,
  xM:=mg_of X G qB,
  xN:=(ax (st:=fT) lg lh lj).binds (ps:=j6) fun _ _ _ _ _ _ us hl=>match us,hl with| [_],_=>rfl,
  qd:=ax (st:=eX) ll lp lq,
  xO:=mg_of X G qC,
  xP:=(ax (st:=eX) ll lp lq).binds (ps:=j7) fun _ _ _ _ _ _ us hl=>match us,hl with| [_,_,_],_=>rfl,
  zg:=ax (st:=lH) uv uw ux,
  Fg:=mg_of X G zB,
  Fh:=(ax (st:=lH) uv uw ux).binds (ps:=tR) fun _ _ _ _ _ _ us hl=>match us,hl with| [_,_,_],_=>rfl,
  jR:=ax (st:=dk) gz gA gB,
  rg:=mg_of X G jS,
  rh:=(ax (st:=dk) gz gA gB).binds (ps:=gv) fun _ _ _ _ _ _ us hl=>match us,hl with| [_,_,_],_=>rfl,
  sy:=ax (st:=gJ) nB nE nF,
  JJ:=mg_of X G sP,
  Am:=(ax (st:=gJ) nB nE nF).binds (ps:=mI) fun _ _ _ _ _ _ us hl=>match us,hl with| [_,_],_=>rfl,
  Lf:=ax (st:=y3) HD HE HF,
  WQ:=mg_of X G Ls,
  QD:=(ax (st:=y3) HD HE HF).binds (ps:=GO) fun _ _ _ _ _ _ us hl=>match us,hl with| [_,_],_=>rfl,
  Cj:=ax (st:=oW) yb yc yd,
  QE:=mg_of X G CT,
  JK:=(ax (st:=oW) yb yc yd).binds (ps:=xa) fun _ _ _ _ _ _ us hl=>match us,hl with| [_,_],_=>rfl,
  zh:=ax (st:=lI) uz uA uB,
  Oj:=mg_of X G zC,
  Fi:=(ax (st:=lI) uz uA uB).binds (ps:=tS) fun _ _ _ _ _ _ us hl=>match us,hl with| [_,_],_=>rfl,
  vX:=ax (st:=iG) qD qE qF,
  Lg:=mg_of X G we,
  Ck:=(ax (st:=iG) qD qE qF).binds (ps:=pE) fun _ _ _ _ _ _ us hl=>match us,hl with| [_,_],_=>rfl,
  Cm:=ax (st:=oX) ye yf yg,
  QF:=mg_of X G CU,
  JL:=(ax (st:=oX) ye yf yg).binds (ps:=xb) fun _ _ _ _ _ _ us hl=>match us,hl with| [_,_],_=>rfl,
  Cn:=ax (st:=oY) yh yi yj,
  QG:=mg_of X G CV,
  JM:=(ax (st:=oY) yh yi yj).binds (ps:=xf) fun _ _ _ _ _ _ us hl=>match us,hl with| [_,_],_=>rfl,
  vY:=ax (st:=iH) qG qH qI,
  Lh:=mg_of X G wj,
  Co:=(ax (st:=iH) qG qH qI).binds (ps:=pF) fun _ _ _ _ _ _ us hl=>match us,hl with| [_,_],_=>rfl,
  Li:=ax (st:=y4) HG HH HI,
  WR:=mg_of X G Lu,
  QH:=(ax (st:=y4) HG HH HI).binds (ps:=GP) fun _ _ _ _ _ _ us hl=>match us,hl with| [_,_],_=>rfl,
  Lj:=ax (st:=y6) HJ HK HL,
  WT:=mg_of X G Lv,
  QI:=(ax (st:=y6) HJ HK HL).binds (ps:=GQ) fun _ _ _ _ _ _ us hl=>match us,hl with| [_,_],_=>rfl,
  uf:=ax (st:=lJ) uC uD uE,
  zi:=mg_of X G zD,
  zj:=(ax (st:=lJ) uC uD uE).binds (ps:=tT) fun _ _ _ _ _ _ us hl=>match us,hl with| [_],_=>rfl,
  zk:=ax (st:=lK) uF uG uH,
  Ol:=mg_of X G zE,
  Fj:=(ax (st:=lK) uF uG uH).binds (ps:=tU) fun _ _ _ _ _ _ us hl=>match us,hl with| [_,_],_=>rfl,
  Lk:=ax (st:=y8) HM HN HP,
  WU:=mg_of X G Lw,
  QJ:=(ax (st:=y8) HM HN HP).binds (ps:=GS) fun _ _ _ _ _ _ us hl=>match us,hl with| [_,_],_=>rfl,
  Cp:=ax (st:=oZ) yk yl ym,
  QK:=mg_of X G CW,
  JN:=(ax (st:=oZ) yk yl ym).binds (ps:=xg) fun _ _ _ _ _ _ us hl=>match us,hl with| [_,_],_=>rfl,
  Ll:=ax (st:=y9) HQ HR HS,
  WV:=mg_of X G Lx,
  QL:=(ax (st:=y9) HQ HR HS).binds (ps:=GU) fun _ _ _ _ _ _ us hl=>match us,hl with| [_,_],_=>rfl,
  Hf:=ax (st:=pG) Bm Bn Bo,
  TV:=mg_of X G HU,
  MJ:=(ax (st:=pG) Bm Bn Bo).binds (ps:=Ba) fun _ _ _ _ _ _ us hl=>match us,hl with| [_,_],_=>rfl,
  oh:=ax (st:=fq) jD jE jF,
  Eg:=mg_of X G ox,
  vd:=(ax (st:=fq) jD jE jF).binds (ps:=iV) fun _ _ _ _ _ _ us hl=>match us,hl with| [_,_],_=>rfl,
  l5:=ax (st:=eI) ig ij ik,
  Cq:=mg_of X G md,
  sA:=(ax (st:=eI) ig ij ik).binds (ps:=gX) fun _ _ _ _ _ _ us hl=>match us,hl with| [_,_],_=>rfl,
  Lm:=ax (st:=za) HV HW HX,
  WW:=mg_of X G Ly,
  QM:=(ax (st:=za) HV HW HX).binds (ps:=GW) fun _ _ _ _ _ _ us hl=>match us,hl with| [_,_],_=>rfl,
  sC:=ax (st:=gL) nG nH nI,
  JO:=mg_of X G sQ,
  An:=(ax (st:=gL) nG nH nI).binds (ps:=mJ) fun _ _ _ _ _ _ us hl=>match us,hl with| [_,_],_=>rfl,
  sD:=ax (st:=fB) nJ nL nM,
  JP:=mg_of X G sR,
  Ao:=(ax (st:=fB) nJ nL nM).binds (ps:=mK) fun _ _ _ _ _ _ us hl=>match us,hl with| [_,_],_=>rfl,
  qe:=ax (st:=fU) lr lu lx,
  Hg:=mg_of X G qJ,
  xQ:=(ax (st:=fU) lr lu lx).binds (ps:=j9) fun _ _ _ _ _ _ us hl=>match us,hl with| [_,_],_=>rfl,
  Cr:=ax (st:=o4) yn yo yp,
  JQ:=mg_of X G CY,
  JR:=(ax (st:=o4) yn yo yp).binds (ps:=xh) fun _ _ _ _ _ _ us hl=>match us,hl with| [_,_,_],_=>rfl,
  kG:=ax (st:=fV) ly lA lB,
  qf:=mg_of X G qK,
  qg:=(ax (st:=fV) ly lA lB).binds (ps:=ka) fun _ _ _ _ _ _ us hl=>match us,hl with| [_,_,_],_=>rfl,
  sE:=ax (st:=fC) nN nO nP,
  Ap:=mg_of X G sS,
  Aq:=(ax (st:=fC) nN nO nP).binds (ps:=mL) fun _ _ _ _ _ _ us hl=>match us,hl with| [_,_],_=>rfl,
  oj:=ax (st:=fu) jG jH jI,
  ve:=mg_of X G oy,
  vf:=(ax (st:=fu) jG jH jI).binds (ps:=iW) fun _ _ _ _ _ _ us hl=>match us,hl with| [_,_,_],_=>rfl,
  om:=ax (st:=fw) jJ jK jL,
  vg:=mg_of X G oz,
  vh:=(ax (st:=fw) jJ jK jL).binds (ps:=iX) fun _ _ _ _ _ _ us hl=>match us,hl with| [_],_=>rfl,
  Ln:=ax (st:=zb) HY HZ Ia,
  QN:=mg_of X G Lz,
  QO:=(ax (st:=zb) HY HZ Ia).binds (ps:=B0) fun _ _ _ _ _ _ us hl=>match us,hl with| [_,_,_],_=>rfl,
  zl:=ax (st:=lL) uI uJ uK,
  Fl:=mg_of X G zF,
  Om:=(ax (st:=lL) uI uJ uK).binds (ps:=tV) fun _ _ _ _ _ _ us hl=>match us,hl with| [_],_=>rfl,
  vi:=⟨_,mg_of X G oA,⟨_,rfl⟩⟩,
  QP:=⟨_,mg_of X G X0,⟨_,rfl⟩⟩,
  sF:=⟨_,mg_of X G sT,⟨_,rfl⟩⟩,
  Hh:=⟨_,mg_of X G LA,⟨_,rfl⟩⟩,
  Vk:=⟨_,mg_of X G QU,⟨_,rfl⟩⟩,
  zm:=⟨_,mg_of X G zG,⟨_,rfl⟩⟩,
  Hi:=⟨_,mg_of X G Ib,⟨_,rfl⟩⟩,
  sG:=⟨_,mg_of X G CZ,⟨_,rfl⟩⟩,
  QQ:=⟨_,mg_of X G QV,⟨_,rfl⟩⟩,
  WX:=⟨_,mg_of X G X1,⟨_,rfl⟩⟩,
  Fm:=⟨_,mg_of X G QW,⟨_,rfl⟩⟩,
  Bf:=⟨_,mg_of X G Ic,⟨_,rfl⟩⟩,
  Ct:=⟨_,mg_of X G LB,⟨_,rfl⟩⟩,
  MK:=⟨_,mg_of X G Ie,⟨_,rfl⟩⟩,
  xR:=⟨_,mg_of X G C0,⟨_,rfl⟩⟩,
  qh:=⟨_,mg_of X G wk,⟨_,rfl⟩⟩,
  hW:=⟨_,mg_of X G qL,⟨_,rfl⟩⟩,
  ML:=mg_of X G Ig,
  MM:=fun H=> .inr ⟨_,_,_,lk1,rfl,rfl,(by show 11≤sizeLine;decide),.cons ⟨_,rfl⟩ (.cons ⟨_,rfl⟩ (.cons ⟨_,rfl⟩ (.cons ⟨_,rfl⟩ (.cons ⟨_,rfl⟩ (.cons ⟨_,rfl⟩ (.cons ⟨_,rfl⟩ (.cons ⟨_,rfl⟩ (.cons ⟨_,rfl⟩ (.cons ⟨_,rfl⟩ (.cons ⟨_,rfl⟩ (.nil)))))))))))⟩,
  jO:=⟨_,mg_of X G fG,⟨_,rfl⟩⟩,
  mZ:=⟨_,mg_of X G il,⟨_,rfl⟩⟩,
  jP:=⟨_,mg_of X G fH,⟨_,rfl⟩⟩,
  vj:=⟨_,mg_of X G oB,⟨_,rfl⟩⟩,
  Fn:=mg_of X G zH,
  Fo:=fun H=> .inr ⟨_,_,_,lk2,rfl,rfl,(by show 2≤sizeLine;decide),.cons ⟨_,rfl⟩ (.cons ⟨_,rfl⟩ (.nil))⟩,
  Cu:=mg_of X G wo,
  Cv:=fun H=> .inr ⟨_,_,_,lk3,rfl,rfl,(by show 3≤sizeLine;decide),.cons ⟨_,rfl⟩ (.cons ⟨_,rfl⟩ (.cons ⟨_,rfl⟩ (.nil)))⟩,
  Cw:=mg_of X G wq,
  Cy:=fun H=> .inr ⟨_,_,_,lk4,rfl,rfl,(by show 5≤sizeLine;decide),.cons ⟨_,rfl⟩ (.cons ⟨_,rfl⟩ (.cons ⟨_,rfl⟩ (.cons ⟨_,rfl⟩ (.cons ⟨_,rfl⟩ (.nil)))))⟩,
  vk:=⟨_,mg_of X G oC,⟨_,rfl⟩⟩,
  sH:=⟨_,mg_of X G me,⟨_,rfl⟩⟩,
  rj:=⟨_,mg_of X G jT,⟨_,rfl⟩⟩,
  JS:=⟨_,mg_of X G C1,⟨_,rfl⟩⟩,
  MN:=mg_of X G Ih,
  cM:=⟨(by show ([1,2,3,4,5,6,7,8,9,10,11,12,13,14,15,16,17,18,19,20,21] :List Int).Nodup;decide),_,_,_,lk5,⟨rfl,rfl,rfl⟩,rfl,.cons rfl (by show (1:Int)=hashInt 1;decide) rfl (.cons rfl (by show (2:Int)=hashInt 2;decide) rfl (.cons rfl (by show (3:Int)=hashInt 3;decide) rfl (.cons rfl (by show (4:Int)=hashInt 4;decide) rfl (.cons rfl (by show (5:Int)=hashInt 5;decide) rfl (.cons rfl (by show (6:Int)=hashInt 6;decide) rfl (.cons rfl (by show (7:Int)=hashInt 7;decide) rfl (.cons rfl (by show (8:Int)=hashInt 8;decide) rfl (.cons rfl (by show (9:Int)=hashInt 9;decide) rfl (.cons rfl (by show (10:Int)=hashInt 10;decide) rfl (.cons rfl (by show (11:Int)=hashInt 11;decide) rfl (.cons rfl (by show (12:Int)=hashInt 12;decide) rfl (.cons rfl (by show (13:Int)=hashInt 13;decide) rfl (.cons rfl (by show (14:Int)=hashInt 14;decide) rfl (.cons rfl (by show (15:Int)=hashInt 15;decide) rfl (.cons rfl (by show (16:Int)=hashInt 16;decide) rfl (.cons rfl (by show (17:Int)=hashInt 17;decide) rfl (.cons rfl (by show (18:Int)=hashInt 18;decide) rfl (.cons rfl (by show (19:Int)=hashInt 19;decide) rfl (.cons rfl (by show (20:Int)=hashInt 20;decide) rfl (.cons rfl (by show (21:Int)=hashInt 21;decide) rfl (.nil)))))))))))))))))))))⟩,
  Cz:=mg_of X G C2,
  dv:=⟨_,_,_,lk6,⟨rfl,rfl,rfl⟩,rfl,.cons rfl rfl (.cons rfl rfl (.cons rfl rfl (.cons rfl rfl (.cons rfl rfl (.cons rfl rfl (.cons rfl rfl (.cons rfl rfl (.cons rfl rfl (.cons rfl rfl (.cons rfl rfl (.cons rfl rfl (.cons rfl rfl (.cons rfl rfl (.cons rfl rfl (.nil)))))))))))))))⟩,
  Ar:=fun H=> .inr ⟨_,_,_,lk7,rfl,rfl,(by show 2≤sizeLine;decide),.cons ⟨_,rfl⟩ (.cons ⟨_,rfl⟩ (.nil))⟩,
  As:=fun H=> .inr ⟨_,_,_,lk8,rfl,rfl,(by show 2≤sizeLine;decide),.cons ⟨_,rfl⟩ (.cons ⟨_,rfl⟩ (.nil))⟩,
  Au:=fun H=> .inr ⟨_,_,_,lk9,rfl,rfl,(by show 2≤sizeLine;decide),.cons ⟨_,rfl⟩ (.cons ⟨_,rfl⟩ (.nil))⟩,
  Av:=fun H=> .inr ⟨_,_,_,X2,rfl,rfl,(by show 2≤sizeLine;decide),.cons ⟨_,rfl⟩ (.cons ⟨_,rfl⟩ (.nil))⟩,
  Aw:=fun H=> .inr ⟨_,_,_,X3,rfl,rfl,(by show 2≤sizeLine;decide),.cons ⟨_,rfl⟩ (.cons ⟨_,rfl⟩ (.nil))⟩,
  Ax:=fun H=> .inr ⟨_,_,_,X4,rfl,rfl,(by show 2≤sizeLine;decide),.cons ⟨_,rfl⟩ (.cons ⟨_,rfl⟩ (.nil))⟩,
  Ay:=fun H=> .inr ⟨_,_,_,X5,rfl,rfl,(by show 2≤sizeLine;decide),.cons ⟨_,rfl⟩ (.cons ⟨_,rfl⟩ (.nil))⟩,
  Az:=fun H=> .inr ⟨_,_,_,X6,rfl,rfl,(by show 2≤sizeLine;decide),.cons ⟨_,rfl⟩ (.cons ⟨_,rfl⟩ (.nil))⟩,
  AA:=fun H=> .inr ⟨_,_,_,X7,rfl,rfl,(by show 2≤sizeLine;decide),.cons ⟨_,rfl⟩ (.cons ⟨_,rfl⟩ (.nil))⟩,
  xS:=fun H=> .inr ⟨_,_,_,X8,rfl,rfl,(by show 2≤sizeLine;decide),.cons ⟨_,rfl⟩ (.cons ⟨_,rfl⟩ (.nil))⟩,
  xT:=fun H=> .inr ⟨_,_,_,X9,rfl,rfl,(by show 2≤sizeLine;decide),.cons ⟨_,rfl⟩ (.cons ⟨_,rfl⟩ (.nil))⟩,
  xU:=fun H=> .inr ⟨_,_,_,YaZ,rfl,rfl,(by show 2≤sizeLine;decide),.cons ⟨_,rfl⟩ (.cons ⟨_,rfl⟩ (.nil))⟩,
  xV:=fun H=> .inr ⟨_,_,_,Yb,rfl,rfl,(by show 2≤sizeLine;decide),.cons ⟨_,rfl⟩ (.cons ⟨_,rfl⟩ (.nil))⟩,
  xW:=fun H=> .inr ⟨_,_,_,Yc,rfl,rfl,(by show 2≤sizeLine;decide),.cons ⟨_,rfl⟩ (.cons ⟨_,rfl⟩ (.nil))⟩,
  xX:=fun H=> .inr ⟨_,_,_,Yd,rfl,rfl,(by show 2≤sizeLine;decide),.cons ⟨_,rfl⟩ (.cons ⟨_,rfl⟩ (.nil))⟩,
  sI:=⟨_,mg_of X G mf,⟨_,rfl⟩⟩,
  zo:=mg_of X G zI,
  bF:=⟨(by show ([0,1,2,3,4,5,6,7,8,9,10,11,12,13,14,15,16,17,18,19,20,21] :List Int).Nodup;decide),_,_,_,Ye,⟨rfl,rfl,rfl⟩,rfl,.cons rfl (by show (0:Int)=hashInt 0;decide) rfl (.cons rfl (by show (1:Int)=hashInt 1;decide) rfl (.cons rfl (by show (2:Int)=hashInt 2;decide) rfl (.cons rfl (by show (3:Int)=hashInt 3;decide) rfl (.cons rfl (by show (4:Int)=hashInt 4;decide) rfl (.cons rfl (by show (5:Int)=hashInt 5;decide) rfl (.cons rfl (by show (6:Int)=hashInt 6;decide) rfl (.cons rfl (by show (7:Int)=hashInt 7;decide) rfl (.cons rfl (by show (8:Int)=hashInt 8;decide) rfl (.cons rfl (by show (9:Int)=hashInt 9;decide) rfl (.cons rfl (by show (10:Int)=hashInt 10;decide) rfl (.cons rfl (by show (11:Int)=hashInt 11;decide) rfl (.cons rfl (by show (12:Int)=hashInt 12;decide) rfl (.cons rfl (by show (13:Int)=hashInt 13;decide) rfl (.cons rfl (by show (14:Int)=hashInt 14;decide) rfl (.cons rfl (by show (15:Int)=hashInt 15;decide) rfl (.cons rfl (by show (16:Int)=hashInt 16;decide) rfl (.cons rfl (by show (17:Int)=hashInt 17;decide) rfl (.cons rfl (by show (18:Int)=hashInt 18;decide) rfl (.cons rfl (by show (19:Int)=hashInt 19;decide) rfl (.cons rfl (by show (20:Int)=hashInt 20;decide) rfl (.cons rfl (by show (21:Int)=hashInt 21;decide) rfl (.nil))))))))))))))))))))))⟩,
  oo:=fun H=> .inr ⟨_,_,_,Yf,rfl,rfl,(by show 3≤sizeLine;decide),.cons ⟨_,rfl⟩ (.cons ⟨_,rfl⟩ (.cons ⟨_,rfl⟩ (.nil)))⟩,
  vm:=fun H=> .inr ⟨_,_,_,Yg,rfl,rfl,(by show 3≤sizeLine;decide),.cons ⟨_,rfl⟩ (.cons ⟨_,rfl⟩ (.cons ⟨_,rfl⟩ (.nil)))⟩,
  vn:=fun H=> .inr ⟨_,_,_,Yh,rfl,rfl,(by show 3≤sizeLine;decide),.cons ⟨_,rfl⟩ (.cons ⟨_,rfl⟩ (.cons ⟨_,rfl⟩ (.nil)))⟩,
  vo:=fun H=> .inr ⟨_,_,_,Yi,rfl,rfl,(by show 1≤sizeLine;decide),.cons ⟨_,rfl⟩ (.nil)⟩,
  vp:=fun H=> .inr ⟨_,_,_,Yj,rfl,rfl,(by show 1≤sizeLine;decide),.cons ⟨_,rfl⟩ (.nil)⟩,
  vq:=fun H=> .inr ⟨_,_,_,Yk,rfl,rfl,(by show 1≤sizeLine;decide),.cons ⟨_,rfl⟩ (.nil)⟩,
  vt:=fun H=> .inr ⟨_,_,_,Yl,rfl,rfl,(by show 1≤sizeLine;decide),.cons ⟨_,rfl⟩ (.nil)⟩,
  vv:=fun H=> .inr ⟨_,_,_,Ym,rfl,rfl,(by show 5≤sizeLine;decide),.cons ⟨_,rfl⟩ (.cons ⟨_,rfl⟩ (.cons ⟨_,rfl⟩ (.cons ⟨_,rfl⟩ (.cons ⟨_,rfl⟩ (.nil)))))⟩,
  vw:=fun H=> .inr ⟨_,_,_,Yn,rfl,rfl,(by show 3≤sizeLine;decide),.cons ⟨_,rfl⟩ (.cons ⟨_,rfl⟩ (.cons ⟨_,rfl⟩ (.nil)))⟩,
  vx:=fun H=> .inr ⟨_,_,_,Yo,rfl,rfl,(by show 2≤sizeLine;decide),.cons ⟨_,rfl⟩ (.cons ⟨_,rfl⟩ (.nil))⟩,
  vy:=fun H=> .inr ⟨_,_,_,Yp,rfl,rfl,(by show 1≤sizeLine;decide),.cons ⟨_,rfl⟩ (.nil)⟩,
  vz:=fun H=> .inr ⟨_,_,_,Yq,rfl,rfl,(by show 1≤sizeLine;decide),.cons ⟨_,rfl⟩ (.nil)⟩,
  vA:=fun H=> .inr ⟨_,_,_,Yr,rfl,rfl,(by show 1≤sizeLine;decide),.cons ⟨_,rfl⟩ (.nil)⟩,
  vB:=fun H=> .inr ⟨_,_,_,Ys,rfl,rfl,(by show 1≤sizeLine;decide),.cons ⟨_,rfl⟩ (.nil)⟩,
  vC:=fun H=> .inr ⟨_,_,_,Yt,rfl,rfl,(by show 1≤sizeLine;decide),.cons ⟨_,rfl⟩ (.nil)⟩,
  vD:=fun H=> .inr ⟨_,_,_,Yu,rfl,rfl,(by show 8≤sizeLine;decide),.cons ⟨_,rfl⟩ (.cons ⟨_,rfl⟩ (.cons ⟨_,rfl⟩ (.cons ⟨_,rfl⟩ (.cons ⟨_,rfl⟩ (.cons ⟨_,rfl⟩ (.cons ⟨_,rfl⟩ (.cons ⟨_,rfl⟩ (.nil))))))))⟩,
  vE:=fun H=> .inr ⟨_,_,_,Yv,rfl,rfl,(by show 1≤sizeLine;decide),.cons ⟨_,rfl⟩ (.nil)⟩,
  vF:=fun H=> .inr ⟨_,_,_,Yw,rfl,rfl,(by show 2≤sizeLine;decide),.cons ⟨_,rfl⟩ (.cons ⟨_,rfl⟩ (.nil))⟩,
  vG:=fun H=> .inr ⟨_,_,_,Yx,rfl,rfl,(by show 1≤sizeLine;decide),.cons ⟨_,rfl⟩ (.nil)⟩,
  vH:=fun H=> .inr ⟨_,_,_,Yy,rfl,rfl,(by show 2≤sizeLine;decide),.cons ⟨_,rfl⟩ (.cons ⟨_,rfl⟩ (.nil))⟩,
  vI:=fun H=> .inr ⟨_,_,_,Yz,rfl,rfl,(by show 0≤sizeLine;decide),.nil⟩,
  vJ:=fun H=> .inr ⟨_,_,_,YA,rfl,rfl,(by show 0≤sizeLine;decide),.nil⟩,
  MO:=⟨_,mg_of X G Ii,⟨_,rfl⟩⟩,
  Fp:=mg_none_of X G Fp,
  Fq:=mg_none_of X G Fq,
  dN:=mg_none_of X G dN,
  zp:=mg_none_of X G zp,
  CB:=mg_none_of X G CB,
  vK:=mg_none_of X G vK,
  qi:=mg_none_of X G qi,
  l6:=mg_none_of X G l6,
  ug:=mg_none_of X G ug,
  Fs:=mg_none_of X G Fs}
end Rl
namespace Rl
def Ij (c:Int×List Int):List Int:=c.1::(c.2.length:Int)::(c.2 ++ [0])
def enc:List (Int×List Int)→List Int
 | [] => []
 |c::cs=>Ij c ++ enc cs
def nQ (c:Int×List Int):List (List Int):= [c.1::c.2]
theorem wt:∀ (as bs:List (Int×List Int)),enc (as ++ bs)=enc as ++ enc bs
 | [],_=>rfl
 |a::as,bs=>by
  show Ij a ++ enc (as ++ bs)=(Ij a ++ enc as) ++ enc bs
  rw [wt as bs,List.append_assoc]
theorem LC {c:List (List Int)}(h:VbcnagNeutral.asked1 c=true):∃p ns,c= [p::ns] :=by
 unfold VbcnagNeutral.asked1 at h
 split at h <;>first|exact ⟨_,_,rfl⟩|cases h
theorem QX (p:Int)(ns:List Int):PyWide.put1 [p::ns] =Ij (p,ns):=rfl
theorem MX:∀ (cs:List (List (List Int))),(∀c∈cs,VbcnagNeutral.asked1 c=true)→
  ∃ds:List (Int×List Int),cs=ds.map nQ∧PyWide.put cs=enc ds
 | [],_=>⟨[],rfl,rfl⟩
 |c::cs,h=>by
  obtain ⟨ds,e1,e2⟩:=MX cs fun d hd=>h d (List.Mem.tail _ hd)
  obtain ⟨p,ns,e⟩:=LC (h c (List.Mem.head _))
  refine ⟨(p,ns)::ds,?_,?_⟩
  ·rw [e,e1];rfl
  ·show PyWide.put1 c ++ PyWide.put cs=Ij (p,ns) ++ enc ds
   rw [e,e2,QX]
theorem JT {l:List Int}(h:PyVbcnag.answers_asked l=true):∃cs:List (Int×List Int),
  l=enc cs∧cs.length≤400∧(∀c∈cs,VbcnagNeutral.asked1 (nQ c)=true)∧
  PyVbcnag.answers l=PyFlat.told (PyFlat.played VbcnagNeutral.step VbcnagNeutral.start (cs.map nQ))∧
  (PyVbcnag.answers l).length≤10000000:=by
 unfold PyVbcnag.answers_asked at h
 cases e:PyVbcnag.calls l with
 |none=>rw [e] at h;cases h
 |some cs=>
  rw [e] at h
  simp only [Bool.and_eq_true] at h
  obtain ⟨⟨h1,h2⟩,h3⟩:=h
  have a:l=PyWide.put cs∧∀c∈cs,PyWide.okCall c:=PyWide.put_calls _ _ _ e
  unfold VbcnagNeutral.asked at h2
  simp only [Bool.and_eq_true,List.all_eq_true] at h2
  obtain ⟨ds,e1,e2⟩:=MX cs h2.1
  refine ⟨ds,a.1.trans e2,?_,?_,?_,?_⟩
  ·have:cs.length≤400:=of_decide_eq_true h1
   rw [e1,List.length_map] at this
   exact this
  ·intro c hc
   exact h2.1 _ (by rw [e1];exact List.mem_map_of_mem hc)
  ·unfold PyVbcnag.answers
   rw [e,e1]
  ·exact of_decide_eq_true h3
def di (s:Option Vbcnag.World)(c:Int×List Int):Option Vbcnag.World×List Int:=VbcnagNeutral.step s (nQ c)
def gn (s:Option Vbcnag.World):List (Int×List Int)→Option Vbcnag.World
 | [] =>s
 |c::cs=>gn (di s c).1 cs
def dI (s:Option Vbcnag.World):List (Int×List Int)→List Int
 | [] => []
 |c::cs=>((di s c).2.length:Int)::((di s c).2 ++ dI (di s c).1 cs)
theorem Ik:∀ (cs:List (Int×List Int))(s:Option Vbcnag.World),
  PyFlat.told (PyFlat.played VbcnagNeutral.step s (cs.map nQ))=dI s cs
 | [],_=>rfl
 |c::cs,s=>by
  show PyFlat.told ((VbcnagNeutral.step s (nQ c)).2::PyFlat.played VbcnagNeutral.step (VbcnagNeutral.step s (nQ c)).1 (cs.map nQ))=_
  have ih:=Ik cs (di s c).1
  unfold PyFlat.told at ih ⊢
  rw [List.flatMap_cons]
  show ((di s c).2.length:Int)::(di s c).2 ++ _=_
  rw [show List.flatMap (fun a=>((a.length:Int)::a:List Int)) (PyFlat.played VbcnagNeutral.step (VbcnagNeutral.step s (nQ c)).1 (cs.map nQ))=dI (di s c).1 cs from ih]
  rfl
theorem mh:∀ (as bs:List (Int×List Int))(s:Option Vbcnag.World),dI s (as ++ bs)=dI s as ++ dI (gn s as) bs
 | [],_,_=>rfl
 |a::as,bs,s=>by
  show ((di s a).2.length:Int)::((di s a).2 ++ dI (di s a).1 (as ++ bs))=((di s a).2.length:Int)::(((di s a).2 ++ dI (di s a).1 as) ++ dI (gn (di s a).1 as) bs)
  rw [mh as bs,List.append_assoc]
theorem yq:∀ (as bs:List (Int×List Int))(s:Option Vbcnag.World),gn s (as ++ bs)=gn (gn s as) bs
 | [],_,_=>rfl
 |a::as,bs,s=>yq as bs (di s a).1
end Rl
namespace Rl
open Vbcnag
theorem gf:∀ (l:List Under)(w:World),puts w l=({w with bag:=w.bag ++ l.take (w.cap - w.bag.length)},l.take (w.cap - w.bag.length))
 | [],w=>by simp [puts]
 |m::l,w=>by
  unfold puts
  by_cases h:w.bag.length < w.cap
  ·rw [if_pos h,gf l]
   obtain ⟨k,hk⟩:∃k,w.cap - w.bag.length=k + 1:=⟨w.cap - w.bag.length - 1,by omega⟩
   have h2:w.cap - (w.bag ++ [m]).length=k:=by rw [List.length_append];simp only [List.length_cons,List.length_nil];omega
   simp only [h2,hk,List.take_succ_cons,List.append_assoc,List.cons_append,List.nil_append]
  ·rw [if_neg h,gf l]
   have h2:w.cap - w.bag.length=0:=by omega
   simp only [h2,List.take_zero]
theorem sU (w:World)(u:Under):puts w [u] =if w.bag.length < w.cap then ({w with bag:=w.bag ++ [u] },[u]) else (w,[]):=rfl
structure yr (c:Client):Prop where
 off:c.phase=0→c.due=none
 on:c.phase≠0→c.due.isSome=true
 le6:c.phase≤6
 ask:c.phase=2→c.best.isSome=true
 held:3≤c.phase→c.lease.isSome=true
structure Sy (now:Nat) (c d:Client):Prop where
 good:yr d
 host:d.host=c.host
 place:d.place=c.place
 due:d.due=c.due∨∃t,d.due=some t∧now < t
theorem C3 (a b:Nat):0 < wait a b:=by
 have h:0 < 2 ^ a:=Nat.two_pow_pos a
 unfold wait
 omega
theorem o9 {now phase tries:Nat}{f:Nat→Nat}{kind:Nat}{sv:Option Nat}{addr:Nat}{c:Client}(h0:phase≠0)(h6:phase≤6)(ha:phase=2→c.best.isSome=true)(hh:3≤phase→c.lease.isSome=true)(hf:∀n,now < f n):
  Sy now c (sends now phase tries f kind sv addr c).1∧∃t,(sends now phase tries f kind sv addr c).1.due=some t∧now < t:=
 ⟨⟨⟨fun h=>absurd h h0,fun _=>rfl,h6,ha,hh⟩,rfl,rfl,.inr ⟨_,rfl,hf _⟩⟩,_,rfl,hf _⟩
theorem pb (now tries:Nat)(c:Client):Sy now c (seek now tries c).1∧∃t,(seek now tries c).1.due=some t∧now < t:=by
 have h:=o9 (now:=now) (phase:=1) (tries:=tries) (f:=fun n=>now + wait tries n) (kind:=1) (sv:=none) (addr:=0) (c:={c with best:=none,lease:=none}) (by decide) (by decide) (fun h=>by cases h) (fun h=>by exact absurd h (by decide)) (fun n=>by have:=C3 tries n;omega)
 obtain ⟨⟨g,a,b,d⟩,e⟩:=h
 exact ⟨⟨g,a,b,d⟩,e⟩
theorem C4 (now tries:Nat)(o:Offer){c:Client}(hb:c.best.isSome=true):Sy now c (askFor now tries o c).1∧∃t,(askFor now tries o c).1.due=some t∧now < t:=
 o9 (by decide) (by decide) (fun _=>hb) (fun h=>absurd h (by decide)) (fun n=>by have:=C3 tries n;omega)
theorem yt (now tries:Nat)(l:Lease){c:Client}(hb:c.lease.isSome=true):Sy now c (comeBack now tries l c).1∧∃t,(comeBack now tries l c).1.due=some t∧now < t:=
 o9 (by decide) (by decide) (fun h=>by cases h) (fun _=>hb) (fun n=>by have:=C3 tries n;omega)
theorem qM (now:Nat)(l:Lease){c:Client}(hb:c.lease.isSome=true):Sy now c (settle now l c).1∧∃t,(settle now l c).1.due=some t∧now < t:=by
 unfold settle
 split
 ·rename_i h
  exact ⟨⟨⟨fun h=>(by cases h),fun _=>rfl,(by show 3≤6;decide),fun h=>(by cases h),fun _=>hb⟩,rfl,rfl,.inr ⟨_,rfl,h⟩⟩,_,rfl,h⟩
 ·split
  ·exact o9 (by decide) (by decide) (fun h=>by cases h) (fun _=>hb) (fun n=>by omega)
  ·split
   ·exact o9 (by decide) (by decide) (fun h=>by cases h) (fun _=>hb) (fun n=>by omega)
   ·exact pb now 0 c
theorem sV (now:Nat){c:Client}(g:yr c)(h:c.phase≠0):Sy now c (acts now c).1∧∃t,(acts now c).1.due=some t∧now < t:=by
 have h6:=g.le6
 unfold acts
 split
 ·exact C4 _ _ _ (by simp [*])
 ·exact pb _ _ _
 ·split
  ·exact C4 _ _ _ (by simp [*])
  ·exact pb _ _ _
 ·split
  ·exact yt _ _ _ (by simp [*])
  ·exact qM _ _ (by simp [*])
 ·exact qM _ _ (by simp [*])
 ·rename_i h1 h2 h3 h4
  exfalso
  have hl:c.lease=none:=by assumption
  by_cases q:3≤c.phase
  ·have:=g.held q
   rw [hl] at this
   cases this
  ·by_cases q1:c.phase=1
   ·cases hb:c.best with
    |none=>simp_all
    |some o=>simp_all
   ·have q2:c.phase=2:=by omega
    have:=g.ask q2
    cases hb:c.best with
    |none=>rw [hb] at this;cases this
    |some o=>simp_all
theorem Oo (now:Nat){c:Client}(g:yr c)(m:Msg):Sy now c (hears now c m).1:=by
 have self:Sy now c c:=⟨g,rfl,rfl,.inl rfl⟩
 unfold hears
 split
 ·exact self
 ·rename_i hp
  have hp0:c.phase≠0:=fun e=>hp (.inl e)
  split
  ·dsimp only
   split
   ·rename_i hx
    exact ⟨⟨fun h=>absurd h hp0,fun h=>g.on h,g.le6,fun h=>rfl,fun h=>g.held h⟩,rfl,rfl,.inl rfl⟩
   ·exact self
  ·rename_i sv _ _
   split
   ·have:=qM now {server:=sv,addr:=m.addr,half:=c.sent + m.len / 2,late:=c.sent + m.len * 7 / 8,till:=c.sent + m.len} (c:={c with best:=none,lease:=some {server:=sv,addr:=m.addr,half:=c.sent + m.len / 2,late:=c.sent + m.len * 7 / 8,till:=c.sent + m.len} }) rfl
    obtain ⟨⟨a,b,d,e⟩,f⟩:=this
    exact ⟨a,b,d,.inr f⟩
   ·exact self
  ·split
   ·exact (pb now 0 c).1
   ·exact self
  ·exact self
theorem Ft:∀ {l:List Client}{c:Client},(l.map (·.host)).Nodup→c∈l→l.find? (fun d=>d.host==c.host)=some c
 | [],c,_,h=>by cases h
 |d::l,c,nd,h=>by
  rw [List.map_cons,List.nodup_cons] at nd
  rw [List.find?_cons]
  cases h with
  |head=>simp
  |tail _ h=>
   have:¬d.host=c.host:=fun e=>nd.1 (by rw [e];exact List.mem_map_of_mem h)
   have hb:(d.host==c.host)=false:=by simpa using this
   rw [hb]
   exact Ft nd.2 h
theorem lC {w:World}{h:Nat}{c:Client}(e:clientOf w h=some c):c∈w.clients∧c.host=h:=by
 unfold clientOf at e
 exact ⟨List.mem_of_find?_eq_some e,by simpa using List.find?_some e⟩
theorem map_set:∀ {l:List Client}{i:Nat}{c d:Client},(l.map (·.host)).Nodup→l[i]?=some c→d.host=c.host→(l.map fun x=>if x.host=d.host then d else x)=l.set i d
 | [],i,c,d,_,h,_=>by simp at h
 |x::l,0,c,d,nd,h,e=>by
  rw [List.map_cons,List.nodup_cons] at nd
  have hx:x=c:=by simpa using h
  subst hx
  rw [List.map_cons,if_pos e.symm,List.set_cons_zero]
  congr 1
  have:∀y∈l,(if y.host=d.host then d else y)=y:=fun y hy=>if_neg fun q=>nd.1 (by rw [←e,←q];exact List.mem_map_of_mem hy)
  rw [List.map_congr_left this,List.map_id']
 |x::l,i + 1,c,d,nd,h,e=>by
  rw [List.map_cons,List.nodup_cons] at nd
  have hl:l[i]?=some c:=by simpa using h
  have:¬x.host=d.host:=fun q=>nd.1 (by rw [q,e];exact List.mem_map_of_mem (List.mem_of_getElem? hl))
  rw [List.map_cons,if_neg this,List.set_cons_succ,map_set nd.2 hl e]
theorem bX {w:World}{i:Nat}{c d:Client}(nd:(w.clients.map (·.host)).Nodup)(h:w.clients[i]?=some c)(e:d.host=c.host):setClient w d={w with clients:=w.clients.set i d}:=by
 unfold setClient
 rw [map_set nd h e]
theorem JU {w:World}{i:Nat}{c:Client}(nd:(w.clients.map (·.host)).Nodup)(h:w.clients[i]?=some c):clientOf w c.host=some c:=Ft nd (List.mem_of_getElem? h)
theorem lQ {l:List Client}{i:Nat}{c d:Client}(h:l[i]?=some c)(e:d.host=c.host):(l.set i d).map (·.host)=l.map (·.host):=by
 rw [List.map_set]
 apply List.ext_getElem?
 intro j
 rw [List.getElem?_set]
 split
 ·rename_i hj
  subst hj
  obtain ⟨hl,hc⟩:=List.getElem?_eq_some_iff.mp h
  rw [List.length_map,if_pos hl,List.getElem?_map,h,e]
  rfl
 ·rfl
end Rl
namespace Rl
open Vbcnag
def gp (a b:Nat×Nat):Prop:=a.1 < b.1∨(a.1=b.1∧a.2≤b.2)
theorem QY (a:Nat×Nat):gp a a:= .inr ⟨rfl,Nat.le_refl _⟩
theorem lex_trans {a b c:Nat×Nat}(h:gp a b)(k:gp b c):gp a c:=by
 unfold gp at *;omega
theorem QZ {a b:Nat×Nat}(h:gp a b)(k:gp b a):a=b:=by
 unfold gp at *
 apply Prod.ext <;>omega
theorem C5 (a b:Nat×Nat):sooner a b=true ↔ ¬gp b a:=by
 unfold sooner gp
 simp only [Bool.or_eq_true,decide_eq_true_eq,Bool.and_eq_true,beq_iff_eq]
 omega
def pick (b:Option (Nat×Nat))(x:Nat×Nat):Option (Nat×Nat):=match b with
 |none=>some x
 |some y=>if sooner x y=true then some x else some y
theorem mj:∀ (l:List (Nat×Nat))(b:Nat×Nat),∃z,l.foldl pick (some b)=some z∧(z=b∨z∈l)∧gp z b∧∀x∈l,gp z x
 | [],b=>⟨b,rfl,.inl rfl,QY b,fun x h=>by cases h⟩
 |a::l,b=>by
  rw [List.foldl_cons]
  by_cases h:sooner a b=true
  ·have e:pick (some b) a=some a:=if_pos h
   rw [e]
   obtain ⟨z,e1,m,le,all⟩:=mj l a
   have wu:gp a b:=by
    have:=(C5 a b).mp h
    unfold gp at *;omega
   refine ⟨z,e1,?_,lex_trans le wu,fun x hx=> ?_⟩
   ·rcases m with m|m
    ·exact .inr (by rw [m];exact List.Mem.head _)
    ·exact .inr (List.Mem.tail _ m)
   ·cases hx with
    |head=>exact le
    |tail _ hx=>exact all x hx
  ·have e:pick (some b) a=some b:=if_neg h
   rw [e]
   obtain ⟨z,e1,m,le,all⟩:=mj l b
   have yP:gp b a:=by
    have:=(C5 a b)
    by_cases q:gp b a
    ·exact q
    ·exact absurd (this.mpr q) h
   refine ⟨z,e1,?_,le,fun x hx=> ?_⟩
   ·rcases m with m|m
    ·exact .inl m
    ·exact .inr (List.Mem.tail _ m)
   ·cases hx with
    |head=>exact lex_trans le yP
    |tail _ hx=>exact all x hx
theorem gq {l:List (Nat×Nat)}{z:Nat×Nat}(h:soonest l=some z):z∈l∧∀x∈l,gp z x:=by
 cases l with
 |nil=>cases h
 |cons a l=>
  have e:soonest (a::l)=l.foldl pick (some a):=rfl
  rw [e] at h
  obtain ⟨y,e1,m,le,all⟩:=mj l a
  rw [e1] at h
  cases h
  refine ⟨?_,fun x hx=> ?_⟩
  ·rcases m with m|m
   ·rw [m];exact List.Mem.head _
   ·exact List.Mem.tail _ m
  ·cases hx with
   |head=>exact le
   |tail _ hx=>exact all x hx
theorem LD {l:List (Nat×Nat)}{z:Nat×Nat}(hm:z∈l)(all:∀x∈l,gp z x):soonest l=some z:=by
 cases l with
 |nil=>cases hm
 |cons a l=>
  cases e:soonest (a::l) with
  |none=>
   have e2:soonest (a::l)=l.foldl pick (some a):=rfl
   obtain ⟨y,e1,_⟩:=mj l a
   rw [e2,e1] at e
   cases e
  |some y=>
   obtain ⟨hy,apG⟩:=gq e
   rw [QZ (apG z hm) (all y hy)]
theorem yu {l:List (Nat×Nat)}(h:soonest l=none):l= [] :=by
 cases l with
 |nil=>rfl
 |cons a l=>
  have e2:soonest (a::l)=l.foldl pick (some a):=rfl
  obtain ⟨y,e1,_⟩:=mj l a
  rw [e2,e1] at h
  cases h
theorem gr {w:World}{t h:Nat}:(t,h)∈dues w ↔ ∃c∈w.clients,c.due=some t∧c.host=h:=by
 unfold dues
 rw [List.mem_filterMap]
 constructor
 ·rintro ⟨c,hc,e⟩
  cases hd:c.due with
  |none=>rw [hd] at e;cases e
  |some d=>
   rw [hd] at e
   cases e
   exact ⟨c,hc,hd,rfl⟩
 ·rintro ⟨c,hc,e1,e2⟩
  exact ⟨c,hc,by rw [e1,e2];rfl⟩
def yw (e:Nat)(c:Client):Nat:=match c.due with
 |some d=>e + 1 - d
 |none=>0
def mu (e:Nat)(l:List Client):Nat:=(l.map (yw e)).sum
theorem Q0:∀ {l:List Client}{i:Nat}{c d:Client}{e:Nat},l[i]?=some c→mu e (l.set i d) + yw e c=mu e l + yw e d
 | [],i,c,d,e,h=>by simp at h
 |x::l,0,c,d,e,h=>by
  have hx:x=c:=by simpa using h
  subst hx
  simp only [mu,List.set_cons_zero,List.map_cons,List.sum_cons]
  omega
 |x::l,i + 1,c,d,e,h=>by
  have ih:=Q0 (l:=l) (i:=i) (c:=c) (d:=d) (e:=e) (by simpa using h)
  simp only [mu,List.set_cons_succ,List.map_cons,List.sum_cons] at ih ⊢
  omega
theorem Vl {e k:Nat}:∀ {l:List Client},(∀c∈l,∀d,c.due=some d→e + 1 - d≤k)→mu e l≤k * l.length
 | [],_=>by simp [mu]
 |c::l,h=>by
  have ih:=Vl (l:=l) fun d hd=>h d (List.Mem.tail _ hd)
  have h1:yw e c≤k:=by
   unfold yw
   split
   ·rename_i d hd
    exact h c (List.Mem.head _) d hd
   ·omega
  simp only [mu,List.map_cons,List.sum_cons,List.length_cons,Nat.mul_succ] at ih ⊢
  omega
structure vL (w:World):Prop where
 nd:(w.clients.map (·.host)).Nodup
 cl:∀c∈w.clients,yr c
theorem lD {c:Client}(g:yr c){t:Nat}(h:c.due=some t):c.phase≠0:=fun q=>by
 rw [g.off q] at h;cases h
def gi (w:World)(t:Nat)(c:Client):World:=done {w with now:=t} (acts t c)
theorem yx {w:World}{i t:Nat}{c:Client}(g:vL w)(h:w.clients[i]?=some c)(hp:c.phase≠0):
  (gi w t c).clients=w.clients.set i (acts t c).1∧(gi w t c).now=t∧(gi w t c).cap=w.cap∧(gi w t c).servers=w.servers∧(gi w t c).relays=w.relays∧
  (gi w t c).resting=w.resting∧(gi w t c).assigned=w.assigned∧(gi w t c).written=w.written:=by
 have hd:=(sV t (g.cl c (List.mem_of_getElem? h)) hp).1
 unfold gi done
 rw [gf,bX (w:={w with now:=t}) (i:=i) (c:=c) g.nd h hd.host]
 exact ⟨rfl,rfl,rfl,rfl,rfl,rfl,rfl,rfl⟩
theorem C6 {w:World}{i t:Nat}{c:Client}(g:vL w)(h:w.clients[i]?=some c)(hp:c.phase≠0):vL (gi w t c):=by
 have hd:=(sV t (g.cl c (List.mem_of_getElem? h)) hp).1
 have e:=(yx (t:=t) g h hp).1
 refine ⟨?_,?_⟩
 ·rw [e,lQ h hd.host]
  exact g.nd
 ·rw [e]
  intro d hm
  rcases List.mem_or_eq_of_mem_set hm with q|q
  ·exact g.cl d q
  ·rw [q];exact hd.good
theorem C7 {w:World}{i t e:Nat}{c:Client}(g:vL w)(h:w.clients[i]?=some c)(hd:c.due=some t)(hle:t≤e):mu e (gi w t c).clients < mu e w.clients:=by
 have hp:=lD (g.cl c (List.mem_of_getElem? h)) hd
 obtain ⟨_,t',ht,eA⟩:=sV t (g.cl c (List.mem_of_getElem? h)) hp
 rw [(yx (t:=t) g h hp).1]
 have m:=Q0 (e:=e) (d:=(acts t c).1) h
 have s1:yw e c=e + 1 - t:=by unfold yw;rw [hd]
 have s2:yw e (acts t c).1=e + 1 - t':=by unfold yw;rw [ht]
 omega
theorem Fu {n e i t:Nat}{w:World}{c:Client}(g:vL w)(h:w.clients[i]?=some c)(hs:soonest (dues w)=some (t,c.host))(hle:t≤e):
  ticks (n + 1) e w=((ticks n e (gi w t c)).1,(ticks n e (gi w t c)).2 + 1):=by
 show (match soonest (dues w) with
  |none=>({w with now:=e},0)
  |some (t,host)=>
   if e < t then ({w with now:=e},0)
   else match clientOf w host with
    |none=>(w,0)
    |some c=>
     let y:=acts t c
     let v:=setClient {w with now:=t} y.1
     let x:=ticks n e (puts v (outOf y.1 y.2)).1
     (x.1,x.2 + 1))=_
 rw [hs]
 dsimp only
 rw [if_neg (Nat.not_lt.mpr hle),JU g.nd h]
 rfl
theorem Fv {n e:Nat}{w:World}(h:∀c∈w.clients,∀d,c.due=some d→e < d):ticks (n + 1) e w=({w with now:=e},0):=by
 show (match soonest (dues w) with
  |none=>({w with now:=e},0)
  |some (t,host)=>
   if e < t then ({w with now:=e},0)
   else match clientOf w host with
    |none=>(w,0)
    |some c=>
     let y:=acts t c
     let v:=setClient {w with now:=t} y.1
     let x:=ticks n e (puts v (outOf y.1 y.2)).1
     (x.1,x.2 + 1))=_
 cases hs:soonest (dues w) with
 |none=>rfl
 |some z=>
  obtain ⟨t,host⟩:=z
  obtain ⟨c,hc,h1,_⟩:=gr.mp (gq hs).1
  dsimp only
  rw [if_pos (h c hc t h1)]
structure yy (lid e:Nat) (w0 w:World) (k:Nat):Prop where
 good:vL w
 ex:∃n,mu e w.clients < n∧ticks lid e w0=((ticks n e w).1,(ticks n e w).2 + k)
theorem yy.start {lid e:Nat}{w:World}(g:vL w)(h:mu e w.clients < lid):yy lid e w w 0:=⟨g,lid,h,rfl⟩
theorem yy.act {lid e k i t:Nat}{w0 w:World}{c:Client}(G:yy lid e w0 w k)(h:w.clients[i]?=some c)(hs:soonest (dues w)=some (t,c.host))(hd:c.due=some t)(hle:t≤e):yy lid e w0 (gi w t c) (k + 1):=by
 obtain ⟨g,n,hn,e1⟩:=G
 have hp:=lD (g.cl c (List.mem_of_getElem? h)) hd
 have hm:=C7 g h hd hle
 cases n with
 |zero=>omega
 |succ n=>
  refine ⟨C6 g h hp,n,by omega,?_⟩
  rw [e1,Fu g h hs hle]
  show _=(_,(ticks n e (gi w t c)).2 + (k + 1))
  congr 1
  show (ticks n e (gi w t c)).2 + 1 + k=_
  omega
theorem yy.ends {lid e k:Nat}{w0 w:World}(G:yy lid e w0 w k)(h:∀c∈w.clients,∀d,c.due=some d→e < d):ticks lid e w0=({w with now:=e},k):=by
 obtain ⟨g,n,hn,e1⟩:=G
 cases n with
 |zero=>omega
 |succ n=>
  rw [e1,Fv h]
  show (_,0 + k)=_
  rw [Nat.zero_add]
theorem C8 {w:World}{t:Nat}(h:∀c∈w.clients,∀d,c.due=some d→w.now < d):mu (w.now + t) w.clients < (t + 1) * (w.clients.length + 1):=by
 have h1:=Vl (e:=w.now + t) (k:=t) (l:=w.clients) fun c hc d hd=>by have:=h c hc d hd;omega
 have h2:t * w.clients.length≤t * (w.clients.length + 1):=Nat.mul_le_mul_left _ (Nat.le_succ _)
 have h3:(t + 1) * (w.clients.length + 1)=t * (w.clients.length + 1) + (w.clients.length + 1):=Nat.succ_mul _ _
 omega
end Rl
namespace Rl
open Vbcnag
structure jQ (nr ns:Nat) (u:Under):Prop where
 marks:u.msg.marks.length≤32
 hops:u.msg.hops≤16
 up:∀r c,u.place= .up r c→r < nr∧u.msg.marks.length≤16 + u.msg.hops
 server:∀s,u.place= .server s→s < ns
 back:(∀r,u.place≠ .down r)∧(∀r c,u.place≠ .circuit r c)∨(u.msg.server.isSome=true∧(u.msg.kind=2∨u.msg.kind=4∨u.msg.kind=5))
def fi (x:Written):Nat×Nat×Nat:=(x.server,x.host,x.addr)
theorem ml {α:Type}:∀ {l:List α}{a:α},l.Nodup→a ∉ l→(l ++ [a]).Nodup
 | [],a,_,_=>by simp
 |x::l,a,nd,h=>by
  rw [List.nodup_cons] at nd
  rw [List.cons_append,List.nodup_cons]
  refine ⟨fun q=> ?_,ml nd.2 fun q=>h (List.Mem.tail _ q)⟩
  rcases List.mem_append.mp q with q|q
  ·exact nd.1 q
  ·have:x=a:=by simpa using q
   exact h (by rw [this];exact List.Mem.head _)
structure cp (w:World):Prop where
 nd:(w.clients.map (·.host)).Nodup
 cl:∀c∈w.clients,yr c
 Oq:∀c∈w.clients,∀d,c.due=some d→w.now < d
 fe:∀c∈w.clients,∀m,c.place=some m→m.relay < w.relays.length
 yz:w.clients.length≤64
 JV:w.relays.length≤64
 root:∃r,w.relays[0]?=some r∧r.above=none
 tree:∀ (i:Nat)(r:Relay),w.relays[i]?=some r→0 < i→∃m,r.above=some m∧m.relay < i
 limit:∀r∈w.relays,r.limit≤16
 Zy:1≤w.servers∧w.servers≤4
 cap:1≤w.cap∧w.cap≤10000
 bag:w.bag.length≤w.cap
 msgs:∀u∈w.bag,jQ w.relays.length w.servers u
 now:w.now≤TIMES
 asg:w.assigned.length≤128
 YB:(w.written.map fi).Nodup
theorem C9 (x:Written):∀l:List Written,(write x l).map fi=if fi x∈l.map fi then l.map fi else l.map fi ++ [fi x]
 | [] =>rfl
 |y::l=>by
  unfold write
  split
  ·rename_i h
   have e:fi x=fi y:=by
    obtain ⟨h1,h2,h3⟩:=h
    show (_,_,_)=(_,_,_)
    rw [h1,h2,h3]
   rw [if_pos (by rw [e];exact List.mem_cons_self ..)]
   rfl
  ·rename_i h
   have e:fi x≠fi y:=fun q=>by
    injection q with q1 q
    injection q with q2 q3
    exact h ⟨q1.symm,q2.symm,q3.symm⟩
   rw [List.map_cons,C9 x l,List.map_cons]
   by_cases q:fi x∈l.map fi
   ·rw [if_pos q,if_pos (List.mem_cons_of_mem _ q)]
   ·rw [if_neg q,if_neg (fun z=>by
     rcases List.mem_cons.mp z with z|z
     ·exact e z
     ·exact q z)]
    rfl
theorem Q1 {x:Written}{l:List Written}(h:(l.map fi).Nodup):((write x l).map fi).Nodup:=by
 rw [C9]
 split
 ·exact h
 ·rename_i q
  exact ml h q
theorem cp.t {w:World}(g:cp w):vL w:=⟨g.nd,g.cl⟩
theorem LF {n cap t:Nat}(hn:1≤n∧n≤4)(hc:1≤cap∧cap≤10000)(ht:t≤TIMES):cp {now:=t,servers:=n,cap:=cap,relays:= [{above:=none,limit:=16}] } where
 nd:=List.nodup_nil
 cl:=fun c h=>by cases h
 Oq:=fun c h=>by cases h
 fe:=fun c h=>by cases h
 yz:=Nat.zero_le _
 JV:=by show 1≤64;decide
 root:=⟨_,rfl,rfl⟩
 tree:=fun i r h hi=>by
  cases i with
  |zero=>exact absurd hi (Nat.lt_irrefl _)
  |succ i=>simp at h
 limit:=fun r h=>by
  have e:r={above:=none,limit:=16}:=by simpa using h
  subst e
  exact Nat.le_refl _
 Zy:=hn
 cap:=hc
 bag:=Nat.zero_le _
 msgs:=fun u h=>by cases h
 now:=ht
 asg:=Nat.zero_le _
 YB:=List.nodup_nil
theorem Fw {w:World}(g:cp w){l:List Under}(h:∀u∈l,jQ w.relays.length w.servers u):cp (puts w l).1:=by
 rw [gf]
 have hb:=g.bag
 exact {g with
  bag:=by
   show (w.bag ++ l.take (w.cap - w.bag.length)).length≤w.cap
   rw [List.length_append,List.length_take]
   omega
  msgs:=fun u hu=>by
   rcases List.mem_append.mp hu with q|q
   ·exact g.msgs u q
   ·exact h u (List.mem_of_mem_take q)}
theorem Dc {w:World}(g:cp w){i:Nat}{c d:Client}(h:w.clients[i]?=some c)(hd:Sy w.now c d):cp {w with clients:=w.clients.set i d}:=
 have hc:=List.mem_of_getElem? h
 {g with
  nd:=by
   show ((w.clients.set i d).map (·.host)).Nodup
   rw [lQ h hd.host]
   exact g.nd
  cl:=fun x hx=>by
   rcases List.mem_or_eq_of_mem_set hx with q|q
   ·exact g.cl x q
   ·rw [q];exact hd.good
  Oq:=fun x hx t ht=>by
   rcases List.mem_or_eq_of_mem_set hx with q|q
   ·exact g.Oq x q t ht
   ·subst q
    rcases hd.due with e|⟨t',e,eA⟩
    ·exact g.Oq c hc t (by rw [←e];exact ht)
    ·rw [e] at ht
     cases ht
     exact eA
  fe:=fun x hx m hm=>by
   rcases List.mem_or_eq_of_mem_set hx with q|q
   ·exact g.fe x q m hm
   ·subst q
    exact g.fe c hc m (by rw [←hd.place];exact hm)
  yz:=by
   show (w.clients.set i d).length≤64
   rw [List.length_set]
   exact g.yz}
structure Ot (m:Msg):Prop where
 hops:m.hops=0
 marks:m.marks= []
theorem Dd {w:World}(g:cp w){c d:Client}(hc:c∈w.clients)(hp:d.place=c.place){l:List Msg}(hl:∀m∈l,Ot m):∀u∈outOf d l,jQ w.relays.length w.servers u:=by
 intro u hu
 unfold outOf at hu
 split at hu
 ·cases hu
 ·rename_i p e
  obtain ⟨m,hm,rfl⟩:=List.mem_map.mp hu
  have hs:=hl m hm
  have hr:=g.fe c hc p (by rw [←hp];exact e)
  refine ⟨(by show m.marks.length≤32;rw [hs.marks];decide),(by show m.hops≤16;rw [hs.hops];decide),fun r c e=> ?_,fun s e=>(by cases e),.inl ⟨fun r e=>(by cases e),fun r c e=>(by cases e)⟩⟩
  cases e
  exact ⟨hr,(by show m.marks.length≤_;rw [hs.marks];exact Nat.zero_le _)⟩
theorem dU {now phase tries:Nat}{f:Nat→Nat}{kind:Nat}{sv:Option Nat}{addr:Nat}{c:Client}:∀m∈(sends now phase tries f kind sv addr c).2,Ot m:=fun m hm=>by
 have e:m={host:=c.host,number:=c.counter + 1,kind:=kind,server:=sv,addr:=addr}:=by simpa [sends] using hm
 subst e
 exact ⟨rfl,rfl⟩
theorem sW (now:Nat)(l:Lease)(c:Client):∀m∈(settle now l c).2,Ot m:=by
 unfold settle
 intro m hm
 split at hm
 ·cases hm
 ·split at hm
  ·exact dU m hm
  ·split at hm
   ·exact dU m hm
   ·exact dU m hm
theorem Ou (now:Nat)(c:Client):∀m∈(acts now c).2,Ot m:=by
 unfold acts
 intro m hm
 split at hm
 ·exact dU m hm
 ·exact dU m hm
 ·split at hm <;>exact dU m hm
 ·split at hm
  ·exact dU m hm
  ·exact sW _ _ _ m hm
 ·exact sW _ _ _ m hm
 ·cases hm
theorem LG (now:Nat)(c:Client)(x:Msg):∀m∈(hears now c x).2,Ot m:=by
 unfold hears
 intro m hm
 split at hm
 ·cases hm
 ·split at hm
  ·dsimp only at hm
   split at hm <;>cases hm
  ·split at hm
   ·exact sW _ _ _ m hm
   ·cases hm
  ·split at hm
   ·exact dU m hm
   ·cases hm
  ·cases hm
theorem zJ {w:World}(g:cp w){i:Nat}{c:Client}{y:Done}(h:w.clients[i]?=some c)(hd:Sy w.now c y.1)(hs:∀m∈y.2,Ot m):cp (done w y):=by
 unfold done
 rw [bX g.nd h hd.host]
 exact Fw (Dc g h hd) (Dd g (List.mem_of_getElem? h) hd.place hs)
theorem qN {w:World}{r:Nat}{x:Relay}(h:w.relays[r]?=some x):relayAt w r=x:=by
 unfold relayAt
 rw [List.getD_eq_getElem?_getD,h]
 rfl
theorem JW {w:World}(g:cp w){s:Nat}{m:Msg}(hm:m.marks.length≤32):
  cp (served w s m).1∧(served w s m).1.relays=w.relays∧(served w s m).1.servers=w.servers∧(served w s m).1.bag=w.bag∧(served w s m).1.cap=w.cap∧(served w s m).1.written.length≤w.written.length + 1∧∀u∈(served w s m).2,jQ w.relays.length w.servers u:=by
 have hb:∀ (kind addr len:Nat),(kind=2∨kind=4∨kind=5)→∀u∈ [({place:= .down 0,msg:={m with kind:=kind,server:=some s,addr:=addr,len:=len,hops:=0} }:Under)],jQ w.relays.length w.servers u:=by
  intro kind addr len hk u hu
  have e:u={place:= .down 0,msg:={m with kind:=kind,server:=some s,addr:=addr,len:=len,hops:=0} }:=by simpa using hu
  subst e
  exact ⟨hm,Nat.zero_le _,fun r c e=>(by cases e),fun s e=>(by cases e),.inr ⟨rfl,hk⟩⟩
 have hw:∀ (x:Written)(l:List Written),(write x l).length≤l.length + 1:=by
  intro x l
  induction l with
  |nil=>exact Nat.le_refl _
  |cons y l ih=>
   unfold write
   split
   ·simp
   ·simp only [List.length_cons];omega
 have self:∀l:List Under,(∀u∈l,jQ w.relays.length w.servers u)→cp w∧w.relays=w.relays∧w.servers=w.servers∧w.bag=w.bag∧w.cap=w.cap∧w.written.length≤w.written.length + 1∧∀u∈l,jQ w.relays.length w.servers u:=
  fun l hl=>⟨g,rfl,rfl,rfl,rfl,Nat.le_succ _,hl⟩
 have nil:∀u∈([] :List Under),jQ w.relays.length w.servers u:=fun u hu=>by cases hu
 unfold served
 dsimp only
 split
 ·exact self _ nil
 ·split
  ·exact self _ nil
  ·split
   ·exact self _ (hb _ _ _ (.inl rfl))
   ·split
    ·exact self _ nil
    ·split
     ·split
      ·exact ⟨{g with YB:=Q1 g.YB},rfl,rfl,rfl,rfl,hw _ _,hb _ _ _ (.inr (.inl rfl))⟩
      ·exact self _ (hb _ _ _ (.inr (.inr rfl)))
     ·split
      ·exact self _ (hb _ _ _ (.inr (.inr rfl)))
      ·exact self _ nil
   ·exact self _ nil
theorem yA {w:World}(g:cp w){u:Under}(hu:jQ w.relays.length w.servers u):
  cp (handled w u).1∧(handled w u).1.relays=w.relays∧(handled w u).1.servers=w.servers∧(handled w u).1.bag=w.bag∧(handled w u).1.cap=w.cap∧(handled w u).1.written.length≤w.written.length + 1∧∀v∈(handled w u).2,jQ w.relays.length w.servers v:=by
 have self:∀l:List Under,(∀u∈l,jQ w.relays.length w.servers u)→cp w∧w.relays=w.relays∧w.servers=w.servers∧w.bag=w.bag∧w.cap=w.cap∧w.written.length≤w.written.length + 1∧∀u∈l,jQ w.relays.length w.servers u:=
  fun l hl=>⟨g,rfl,rfl,rfl,rfl,Nat.le_succ _,hl⟩
 have nil:∀u∈([] :List Under),jQ w.relays.length w.servers u:=fun u hu=>by cases hu
 unfold handled
 split
 ·rename_i r c eD
  dsimp only
  split
  ·exact self _ nil
  ·split
   ·exact self _ nil
   ·rename_i h1 h2
    refine self _ fun v hv=> ?_
    obtain ⟨hr,hk⟩:=hu.up r c eD
    obtain ⟨x,hx⟩:∃x,w.relays[r]?=some x:=⟨_,List.getElem?_eq_getElem hr⟩
    have ex:=qN hx
    have aaI:=g.limit x (List.mem_of_getElem? hx)
    rw [ex] at h2 hv
    have eA:u.msg.hops < 16:=by omega
    split at hv
    ·rename_i a ha
     have e:v={place:= .up a.relay a.circuit,msg:={u.msg with hops:=u.msg.hops + 1,marks:={relay:=r,circuit:=c}::u.msg.marks} }:=by simpa using hv
     subst e
     have AB:0 < r:=by
      cases r with
      |zero=>
       obtain ⟨y,hy,hya⟩:=g.root
       rw [hy] at hx
       cases hx
       rw [hya] at ha
       cases ha
      |succ r=>exact Nat.succ_pos _
     obtain ⟨m,Zz,hm2⟩:=g.tree r x hx AB
     rw [ha] at Zz
     cases Zz
     refine ⟨(by show u.msg.marks.length + 1≤32;omega),(by show u.msg.hops + 1≤16;omega),fun r' c' e=> ?_,fun s e=>(by cases e),.inl ⟨fun r e=>(by cases e),fun r c e=>(by cases e)⟩⟩
     cases e
     exact ⟨Nat.lt_trans hm2 hr,(by show u.msg.marks.length + 1≤16 + (u.msg.hops + 1);omega)⟩
    ·obtain ⟨s,hs,rfl⟩:=List.mem_map.mp hv
     refine ⟨(by show u.msg.marks.length + 1≤32;omega),(by show u.msg.hops + 1≤16;omega),fun r' c' e=>(by cases e),fun s' e=> ?_,.inl ⟨fun r e=>(by cases e),fun r c e=>(by cases e)⟩⟩
     cases e
     exact List.mem_range.mp hs
 ·exact JW g hu.marks
 ·rename_i r eD
  have hb:u.msg.server.isSome=true∧(u.msg.kind=2∨u.msg.kind=4∨u.msg.kind=5):=by
   rcases hu.back with q|q
   ·exact absurd eD (q.1 r)
   ·exact q
  split
  ·exact self _ nil
  ·rename_i k l EN
   have hl:l.length≤32:=by
    have:=hu.marks
    rw [EN] at this
    simp only [List.length_cons] at this
    omega
   split
   ·exact self _ nil
   ·dsimp only
    refine self _ fun v hv=> ?_
    split at hv
    ·rename_i q _
     have e:v={place:= .down q,msg:={u.msg with marks:=l} }:=by simpa using hv
     subst e
     exact ⟨hl,hu.hops,fun r c e=>(by cases e),fun s e=>(by cases e),.inr hb⟩
    ·have e:v={place:= .circuit k.relay k.circuit,msg:={u.msg with marks:=l} }:=by simpa using hv
     subst e
     exact ⟨hl,hu.hops,fun r c e=>(by cases e),fun s e=>(by cases e),.inr hb⟩
 ·split
  ·exact self _ nil
  ·rename_i x hx
   split
   ·obtain ⟨hm,_⟩:=lC hx
    obtain ⟨i,hi⟩:=List.getElem?_of_mem hm
    have hd:=Oo w.now (g.cl x hm) u.msg
    dsimp only
    rw [bX g.nd hi hd.host]
    exact ⟨Dc g hi hd,rfl,rfl,rfl,rfl,Nat.le_succ _,Dd g hm hd.place (LG _ _ _)⟩
   ·exact self _ nil
theorem qO {w:World}(g:cp w)(k:Nat):cp {w with bag:=w.bag.eraseIdx k}:=
 {g with
  bag:=by
   show (w.bag.eraseIdx k).length≤w.cap
   have:=g.bag
   rw [List.length_eraseIdx]
   split <;>omega
  msgs:=fun u hu=>g.msgs u (List.mem_of_mem_eraseIdx hu)}
theorem ip {w:World}(g:cp w)(k:Nat):cp (delivered w k).1∧(delivered w k).1.written.length≤w.written.length + 1:=by
 unfold delivered
 split
 ·exact ⟨g,Nat.le_succ _⟩
 ·rename_i u hu
  have g1:=qO g k
  obtain ⟨h1,h2,h3,h4,h5,h6,h7⟩:=yA g1 (u:=u) (g.msgs u (List.mem_of_getElem? hu))
  dsimp only
  refine ⟨Fw h1 fun v hv=>by rw [h2,h3];exact h7 v hv,?_⟩
  rw [gf]
  exact h6
theorem De:∀ (n:Nat){w:World},cp w→cp (flows n w).1∧(flows n w).1.written.length≤w.written.length + n
 |0,w,g=>⟨g,Nat.le_refl _⟩
 |n + 1,w,g=>by
  unfold flows
  split
  ·exact ⟨g,Nat.le_add_right _ _⟩
  ·obtain ⟨g1,h1⟩:=ip g 0
   obtain ⟨g2,h2⟩:=De n g1
   exact ⟨g2,(by show (flows n (delivered w 0).1).1.written.length≤_;omega)⟩
end Rl
namespace Rl
open Vbcnag
theorem oE {w:World}{h:Nat}(e:clientOf w h=none):h ∉ w.clients.map (·.host):=by
 intro q
 obtain ⟨c,hc,rfl⟩:=List.mem_map.mp q
 unfold clientOf at e
 rw [List.find?_eq_none] at e
 exact e c hc (by simp)
theorem Df {w:World}(g:cp w){i:Nat}{c:Client}(h:w.clients[i]?=some c)(p:Option Mark)(hp:∀m,p=some m→m.relay < w.relays.length):cp {w with clients:=w.clients.set i {c with place:=p} }:=
 have hc:=List.mem_of_getElem? h
 {g with
  nd:=by
   show ((w.clients.set i {c with place:=p}).map (·.host)).Nodup
   rw [lQ (d:={c with place:=p}) h rfl]
   exact g.nd
  cl:=fun x hx=>by
   rcases List.mem_or_eq_of_mem_set hx with q|q
   ·exact g.cl x q
   ·subst q
    have k:=g.cl c hc
    exact ⟨k.off,k.on,k.le6,k.ask,k.held⟩
  Oq:=fun x hx t ht=>by
   rcases List.mem_or_eq_of_mem_set hx with q|q
   ·exact g.Oq x q t ht
   ·subst q
    exact g.Oq c hc t ht
  fe:=fun x hx m hm=>by
   rcases List.mem_or_eq_of_mem_set hx with q|q
   ·exact g.fe x q m hm
   ·subst q
    exact hp m hm
  yz:=by
   show (w.clients.set i {c with place:=p}).length≤64
   rw [List.length_set]
   exact g.yz}
theorem Ov {w:World}(g:cp w)(t:Nat)(ht:w.now + t≤TIMES):cp (ticks ((t + 1) * (w.clients.length + 1)) (w.now + t) w).1∧(ticks ((t + 1) * (w.clients.length + 1)) (w.now + t) w).1.written=w.written∧(ticks ((t + 1) * (w.clients.length + 1)) (w.now + t) w).1.now=w.now + t:=by
 have key:∀ (n:Nat)(v:World),mu (w.now + t) v.clients < n→vL v→(v.clients.length≤64∧(∀c∈v.clients,∀m,c.place=some m→m.relay < v.relays.length)∧v.relays=w.relays∧v.servers=w.servers∧v.cap=w.cap∧v.assigned=w.assigned∧v.written=w.written∧v.bag.length≤v.cap∧∀u∈v.bag,jQ w.relays.length w.servers u)→
   cp (ticks n (w.now + t) v).1∧(ticks n (w.now + t) v).1.written=w.written∧(ticks n (w.now + t) v).1.now=w.now + t:=by
  intro n
  induction n with
  |zero=>intro v h;omega
  |succ n ih=>
   intro v hmu tg ⟨h1,h2,h3,h4,h5,h6,h7,h8,h9⟩
   have fin:(∀c∈v.clients,∀d,c.due=some d→w.now + t < d)→cp (ticks (n + 1) (w.now + t) v).1∧(ticks (n + 1) (w.now + t) v).1.written=w.written∧(ticks (n + 1) (w.now + t) v).1.now=w.now + t:=fun gk=>by
    rw [Fv gk]
    refine ⟨⟨tg.nd,tg.cl,gk,h2,h1,?_,?_,?_,?_,?_,?_,h8,?_,ht,?_,?_⟩,h7,rfl⟩
    ·show v.relays.length≤64;rw [h3];exact g.JV
    ·show ∃r,v.relays[0]?=some r∧r.above=none;rw [h3];exact g.root
    ·show ∀ (i:Nat)(r:Relay),v.relays[i]?=some r→0 < i→∃m,r.above=some m∧m.relay < i;rw [h3];exact g.tree
    ·show ∀r∈v.relays,r.limit≤16;rw [h3];exact g.limit
    ·show 1≤v.servers∧v.servers≤4;rw [h4];exact g.Zy
    ·show 1≤v.cap∧v.cap≤10000;rw [h5];exact g.cap
    ·show ∀u∈v.bag,jQ v.relays.length v.servers u;rw [h3,h4];exact h9
    ·show v.assigned.length≤128;rw [h6];exact g.asg
    ·show (v.written.map fi).Nodup;rw [h7];exact g.YB
   cases hs:soonest (dues v) with
   |none=>
    have hn:=yu hs
    refine fin fun c hc d hd=> ?_
    have:(d,c.host)∈dues v:=gr.mpr ⟨c,hc,hd,rfl⟩
    rw [hn] at this
    cases this
   |some z=>
    obtain ⟨s,host⟩:=z
    obtain ⟨hm,gk⟩:=gq hs
    by_cases hle:s≤w.now + t
    ·obtain ⟨c,hc,hd,hh⟩:=gr.mp hm
     obtain ⟨i,hi⟩:=List.getElem?_of_mem hc
     subst hh
     have hp:=lD (tg.cl c hc) hd
     rw [Fu tg hi hs hle]
     have e:=yx (t:=s) tg hi hp
     have awp:=C7 tg hi hd hle
     have did:=(sV s (tg.cl c hc) hp).1
     obtain ⟨e1,e2,e3,e4,e5,e6,e7,e8⟩:=e
     refine ih (gi v s c) (by omega) (C6 tg hi hp) ⟨?_,?_,e5.trans h3,e4.trans h4,e3.trans h5,e7.trans h6,e8.trans h7,?_,?_⟩
     ·rw [e1,List.length_set];exact h1
     ·rw [e1,e5]
      intro x hx m hm
      rcases List.mem_or_eq_of_mem_set hx with q|q
      ·exact h2 x q m hm
      ·subst q
       exact h2 c hc m (by rw [←did.place];exact hm)
     ·rw [e3]
      show (done {v with now:=s} (acts s c)).bag.length≤v.cap
      unfold done
      rw [gf]
      show (v.bag ++ List.take (v.cap - v.bag.length) _).length≤v.cap
      rw [List.length_append,List.length_take]
      omega
     ·show ∀u∈(done {v with now:=s} (acts s c)).bag,jQ w.relays.length w.servers u
      unfold done
      rw [gf]
      intro u hu
      rcases List.mem_append.mp hu with q|q
      ·exact h9 u q
      ·have q':=List.mem_of_mem_take q
       unfold outOf at q'
       split at q'
       ·cases q'
       ·rename_i p ep
        obtain ⟨m,Wu,rfl⟩:=List.mem_map.mp q'
        have sn:=Ou s c m Wu
        have hr:=h2 c hc p (by rw [←did.place];exact ep)
        rw [h3] at hr
        refine ⟨(by show m.marks.length≤32;rw [sn.marks];decide),(by show m.hops≤16;rw [sn.hops];decide),fun r c e=> ?_,fun s e=>(by cases e),.inl ⟨fun r e=>(by cases e),fun r c e=>(by cases e)⟩⟩
        cases e
        exact ⟨hr,(by show m.marks.length≤_;rw [sn.marks];exact Nat.zero_le _)⟩
    ·refine fin fun c hc d hd=> ?_
     have:=gk (d,c.host) (gr.mpr ⟨c,hc,hd,rfl⟩)
     unfold gp at this
     dsimp only at this
     omega
 exact key _ w (C8 g.Oq) g.t ⟨g.yz,g.fe,rfl,rfl,rfl,rfl,rfl,g.bag,g.msgs⟩
theorem bR {x lo hi:Int}:within x lo hi=true ↔ lo≤x∧x≤hi:=by
 unfold within
 rw [Bool.and_eq_true,decide_eq_true_eq,decide_eq_true_eq]
theorem qP {w:World}{r:Int}(h:isRelay w r=true):0≤r∧r.toNat < w.relays.length:=by
 have:=bR.mp h
 omega
theorem fj {w:World}(g:cp w){host:Int}{f:Client→World×Answer}(h:∀ (i:Nat)(c:Client),w.clients[i]?=some c→cp (f c).1∧(f c).1.written.length≤w.written.length + 1000):
  cp (withClient w host f).1∧(withClient w host f).1.written.length≤w.written.length + 1000:=by
 unfold withClient
 split
 ·exact ⟨g,Nat.le_add_right _ _⟩
 ·split
  ·exact ⟨g,Nat.le_add_right _ _⟩
  ·rename_i c hc
   obtain ⟨i,hi⟩:=List.getElem?_of_mem (lC hc).1
   exact h i c hi
theorem sX:∀ (n:Nat)(l:List Int),l.length≤2 * n→(marksIn l).length≤n
 |n,[],_=>by simp [marksIn]
 |n,[a],_=>by simp [marksIn]
 |0,a::b::l,h=>by simp at h
 |n + 1,a::b::l,h=>by
  have:=sX n l (by simp only [List.length_cons] at h;omega)
  simp only [marksIn,List.length_cons]
  omega
theorem Il {w:World}(g:cp w)(c:Call):cp (inWorld w c).1∧(inWorld w c).1.written.length≤w.written.length + 1000:=by
 have self:cp w∧w.written.length≤w.written.length + 1000:=⟨g,Nat.le_add_right _ _⟩
 cases c with
 |begin=>exact self
 |wrong=>exact self
 |relay p c l=>
  unfold inWorld
  dsimp only
  split
  ·exact self
  ·split
   ·exact self
   ·split
    ·exact self
    ·split
     ·exact self
     ·rename_i h1 h2 h3 h4
      simp only [Bool.not_eq_false,Bool.and_eq_true] at h1
      have hb:w.bag= [] :=Classical.not_not.mp h4
      refine ⟨{g with fe:=fun x hx m hm=> ?_,JV:= ?_,root:= ?_,tree:= ?_,limit:= ?_,msgs:= ?_},Nat.le_add_right _ _⟩
      ·have:=g.fe x hx m hm
       show m.relay < (w.relays ++ _).length
       rw [List.length_append];omega
      ·show (w.relays ++ [_]).length≤64
       rw [List.length_append];simp only [List.length_cons,List.length_nil];omega
      ·obtain ⟨r,hr,ha⟩:=g.root
       refine ⟨r,?_,ha⟩
       show (w.relays ++ [_])[0]?=some r
       rw [List.getElem?_append_left (List.getElem?_eq_some_iff.mp hr).1];exact hr
      ·intro i r hi Wy
       have Ve:(w.relays ++ [({above:=some (mark p c),limit:=l.toNat}:Relay)])[i]?=some r:=hi
       by_cases q:i < w.relays.length
       ·rw [List.getElem?_append_left q] at Ve
        exact g.tree i r Ve Wy
       ·rw [List.getElem?_append_right (Nat.not_lt.mp q)] at Ve
        have hi0:i - w.relays.length=0:=by
         cases e:i - w.relays.length with
         |zero=>rfl
         |succ k=>rw [e] at Ve;simp at Ve
        rw [hi0] at Ve
        have er:r={above:=some (mark p c),limit:=l.toNat}:=by simpa using Ve.symm
        subst er
        refine ⟨_,rfl,?_⟩
        have:=(qP h1.1).2
        show p.toNat < i
        omega
      ·intro r hr
       rcases List.mem_append.mp hr with q|q
       ·exact g.limit r q
       ·have er:r={above:=some (mark p c),limit:=l.toNat}:=by simpa using q
        subst er
        have:=bR.mp h1.2.2
        show l.toNat≤16
        omega
      ·intro u hu
       have hu':u∈w.bag:=hu
       rw [hb] at hu'
       cases hu'
 |plug host r c=>
  unfold inWorld
  dsimp only
  split
  ·exact self
  ·split
   ·exact self
   ·split
    ·exact self
    ·rename_i h1 h2 h3
     simp only [Bool.not_eq_false,Bool.and_eq_true] at h1
     have hr:=(qP h1.2.1).2
     split
     ·rename_i x hx
      obtain ⟨i,hi⟩:=List.getElem?_of_mem (lC hx).1
      dsimp only
      rw [bX g.nd hi (by rfl)]
      refine ⟨Df g hi _ fun m hm=> ?_,Nat.le_add_right _ _⟩
      cases hm
      exact hr
     ·rename_i hx
      split
      ·exact self
      ·rename_i h4
       refine ⟨{g with nd:= ?_,cl:= ?_,Oq:= ?_,fe:= ?_,yz:= ?_},Nat.le_add_right _ _⟩
       ·show ((w.clients ++ [_]).map (fun x:Client=>x.host)).Nodup
        rw [List.map_append]
        exact ml g.nd (oE hx)
       ·intro x hm
        rcases List.mem_append.mp hm with q|q
        ·exact g.cl x q
        ·have ex:x={host:=host.toNat,place:=some (mark r c)}:=by simpa using q
         subst ex
         exact ⟨fun _=>rfl,fun h=>absurd rfl h,Nat.zero_le _,fun h=>(by cases h),fun h=>(by cases h)⟩
       ·intro x hm d hd
        rcases List.mem_append.mp hm with q|q
        ·exact g.Oq x q d hd
        ·have ex:x={host:=host.toNat,place:=some (mark r c)}:=by simpa using q
         subst ex
         cases hd
       ·intro x hm m hp
        rcases List.mem_append.mp hm with q|q
        ·exact g.fe x q m hp
        ·have ex:x={host:=host.toNat,place:=some (mark r c)}:=by simpa using q
         subst ex
         cases hp
         exact hr
       ·show (w.clients ++ [_]).length≤64
        rw [List.length_append];simp only [List.length_cons,List.length_nil];omega
 |unplug host=>
  refine fj g fun i c hi=> ?_
  split
  ·exact self
  ·dsimp only
   rw [bX g.nd hi (by rfl)]
   exact ⟨Df g hi _ fun m hm=>(by cases hm),Nat.le_add_right _ _⟩
 |on host=>
  refine fj g fun i c hi=> ?_
  split
  ·exact self
  ·dsimp only
   have wr:∀y:Done,(done w y).written=w.written:=fun y=>by
    unfold done
    rw [gf]
    rfl
   refine ⟨?_,by rw [wr];exact Nat.le_add_right _ _⟩
   split
   ·exact zJ g hi (pb _ _ _).1 dU
   ·rename_i l hl
    split
    ·exact zJ g hi (yt _ _ _ (by rw [hl];rfl)).1 dU
    ·exact zJ g hi (pb _ _ _).1 dU
 |off host=>
  refine fj g fun i c hi=> ?_
  split
  ·exact self
  ·dsimp only
   rw [bX g.nd hi (by rfl)]
   have hc:=List.mem_of_getElem? hi
   refine ⟨{g with nd:= ?_,cl:= ?_,Oq:= ?_,fe:= ?_,yz:= ?_},Nat.le_add_right _ _⟩
   ·show ((w.clients.set i {c with phase:=0,number:=0,sent:=0,tries:=0,due:=none,best:=none}).map (fun x:Client=>x.host)).Nodup
    rw [lQ (d:={c with phase:=0,number:=0,sent:=0,tries:=0,due:=none,best:=none}) hi rfl]
    exact g.nd
   ·intro x hx
    rcases List.mem_or_eq_of_mem_set hx with q|q
    ·exact g.cl x q
    ·subst q
     exact ⟨fun _=>rfl,fun h=>absurd rfl h,Nat.zero_le _,fun h=>(by cases h),fun h=>(by cases h)⟩
   ·intro x hx d hd
    rcases List.mem_or_eq_of_mem_set hx with q|q
    ·exact g.Oq x q d hd
    ·subst q
     cases hd
   ·intro x hx m hm
    rcases List.mem_or_eq_of_mem_set hx with q|q
    ·exact g.fe x q m hm
    ·subst q
     exact g.fe c hc m hm
   ·show (w.clients.set i _).length≤64
    rw [List.length_set]
    exact g.yz
 |forget host=>
  refine fj g fun i c hi=> ?_
  split
  ·exact self
  ·rename_i hph
   have hp0:c.phase=0:=Classical.not_not.mp hph
   dsimp only
   rw [bX g.nd hi (by rfl)]
   have k:=g.cl c (List.mem_of_getElem? hi)
   exact ⟨Dc g hi ⟨⟨k.off,k.on,k.le6,k.ask,fun h=>absurd (show 3≤c.phase from h) (by omega)⟩,rfl,rfl,.inl rfl⟩,Nat.le_add_right _ _⟩
 |assign s host r a l=>
  unfold inWorld
  dsimp only
  split
  ·exact self
  ·split
   ·refine ⟨{g with asg:= ?_},Nat.le_add_right _ _⟩
    show (w.assigned.map _).length≤128
    rw [List.length_map]
    exact g.asg
   ·split
    ·exact self
    ·refine ⟨{g with asg:= ?_},Nat.le_add_right _ _⟩
     show (w.assigned ++ [_]).length≤128
     rw [List.length_append];simp only [List.length_cons,List.length_nil];omega
 |withdraw s host r=>
  unfold inWorld
  dsimp only
  split
  ·exact self
  ·split
   ·exact self
   ·refine ⟨{g with asg:= ?_},Nat.le_add_right _ _⟩
    exact Nat.le_trans (List.length_filter_le _ _) g.asg
 |rest s x=>
  unfold inWorld
  dsimp only
  split
  ·exact self
  ·exact ⟨{g with},Nat.le_add_right _ _⟩
 |tick t=>
  unfold inWorld
  dsimp only
  split
  ·exact self
  ·split
   ·exact self
   ·rename_i h1 h2
    obtain ⟨k1,k2,_⟩:=Ov g t.toNat (by omega)
    exact ⟨k1,by dsimp only;rw [k2];exact Nat.le_add_right _ _⟩
 |deliver k=>
  unfold inWorld
  dsimp only
  split
  ·exact self
  ·obtain ⟨k1,k2⟩:=ip g k.toNat
   exact ⟨k1,by dsimp only;omega⟩
 |lose k=>
  unfold inWorld
  dsimp only
  split
  ·exact self
  ·exact ⟨qO g _,Nat.le_add_right _ _⟩
 |double k=>
  unfold inWorld
  dsimp only
  split
  ·exact self
  ·split
   ·exact self
   ·rename_i h1 h2
    have hf:¬w.cap≤w.bag.length:=fun q=>h2 (by unfold full;exact decide_eq_true q)
    refine ⟨{g with bag:= ?_,msgs:= ?_},Nat.le_add_right _ _⟩
    ·show (w.bag ++ (w.bag[k.toNat]?).toList).length≤w.cap
     rw [List.length_append]
     cases e:w.bag[k.toNat]? with
     |none=>simp only [Option.toList,List.length_nil];omega
     |some u=>simp only [Option.toList,List.length_cons,List.length_nil];omega
    ·intro u hu
     rcases List.mem_append.mp hu with q|q
     ·exact g.msgs u q
     ·cases e:w.bag[k.toNat]? with
      |none=>rw [e] at q;cases q
      |some v=>
       rw [e] at q
       have ev:u=v:=by simpa [Option.toList] using q
       rw [ev]
       exact g.msgs v (List.mem_of_getElem? e)
 |flow m=>
  unfold inWorld
  dsimp only
  split
  ·exact self
  ·rename_i h1
   have hm:=bR.mp (by simpa using h1)
   obtain ⟨k1,k2⟩:=De m.toNat g
   exact ⟨k1,by dsimp only;omega⟩
 |forge r c host n kind s a hops marks=>
  unfold inWorld
  dsimp only
  split
  ·exact self
  ·split
   ·exact self
   ·split
    ·exact self
    ·split
     ·exact self
     ·split
      ·exact self
      ·rename_i h1 h2 h3 h4 h5
       simp only [Bool.not_eq_false,Bool.and_eq_true] at h1
       have hf:¬w.cap≤w.bag.length:=fun q=>h5 (by unfold full;exact decide_eq_true q)
       have hl:marks.length≤32:=by
        by_cases q:32 < marks.length
        ·exact absurd (.inr (.inl q)) h2
        ·omega
       have hk:=sX 16 marks (by omega)
       have hh:=bR.mp h1.2.2.2.2.2.2.2
       have hr:=(qP h1.1).2
       refine ⟨{g with bag:= ?_,msgs:= ?_},Nat.le_add_right _ _⟩
       ·show (w.bag ++ [_]).length≤w.cap
        rw [List.length_append];simp only [List.length_cons,List.length_nil];omega
       ·intro u hu
        rcases List.mem_append.mp hu with q|q
        ·exact g.msgs u q
        ·have e:=List.mem_singleton.mp q
         subst e
         refine ⟨(by show (marksIn marks).length≤32;omega),(by show hops.toNat≤16;omega),fun r' c' e=> ?_,fun s e=>(by cases e),.inl ⟨fun r e=>(by cases e),fun r c e=>(by cases e)⟩⟩
         cases e
         exact ⟨hr,(by show (marksIn marks).length≤16 + hops.toNat;omega)⟩
 |client host=>exact fj g fun i c hi=>self
 |written s host=>
  unfold inWorld
  dsimp only
  split <;>exact self
 |peek k=>
  unfold inWorld
  dsimp only
  split <;>exact self
 |path r c=>
  unfold inWorld
  dsimp only
  split <;>exact self
 |next=>exact self
 |state=>exact self
def Fx (n:Nat):Option World→Prop
 |none=>True
 |some w=>cp w∧w.written.length≤1000 * n
theorem Ow {n:Nat}{s:Option World}(g:Fx n s)(c:Call):Fx (n + 1) (Vbcnag.step s c).1:=by
 have same:Fx (n + 1) s:=by
  cases s with
  |none=>trivial
  |some w=>exact ⟨g.1,by have:=g.2;omega⟩
 have main:∀w,s=some w→Fx (n + 1) (some (inWorld w c).1):=fun w e=>by
  subst e
  have:=Il g.1 c
  have h2:=g.2
  exact ⟨this.1,by have:=this.2;omega⟩
 unfold Vbcnag.step
 split
 ·exact same
 ·split
  ·exact same
  ·rename_i n' cap t h
   simp only [Bool.not_eq_false,Bool.and_eq_true] at h
   have h1:=bR.mp h.1
   have h2:=bR.mp h.2.1
   have h3:=bR.mp h.2.2
   exact ⟨LF (by omega) (by omega) (by omega),Nat.zero_le _⟩
 ·split
  ·trivial
  ·exact main _ rfl
end Rl
namespace Rl
open PySem PySem.Spec PyProof.Rows L2
open Vbcnag (Mark Msg Under Offer Lease Client Relay Assigned Written)
abbrev VW:=Vbcnag.World
def nV (n:Nat):V:= .int (n:Int)
def oV:Option Nat→V
 |none=> .bY
 |some n=>nV n
structure Cs where
 R:Addr
 M:Addr
 C:Addr
 W:Addr
structure Cs.Ok (C:Cs):Prop where
 wc:C.W≠C.C
 wr:C.W≠C.R
 wm:C.W≠C.M
 cr:C.C≠C.R
 cm:C.C≠C.M
def Fix (C:Cs):HO→Prop
 | .tup _=>True
 | .ins c _ _=>c=C.R∨c=C.M
 |_=>False
def dX (C:Cs)(H H':Hp):Prop:=∀b o,Fix C o→H b=some o→H' b=some o
theorem dX.trans {C:Cs}{H H1 H2:Hp}(a:dX C H H1)(b:dX C H1 H2):dX C H H2:=fun c o f h=>b c o f (a c o f h)
theorem dX.tup {C:Cs}{H H':Hp}(k:dX C H H'){b:Addr}{xs:List V}(h:H b=some (.tup xs)):H' b=some (.tup xs):=k b _ trivial h
theorem dX.upd {C:Cs}{H:Hp}{a:Addr}{u o:HO}(h:H a=some u)(n:¬Fix C u):dX C H (upd H a o):=fun b x f e=>by
 rw [az (bh e h (fun q=>n (q ▸ f)))]
 exact e
def JX (H:Hp):Option Mark→V→Prop
 |none,v=>v= .bY
 |some m,v=>∃b,v= .ref b∧H b=some (.tup [nV m.relay,nV m.circuit])
def Ox (H:Hp):Option Offer→V→Prop
 |none,v=>v= .bY
 |some o,v=>∃b,v= .ref b∧H b=some (.tup [nV o.server,nV o.addr,nV o.len])
def Q2 (H:Hp):Option Lease→V→Prop
 |none,v=>v= .bY
 |some l,v=>∃b,v= .ref b∧H b=some (.tup [nV l.server,nV l.addr,nV l.half,nV l.late,nV l.till])
theorem JX.keep {C:Cs}{H H':Hp}(k:dX C H H'){p:Option Mark}{v:V}(h:JX H p v):JX H' p v:=by
 cases p with
 |none=>exact h
 |some m=>obtain ⟨b,e,q⟩:=h;exact ⟨b,e,k.tup q⟩
theorem Ox.keep {C:Cs}{H H':Hp}(k:dX C H H'){p:Option Offer}{v:V}(h:Ox H p v):Ox H' p v:=by
 cases p with
 |none=>exact h
 |some m=>obtain ⟨b,e,q⟩:=h;exact ⟨b,e,k.tup q⟩
theorem Q2.keep {C:Cs}{H H':Hp}(k:dX C H H'){p:Option Lease}{v:V}(h:Q2 H p v):Q2 H' p v:=by
 cases p with
 |none=>exact h
 |some m=>obtain ⟨b,e,q⟩:=h;exact ⟨b,e,k.tup q⟩
def rfs (p c l:V):List (Str×V):= [("parent",p),("circuit",c),("limit",l)]
def nR (C:Cs)(H:Hp)(a:Addr)(r:Relay):Prop:=∃d,H a=some (.ins C.R d (rfs (oV (r.above.map (·.relay))) (oV (r.above.map (·.circuit))) (nV r.limit)))
def dn (H:Hp)(m:Mark)(v:V):Prop:=∃b,v= .ref b∧H b=some (.tup [nV m.relay,nV m.circuit])
def dj:Vbcnag.Place→List V
 | .up r c=> [nV 0,nV r,nV c]
 | .server s=> [nV 1,nV s,nV 0]
 | .down r=> [nV 2,nV r,nV 0]
 | .circuit r c=> [nV 3,nV r,nV c]
def mfs (pl ho nu ki se ad le hp mk:V):List (Str×V):= [("place",pl),("host",ho),("number",nu),("kind",ki),("server",se),("address",ad),("length",le),("hops",hp),("marks",mk)]
def gM (C:Cs)(H:Hp)(a:Addr)(u:Under):Prop:=∃d p m xs,H a=some (.ins C.M d (mfs (.ref p) (nV u.msg.host) (nV u.msg.number) (nV u.msg.kind) (oV u.msg.server) (nV u.msg.addr) (nV u.msg.len) (nV u.msg.hops) (.ref m)))∧
 H p=some (.tup (dj u.place))∧H m=some (.tup xs)∧Paired (dn H) u.msg.marks xs
def cfs (ho pl ph co nu se tr du be le:V):List (Str×V):= [("host",ho),("plugged",pl),("phase",ph),("counter",co),("awaited",nu),("sent",se),("tries",tr),("due",du),("offer",be),("lease",le)]
def wC (c:Client)(pl be le:V):List (Str×V):=cfs (nV c.host) pl (nV c.phase) (nV c.counter) (nV c.number) (nV c.sent) (nV c.tries) (oV c.due) be le
structure Oy (H:Hp) (c:Client) (pl be le:V):Prop where
 pl:JX H c.place pl
 be:Ox H c.best be
 le:Q2 H c.lease le
def eP (C:Cs)(H:Hp)(a:Addr)(c:Client):Prop:=∃d pl be le,H a=some (.ins C.C d (wC c pl be le))∧Oy H c pl be le
theorem Oy.keep {C:Cs}{H H':Hp}(k:dX C H H'){c:Client}{pl be le:V}(h:Oy H c pl be le):Oy H' c pl be le:=⟨h.pl.keep k,h.be.keep k,h.le.keep k⟩
theorem nR.keep {C:Cs}{H H':Hp}(k:dX C H H'){a:Addr}{r:Relay}(h:nR C H a r):nR C H' a r:=by
 obtain ⟨d,e⟩:=h
 exact ⟨d,k a _ (.inl rfl) e⟩
theorem gM.keep {C:Cs}{H H':Hp}(k:dX C H H'){a:Addr}{u:Under}(h:gM C H a u):gM C H' a u:=by
 obtain ⟨d,p,m,xs,e1,e2,e3,e4⟩:=h
 exact ⟨d,p,m,xs,k a _ (.inr rfl) e1,k.tup e2,k.tup e3,Paired.cN e4 fun m v ⟨b,e,q⟩=>⟨b,e,k.tup q⟩⟩
theorem eP.keep {C:Cs}{H H':Hp}(k:dX C H H'){a:Addr}{c:Client}(e:∀o,H a=some o→H' a=some o)(h:eP C H a c):eP C H' a c:=by
 obtain ⟨d,pl,be,le,e1,r⟩:=h
 exact ⟨d,pl,be,le,e _ e1,r.keep k⟩
def wfs (no sv ca re hu cl rs ag wr bg:V):List (Str×V):= [("now",no),("servers",sv),("cap",ca),("relays",re),("hung",hu),("clients",cl),("resting",rs),("assigned",ag),("written",wr),("bag",bg)]
structure Ad where
 w:Addr
 dw:Addr
 rl:Addr
 hd:Addr
 cd:Addr
 rs:Addr
 ag:Addr
 wr:Addr
 bg:Addr
def Ad.fs (A:Ad)(now servers cap:Nat):List (Str×V):=wfs (nV now) (nV servers) (nV cap) (.ref A.rl) (.ref A.hd) (.ref A.cd) (.ref A.rs) (.ref A.ag) (.ref A.wr) (.ref A.bg)
def zK (a b:Nat):List Key:= [.inl (a:Int),.inl (b:Int)]
def df (a b c:Nat):List Key:= [.inl (a:Int),.inl (b:Int),.inl (c:Int)]
def gu (H:Hp)(p:List Key×V)(x:Assigned):Prop:=p.1=df x.server x.host x.relay∧∃b,p.2= .ref b∧H b=some (.tup [nV x.addr,nV x.len])
def bL (cas:List Addr)(cs:List Client):List (Key×V):=List.zipWith (fun a c=>((Sum.inl (c.host:Int):Key),V.ref a)) cas cs
def cC (l:List Written):List (List Key×V):=l.map fun x=>(df x.server x.host x.addr,nV x.till)
structure Rep (C:Cs) (H:Hp) (A:Ad) (cas:List Addr) (W:VW):Prop where
 cV:H A.w=some (.ins C.W A.dw (A.fs W.now W.servers W.cap))
 rl:∃ras:List Addr,H A.rl=some (.lst (ras.map V.ref))∧Paired (nR C H) ras W.relays
 hd:∃kvs,H A.hd=some (.dT kvs)∧kvs.length≤W.relays.length∧∀m:Mark,dz kvs (zK m.relay m.circuit)=(Vbcnag.below W m).map nV
 cd:H A.cd=some (.dK (bL cas W.clients))
 ca:Paired (eP C H) cas W.clients
 rs:∃bs:List Bool,H A.rs=some (.lst (bs.map V.bl))∧bs.length=W.servers∧∀ (s:Nat)(b:Bool),bs[s]?=some b→b=W.resting.contains s
 ag:∃kvs,H A.ag=some (.dT kvs)∧Paired (gu H) kvs W.assigned
 wr:H A.wr=some (.dT (cC W.written))
 bg:∃bas:List Addr,H A.bg=some (.lst (bas.map V.ref))∧Paired (gM C H) bas W.bag
 n1:A.rl≠A.rs∧A.rl≠A.bg∧A.rs≠A.bg
 n2:A.hd≠A.ag∧A.hd≠A.wr∧A.ag≠A.wr
 n3:cas.Nodup
 hn:(W.clients.map (·.host)).Nodup
def Ad.mut (A:Ad)(cas:List Addr)(b:Addr):Prop:=b=A.w∨b=A.rl∨b=A.hd∨b=A.cd∨b=A.rs∨b=A.ag∨b=A.wr∨b=A.bg∨b∈cas
def ez (A:Ad)(cas:List Addr)(H H':Hp):Prop:=∀b o,H b=some o→¬A.mut cas b→H' b=some o
theorem ez.refl {A:Ad}{cas:List Addr}{H:Hp}:ez A cas H H:=fun _ _ h _=>h
theorem ez.trans {A:Ad}{cas:List Addr}{H H1 H2:Hp}(a:ez A cas H H1)(b:ez A cas H1 H2):ez A cas H H2:=fun c o h n=>b c o (a c o h n) n
theorem ez.upd {A:Ad}{cas:List Addr}{H:Hp}{a:Addr}{o:HO}(h:A.mut cas a):ez A cas H (L2.upd H a o):=fun b x e n=>by
 rw [az (show b≠a from fun q=>n (by rw [q];exact h))]
 exact e
theorem Paired.at {α β:Type}{F:α→β→Prop}:∀ {l:List α}{m:List β}{i:Nat}{b:β},Paired F l m→m[i]?=some b→∃a,l[i]?=some a∧F a b
 |_,_,_,_,.nil,h=>by simp at h
 |_,_,0,_,.cons f _,h=>by
  have e:=Option.some.inj (show some _=some _ from h)
  exact ⟨_,rfl,e ▸ f⟩
 |_,_,i + 1,b,.cons _ t,h=>Paired.at (i:=i) t h
end Rl
namespace Rl
open PySem PySem.Spec PyProof.Rows L2
open Vbcnag (Mark Msg Under Offer Lease Client Relay Assigned Written)
theorem cT {α β:Type}{F:α→β→Prop}:∀ {l:List α}{m:List β},Paired F l m ↔ l.length=m.length∧∀ (i:Nat)(a:α)(b:β),l[i]?=some a→m[i]?=some b→F a b
 | [],[] =>⟨fun _=>⟨rfl,fun i a b h=>by simp at h⟩,fun _=> .nil⟩
 | [],b::m=>⟨fun h=>(nomatch h),fun h=>(by simp at h)⟩
 |a::l,[] =>⟨fun h=>(nomatch h),fun h=>(by simp at h)⟩
 |a::l,b::m=>by
  constructor
  ·intro h
   cases h with
   |cons q t=>
    obtain ⟨e,all⟩:=cT.mp t
    refine ⟨by simp [e],fun i x y h1 h2=> ?_⟩
    cases i with
    |zero=>
     have e1:a=x:=Option.some.inj h1
     have e2:b=y:=Option.some.inj h2
     exact e1 ▸ e2 ▸ q
    |succ i=>exact all i x y h1 h2
  ·rintro ⟨e,all⟩
   exact .cons (all 0 a b rfl rfl) (cT.mpr ⟨by simpa using e,fun i x y h1 h2=>all (i + 1) x y h1 h2⟩)
theorem Paired.AD {α β:Type}{F:α→β→Prop}{l:List α}{m:List β}{a:α}{b:β}(h:Paired F l m)(q:F a b):Paired F (l ++ [a]) (m ++ [b]):=Paired.snoc h q
theorem aj.ao {H:Hp}{a:Addr}{o:HO}(h:H a=none):aj H (L2.upd H a o):=fun b x e=>by
 rw [az (aI e h)]
 exact e
theorem aj.keep {C:Cs}{H H':Hp}(k:aj H H'):dX C H H':=fun b o _ e=>k b o e
theorem aj.ek {A:Ad}{cas:List Addr}{H H':Hp}(k:aj H H'):ez A cas H H':=fun b o e _=>k b o e
theorem gu.keep {C:Cs}{H H':Hp}(k:dX C H H'){p:List Key×V}{x:Assigned}(h:gu H p x):gu H' p x:=by
 obtain ⟨e,b,e2,q⟩:=h
 exact ⟨e,b,e2,k.tup q⟩
section
variable {C:Cs}{H H':Hp}{A:Ad}{cas:List Addr}{W:VW}
theorem Rep.same (R:Rep C H A cas W)(k:aj H H'):Rep C H' A cas W:=by
 have kk:dX C H H':=aj.keep k
 obtain ⟨ras,h1,h2⟩:=R.rl
 obtain ⟨kvs,h3,h4,h5⟩:=R.hd
 obtain ⟨bs,h6,h7⟩:=R.rs
 obtain ⟨ks,h8,h9⟩:=R.ag
 obtain ⟨bas,yB,IV⟩:=R.bg
 exact ⟨k _ _ R.cV,⟨ras,k _ _ h1,Paired.cN h2 fun a b f=>f.keep kk⟩,⟨kvs,k _ _ h3,h4,h5⟩,k _ _ R.cd,Paired.cN R.ca fun a b f=>f.keep kk (fun o e=>k _ _ e),⟨bs,k _ _ h6,h7⟩,⟨ks,k _ _ h8,Paired.cN h9 fun a b f=>f.keep kk⟩,k _ _ R.wr,
  ⟨bas,k _ _ yB,Paired.cN IV fun a b f=>f.keep kk⟩,R.n1,R.n2,R.n3,R.hn⟩
theorem LH {cas:List Addr}{cs:List Client}{i:Nat}{c c':Client}(h:cs[i]?=some c)(e:c'.host=c.host):bL cas (cs.set i c')=bL cas cs:=by
 unfold bL
 apply List.ext_getElem?
 intro j
 rw [List.getElem?_zipWith,List.getElem?_zipWith,List.getElem?_set]
 by_cases q:i=j
 ·subst q
  obtain ⟨hl,_⟩:=List.getElem?_eq_some_iff.mp h
  rw [if_pos rfl,if_pos hl,h]
  cases cas[i]? with
  |none=>rfl
  |some a=>show some _=some _;rw [e]
 ·rw [if_neg q]
theorem Rep.cli (R:Rep C H A cas W){i:Nat}{c:Client}(h:W.clients[i]?=some c):∃a,cas[i]?=some a∧eP C H a c:=Paired.at R.ca h
theorem Rep.gN (R:Rep C H A cas W){i:Nat}{c:Client}{a:Addr}(h:W.clients[i]?=some c)(ha:cas[i]?=some a):eP C H a c:=(cT.mp R.ca).2 i a c ha h
theorem Rep.setC (K:C.Ok)(R:Rep C H A cas W){i:Nat}{ca d:Addr}{c c':Client}{fs:List (Str×V)}{pl be le:V}(hi:cas[i]?=some ca)(hc:W.clients[i]?=some c)(hh:c'.host=c.host)(he:H ca=some (.ins C.C d fs))(hr:Oy H c' pl be le):
  Rep C (L2.upd H ca (.ins C.C d (wC c' pl be le))) A cas {W with clients:=W.clients.set i c'}:=by
 have nf:¬Fix C (.ins C.C d fs):=fun q=>by
  rcases q with q|q
  ·exact K.cr q
  ·exact K.cm q
 have kk:dX C H (L2.upd H ca (.ins C.C d (wC c' pl be le))):=dX.upd he nf
 have at_:∀ {b:Addr}{o:HO},H b=some o→o≠ .ins C.C d fs→L2.upd H ca (.ins C.C d (wC c' pl be le)) b=some o:=fun {b o} e n=>by
  rw [az (bh e he n)]
  exact e
 obtain ⟨ras,h1,h2⟩:=R.rl
 obtain ⟨kvs,h3,h4,h5⟩:=R.hd
 obtain ⟨bs,h6,h7⟩:=R.rs
 obtain ⟨ks,h8,h9⟩:=R.ag
 obtain ⟨bas,yB,IV⟩:=R.bg
 have P:=cT.mp R.ca
 refine ⟨at_ R.cV (fun q=> ?_),⟨ras,at_ h1 (fun q=>nomatch q),Paired.cN h2 fun a b f=>f.keep kk⟩,⟨kvs,at_ h3 (fun q=>nomatch q),h4,h5⟩,?_,?_,⟨bs,at_ h6 (fun q=>nomatch q),h7⟩,⟨ks,at_ h8 (fun q=>nomatch q),Paired.cN h9 fun a b f=>f.keep kk⟩,
  at_ R.wr (fun q=>nomatch q),⟨bas,at_ yB (fun q=>nomatch q),Paired.cN IV fun a b f=>f.keep kk⟩,R.n1,R.n2,R.n3,?_⟩
 ·injection q with q1
  exact K.wc q1
 ·show L2.upd H ca _ A.cd=some (.dK (bL cas (W.clients.set i c')))
  rw [LH hc hh]
  exact at_ R.cd (fun q=>nomatch q)
 ·refine cT.mpr ⟨by show cas.length=(W.clients.set i c').length;rw [List.length_set];exact P.1,fun j a b ha hb=> ?_⟩
  have ZA:(W.clients.set i c')[j]?=some b:=hb
  by_cases q:i=j
  ·subst q
   obtain ⟨hl,_⟩:=List.getElem?_eq_some_iff.mp hc
   rw [List.getElem?_set_self hl] at ZA
   have eb:=Option.some.inj ZA
   have ea:=Option.some.inj (hi.symm.trans ha)
   subst eb ea
   exact ⟨d,pl,be,le,ab,hr.keep kk⟩
  ·rw [List.getElem?_set_ne q] at ZA
   have na:a≠ca:=fun z=>q (Vd R.n3 hi (z ▸ ha))
   exact (P.2 j a b ha ZA).keep kk fun o e=>by rw [az na];exact e
 ·show ((W.clients.set i c').map (·.host)).Nodup
  rw [lQ hc hh]
  exact R.hn
theorem Rep.LI (R:Rep C H A cas W){bas:List Addr}{l:List Under}(h:Paired (gM C H) bas l):Rep C (L2.upd H A.bg (.lst (bas.map V.ref))) A cas {W with bag:=l}:=by
 obtain ⟨awt,yB,IV⟩:=R.bg
 have kk:dX C H (L2.upd H A.bg (.lst (bas.map V.ref))):=dX.upd yB (fun q=>q)
 have at_:∀ {b:Addr}{o:HO},H b=some o→b≠A.bg→L2.upd H A.bg (.lst (bas.map V.ref)) b=some o:=fun {b o} e n=>by
  rw [az n]
  exact e
 obtain ⟨ras,h1,h2⟩:=R.rl
 obtain ⟨kvs,h3,h4,h5⟩:=R.hd
 obtain ⟨bs,h6,h7⟩:=R.rs
 obtain ⟨ks,h8,h9⟩:=R.ag
 refine ⟨at_ R.cV (bh R.cV yB (fun q=>nomatch q)),⟨ras,at_ h1 R.n1.2.1,Paired.cN h2 fun a b f=>f.keep kk⟩,⟨kvs,at_ h3 (bh h3 yB (fun q=>nomatch q)),h4,h5⟩,at_ R.cd (bh R.cd yB (fun q=>nomatch q)),
  Paired.cN R.ca fun a b f=>f.keep kk fun o e=> ?_,⟨bs,at_ h6 R.n1.2.2,h7⟩,⟨ks,at_ h8 (bh h8 yB (fun q=>nomatch q)),Paired.cN h9 fun a b f=>f.keep kk⟩,at_ R.wr (bh R.wr yB (fun q=>nomatch q)),
  ⟨bas,ab,Paired.cN h fun a b f=>f.keep kk⟩,R.n1,R.n2,R.n3,R.hn⟩
 obtain ⟨d,pl,be,le,e1,_⟩:=f
 exact at_ e (bh e1 yB (fun q=>nomatch q))
theorem Rep.Q3 (K:C.Ok)(R:Rep C H A cas W)(t:Nat):Rep C (L2.upd H A.w (.ins C.W A.dw (A.fs t W.servers W.cap))) A cas {W with now:=t}:=by
 have h0:=R.cV
 have nf:¬Fix C (.ins C.W A.dw (A.fs W.now W.servers W.cap)):=fun q=>by
  rcases q with q|q
  ·exact K.wr q
  ·exact K.wm q
 have kk:dX C H (L2.upd H A.w (.ins C.W A.dw (A.fs t W.servers W.cap))):=dX.upd h0 nf
 have at_:∀ {b:Addr}{o:HO},H b=some o→o≠ .ins C.W A.dw (A.fs W.now W.servers W.cap)→L2.upd H A.w (.ins C.W A.dw (A.fs t W.servers W.cap)) b=some o:=fun {b o} e n=>by
  rw [az (bh e h0 n)]
  exact e
 obtain ⟨ras,h1,h2⟩:=R.rl
 obtain ⟨kvs,h3,h4,h5⟩:=R.hd
 obtain ⟨bs,h6,h7⟩:=R.rs
 obtain ⟨ks,h8,h9⟩:=R.ag
 obtain ⟨bas,yB,IV⟩:=R.bg
 refine ⟨ab,⟨ras,at_ h1 (fun q=>nomatch q),Paired.cN h2 fun a b f=>f.keep kk⟩,⟨kvs,at_ h3 (fun q=>nomatch q),h4,h5⟩,at_ R.cd (fun q=>nomatch q),
  Paired.cN R.ca fun a b f=>f.keep kk fun o e=> ?_,⟨bs,at_ h6 (fun q=>nomatch q),h7⟩,⟨ks,at_ h8 (fun q=>nomatch q),Paired.cN h9 fun a b f=>f.keep kk⟩,at_ R.wr (fun q=>nomatch q),
  ⟨bas,at_ yB (fun q=>nomatch q),Paired.cN IV fun a b f=>f.keep kk⟩,R.n1,R.n2,R.n3,R.hn⟩
 obtain ⟨d,pl,be,le,e1,_⟩:=f
 refine at_ e fun q=> ?_
 rw [e1] at e
 have e2:=Option.some.inj e
 rw [←e2] at q
 injection q with q1
 exact K.wc q1.symm
theorem Rep.Vm (R:Rep C H A cas W){kvs:List (List Key×V)}{l:List Assigned}(h:Paired (gu H) kvs l):Rep C (L2.upd H A.ag (.dT kvs)) A cas {W with assigned:=l}:=by
 obtain ⟨ks,h8,h9⟩:=R.ag
 have kk:dX C H (L2.upd H A.ag (.dT kvs)):=dX.upd h8 (fun q=>q)
 have at_:∀ {b:Addr}{o:HO},H b=some o→b≠A.ag→L2.upd H A.ag (.dT kvs) b=some o:=fun {b o} e n=>by
  rw [az n]
  exact e
 obtain ⟨ras,h1,h2⟩:=R.rl
 obtain ⟨LJ,h3,h4,h5⟩:=R.hd
 obtain ⟨bs,h6,h7⟩:=R.rs
 obtain ⟨bas,yB,IV⟩:=R.bg
 refine ⟨at_ R.cV (bh R.cV h8 (fun q=>nomatch q)),⟨ras,at_ h1 (bh h1 h8 (fun q=>nomatch q)),Paired.cN h2 fun a b f=>f.keep kk⟩,⟨LJ,at_ h3 R.n2.1,h4,h5⟩,at_ R.cd (bh R.cd h8 (fun q=>nomatch q)),
  Paired.cN R.ca fun a b f=>f.keep kk fun o e=> ?_,⟨bs,at_ h6 (bh h6 h8 (fun q=>nomatch q)),h7⟩,⟨kvs,ab,Paired.cN h fun a b f=>f.keep kk⟩,at_ R.wr (Ne.symm R.n2.2.2),
  ⟨bas,at_ yB (bh yB h8 (fun q=>nomatch q)),Paired.cN IV fun a b f=>f.keep kk⟩,R.n1,R.n2,R.n3,R.hn⟩
 obtain ⟨d,pl,be,le,e1,_⟩:=f
 exact at_ e (bh e1 h8 (fun q=>nomatch q))
theorem Rep.afZ (R:Rep C H A cas W)(l:List Written):Rep C (L2.upd H A.wr (.dT (cC l))) A cas {W with written:=l}:=by
 have h8:=R.wr
 have kk:dX C H (L2.upd H A.wr (.dT (cC l))):=dX.upd h8 (fun q=>q)
 have at_:∀ {b:Addr}{o:HO},H b=some o→b≠A.wr→L2.upd H A.wr (.dT (cC l)) b=some o:=fun {b o} e n=>by
  rw [az n]
  exact e
 obtain ⟨ras,h1,h2⟩:=R.rl
 obtain ⟨LJ,h3,h4,h5⟩:=R.hd
 obtain ⟨bs,h6,h7⟩:=R.rs
 obtain ⟨ks,hA,hB⟩:=R.ag
 obtain ⟨bas,yB,IV⟩:=R.bg
 refine ⟨at_ R.cV (bh R.cV h8 (fun q=>nomatch q)),⟨ras,at_ h1 (bh h1 h8 (fun q=>nomatch q)),Paired.cN h2 fun a b f=>f.keep kk⟩,⟨LJ,at_ h3 R.n2.2.1,h4,h5⟩,at_ R.cd (bh R.cd h8 (fun q=>nomatch q)),
  Paired.cN R.ca fun a b f=>f.keep kk fun o e=> ?_,⟨bs,at_ h6 (bh h6 h8 (fun q=>nomatch q)),h7⟩,⟨ks,at_ hA R.n2.2.2,Paired.cN hB fun a b f=>f.keep kk⟩,ab,
  ⟨bas,at_ yB (bh yB h8 (fun q=>nomatch q)),Paired.cN IV fun a b f=>f.keep kk⟩,R.n1,R.n2,R.n3,R.hn⟩
 obtain ⟨d,pl,be,le,e1,_⟩:=f
 exact at_ e (bh e1 h8 (fun q=>nomatch q))
theorem Rep.af0 (R:Rep C H A cas W){bs:List Bool}{l:List Nat}(hl:bs.length=W.servers)(h:∀ (s:Nat)(b:Bool),bs[s]?=some b→b=l.contains s):Rep C (L2.upd H A.rs (.lst (bs.map V.bl))) A cas {W with resting:=l}:=by
 obtain ⟨bs0,h6,h7⟩:=R.rs
 have kk:dX C H (L2.upd H A.rs (.lst (bs.map V.bl))):=dX.upd h6 (fun q=>q)
 have at_:∀ {b:Addr}{o:HO},H b=some o→b≠A.rs→L2.upd H A.rs (.lst (bs.map V.bl)) b=some o:=fun {b o} e n=>by
  rw [az n]
  exact e
 obtain ⟨ras,h1,h2⟩:=R.rl
 obtain ⟨LJ,h3,h4,h5⟩:=R.hd
 obtain ⟨ks,h8,h9⟩:=R.ag
 obtain ⟨bas,yB,IV⟩:=R.bg
 refine ⟨at_ R.cV (bh R.cV h6 (fun q=>nomatch q)),⟨ras,at_ h1 R.n1.1,Paired.cN h2 fun a b f=>f.keep kk⟩,⟨LJ,at_ h3 (bh h3 h6 (fun q=>nomatch q)),h4,h5⟩,at_ R.cd (bh R.cd h6 (fun q=>nomatch q)),
  Paired.cN R.ca fun a b f=>f.keep kk fun o e=> ?_,⟨bs,ab,hl,h⟩,⟨ks,at_ h8 (bh h8 h6 (fun q=>nomatch q)),Paired.cN h9 fun a b f=>f.keep kk⟩,at_ R.wr (bh R.wr h6 (fun q=>nomatch q)),
  ⟨bas,at_ yB (Ne.symm R.n1.2.2),Paired.cN IV fun a b f=>f.keep kk⟩,R.n1,R.n2,R.n3,R.hn⟩
 obtain ⟨d,pl,be,le,e1,_⟩:=f
 exact at_ e (bh e1 h6 (fun q=>nomatch q))
end
end Rl
namespace Rl
open PySem PySem.Spec PyProof.Rows L2
open Vbcnag (Mark Msg Under Offer Lease Client Relay Assigned Written)
def cs (t:ke):Cs:=⟨t.cb,t.aO,t.aT,t.bj⟩
section
variable {P:Program}{w:World}{K:PySem.W.Frag}{mg:Str→Option Value}{base:Heap}{t:ke}
theorem fI (T:Txt K mg t):(cs t).Ok:=⟨Ne.symm T.d4,Ne.symm T.eO,Ne.symm T.dR,Ne.symm T.d3,Ne.symm T.dh⟩
def af1 (C:Cs):Sp:=fun vs H Q _=>∃ (A:Ad)(cas:List Addr)(W:VW)(m:Addr)(u:Under),vs= [.ref A.w,.ref m] ∧Rep C H A cas W∧W.bag.length≤10000∧gM C H m u∧
 ∀H',Rep C H' A cas (Vbcnag.puts W [u]).1→ez A cas H H'→Q .bY H'
theorem JY {C:Cs}{H:Hp}{a:List Addr}{l:List Under}(h:Paired (gM C H) a l):(a.map V.ref).length=l.length:=by
 rw [List.length_map]
 exact Paired.length h
theorem Dg (T:Txt K mg t):bH P w K mg base fg 1 t.xi t.MB Mv (af1 (cs t)):=by
 refine T.B6.ok WA (fun vs H Q E h=> ?_) (fun dZ A0 outer s H vs Q E hr h=> ?_)
 ·obtain ⟨A,cas,W,m,u,rfl,_⟩:=h
  rfl
 ·obtain ⟨A,cas,W,m,u,rfl,R,hb,hm,k⟩:=h
  obtain ⟨bas,rm,yP⟩:=R.bg
  refine ⟨_,ak (br (aM oM (bc aW (by rfl) T.dN PySem.boot_len (aa (ai (pv 0) rfl) af)) (ai (pv 0) rfl) (aS _))
   (ak (aJ (iy PySem.F.plainAttrs_list PySem.F.slot_list_append PySem.F.type_list_append oN (ai (pv 0) rfl) (aa (pv 1) af)))) aY),?_⟩
  refine ⟨_,rfl,A.w,_,_,_,_,rfl,R.cV,T.aw,T.bo,rfl,A.bg,_,rfl,.inl (cK.of rm),_,rfl,A.w,_,_,_,_,rfl,R.cV,T.aw,T.ej,rfl,_,_,rfl,rfl,_,rfl,?_⟩
  have hlen:=JY yP
  have DT:decide (((bas.map V.ref).length:Int) < (W.cap:Int))=true ↔ W.bag.length < W.cap:=by
   rw [hlen,decide_eq_true_iff]
   omega
  refine eR (fun hc=> ?_) fun hc=> ?_
  ·have eA:=DT.mp hc
   refine ⟨_,rfl,A.w,_,_,_,_,rfl,R.cV,T.aw,T.bo,rfl,.inl ⟨rfl,_,cK.of rm⟩,_,rfl,A.bg,_,_,rfl,rfl,rm,(by rw [hlen];exact Nat.lt_of_le_of_lt hb (by decide)),?_⟩
   refine k _ ?_ (ez.upd (.inr (.inr (.inr (.inr (.inr (.inr (.inr (.inl rfl)))))))))
   rw [sU,if_pos eA]
   have:=R.LI (bas:=bas ++ [m]) (l:=W.bag ++ [u]) (Paired.AD yP hm)
   rw [List.map_append] at this
   exact this
  ·have hge:¬W.bag.length < W.cap:=fun q=>hc (DT.mpr q)
   refine k _ ?_ ez.refl
   rw [sU,if_neg hge]
   exact R
end
end Rl
namespace Rl
open PySem PySem.Spec PyProof.Rows L2
open Vbcnag (Mark Msg Under Offer Lease Client Relay Assigned Written)
theorem lt1000 {n:Nat}(h:Nat.blt n 1000=true):n < 1000:=by simpa [Nat.blt_eq] using h
section
variable {P:Program}{w:World}{K:PySem.W.Frag}{mg:Str→Option Value}{base:Heap}{t:ke}
def TX (C:Cs):Sp:=fun vs H Q _=>∃ (p d:Addr)(a b c:V),vs= [.ref p,a,b,c] ∧H p=some (.ins C.R d [])∧
 ∀H',H' p=some (.ins C.R d (rfs a b c))→(∀b o,H b=some o→b≠p→H' b=some o)→Q .bY H'
theorem JZ (T:Txt K mg t):bH P w K mg base fg 1 t.cY t.kf jZ (TX (cs t)):=by
 refine T.xu.ok D3 (fun vs H Q E h=> ?_) (fun dZ A0 outer s H vs Q E hr h=> ?_)
 ·obtain ⟨p,d,a,b,c,rfl,_⟩:=h
  rfl
 ·obtain ⟨p,d,a,b,c,rfl,hp,k⟩:=h
  refine ⟨_,ae (aQ (pv 0) (pv 1) rfl) (ae (aQ (pv 0) (pv 2) rfl) (ak (aQ (pv 0) (pv 3) rfl))),?_⟩
  refine ⟨_,rfl,_,rfl,p,_,d,_,rfl,hp,T.cn,T.a6,lt1000 rfl,_,rfl,_,rfl,p,_,d,_,rfl,ab,T.cn,T.bK,lt1000 rfl,_,rfl,_,rfl,p,_,d,_,rfl,ab,T.cn,T.de,lt1000 rfl,?_⟩
  exact k _ ab fun b o e hb=>by
   simp only [az hb]
   exact e
def af2 (C:Cs):Sp:=fun vs H Q _=>∃ (p d:Addr)(pl ho nu ki se ad le hp mk:V),vs= [.ref p,pl,ho,nu,ki,se,ad,le,hp,mk] ∧H p=some (.ins C.M d [])∧
 ∀H',H' p=some (.ins C.M d (mfs pl ho nu ki se ad le hp mk))→(∀b o,H b=some o→b≠p→H' b=some o)→Q .bY H'
theorem Im (T:Txt K mg t):bH P w K mg base fg 1 t.cu t.gY gT (af2 (cs t)):=by
 refine T.r6.ok AQ (fun vs H Q E h=> ?_) (fun dZ A0 outer s H vs Q E hr h=> ?_)
 ·obtain ⟨p,d,pl,ho,nu,ki,se,ad,le,hp,mk,rfl,_⟩:=h
  rfl
 ·obtain ⟨p,d,pl,ho,nu,ki,se,ad,le,hp,mk,rfl,h0,k⟩:=h
  refine ⟨_,ae (aQ (pv 0) (pv 1) rfl) (ae (aQ (pv 0) (pv 2) rfl) (ae (aQ (pv 0) (pv 3) rfl) (ae (aQ (pv 0) (pv 4) rfl) (ae (aQ (pv 0) (pv 5) rfl)
   (ae (aQ (pv 0) (pv 6) rfl) (ae (aQ (pv 0) (pv 7) rfl) (ae (aQ (pv 0) (pv 8) rfl) (ak (aQ (pv 0) (pv 9) rfl))))))))),?_⟩
  refine ⟨_,rfl,_,rfl,p,_,d,_,rfl,h0,T.au,T.aD,lt1000 rfl,_,rfl,_,rfl,p,_,d,_,rfl,ab,T.au,T.bA,lt1000 rfl,_,rfl,_,rfl,p,_,d,_,rfl,ab,T.au,T.bM,lt1000 rfl,
   _,rfl,_,rfl,p,_,d,_,rfl,ab,T.au,T.bB,lt1000 rfl,_,rfl,_,rfl,p,_,d,_,rfl,ab,T.au,T.a3,lt1000 rfl,_,rfl,_,rfl,p,_,d,_,rfl,ab,T.au,T.a4,lt1000 rfl,
   _,rfl,_,rfl,p,_,d,_,rfl,ab,T.au,T.a9,lt1000 rfl,_,rfl,_,rfl,p,_,d,_,rfl,ab,T.au,T.bu,lt1000 rfl,_,rfl,_,rfl,p,_,d,_,rfl,ab,T.au,T.aR,lt1000 rfl,?_⟩
  exact k _ ab fun b o e hb=>by
   simp only [az hb]
   exact e
def Q4 (C:Cs):Sp:=fun vs H Q _=>∃ (p d:Addr)(h:Nat),vs= [.ref p,nV h] ∧H p=some (.ins C.C d [])∧
 ∀H',H' p=some (.ins C.C d (wC {host:=h} .bY .bY .bY))→(∀b o,H b=some o→b≠p→H' b=some o)→Q .bY H'
theorem Oz (T:Txt K mg t):bH P w K mg base fg 1 t.cF t.iY iR (Q4 (cs t)):=by
 refine T.u7.ok BV (fun vs H Q E h=> ?_) (fun dZ A0 outer s H vs Q E hr h=> ?_)
 ·obtain ⟨p,d,h,rfl,_⟩:=h
  rfl
 ·obtain ⟨p,d,ho,rfl,h0,k⟩:=h
  obtain ⟨uO,mO,rO⟩:=T.Fm
  refine ⟨_,ae (aQ (pv 0) (pv 1) rfl) (ae (aQ (pv 0) eU rfl) (ae (aQ (pv 0) (aE (by rfl) mO rO) rfl) (ae (aQ (pv 0) ah rfl) (ae (aQ (pv 0) ah rfl)
   (ae (aQ (pv 0) ah rfl) (ae (aQ (pv 0) ah rfl) (ae (aQ (pv 0) eU rfl) (ae (aQ (pv 0) eU rfl) (ak (aQ (pv 0) eU rfl)))))))))),?_⟩
  refine ⟨_,rfl,_,rfl,p,_,d,_,rfl,h0,T.aq,T.dS,lt1000 rfl,_,rfl,p,_,d,_,rfl,ab,T.aq,T.aP,lt1000 rfl,_,rfl,p,_,d,_,rfl,ab,T.aq,T.aH,lt1000 rfl,
   _,rfl,p,_,d,_,rfl,ab,T.aq,T.bw,lt1000 rfl,_,rfl,p,_,d,_,rfl,ab,T.aq,T.bD,lt1000 rfl,_,rfl,p,_,d,_,rfl,ab,T.aq,T.bT,lt1000 rfl,
   _,rfl,p,_,d,_,rfl,ab,T.aq,T.aV,lt1000 rfl,_,rfl,p,_,d,_,rfl,ab,T.aq,T.bp,lt1000 rfl,_,rfl,p,_,d,_,rfl,ab,T.aq,T.a7,lt1000 rfl,_,rfl,p,_,d,_,rfl,ab,T.aq,T.aK,lt1000 rfl,?_⟩
  exact k _ ab fun b o e hb=>by
   simp only [az hb]
   exact e
end
end Rl
namespace Rl
open PySem PySem.Spec PyProof.Rows L2
open Vbcnag (Mark Msg Under Offer Lease Client Relay Assigned Written)
def iz (now:Nat)(c:Client):Client:={c with counter:=c.counter + 1,number:=c.counter + 1,sent:=now}
def J0 (c:Client)(kind:Nat)(sv:Option Nat)(addr:Nat):Msg:={host:=c.host,number:=c.counter + 1,kind:=kind,server:=sv,addr:=addr}
def yC (W:VW)(i:Nat)(c:Client)(kind:Nat)(sv:Option Nat)(addr:Nat):VW:=
 (Vbcnag.puts {W with clients:=W.clients.set i (iz W.now c)} (Vbcnag.outOf (iz W.now c) [J0 c kind sv addr])).1
theorem Ad.iA {A:Ad}{cas:List Addr}{i:Nat}{ca:Addr}(h:cas[i]?=some ca):A.mut cas ca:= .inr (.inr (.inr (.inr (.inr (.inr (.inr (.inr (List.mem_of_getElem? h))))))))
section
variable {P:Program}{w:World}{K:PySem.W.Frag}{mg:Str→Option Value}{base:Heap}{t:ke}
def YC (C:Cs):Sp:=fun vs H Q _=>∃ (A:Ad)(cas:List Addr)(W:VW)(i:Nat)(ca:Addr)(c:Client)(kind:Nat)(sv:Option Nat)(addr:Nat),
 vs= [.ref A.w,.ref ca,nV kind,oV sv,nV addr] ∧Rep C H A cas W∧W.bag.length≤10000∧cas[i]?=some ca∧W.clients[i]?=some c∧
 ∀H',Rep C H' A cas (yC W i c kind sv addr)→ez A cas H H'→Q .bY H'
theorem Bp (T:Txt K mg t):bH P w K mg base fg 3 t.pJ t.G0 GA (YC (cs t)):=by
 refine T.zc.ok Mw (fun vs H Q E h=> ?_) (fun dZ A0 outer s H vs Q E hr h=> ?_)
 ·obtain ⟨A,cas,W,i,ca,c,kind,sv,addr,rfl,_⟩:=h
  rfl
 ·obtain ⟨A,cas,W,i,ca,c,kind,sv,addr,rfl,R,hb,hi,hc,k⟩:=h
  have J1:gO 1 _:=hr.mono (by decide)
  have CK:=fI T
  obtain ⟨uU,mU,rU⟩:=T.QP
  obtain ⟨d,pl,be,le,dt,dY⟩:=R.gN hc hi
  have nwc:A.w≠ca:=bh R.cV dt (fun q=>CK.wc (by injection q))
  refine ⟨_,ae (NH (pv 1) ah VU) (ae (aQ (pv 1) (ai (pv 1) rfl) rfl) (ae (aQ (pv 1) (ai (pv 0) rfl) rfl)
   (ak (br (cq (gR (ai (pv 1) rfl)))
    (ae (aZ (i:=5) Mw.nd rfl (Or.inl rfl) (b0 (aa (aE (by rfl) mU rU) (aa (aG bq (ai (pv 1) rfl) ah (fun _ _=>rfl)) (aa (aG bq (ai (pv 1) rfl) ah (fun _ _=>rfl)) af)))))
     (ak (aJ (aB (Dg T) J1 (by rfl) T.Fc T.B6.kp T.Fd .nil aX (aa (pv 0) (aa (mx T.fc (Im T) hr (by rfl) T.o5 T.fF .nil aX
      (aa (pv 5) (aa (ai (pv 1) rfl) (aa (ai (pv 1) rfl) (aa (pv 2) (aa (pv 3) (aa (pv 4) (aa ah (aa ah (aa (b0 af) af)))))))))) af)))))) aY)))),?_⟩
  refine ⟨_,rfl,ca,_,d,_,_,rfl,dt,T.aq,T.bw,rfl,_,_,rfl,rfl,d,_,dt,lt1000 rfl,?_⟩
  refine ⟨_,rfl,ca,_,d,_,_,rfl,ab,T.aq,T.bw,rfl,_,rfl,ca,_,d,_,rfl,ab,T.aq,T.bD,lt1000 rfl,?_⟩
  refine ⟨_,rfl,A.w,_,_,_,_,rfl,(by rw [az nwc,az nwc];exact R.cV),T.aw,T.a8,rfl,_,rfl,ca,_,d,_,rfl,ab,T.aq,T.bT,lt1000 rfl,?_⟩
  rw [cJ,cJ]
  generalize DU:L2.upd H ca _=H1
  have hH:L2.upd H ca (.ins (cs t).C d (wC (iz W.now c) pl be le))=H1:=DU
  have R1:Rep (cs t) H1 A cas {W with clients:=W.clients.set i (iz W.now c)}:=by
   rw [←hH]
   exact R.setC CK hi hc rfl dt ⟨dY.pl,dY.be,dY.le⟩
  have F1:ez A cas H H1:=by
   rw [←hH]
   exact ez.upd (Ad.iA hi)
  have DT:H1 ca=some (.ins (cs t).C d (wC (iz W.now c) pl be le)):=by
   rw [←hH]
   exact ab
  have OA:JX H1 c.place pl:=by
   obtain ⟨_,_,_,_,e1,q⟩:=R1.gN (c:=iz W.now c) (by rw [List.getElem?_set_self (List.getElem?_eq_some_iff.mp hc).1]) hi
   rw [DT] at e1
   injection e1 with e1
   injection e1 with _ _ e1
   injection e1 with _ e1
   injection e1 with e1 _
   injection e1 with _ e1
   rw [e1]
   exact q.pl
  clear hH DU
  refine ⟨_,rfl,ca,_,d,_,_,rfl,DT,T.aq,T.aP,rfl,_,rfl,?_⟩
  cases eD:c.place with
  |none=>
   rw [eD] at OA
   have e:pl= .bY:=OA
   subst e
   refine bQ ?_
   refine k _ ?_ F1
   unfold yC Vbcnag.outOf
   rw [show (iz W.now c).place=none from eD]
   exact R1
  |some m=>
   rw [eD] at OA
   obtain ⟨b,e,Q5⟩:=OA
   subst e
   refine bI ?_
   refine ⟨_,rfl,ca,_,d,_,_,rfl,DT,T.aq,T.aP,rfl,b,_,_,_,rfl,rfl,bO.of Q5,rfl,_,rfl,ca,_,d,_,_,rfl,DT,T.aq,T.aP,rfl,b,_,_,_,rfl,rfl,bO.of Q5,rfl,(by show 3≤sizeLine;decide),fun q hq=> ?_⟩
   have S2:=aj.ao (o:=HO.tup [V.int 0,nV m.relay,nV m.circuit]) hq
   refine ⟨_,rfl,_,rfl,_,rfl,ca,_,d,_,_,rfl,S2 _ _ DT,T.aq,T.dS,rfl,_,rfl,ca,_,d,_,_,rfl,S2 _ _ DT,T.aq,T.bw,rfl,_,rfl,_,rfl,_,rfl,(by show 0≤sizeLine;decide),fun z hz=> ?_⟩
   have S3:=aj.ao (o:=HO.tup []) hz
   intro x dx nx OB ZC
   refine ⟨x,dx,_,_,_,_,_,_,_,_,_,rfl,ab,fun H5 h5 k5=>⟨rfl,?_⟩⟩
   have S5:=aj.made nx OB k5
   have YD:=(S2.trans S3).trans S5
   have hq5:=S5 _ _ (S3 _ _ (ab (H:=H1) (a:=q) (o:=HO.tup [V.int 0,nV m.relay,nV m.circuit])))
   have hz5:=S5 _ _ (ab (H:=L2.upd H1 q (HO.tup [V.int 0,nV m.relay,nV m.circuit])) (a:=z) (o:=HO.tup []))
   refine ⟨A,cas,{W with clients:=W.clients.set i (iz W.now c)},x,{place:= .up m.relay m.circuit,msg:=J0 c kind sv addr},rfl,R1.same YD,hb,⟨dx,q,z,[],h5,hq5,hz5,.nil⟩,fun H6 R6 F6=> ?_⟩
   refine k _ ?_ ((F1.trans (aj.ek YD)).trans F6)
   unfold yC Vbcnag.outOf
   rw [show (iz W.now c).place=some m from eD]
   exact R6
end
end Rl
namespace Rl
open PySem PySem.Spec PyProof.Rows L2
open Vbcnag (Mark Msg Under Offer Lease Client Relay Assigned Written)
theorem Dh (W:VW)(i:Nat)(c:Client)(kind:Nat)(sv:Option Nat)(addr:Nat):
  yC W i c kind sv addr={W with clients:=W.clients.set i (iz W.now c),bag:=W.bag ++ (Vbcnag.outOf c [J0 c kind sv addr]).take (W.cap - W.bag.length)}:=by
 unfold yC
 rw [gf]
 rfl
theorem J2 {c d:Client}(h:c.place=d.place)(l:List Msg):Vbcnag.outOf c l=Vbcnag.outOf d l:=by
 unfold Vbcnag.outOf
 rw [h]
theorem uL {W:VW}{i:Nat}{c:Client}{y:Vbcnag.Done}(nd:(W.clients.map (·.host)).Nodup)(hc:W.clients[i]?=some c)(hh:y.1.host=c.host):
  Vbcnag.done W y={W with clients:=W.clients.set i y.1,bag:=W.bag ++ (Vbcnag.outOf y.1 y.2).take (W.cap - W.bag.length)}:=by
 unfold Vbcnag.done
 rw [gf,bX nd hc hh]
theorem OC {W:VW}{i:Nat}{c c1 c3:Client}{y:Vbcnag.Done}{kind addr:Nat}{sv:Option Nat}(nd:(W.clients.map (·.host)).Nodup)(hc:W.clients[i]?=some c)(e1:y.1=c3)(hh:c3.host=c.host)(hp:c1.place=c3.place)(e2:y.2= [J0 c1 kind sv addr]):
  {yC {W with clients:=W.clients.set i c1} i c1 kind sv addr with clients:=(yC {W with clients:=W.clients.set i c1} i c1 kind sv addr).clients.set i c3}=Vbcnag.done W y:=by
 rw [uL nd hc (by rw [e1];exact hh),Dh,e1,e2,J2 hp]
 simp only [List.set_set]
theorem Bq {W:VW}{l:List Client}(h:W.bag.length≤10000):({W with clients:=l}:VW).bag.length≤10000:=h
theorem jU {l:List Client}{i:Nat}{c d:Client}(h:l[i]?=some c):(l.set i d)[i]?=some d:=List.getElem?_set_self (List.getElem?_eq_some_iff.mp h).1
theorem Rep.due {C:Cs}{H2:Hp}{A:Ad}{cas:List Addr}{W:VW}{i:Nat}{ca:Addr}{c c1:Client}{kind addr:Nat}{sv:Option Nat}(CK:C.Ok)(R2:Rep C H2 A cas (yC {W with clients:=W.clients.set i c1} i c1 kind sv addr))
  (nd:(W.clients.map (·.host)).Nodup)(hc:W.clients[i]?=some c)(hi:cas[i]?=some ca)(x:Nat)(y:Vbcnag.Done)(e1:y.1={iz W.now c1 with due:=some x})(hh:c1.host=c.host)(e2:y.2= [J0 c1 kind sv addr]):
  ∃d2 TY TZ T1,H2 ca=some (.ins C.C d2 (wC (iz W.now c1) TY TZ T1))∧eP C H2 ca (iz W.now c1)∧H2 A.w=some (.ins C.W A.dw (A.fs W.now W.servers W.cap))∧
   Rep C (L2.upd H2 ca (.ins C.C d2 (wC {iz W.now c1 with due:=some x} TY TZ T1))) A cas (Vbcnag.done W y):=by
 have hc2:(yC {W with clients:=W.clients.set i c1} i c1 kind sv addr).clients[i]?=some (iz W.now c1):=by
  rw [Dh]
  exact jU (jU hc)
 have hw:=R2.cV
 rw [Dh] at hw
 have CA:=R2.gN hc2 hi
 obtain ⟨d2,TY,TZ,T1,zL,YE⟩:=id CA
 refine ⟨d2,TY,TZ,T1,zL,CA,hw,?_⟩
 have R3:=R2.setC CK (c':={iz W.now c1 with due:=some x}) hi hc2 rfl zL ⟨YE.pl,YE.be,YE.le⟩
 have E:=OC (c1:=c1) (c3:={iz W.now c1 with due:=some x}) nd hc e1 hh rfl e2
 rw [←E]
 exact R3
theorem Q6:∀n:Nat,n≤10→Jd [V.int 3,V.int 7,V.int 15,V.int 31,V.int 63,V.int 63,V.int 63,V.int 63,V.int 63,V.int 63,V.int 63] (n:Int)=some (nV (min 64 (4 * 2 ^ n) - 1))
 |0,_=>rfl
 |1,_=>rfl
 |2,_=>rfl
 |3,_=>rfl
 |4,_=>rfl
 |5,_=>rfl
 |6,_=>rfl
 |7,_=>rfl
 |8,_=>rfl
 |9,_=>rfl
 |10,_=>rfl
 |n + 11,h=>absurd h (by omega)
section
variable {P:Program}{w:World}{K:PySem.W.Frag}{mg:Str→Option Value}{base:Heap}{t:ke}
def YF (C:Cs):Sp:=fun vs H Q _=>∃ (ca:Addr)(c:Client),vs= [.ref ca] ∧eP C H ca c∧c.tries≤10∧Q (nV (Vbcnag.wait c.tries c.counter)) H
theorem Io (T:Txt K mg t):bH P w K mg base fg 1 t.fW t.tW tM (YF (cs t)):=by
 refine T.o7.ok K6 (fun vs H Q E h=> ?_) (fun dZ A0 outer s H vs Q E hr h=> ?_)
 ·obtain ⟨ca,c,rfl,_⟩:=h
  rfl
 ·obtain ⟨ca,c,rfl,⟨d,pl,be,le,dt,dY⟩,ht,k⟩:=h
  refine ⟨_,ak (aL (cO eB (aG bq (aE (v:= .ref t.kE) (by rfl) T.ML rfl) (ai (pv 0) rfl) (fun _ _=>rfl)) (cO Py (ai (pv 0) rfl) ah))),?_⟩
  refine ⟨_,rfl,ca,_,d,_,_,rfl,dt,T.aq,T.aV,rfl,t.kE,_,_,_,rfl,rfl,T.MM H,Q6 _ ht,_,rfl,ca,_,d,_,_,rfl,dt,T.aq,T.bw,rfl,_,_,rfl,rfl,(by show (0:Int) < 3;decide),_,_,rfl,rfl,?_⟩
  have e:(V.int (((min 64 (4 * 2 ^ c.tries) - 1:Nat):Int) + (c.counter:Int) % 3))=nV (Vbcnag.wait c.tries c.counter):=congrArg V.int (by unfold Vbcnag.wait;omega)
  show Q (V.int (((min 64 (4 * 2 ^ c.tries) - 1:Nat):Int) + (c.counter:Int) % 3)) H
  rw [e]
  exact k
def YG (C:Cs):Sp:=fun vs H Q _=>∃ (A:Ad)(cas:List Addr)(W:VW)(i:Nat)(ca:Addr)(c:Client)(n:Nat),
 vs= [.ref A.w,.ref ca,nV n] ∧Rep C H A cas W∧W.bag.length≤10000∧cas[i]?=some ca∧W.clients[i]?=some c∧n≤10∧
 ∀H',Rep C H' A cas (Vbcnag.done W (Vbcnag.seek W.now n c))→ez A cas H H'→Q .bY H'
theorem yD (T:Txt K mg t):bH P w K mg base fg 4 t.pK t.G2 GB (YG (cs t)):=by
 refine T.vU.ok TF (fun vs H Q E h=> ?_) (fun dZ A0 outer s H vs Q E hr h=> ?_)
 ·obtain ⟨A,cas,W,i,ca,c,n,rfl,_⟩:=h
  rfl
 ·obtain ⟨A,cas,W,i,ca,c,n,rfl,R,hb,hi,hc,hn,k⟩:=h
  have J1:gO 1 _:=hr.mono (by decide)
  have CK:=fI T
  obtain ⟨u1,m1,r1⟩:=T.Bf
  obtain ⟨u2,m2,r2⟩:=T.zm
  obtain ⟨d,pl,be,le,dt,dY⟩:=R.gN hc hi
  refine ⟨_,ae (aQ (pv 1) eU rfl) (ae (aQ (pv 1) eU rfl) (ae (aQ (pv 1) (aE (by rfl) m1 r1) rfl) (ae (aQ (pv 1) (pv 2) rfl)
   (ae (aJ (aB (Bp T) hr (by rfl) T.Ca T.zc.kp T.Cb .nil aX (aa (pv 0) (aa (pv 1) (aa (aE (by rfl) m2 r2) (aa eU (aa ah af)))))))
   (ak (aQ (pv 1) (cO eB (ai (pv 0) rfl) (aB (Io T) J1 (by rfl) T.ud T.o7.kp T.ue .nil aX (aa (pv 1) af))) rfl)))))),?_⟩
  refine ⟨_,rfl,ca,_,d,_,rfl,dt,T.aq,T.a7,lt1000 rfl,_,rfl,ca,_,d,_,rfl,ab,T.aq,T.aK,lt1000 rfl,_,rfl,ca,_,d,_,rfl,ab,T.aq,T.aH,lt1000 rfl,
   _,rfl,_,rfl,ca,_,d,_,rfl,ab,T.aq,T.aV,lt1000 rfl,?_⟩
  rw [cJ,cJ,cJ]
  generalize DU:L2.upd H ca _=H1
  have hH:L2.upd H ca (.ins (cs t).C d (wC {c with best:=none,lease:=none,phase:=1,tries:=n} pl .bY .bY))=H1:=DU
  have R1:Rep (cs t) H1 A cas {W with clients:=W.clients.set i {c with best:=none,lease:=none,phase:=1,tries:=n} }:=by
   rw [←hH]
   exact R.setC CK hi hc rfl dt ⟨dY.pl,rfl,rfl⟩
  have F1:ez A cas H H1:=by
   rw [←hH]
   exact ez.upd (Ad.iA hi)
  clear hH DU
  refine ⟨_,rfl,_,rfl,A,cas,{W with clients:=W.clients.set i {c with best:=none,lease:=none,phase:=1,tries:=n} },i,ca,{c with best:=none,lease:=none,phase:=1,tries:=n},1,none,0,rfl,R1,Bq hb,hi,jU hc,fun H2 R2 F2=> ?_⟩
  obtain ⟨d2,TY,TZ,T1,zL,CA,OD,R3⟩:=Rep.due CK R2 R.hn hc hi (W.now + Vbcnag.wait n (c.counter + 1)) (Vbcnag.seek W.now n c) rfl rfl rfl
  refine ⟨_,rfl,A.w,_,_,_,_,rfl,OD,T.aw,T.a8,rfl,_,rfl,ca,_,rfl,CA,hn,_,_,rfl,rfl,_,rfl,ca,_,d2,_,rfl,zL,T.aq,T.bp,lt1000 rfl,?_⟩
  exact k _ R3 ((F1.trans F2).trans (ez.upd (Ad.iA hi)))
end
end Rl
namespace Rl
open PySem PySem.Spec PyProof.Rows L2
open Vbcnag (Mark Msg Under Offer Lease Client Relay Assigned Written)
section
variable {P:Program}{w:World}{K:PySem.W.Frag}{mg:Str→Option Value}{base:Heap}{t:ke}
def af3 (C:Cs):Sp:=fun vs H Q _=>∃ (A:Ad)(cas:List Addr)(W:VW)(i:Nat)(ca:Addr)(c:Client)(n:Nat)(o:Offer),
 vs= [.ref A.w,.ref ca,nV n] ∧Rep C H A cas W∧W.bag.length≤10000∧cas[i]?=some ca∧W.clients[i]?=some c∧n≤10∧c.best=some o∧
 ∀H',Rep C H' A cas (Vbcnag.done W (Vbcnag.askFor W.now n o c))→ez A cas H H'→Q .bY H'
theorem Q7 (T:Txt K mg t):bH P w K mg base fg 4 t.xj t.MC Mx (af3 (cs t)):=by
 refine T.MF.ok WD (fun vs H Q E h=> ?_) (fun dZ A0 outer s H vs Q E hr h=> ?_)
 ·obtain ⟨A,cas,W,i,ca,c,n,o,rfl,_⟩:=h
  rfl
 ·obtain ⟨A,cas,W,i,ca,c,n,o,rfl,R,hb,hi,hc,hn,ho,k⟩:=h
  have J1:gO 1 _:=hr.mono (by decide)
  have CK:=fI T
  obtain ⟨u1,m1,r1⟩:=T.Ct
  obtain ⟨u2,m2,r2⟩:=T.sG
  obtain ⟨d,pl,be,le,dt,dY⟩:=R.gN hc hi
  have IT:=dY.be
  rw [ho] at IT
  obtain ⟨b,e,Gw⟩:=IT
  subst e
  refine ⟨_,ae (aQ (pv 1) (aE (by rfl) m1 r1) rfl) (ae (aQ (pv 1) (pv 2) rfl)
   (ae (aJ (aB (Bp T) hr (by rfl) T.Ca T.zc.kp T.Cb .nil aX (aa (pv 0) (aa (pv 1) (aa (aE (by rfl) m2 r2) (aa (aG bq (ai (pv 1) rfl) ah (fun _ _=>rfl)) (aa (aG bq (ai (pv 1) rfl) ah (fun _ _=>rfl)) af)))))))
   (ak (aQ (pv 1) (cO eB (ai (pv 0) rfl) (aB (Io T) J1 (by rfl) T.ud T.o7.kp T.ue .nil aX (aa (pv 1) af))) rfl)))),?_⟩
  refine ⟨_,rfl,ca,_,d,_,rfl,dt,T.aq,T.aH,lt1000 rfl,_,rfl,_,rfl,ca,_,d,_,rfl,ab,T.aq,T.aV,lt1000 rfl,?_⟩
  rw [cJ]
  generalize DU:L2.upd H ca _=H1
  have hH:L2.upd H ca (.ins (cs t).C d (wC {c with phase:=2,tries:=n} pl (.ref b) le))=H1:=DU
  have R1:Rep (cs t) H1 A cas {W with clients:=W.clients.set i {c with phase:=2,tries:=n} }:=by
   rw [←hH]
   exact R.setC CK hi hc rfl dt ⟨dY.pl,dY.be,dY.le⟩
  have F1:ez A cas H H1:=by
   rw [←hH]
   exact ez.upd (Ad.iA hi)
  have DT:H1 ca=some (.ins (cs t).C d (wC {c with phase:=2,tries:=n} pl (.ref b) le)):=by
   rw [←hH]
   exact ab
  have Q5:H1 b=some (.tup [nV o.server,nV o.addr,nV o.len]):=by
   rw [←hH,az (bh Gw dt (fun q=>nomatch q))]
   exact Gw
  clear hH DU
  refine ⟨_,rfl,_,rfl,_,rfl,ca,_,d,_,_,rfl,DT,T.aq,T.a7,rfl,b,_,_,_,rfl,rfl,bO.of Q5,rfl,_,rfl,ca,_,d,_,_,rfl,DT,T.aq,T.a7,rfl,b,_,_,_,rfl,rfl,bO.of Q5,rfl,
   A,cas,{W with clients:=W.clients.set i {c with phase:=2,tries:=n} },i,ca,{c with phase:=2,tries:=n},3,some o.server,o.addr,rfl,R1,Bq hb,hi,jU hc,fun H2 R2 F2=> ?_⟩
  obtain ⟨d2,TY,TZ,T1,zL,CA,OD,R3⟩:=Rep.due CK R2 R.hn hc hi (W.now + Vbcnag.wait n (c.counter + 1)) (Vbcnag.askFor W.now n o c) rfl rfl rfl
  refine ⟨_,rfl,A.w,_,_,_,_,rfl,OD,T.aw,T.a8,rfl,_,rfl,ca,_,rfl,CA,hn,_,_,rfl,rfl,_,rfl,ca,_,d2,_,rfl,zL,T.aq,T.bp,lt1000 rfl,?_⟩
  exact k _ R3 ((F1.trans F2).trans (ez.upd (Ad.iA hi)))
def YH (C:Cs):Sp:=fun vs H Q _=>∃ (A:Ad)(cas:List Addr)(W:VW)(i:Nat)(ca:Addr)(c:Client)(n:Nat)(l:Lease),
 vs= [.ref A.w,.ref ca,nV n] ∧Rep C H A cas W∧W.bag.length≤10000∧cas[i]?=some ca∧W.clients[i]?=some c∧n≤10∧c.lease=some l∧
 ∀H',Rep C H' A cas (Vbcnag.done W (Vbcnag.comeBack W.now n l c))→ez A cas H H'→Q .bY H'
theorem MY (T:Txt K mg t):bH P w K mg base fg 4 t.d8 t.mM mB (YH (cs t)):=by
 refine T.mW.ok GC (fun vs H Q E h=> ?_) (fun dZ A0 outer s H vs Q E hr h=> ?_)
 ·obtain ⟨A,cas,W,i,ca,c,n,o,rfl,_⟩:=h
  rfl
 ·obtain ⟨A,cas,W,i,ca,c,n,o,rfl,R,hb,hi,hc,hn,ho,k⟩:=h
  have J1:gO 1 _:=hr.mono (by decide)
  have CK:=fI T
  obtain ⟨u1,m1,r1⟩:=T.hW
  obtain ⟨u2,m2,r2⟩:=T.sG
  obtain ⟨d,pl,be,le,dt,dY⟩:=R.gN hc hi
  have hle:=dY.le
  rw [ho] at hle
  obtain ⟨b,e,Gw⟩:=hle
  subst e
  refine ⟨_,ae (aQ (pv 1) (aE (by rfl) m1 r1) rfl) (ae (aQ (pv 1) (pv 2) rfl)
   (ae (aJ (aB (Bp T) hr (by rfl) T.Ca T.zc.kp T.Cb .nil aX (aa (pv 0) (aa (pv 1) (aa (aE (by rfl) m2 r2) (aa eU (aa (aG bq (ai (pv 1) rfl) ah (fun _ _=>rfl)) af)))))))
   (ak (aQ (pv 1) (cO eB (ai (pv 0) rfl) (aB (Io T) J1 (by rfl) T.ud T.o7.kp T.ue .nil aX (aa (pv 1) af))) rfl)))),?_⟩
  refine ⟨_,rfl,ca,_,d,_,rfl,dt,T.aq,T.aH,lt1000 rfl,_,rfl,_,rfl,ca,_,d,_,rfl,ab,T.aq,T.aV,lt1000 rfl,?_⟩
  rw [cJ]
  generalize DU:L2.upd H ca _=H1
  have hH:L2.upd H ca (.ins (cs t).C d (wC {c with phase:=6,tries:=n} pl be (.ref b)))=H1:=DU
  have R1:Rep (cs t) H1 A cas {W with clients:=W.clients.set i {c with phase:=6,tries:=n} }:=by
   rw [←hH]
   exact R.setC CK hi hc rfl dt ⟨dY.pl,dY.be,dY.le⟩
  have F1:ez A cas H H1:=by
   rw [←hH]
   exact ez.upd (Ad.iA hi)
  have DT:H1 ca=some (.ins (cs t).C d (wC {c with phase:=6,tries:=n} pl be (.ref b))):=by
   rw [←hH]
   exact ab
  have Q5:H1 b=some (.tup [nV o.server,nV o.addr,nV o.half,nV o.late,nV o.till]):=by
   rw [←hH,az (bh Gw dt (fun q=>nomatch q))]
   exact Gw
  clear hH DU
  refine ⟨_,rfl,_,rfl,_,rfl,ca,_,d,_,_,rfl,DT,T.aq,T.aK,rfl,b,_,_,_,rfl,rfl,bO.of Q5,rfl,
   A,cas,{W with clients:=W.clients.set i {c with phase:=6,tries:=n} },i,ca,{c with phase:=6,tries:=n},3,none,o.addr,rfl,R1,Bq hb,hi,jU hc,fun H2 R2 F2=> ?_⟩
  obtain ⟨d2,TY,TZ,T1,zL,CA,OD,R3⟩:=Rep.due CK R2 R.hn hc hi (W.now + Vbcnag.wait n (c.counter + 1)) (Vbcnag.comeBack W.now n o c) rfl rfl rfl
  refine ⟨_,rfl,A.w,_,_,_,_,rfl,OD,T.aw,T.a8,rfl,_,rfl,ca,_,rfl,CA,hn,_,_,rfl,rfl,_,rfl,ca,_,d2,_,rfl,zL,T.aq,T.bp,lt1000 rfl,?_⟩
  exact k _ R3 ((F1.trans F2).trans (ez.upd (Ad.iA hi)))
def zM (l:Lease)(c:Client):Client:={c with phase:=3,tries:=0,number:=0,due:=some l.half}
def YI (C:Cs):Sp:=fun vs H Q _=>∃ (A:Ad)(cas:List Addr)(W:VW)(i:Nat)(ca:Addr)(c:Client)(l:Lease),
 vs= [.ref ca] ∧Rep C H A cas W∧cas[i]?=some ca∧W.clients[i]?=some c∧c.lease=some l∧
 ∀H',Rep C H' A cas (Vbcnag.done W (zM l c,[]))→ez A cas H H'→Q .bY H'
theorem Ua (T:Txt K mg t):bH P w K mg base fg 1 t.pL t.G3 GD (YI (cs t)):=by
 refine T.Ld.ok TH (fun vs H Q E h=> ?_) (fun dZ A0 outer s H vs Q E hr h=> ?_)
 ·obtain ⟨A,cas,W,i,ca,c,l,rfl,_⟩:=h
  rfl
 ·obtain ⟨A,cas,W,i,ca,c,l,rfl,R,hi,hc,ho,k⟩:=h
  have CK:=fI T
  obtain ⟨u1,m1,r1⟩:=T.MK
  obtain ⟨d,pl,be,le,dt,dY⟩:=R.gN hc hi
  have hle:=dY.le
  rw [ho] at hle
  obtain ⟨b,e,Gw⟩:=hle
  subst e
  have nb:b≠ca:=bh Gw dt (fun q=>nomatch q)
  refine ⟨_,ae (aQ (pv 0) (aE (by rfl) m1 r1) rfl) (ae (aQ (pv 0) ah rfl) (ae (aQ (pv 0) ah rfl) (ak (aQ (pv 0) (aG bq (ai (pv 0) rfl) ah (fun _ _=>rfl)) rfl)))),?_⟩
  refine ⟨_,rfl,ca,_,d,_,rfl,dt,T.aq,T.aH,lt1000 rfl,_,rfl,ca,_,d,_,rfl,ab,T.aq,T.aV,lt1000 rfl,_,rfl,ca,_,d,_,rfl,ab,T.aq,T.bD,lt1000 rfl,?_⟩
  refine ⟨_,rfl,ca,_,d,_,_,rfl,ab,T.aq,T.aK,rfl,b,_,_,_,rfl,rfl,bO.of (by rw [az nb,az nb,az nb];exact Gw),rfl,_,rfl,ca,_,d,_,rfl,ab,T.aq,T.bp,lt1000 rfl,?_⟩
  rw [cJ,cJ,cJ]
  have R1:=R.setC CK (c':=zM l c) hi hc rfl dt ⟨dY.pl,dY.be,dY.le⟩
  refine k _ ?_ (ez.upd (Ad.iA hi))
  rw [uL R.hn hc (y:=(zM l c,[])) rfl]
  have e0:Vbcnag.outOf (zM l c) [] = [] :=by
   unfold Vbcnag.outOf
   split <;>rfl
  show Rep _ _ _ _ {W with clients:=W.clients.set i (zM l c),bag:=W.bag ++ (Vbcnag.outOf (zM l c) []).take _}
  rw [e0,List.take_nil,List.append_nil]
  exact R1
end
end Rl
namespace Rl
open PySem PySem.Spec PyProof.Rows L2
open Vbcnag (Mark Msg Under Offer Lease Client Relay Assigned Written)
section
variable {P:Program}{w:World}{K:PySem.W.Frag}{mg:Str→Option Value}{base:Heap}{t:ke}
def sY (now lim:Nat):Nat:=min lim (now + max 60 ((lim - now) / 2))
def Ub (C:Cs):Sp:=fun vs H Q _=>∃ (A:Ad)(cas:List Addr)(W:VW)(i:Nat)(ca:Addr)(c:Client)(ph:Nat)(sv:Option Nat)(lim:Nat)(l:Lease),
 vs= [.ref A.w,.ref ca,nV ph,oV sv,nV lim] ∧Rep C H A cas W∧W.bag.length≤10000∧cas[i]?=some ca∧W.clients[i]?=some c∧W.now < lim∧c.lease=some l∧
 ∀H',Rep C H' A cas (Vbcnag.done W (Vbcnag.sends W.now ph 0 (fun _=>sY W.now lim) 3 sv l.addr c))→ez A cas H H'→Q .bY H'
theorem J3 (T:Txt K mg t):bH P w K mg base fg 4 t.kh t.Bb A8 (Ub (cs t)):=by
 refine T.Be.ok JC (fun vs H Q E h=> ?_) (fun dZ A0 outer s H vs Q E hr h=> ?_)
 ·obtain ⟨A,cas,W,i,ca,c,ph,sv,lim,l,rfl,_⟩:=h
  rfl
 ·obtain ⟨A,cas,W,i,ca,c,ph,sv,lim,l,rfl,R,hb,hi,hc,eA,ho,k⟩:=h
  have CK:=fI T
  obtain ⟨u1,m1,r1⟩:=T.vj
  obtain ⟨u2,m2,r2⟩:=T.sG
  obtain ⟨d,pl,be,le,dt,dY⟩:=R.gN hc hi
  have hle:=dY.le
  rw [ho] at hle
  obtain ⟨b,e,Gw⟩:=hle
  subst e
  refine ⟨_,ae (aQ (pv 1) (pv 2) rfl) (ae (aQ (pv 1) ah rfl)
   (ae (aJ (aB (Bp T) hr (by rfl) T.Ca T.zc.kp T.Cb .nil aX (aa (pv 0) (aa (pv 1) (aa (aE (by rfl) m2 r2) (aa (pv 3) (aa (aG bq (ai (pv 1) rfl) ah (fun _ _=>rfl)) af)))))))
   (ae (aZ (i:=5) JC.nd rfl (Or.inl rfl) (bc (EE rfl) (by rfl) T.CB PyProof.Rows.boot_max (aa (aE (by rfl) m1 r1) (aa (cO FT (cO Ky (pv 4) (ai (pv 0) rfl)) ah) af))))
   (ak (aQ (pv 1) (bc (EF rfl) (by rfl) T.vK PyProof.Rows.boot_min (aa (pv 4) (aa (cO eB (ai (pv 0) rfl) (pv 5)) af))) rfl))))),?_⟩
  refine ⟨_,rfl,_,rfl,ca,_,d,_,rfl,dt,T.aq,T.aH,lt1000 rfl,_,rfl,ca,_,d,_,rfl,ab,T.aq,T.aV,lt1000 rfl,?_⟩
  rw [cJ]
  generalize DU:L2.upd H ca _=H1
  have hH:L2.upd H ca (.ins (cs t).C d (wC {c with phase:=ph,tries:=0} pl be (.ref b)))=H1:=DU
  have R1:Rep (cs t) H1 A cas {W with clients:=W.clients.set i {c with phase:=ph,tries:=0} }:=by
   rw [←hH]
   exact R.setC CK hi hc rfl dt ⟨dY.pl,dY.be,dY.le⟩
  have F1:ez A cas H H1:=by
   rw [←hH]
   exact ez.upd (Ad.iA hi)
  have DT:H1 ca=some (.ins (cs t).C d (wC {c with phase:=ph,tries:=0} pl be (.ref b))):=by
   rw [←hH]
   exact ab
  have Q5:H1 b=some (.tup [nV l.server,nV l.addr,nV l.half,nV l.late,nV l.till]):=by
   rw [←hH,az (bh Gw dt (fun q=>nomatch q))]
   exact Gw
  clear hH DU
  refine ⟨_,rfl,_,rfl,_,rfl,_,rfl,ca,_,d,_,_,rfl,DT,T.aq,T.aK,rfl,b,_,_,_,rfl,rfl,bO.of Q5,rfl,
   A,cas,{W with clients:=W.clients.set i {c with phase:=ph,tries:=0} },i,ca,{c with phase:=ph,tries:=0},3,sv,l.addr,rfl,R1,Bq hb,hi,jU hc,fun H2 R2 F2=> ?_⟩
  obtain ⟨d2,TY,TZ,T1,zL,CA,OD,R3⟩:=Rep.due CK R2 R.hn hc hi (sY W.now lim) (Vbcnag.sends W.now ph 0 (fun _=>sY W.now lim) 3 sv l.addr c) rfl rfl rfl
  refine ⟨_,rfl,_,rfl,A.w,_,_,_,_,rfl,OD,T.aw,T.a8,rfl,_,_,rfl,rfl,_,_,rfl,rfl,⟨by decide,by decide⟩,_,_,rfl,?_⟩
  refine ⟨_,rfl,_,rfl,A.w,_,_,_,_,rfl,OD,T.aw,T.a8,rfl,_,rfl,_,_,rfl,rfl,_,_,rfl,_,rfl,ca,_,d2,_,rfl,zL,T.aq,T.bp,lt1000 rfl,?_⟩
  refine k _ ?_ ((F1.trans F2).trans (ez.upd (Ad.iA hi)))
  have e:(if (W.now:Int) + (if ((lim:Int) - (W.now:Int)) / 2 >60 then ((lim:Int) - (W.now:Int)) / 2 else 60) < (lim:Int) then (W.now:Int) + (if ((lim:Int) - (W.now:Int)) / 2 >60 then ((lim:Int) - (W.now:Int)) / 2 else 60) else (lim:Int))=((sY W.now lim:Nat):Int):=by
   unfold sY
   split <;>split at * <;>omega
  show Rep (cs t) (L2.upd H2 ca (.ins (cs t).C d2 (rk "due" (V.int (if (W.now:Int) + (if ((lim:Int) - (W.now:Int)) / 2 >60 then ((lim:Int) - (W.now:Int)) / 2 else 60) < (lim:Int) then (W.now:Int) + (if ((lim:Int) - (W.now:Int)) / 2 >60 then ((lim:Int) - (W.now:Int)) / 2 else 60) else (lim:Int))) (wC (iz W.now {c with phase:=ph,tries:=0}) TY TZ T1)))) A cas _
  rw [e]
  exact R3
def Q8 (C:Cs):Sp:=fun vs H Q _=>∃ (A:Ad)(cas:List Addr)(W:VW)(i:Nat)(ca:Addr)(c:Client)(l:Lease),
 vs= [.ref A.w,.ref ca] ∧Rep C H A cas W∧W.bag.length≤10000∧cas[i]?=some ca∧W.clients[i]?=some c∧c.lease=some l∧
 ∀H',Rep C H' A cas (Vbcnag.done W (Vbcnag.settle W.now l c))→ez A cas H H'→Q .bY H'
theorem jV {a b:Nat}:decide ((a:Int) < (b:Int))=true ↔ a < b:=by
 rw [decide_eq_true_iff]
 omega
theorem Fy (T:Txt K mg t):bH P w K mg base fg 5 t.gZ t.xk wX (Q8 (cs t)):=by
 refine T.xy.ok N7 (fun vs H Q E h=> ?_) (fun dZ A0 outer s H vs Q E hr h=> ?_)
 ·obtain ⟨A,cas,W,i,ca,c,l,rfl,_⟩:=h
  rfl
 ·obtain ⟨A,cas,W,i,ca,c,l,rfl,R,hb,hi,hc,ho,k⟩:=h
  have J1:gO 1 _:=hr.mono (by decide)
  obtain ⟨u1,m1,r1⟩:=T.xR
  obtain ⟨u2,m2,r2⟩:=T.qh
  obtain ⟨d,pl,be,le,dt,dY⟩:=R.gN hc hi
  have hle:=dY.le
  rw [ho] at hle
  obtain ⟨b,e,Gw⟩:=hle
  subst e
  have hS:=bO.of (K:=K) Gw
  refine ⟨_,ak (br (aM oM (ai (pv 0) rfl) (aG bq (ai (pv 1) rfl) ah (fun _ _=>rfl)) (aS _)) (ak (aJ (aB (Ua T) J1 (by rfl) T.Qy T.Ld.kp T.Qz .nil aX (aa (pv 1) af))))
   (ak (br (aM oM (ai (pv 0) rfl) (aG bq (ai (pv 1) rfl) ah (fun _ _=>rfl)) (aS _))
    (ak (aJ (aB (J3 T) hr (by rfl) T.Hc T.Be.kp T.Hd .nil aX (aa (pv 0) (aa (pv 1) (aa (aE (by rfl) m1 r1) (aa (aG bq (ai (pv 1) rfl) ah (fun _ _=>rfl)) (aa (aG bq (ai (pv 1) rfl) ah (fun _ _=>rfl)) af))))))))
   (ak (br (aM oM (ai (pv 0) rfl) (aG bq (ai (pv 1) rfl) ah (fun _ _=>rfl)) (aS _))
    (ak (aJ (aB (J3 T) hr (by rfl) T.Hc T.Be.kp T.Hd .nil aX (aa (pv 0) (aa (pv 1) (aa (aE (by rfl) m2 r2) (aa eU (aa (aG bq (ai (pv 1) rfl) ah (fun _ _=>rfl)) af))))))))
    (ak (aJ (aB (yD T) hr (by rfl) T.zd T.vU.kp T.ze .nil aX (aa (pv 0) (aa (pv 1) (aa ah af))))))))))),?_⟩
  refine ⟨_,rfl,A.w,_,_,_,_,rfl,R.cV,T.aw,T.a8,rfl,_,rfl,ca,_,d,_,_,rfl,dt,T.aq,T.aK,rfl,b,_,_,_,rfl,rfl,hS,rfl,_,_,rfl,rfl,_,rfl,?_⟩
  refine eR (fun q1=> ?_) fun q1=> ?_
  ·have h1:=jV.mp q1
   refine ⟨_,rfl,A,cas,W,i,ca,c,l,rfl,R,hi,hc,ho,fun H' R' F'=>k H' ?_ F'⟩
   unfold Vbcnag.settle
   rw [if_pos h1]
   exact R'
  ·have h1:¬W.now < l.half:=fun z=>q1 (jV.mpr z)
   refine ⟨_,rfl,A.w,_,_,_,_,rfl,R.cV,T.aw,T.a8,rfl,_,rfl,ca,_,d,_,_,rfl,dt,T.aq,T.aK,rfl,b,_,_,_,rfl,rfl,hS,rfl,_,_,rfl,rfl,_,rfl,?_⟩
   refine eR (fun q2=> ?_) fun q2=> ?_
   ·have h2:=jV.mp q2
    refine ⟨_,rfl,_,rfl,_,rfl,ca,_,d,_,_,rfl,dt,T.aq,T.aK,rfl,b,_,_,_,rfl,rfl,hS,rfl,_,rfl,ca,_,d,_,_,rfl,dt,T.aq,T.aK,rfl,b,_,_,_,rfl,rfl,hS,rfl,
     A,cas,W,i,ca,c,4,some l.server,l.late,l,rfl,R,hb,hi,hc,h2,ho,fun H' R' F'=>k H' ?_ F'⟩
    unfold Vbcnag.settle
    rw [if_neg h1,if_pos h2]
    exact R'
   ·have h2:¬W.now < l.late:=fun z=>q2 (jV.mpr z)
    refine ⟨_,rfl,A.w,_,_,_,_,rfl,R.cV,T.aw,T.a8,rfl,_,rfl,ca,_,d,_,_,rfl,dt,T.aq,T.aK,rfl,b,_,_,_,rfl,rfl,hS,rfl,_,_,rfl,rfl,_,rfl,?_⟩
    refine eR (fun q3=> ?_) fun q3=> ?_
    ·have h3:=jV.mp q3
     refine ⟨_,rfl,_,rfl,_,rfl,ca,_,d,_,_,rfl,dt,T.aq,T.aK,rfl,b,_,_,_,rfl,rfl,hS,rfl,
      A,cas,W,i,ca,c,5,none,l.till,l,rfl,R,hb,hi,hc,h3,ho,fun H' R' F'=>k H' ?_ F'⟩
     unfold Vbcnag.settle
     rw [if_neg h1,if_neg h2,if_pos h3]
     exact R'
    ·have h3:¬W.now < l.till:=fun z=>q3 (jV.mpr z)
     refine ⟨_,rfl,_,rfl,A,cas,W,i,ca,c,0,rfl,R,hb,hi,hc,Nat.zero_le _,fun H' R' F'=>k H' ?_ F'⟩
     unfold Vbcnag.settle
     rw [if_neg h1,if_neg h2,if_neg h3]
     exact R'
end
end Rl
namespace Rl
open PySem PySem.Spec PyProof.Rows L2
open Vbcnag (Mark Msg Under Offer Lease Client Relay Assigned Written)
theorem Uc {now:Nat}{c:Client}{o:Offer}(h1:c.phase=1)(h2:c.best=some o):Vbcnag.acts now c=Vbcnag.askFor now 0 o c:=by
 unfold Vbcnag.acts
 rw [h1,h2]
 cases c.lease <;>rfl
theorem Ud {now:Nat}{c:Client}(h1:c.phase=1)(h2:c.best=none):Vbcnag.acts now c=Vbcnag.seek now (min (c.tries + 1) 10) c:=by
 unfold Vbcnag.acts
 rw [h1,h2]
 cases c.lease <;>rfl
theorem Q9 {now:Nat}{c:Client}{o:Offer}(h1:c.phase=2)(h2:c.best=some o):Vbcnag.acts now c=if c.tries < 3 then Vbcnag.askFor now (c.tries + 1) o c else Vbcnag.seek now 0 c:=by
 unfold Vbcnag.acts
 rw [h1,h2]
 cases c.lease <;>rfl
theorem Ra {now:Nat}{c:Client}{l:Lease}(h1:c.phase=6)(h2:c.lease=some l):Vbcnag.acts now c=if c.tries < 2 then Vbcnag.comeBack now (c.tries + 1) l c else Vbcnag.settle now l c:=by
 unfold Vbcnag.acts
 rw [h1,h2]
 cases c.best <;>rfl
theorem Rb {now:Nat}{c:Client}{l:Lease}(h1:c.phase=3∨c.phase=4∨c.phase=5)(h2:c.lease=some l):Vbcnag.acts now c=Vbcnag.settle now l c:=by
 unfold Vbcnag.acts
 rcases h1 with h1|h1|h1 <;>rw [h1,h2] <;>cases c.best <;>rfl
section
variable {P:Program}{w:World}{K:PySem.W.Frag}{mg:Str→Option Value}{base:Heap}{t:ke}
def Rc (p:Client→Prop)(C:Cs):Sp:=fun vs H Q _=>∃ (A:Ad)(cas:List Addr)(W:VW)(i:Nat)(ca:Addr)(c:Client),
 vs= [.ref A.w,.ref ca] ∧Rep C H A cas W∧W.bag.length≤10000∧cas[i]?=some ca∧W.clients[i]?=some c∧yr c∧p c∧
 ∀H',Rep C H' A cas (Vbcnag.done W (Vbcnag.acts W.now c))→ez A cas H H'→Q .bY H'
theorem Di (T:Txt K mg t):bH P w K mg base fg 5 t.c5 t.iZ iS (Rc (fun c=>c.phase=1) (cs t)):=by
 refine T.nZ.ok BW (fun vs H Q E h=> ?_) (fun dZ A0 outer s H vs Q E hr h=> ?_)
 ·obtain ⟨A,cas,W,i,ca,c,rfl,_⟩:=h
  rfl
 ·obtain ⟨A,cas,W,i,ca,c,rfl,R,hb,hi,hc,hg,hp,k⟩:=h
  obtain ⟨d,pl,be,le,dt,dY⟩:=R.gN hc hi
  obtain ⟨J4,sZ,tf⟩:=T.jO
  refine ⟨_,ak (br (cq (gR (ai (pv 1) rfl))) (ak (aJ (aB (Q7 T) (hr.mono (by decide)) (by rfl) T.Qw T.MF.kp T.Qx .nil aX (aa (pv 0) (aa (pv 1) (aa ah af)))))) (ak (aJ (aB (yD T) (hr.mono (by decide)) (by rfl) T.zd T.vU.kp T.ze .nil aX (aa (pv 0) (aa (pv 1) (aa (bc (EF rfl) (by rfl) T.vK PyProof.Rows.boot_min (aa (cO eB (ai (pv 1) rfl) ah) (aa (aE (by rfl) sZ tf) af))) af))))))),?_⟩
  refine ⟨_,rfl,ca,_,d,_,_,rfl,dt,T.aq,T.a7,rfl,_,rfl,?_⟩
  have IT:=dY.be
  cases Ue:c.best with
  |none=>
   rw [Ue] at IT
   have e:be= .bY:=IT
   subst e
   refine bQ ?_
   refine ⟨_,rfl,_,rfl,_,rfl,ca,_,d,_,_,rfl,dt,T.aq,T.aV,rfl,_,_,rfl,rfl,_,_,rfl,A,cas,W,i,ca,c,min (c.tries + 1) 10,?_,R,hb,hi,hc,Nat.min_le_right _ _,fun H' R' F'=>k H' ?_ F'⟩
   ·have e:(if (10:Int) < (c.tries:Int) + 1 then (10:Int) else (c.tries:Int) + 1)=((min (c.tries + 1) 10:Nat):Int):=by split <;>omega
    show [V.ref A.w,V.ref ca,V.int (if (10:Int) < (c.tries:Int) + 1 then (10:Int) else (c.tries:Int) + 1)] =_
    rw [e]
    rfl
   ·rw [Ud hp Ue]
    exact R'
  |some o=>
   rw [Ue] at IT
   obtain ⟨b,e,Gw⟩:=IT
   subst e
   refine bI ?_
   refine ⟨_,rfl,_,rfl,A,cas,W,i,ca,c,0,o,rfl,R,hb,hi,hc,Nat.zero_le _,Ue,fun H' R' F'=>k H' ?_ F'⟩
   rw [Uc hp Ue]
   exact R'
theorem Eh (T:Txt K mg t):bH P w K mg base fg 5 t.dA t.kj j1 (Rc (fun c=>c.phase=2) (cs t)):=by
 refine T.pX.ok D7 (fun vs H Q E h=> ?_) (fun dZ A0 outer s H vs Q E hr h=> ?_)
 ·obtain ⟨A,cas,W,i,ca,c,rfl,_⟩:=h
  rfl
 ·obtain ⟨A,cas,W,i,ca,c,rfl,R,hb,hi,hc,hg,hp,k⟩:=h
  obtain ⟨d,pl,be,le,dt,dY⟩:=R.gN hc hi
  obtain ⟨o,Ue⟩:=Option.isSome_iff_exists.mp (hg.ask hp)
  obtain ⟨MZ,yE,yF⟩:=T.mZ
  refine ⟨_,ak (br (aM oM (ai (pv 1) rfl) (aE (by rfl) yE yF) (aS _)) (ak (aJ (aB (Q7 T) (hr.mono (by decide)) (by rfl) T.Qw T.MF.kp T.Qx .nil aX (aa (pv 0) (aa (pv 1) (aa (cO eB (ai (pv 1) rfl) ah) af)))))) (ak (aJ (aB (yD T) (hr.mono (by decide)) (by rfl) T.zd T.vU.kp T.ze .nil aX (aa (pv 0) (aa (pv 1) (aa ah af))))))),?_⟩
  refine ⟨_,rfl,ca,_,d,_,_,rfl,dt,T.aq,T.aV,rfl,_,_,rfl,rfl,_,rfl,?_⟩
  refine eR (fun q1=> ?_) fun q1=> ?_
  ·have h1:c.tries < 3:=jV (b:=3)|>.mp q1
   refine ⟨_,rfl,_,rfl,_,rfl,ca,_,d,_,_,rfl,dt,T.aq,T.aV,rfl,_,_,rfl,rfl,A,cas,W,i,ca,c,c.tries + 1,o,rfl,R,hb,hi,hc,by omega,Ue,fun H' R' F'=>k H' ?_ F'⟩
   rw [Q9 hp Ue,if_pos h1]
   exact R'
  ·have h1:¬c.tries < 3:=fun z=>q1 (jV (b:=3)|>.mpr z)
   refine ⟨_,rfl,_,rfl,A,cas,W,i,ca,c,0,rfl,R,hb,hi,hc,Nat.zero_le _,fun H' R' F'=>k H' ?_ F'⟩
   rw [Q9 hp Ue,if_neg h1]
   exact R'
theorem bV {a b:Nat}:decide (V.int (a:Int)=V.int (b:Int))=true ↔ a=b:=by
 rw [decide_eq_true_iff]
 constructor
 ·intro h
  injection h with h
  omega
 ·intro h
  rw [h]
theorem YJ (T:Txt K mg t):bH P w K mg base fg 6 t.xl t.MD My (Rc (fun c=>c.phase≠0) (cs t)):=by
 refine T.QA.ok WG (fun vs H Q E h=> ?_) (fun dZ A0 outer s H vs Q E hr h=> ?_)
 ·obtain ⟨A,cas,W,i,ca,c,rfl,_⟩:=h
  rfl
 ·obtain ⟨A,cas,W,i,ca,c,rfl,R,hb,hi,hc,hg,hp,k⟩:=h
  obtain ⟨d,pl,be,le,dt,dY⟩:=R.gN hc hi
  have h6:=hg.le6
  obtain ⟨Ug,Ip,Iq⟩:=T.Bf
  obtain ⟨Rf,Dj,Dk⟩:=T.Ct
  obtain ⟨J5,tj,tm⟩:=T.jP
  obtain ⟨yG,iq,ir⟩:=T.hW
  refine ⟨_,ak (br (aM cU (ai (pv 1) rfl) (aE (by rfl) Ip Iq) (aS _)) (ak (aJ (aB (Di T) (hr.mono (by decide)) (by rfl) T.va T.nZ.kp T.vc .nil aX (aa (pv 0) (aa (pv 1) af))))) (ak (br (aM cU (ai (pv 1) rfl) (aE (by rfl) Dj Dk) (aS _)) (ak (aJ (aB (Eh T) (hr.mono (by decide)) (by rfl) T.xB T.pX.kp T.xC .nil aX (aa (pv 0) (aa (pv 1) af))))) (ak (br (PW.pt (iB (aM cU (ai (pv 1) rfl) (aE (by rfl) iq ir) (aS _)) (fK (aM oM (ai (pv 1) rfl) (aE (by rfl) tj tm) (aS _))))) (ak (aJ (aB (MY T) (hr.mono (by decide)) (by rfl) T.sf T.mW.kp T.si .nil aX (aa (pv 0) (aa (pv 1) (aa (cO eB (ai (pv 1) rfl) ah) af)))))) (ak (aJ (aB (Fy T) (hr.mono (by decide)) (by rfl) T.Cc T.xy.kp T.Cd .nil aX (aa (pv 0) (aa (pv 1) af)))))))))),?_⟩
  refine ⟨_,rfl,ca,_,d,_,_,rfl,dt,T.aq,T.aH,rfl,rfl,_,rfl,?_⟩
  refine eR (fun q1=> ?_) fun q1=> ?_
  ·have h1:c.phase=1:=bV (b:=1)|>.mp q1
   exact ⟨_,rfl,_,rfl,A,cas,W,i,ca,c,rfl,R,hb,hi,hc,hg,h1,k⟩
  ·have h1:¬c.phase=1:=fun z=>q1 (bV (b:=1)|>.mpr z)
   refine ⟨_,rfl,ca,_,d,_,_,rfl,dt,T.aq,T.aH,rfl,rfl,_,rfl,?_⟩
   refine eR (fun q2=> ?_) fun q2=> ?_
   ·have h2:c.phase=2:=bV (b:=2)|>.mp q2
    exact ⟨_,rfl,_,rfl,A,cas,W,i,ca,c,rfl,R,hb,hi,hc,hg,h2,k⟩
   ·have h2:¬c.phase=2:=fun z=>q2 (bV (b:=2)|>.mpr z)
    obtain ⟨l,hl⟩:=Option.isSome_iff_exists.mp (hg.held (by omega))
    refine ⟨_,rfl,ca,_,d,_,_,rfl,dt,T.aq,T.aH,rfl,rfl,_,rfl,?_⟩
    refine eR (fun q3=> ?_) fun q3=> ?_
    ·have h3:c.phase=6:=bV (b:=6)|>.mp q3
     refine ⟨_,rfl,ca,_,d,_,_,rfl,dt,T.aq,T.aV,rfl,_,_,rfl,rfl,_,rfl,?_⟩
     refine eR (fun q4=> ?_) fun q4=> ?_
     ·have h4:c.tries < 2:=jV (b:=2)|>.mp q4
      refine ⟨_,rfl,_,rfl,_,rfl,ca,_,d,_,_,rfl,dt,T.aq,T.aV,rfl,_,_,rfl,rfl,A,cas,W,i,ca,c,c.tries + 1,l,rfl,R,hb,hi,hc,by omega,hl,fun H' R' F'=>k H' ?_ F'⟩
      rw [Ra h3 hl,if_pos h4]
      exact R'
     ·have h4:¬c.tries < 2:=fun z=>q4 (jV (b:=2)|>.mpr z)
      refine ⟨_,rfl,_,rfl,A,cas,W,i,ca,c,l,rfl,R,hb,hi,hc,hl,fun H' R' F'=>k H' ?_ F'⟩
      rw [Ra h3 hl,if_neg h4]
      exact R'
    ·have h3:¬c.phase=6:=fun z=>q3 (bV (b:=6)|>.mpr z)
     refine bQ ?_
     refine ⟨_,rfl,_,rfl,A,cas,W,i,ca,c,l,rfl,R,hb,hi,hc,hl,fun H' R' F'=>k H' ?_ F'⟩
     rw [Rb (by omega) hl]
     exact R'
end
end Rl
namespace Rl
open PySem PySem.Spec PyProof.Rows L2
open Vbcnag (Mark Msg Under Offer Lease Client Relay Assigned Written)
abbrev AU:=Nat×Addr×Nat
structure WS (cas:List Addr) (cl:List Client) (ws:List AU):Prop where
 at_:∀x∈ws,cas[x.1]?=some x.2.1∧∃c,cl[x.1]?=some c∧c.due=some x.2.2
 ord:ws.Pairwise fun x y=>∀c d,cl[x.1]?=some c→cl[y.1]?=some d→c.host < d.host
 all:∀ (i:Nat)(c:Client)(d:Nat),cl[i]?=some c→c.due=some d→∃x∈ws,x.1=i
theorem M0 {α:Type}{R:α→α→Prop}{l:List α}(h:l.Pairwise R){p q:Nat}{x y:α}(hpq:p < q)(hx:l[p]?=some x)(hy:l[q]?=some y):R x y:=by
 obtain ⟨h1,e1⟩:=List.getElem?_eq_some_iff.mp hx
 obtain ⟨h2,e2⟩:=List.getElem?_eq_some_iff.mp hy
 have:=List.pairwise_iff_getElem.mp h p q h1 h2 hpq
 rw [e1,e2] at this
 exact this
theorem WS.soonest {cas:List Addr}{W:VW}{ws:List AU}(S:WS cas W.clients ws){p:Nat}{x:AU}{c:Client}(hp:ws[p]?=some x)(YK:∀y∈ws,x.2.2≤y.2.2)(YL:∀ (q:Nat)(y:AU),q < p→ws[q]?=some y→y.2.2≠x.2.2)(hc:W.clients[x.1]?=some c):
  Vbcnag.soonest (Vbcnag.dues W)=some (x.2.2,c.host)∧c.due=some x.2.2:=by
 obtain ⟨_,c0,hc0,hd0⟩:=S.at_ x (List.mem_of_getElem? hp)
 rw [hc] at hc0
 cases hc0
 refine ⟨LD (gr.mpr ⟨c,List.mem_of_getElem? hc,hd0,rfl⟩) fun z hz=> ?_,hd0⟩
 obtain ⟨t,h⟩:=z
 obtain ⟨c',hm,hd,hh⟩:=gr.mp hz
 obtain ⟨i,hi⟩:=List.getElem?_of_mem hm
 obtain ⟨y,hy,Vn⟩:=S.all i c' t hi hd
 obtain ⟨_,c1,DT,hd1⟩:=S.at_ y hy
 rw [Vn,hi] at DT
 cases DT
 rw [hd] at hd1
 have et:t=y.2.2:=Option.some.inj hd1
 have hle:=YK y hy
 unfold gp
 show x.2.2 < t∨(x.2.2=t∧c.host≤h)
 by_cases q:x.2.2=t
 ·refine .inr ⟨q,?_⟩
  obtain ⟨r,hr⟩:=List.getElem?_of_mem hy
  by_cases e:r < p
  ·exact absurd (by rw [←et,q]) (YL r y e hr)
  ·by_cases e2:r=p
   ·rw [e2,hp] at hr
    cases hr
    rw [Vn,hi] at hc
    cases hc
    rw [hh]
    exact Nat.le_refl _
   ·have:=M0 S.ord (show p < r by omega) hp hr c c' hc (by rw [Vn];exact hi)
    rw [←hh]
    omega
 ·exact .inl (by omega)
theorem WS.set {cas:List Addr}{cl:List Client}{ws:List AU}(S:WS cas cl ws){p:Nat}{x:AU}{c c':Client}{d':Nat}(hp:ws[p]?=some x)(hc:cl[x.1]?=some c)(hh:c'.host=c.host)(hd:c'.due=some d'):
  WS cas (cl.set x.1 c') (ws.set p (x.1,x.2.1,d')):=by
 have u4:∀ (q:Nat)(y:AU),q≠p→ws[q]?=some y→y.1≠x.1:=fun q y hq hy e=>by
  rcases Nat.lt_or_gt_of_ne hq with z|z
  ·exact absurd (M0 S.ord z hy hp c c (by rw [e];exact hc) hc) (Nat.lt_irrefl _)
  ·exact absurd (M0 S.ord z hp hy c c hc (by rw [e];exact hc)) (Nat.lt_irrefl _)
 have eA:=(List.getElem?_eq_some_iff.mp hp).1
 have Vo:∀ (i:Nat)(a:Client),(cl.set x.1 c')[i]?=some a→∃b,cl[i]?=some b∧b.host=a.host:=fun i a ha=>by
  by_cases q:x.1=i
  ·rw [←q,jU hc] at ha
   cases ha
   exact ⟨c,by rw [←q];exact hc,hh.symm⟩
  ·rw [List.getElem?_set_ne q] at ha
   exact ⟨a,ha,rfl⟩
 have ix:∀ (q:Nat)(y:AU),(ws.set p (x.1,x.2.1,d'))[q]?=some y→∃z,ws[q]?=some z∧z.1=y.1:=fun q y hy=>by
  by_cases e:p=q
  ·rw [←e,List.getElem?_set_self eA] at hy
   cases hy
   exact ⟨x,by rw [←e];exact hp,rfl⟩
  ·rw [List.getElem?_set_ne e] at hy
   exact ⟨y,hy,rfl⟩
 refine ⟨fun y hy=> ?_,?_,fun i a d ha had=> ?_⟩
 ·obtain ⟨q,hq⟩:=List.getElem?_of_mem hy
  by_cases e:p=q
  ·rw [←e,List.getElem?_set_self eA] at hq
   cases hq
   exact ⟨(S.at_ x (List.mem_of_getElem? hp)).1,c',jU hc,hd⟩
  ·rw [List.getElem?_set_ne e] at hq
   obtain ⟨h1,b,h2,h3⟩:=S.at_ y (List.mem_of_getElem? hq)
   refine ⟨h1,b,?_,h3⟩
   rw [List.getElem?_set_ne (Ne.symm (u4 q y (Ne.symm e) hq))]
   exact h2
 ·rw [List.pairwise_iff_getElem]
  intro i j hi hj hij a b ha hb
  obtain ⟨z1,e1,f1⟩:=ix i _ (List.getElem?_eq_getElem hi)
  obtain ⟨z2,e2,f2⟩:=ix j _ (List.getElem?_eq_getElem hj)
  obtain ⟨a',ha',ea⟩:=Vo _ a ha
  obtain ⟨b',ZA,eb⟩:=Vo _ b hb
  have:=M0 S.ord hij e1 e2 a' b' (by rw [f1];exact ha') (by rw [f2];exact ZA)
  omega
 ·by_cases q:x.1=i
  ·exact ⟨(x.1,x.2.1,d'),List.mem_of_getElem? (List.getElem?_set_self eA),q⟩
  ·rw [List.getElem?_set_ne q] at ha
   obtain ⟨y,hy,Vn⟩:=S.all i a d ha had
   obtain ⟨r,hr⟩:=List.getElem?_of_mem hy
   have hrp:p≠r:=fun e=>q (by rw [←Vn];rw [e] at hp;rw [hp] at hr;cases hr;rfl)
   exact ⟨y,List.mem_of_getElem? (by rw [List.getElem?_set_ne hrp];exact hr),Vn⟩
def oF (cas:List Addr)(cl:List Client)(n:Int):Option AU:=(cl.findIdx? fun c=>decide ((c.host:Int)=n)).bind fun i=>(cas[i]?).bind fun a=>(cl[i]?).bind fun c=>c.due.map fun d=>(i,a,d)
theorem M3:∀ {cl:List Client}{i:Nat}{c:Client},(cl.map (·.host)).Nodup→cl[i]?=some c→(cl.findIdx? fun x:Client=>decide ((x.host:Int)=(c.host:Int)))=some i
 | [],i,c,_,h=>by simp at h
 |x::cl,0,c,nd,h=>by
  have e:x=c:=Option.some.inj h
  subst e
  rw [List.findIdx?_cons,if_pos (by simp)]
 |x::cl,i + 1,c,nd,h=>by
  rw [List.map_cons,List.nodup_cons] at nd
  have hl:cl[i]?=some c:=h
  have ne:¬x.host=c.host:=fun q=>nd.1 (by rw [q];exact List.mem_map_of_mem (List.mem_of_getElem? hl))
  rw [List.findIdx?_cons,if_neg (by simp;omega),M3 nd.2 hl]
  rfl
theorem zN {cas:List Addr}{cl:List Client}{i:Nat}{c:Client}{a:Addr}(nd:(cl.map (·.host)).Nodup)(h:cl[i]?=some c)(ha:cas[i]?=some a):oF cas cl (c.host:Int)=(c.due.map fun d=>(i,a,d)):=by
 unfold oF
 rw [M3 nd h]
 simp only [Option.bind_some,ha,h]
theorem Rg {cas:List Addr}{cl:List Client}{ns:List Int}(nd:(cl.map (·.host)).Nodup)(hl:cas.length=cl.length)(hp:ns.Perm (cl.map fun c:Client=>(c.host:Int)))(hs:ns.Pairwise (· ≤ ·)):WS cas cl (ns.filterMap (oF cas cl)):=by
 have mem:∀n∈ns,∃ (i:Nat)(c:Client)(a:Addr),cl[i]?=some c∧cas[i]?=some a∧(c.host:Int)=n:=fun n hn=>by
  have:=hp.mem_iff.mp hn
  obtain ⟨c,hc,e⟩:=List.mem_map.mp this
  obtain ⟨i,hi⟩:=List.getElem?_of_mem hc
  have eA:=(List.getElem?_eq_some_iff.mp hi).1
  exact ⟨i,c,cas[i]'(by omega),hi,List.getElem?_eq_getElem _,e⟩
 have ent:∀n∈ns,∀x,oF cas cl n=some x→cas[x.1]?=some x.2.1∧∃c:Client,cl[x.1]?=some c∧c.due=some x.2.2∧(c.host:Int)=n:=fun n hn x hx=>by
  obtain ⟨i,c,a,h1,h2,h3⟩:=mem n hn
  rw [←h3,zN nd h1 h2] at hx
  cases hd:c.due with
  |none=>rw [hd] at hx;cases hx
  |some d=>
   rw [hd] at hx
   cases hx
   exact ⟨h2,c,h1,hd,h3⟩
 have ndn:ns.Nodup:=by
  refine hp.nodup_iff.mpr ?_
  have:(cl.map fun c:Client=>(c.host:Int))=(cl.map (·.host)).map (fun n:Nat=>(n:Int)):=by simp
  rw [this]
  exact (List.pairwise_map.mpr (nd.imp fun h q=>h (by omega)))
 have lt:ns.Pairwise (· < ·):=(hs.and ndn).imp fun h=>by omega
 refine ⟨fun x hx=> ?_,?_,fun i c d hi hd=> ?_⟩
 ·obtain ⟨n,hn,e⟩:=List.mem_filterMap.mp hx
  obtain ⟨h1,c,h2,h3,_⟩:=ent n hn x e
  exact ⟨h1,c,h2,h3⟩
 ·rw [List.pairwise_filterMap]
  refine List.Pairwise.imp_of_mem (fun {n m} hn hm eA x hx y hy c d hc hd=> ?_) lt
  obtain ⟨_,c',h2,_,h4⟩:=ent n hn x hx
  obtain ⟨_,d',k2,_,k4⟩:=ent m hm y hy
  rw [hc] at h2
  rw [hd] at k2
  cases h2
  cases k2
  omega
 ·have hn:(c.host:Int)∈ns:=hp.mem_iff.mpr (List.mem_map.mpr ⟨c,List.mem_of_getElem? hi,rfl⟩)
  have eA:=(List.getElem?_eq_some_iff.mp hi).1
  have ha:cas[i]?=some (cas[i]'(by omega)):=List.getElem?_eq_getElem _
  exact ⟨(i,cas[i]'(by omega),d),List.mem_filterMap.mpr ⟨_,hn,by rw [zN nd hi ha,hd];rfl⟩,rfl⟩
theorem tp:∀ {cas:List Addr}{cl:List Client},cas.length=cl.length→(bL cas cl).map (·.1)=(cl.map fun c:Client=>(c.host:Int)).map Sum.inl
 | [],[],_=>rfl
 | [],_::_,h=>by simp at h
 |_::_,[],h=>by simp at h
 |a::cas,c::cl,h=>by
  have ih:=tp (cas:=cas) (cl:=cl) (by simpa using h)
  unfold bL at ih ⊢
  rw [List.zipWith_cons_cons,List.map_cons,List.map_cons,List.map_cons,ih]
theorem Dl:∀ {cas:List Addr}{cl:List Client}{i:Nat}{a:Addr}{c:Client},(cl.map (·.host)).Nodup→cas[i]?=some a→cl[i]?=some c→dz (bL cas cl) (Sum.inl (c.host:Int))=some (.ref a)
 | [],_,i,a,c,_,h,_=>by simp at h
 |_::_,[],i,a,c,_,_,h=>by simp at h
 |b::cas,d::cl,0,a,c,nd,ha,hc=>by
  have e1:b=a:=Option.some.inj ha
  have e2:d=c:=Option.some.inj hc
  subst e1 e2
  exact c9 rfl
 |b::cas,d::cl,i + 1,a,c,nd,ha,hc=>by
  rw [List.map_cons,List.nodup_cons] at nd
  have hl:cl[i]?=some c:=hc
  have ne:¬d.host=c.host:=fun q=>nd.1 (by rw [q];exact List.mem_map_of_mem (List.mem_of_getElem? hl))
  unfold bL
  rw [List.zipWith_cons_cons,da (fun q=>ne (by have:=Sum.inl.inj q;omega))]
  exact Dl (i:=i) nd.2 ha hl
theorem Rep.len {C:Cs}{H:Hp}{A:Ad}{cas:List Addr}{W:VW}(R:Rep C H A cas W):cas.length=W.clients.length:=(cT.mp R.ca).1
theorem Rep.there {C:Cs}{H:Hp}{A:Ad}{cas:List Addr}{W:VW}(R:Rep C H A cas W){b:Addr}(h:A.mut cas b):∃o,H b=some o:=by
 rcases h with h|h|h|h|h|h|h|h|h
 ·rw [h];exact ⟨_,R.cV⟩
 ·rw [h];obtain ⟨_,q,_⟩:=R.rl;exact ⟨_,q⟩
 ·rw [h];obtain ⟨_,q,_⟩:=R.hd;exact ⟨_,q⟩
 ·rw [h];exact ⟨_,R.cd⟩
 ·rw [h];obtain ⟨_,q,_⟩:=R.rs;exact ⟨_,q⟩
 ·rw [h];obtain ⟨_,q,_⟩:=R.ag;exact ⟨_,q⟩
 ·rw [h];exact ⟨_,R.wr⟩
 ·rw [h];obtain ⟨_,q,_⟩:=R.bg;exact ⟨_,q⟩
 ·obtain ⟨i,hi⟩:=List.getElem?_of_mem h
  have eA:=(List.getElem?_eq_some_iff.mp hi).1
  have hc:W.clients[i]?=some (W.clients[i]'(by rw [←R.len];exact eA)):=List.getElem?_eq_getElem _
  obtain ⟨d,pl,be,le,e,_⟩:=R.gN hc hi
  exact ⟨_,e⟩
theorem Rep.fresh {C:Cs}{H:Hp}{A:Ad}{cas:List Addr}{W:VW}(R:Rep C H A cas W){b:Addr}(h:H b=none):¬A.mut cas b:=fun q=>by
 obtain ⟨o,e⟩:=R.there q
 rw [h] at e
 cases e
end Rl
namespace Rl
open PySem PySem.Spec PyProof.Rows L2
open Vbcnag (Mark Msg Under Offer Lease Client Relay Assigned Written)
theorem J6 {α:Type}{P:α→Prop}:∀ {l:List α},(∃x∈l,P x)→∃ (p:Nat)(x:α),l[p]?=some x∧P x∧∀ (q:Nat)(y:α),q < p→l[q]?=some y→¬P y
 | [],⟨x,h,_⟩=>by cases h
 |a::l,⟨x,h,hx⟩=>by
  by_cases ha:P a
  ·exact ⟨0,a,rfl,ha,fun q y hq _=>absurd hq (Nat.not_lt_zero _)⟩
  ·have hl:x∈l:=by
    cases h with
    |head=>exact absurd hx ha
    |tail _ h=>exact h
   obtain ⟨p,y,h1,h2,h3⟩:=J6 ⟨x,hl,hx⟩
   refine ⟨p + 1,y,h1,h2,fun q z hq hz=> ?_⟩
   cases q with
   |zero=>
    have e:a=z:=Option.some.inj hz
    rw [←e]
    exact ha
   |succ q=>exact h3 q z (by omega) hz
section
variable {P:Program}{w:World}{K:PySem.W.Frag}{mg:Str→Option Value}{base:Heap}{t:ke}
theorem Rep.other {C:Cs}{H:Hp}{A:Ad}{cas:List Addr}{W:VW}(R:Rep C H A cas W){F:Addr}{xs:List V}(hF:H F=some (.lst xs))(nm:¬A.mut cas F)(o:HO):Rep C (L2.upd H F o) A cas W:=by
 have kk:dX C H (L2.upd H F o):=dX.upd hF (fun q=>q)
 have at_:∀ {b:Addr}{u:HO},A.mut cas b→H b=some u→L2.upd H F o b=some u:=fun {b u} hb e=>by
  rw [az (show b≠F from fun q=>nm (by rw [←q];exact hb))]
  exact e
 obtain ⟨ras,h1,h2⟩:=R.rl
 obtain ⟨kvs,h3,h4,h5⟩:=R.hd
 obtain ⟨bs,h6,h7⟩:=R.rs
 obtain ⟨ks,h8,h9⟩:=R.ag
 obtain ⟨bas,yB,IV⟩:=R.bg
 exact ⟨at_ (.inl rfl) R.cV,⟨ras,at_ (.inr (.inl rfl)) h1,Paired.cN h2 fun a b f=>f.keep kk⟩,⟨kvs,at_ (.inr (.inr (.inl rfl))) h3,h4,h5⟩,at_ (.inr (.inr (.inr (.inl rfl)))) R.cd,
  cT.mpr ⟨(cT.mp R.ca).1,fun i a b ha hb=>((cT.mp R.ca).2 i a b ha hb).keep kk fun u e=>at_ (Ad.iA ha) e⟩,⟨bs,at_ (.inr (.inr (.inr (.inr (.inl rfl))))) h6,h7⟩,⟨ks,at_ (.inr (.inr (.inr (.inr (.inr (.inl rfl)))))) h8,Paired.cN h9 fun a b f=>f.keep kk⟩,
  at_ (.inr (.inr (.inr (.inr (.inr (.inr (.inl rfl))))))) R.wr,⟨bas,at_ (.inr (.inr (.inr (.inr (.inr (.inr (.inr (.inl rfl)))))))) yB,Paired.cN IV fun a b f=>f.keep kk⟩,R.n1,R.n2,R.n3,R.hn⟩
theorem OE {W:VW}{t:Nat}{c:Client}(h:W.bag.length≤W.cap):(gi W t c).bag.length≤W.cap:=by
 unfold gi Vbcnag.done
 rw [gf]
 show (W.bag ++ List.take (W.cap - W.bag.length) _).length≤W.cap
 rw [List.length_append,List.length_take]
 omega
def Uh (C:Cs)(lid e:Nat)(W:VW)(A:Ad)(cas:List Addr)(H:Hp)(D F:Addr):Nat→L2.St→Hp→Prop:=fun m σ Hk=>∃ (Wk:VW)(kk:Nat)(ws:List AU)(x0:Int)(v6:Option V),
 σ= [some (.ref A.w),some (nV e),some (.ref D),some (.ref F),some (nV kk),some (.int x0),v6,none,none] ∧yy lid e W Wk kk∧Rep C Hk A cas Wk∧Wk.cap=W.cap∧Wk.bag.length≤W.cap∧Hk D=some (.lst (ws.map fun x=>V.ref x.2.1))∧Hk F=some (.lst (ws.map fun x=>nV x.2.2))∧
 WS cas Wk.clients ws∧ws.length≤64∧((ws= [] ∧x0=(e:Int) + 1)∨((∃x∈ws,x0=(x.2.2:Int))∧∀y∈ws,x0≤(y.2.2:Int)))∧m=mu e Wk.clients∧ez A cas H Hk
theorem Dm {σ:L2.St}{H:Hp}{A B:Hp→Prop}(h:A H):aaw σ H (fun b H3=>if b=true then A H3 else B H3):=bI (A:=A H) (B:=B H) h
def Ui (C:Cs):Sp:=fun vs H Q _=>∃ (A:Ad)(cas:List Addr)(W:VW)(e lid:Nat),vs= [.ref A.w,nV e] ∧Rep C H A cas W∧W.cap≤10000∧W.bag.length≤W.cap∧W.clients.length≤64∧vL W∧mu e W.clients < lid∧
 ∀H' W' n,Vbcnag.ticks lid e W=({W' with now:=e},n)→Rep C H' A cas W'→ez A cas H H'→Q (nV n) H'
theorem Ir (T:Txt K mg t):bH P w K mg base fg 8 t.d9 t.mN mC (Ui (cs t)):=by
 refine T.sj.ok cX (fun vs H Q E h=> ?_) (fun dZ A0 outer s H vs Q E hr h=> ?_)
 ·obtain ⟨A,cas,W,e,lid,rfl,_⟩:=h
  rfl
 ·obtain ⟨A,cas,W,e,lid,rfl,R,Tf,Rh,hlen,hg,hmu,k⟩:=h
  have hu:=gE hr
  refine ⟨_,ae (BL (i:=2) (own:= [("host",7)]) rfl cX.nd rfl rfl (Gh rfl rfl rfl (by decide +kernel)) (tG (bc (KU rfl) (by rfl) T.l6 PyProof.Rows.boot_sorted (aa (ai (pv 0) rfl) af))) (lU (show Gj rM (ay eS) _ _=true by decide +kernel)) (fun _ _ _ _ _=>eV (i:=7) cX.nd rfl (Or.inl rfl)) (fun _ _ _ _ _=>Gf (cq (gR (px K rfl (Gn hu (px K rfl (pv 0) rfl) (pv 7) (fun _ _=>rfl)) rfl)))) (fun _ _ _ _ _=>(Gn hu (px K rfl (pv 0) rfl) (pv 7) (fun _ _=>rfl))))
   (ae (BL (i:=3) (own:= [("client",8)]) rfl cX.nd rfl rfl (Gh rfl rfl rfl (by decide +kernel)) (tG (pv 2)) (lU (show Gj rM (ay eS) _ _=true by decide +kernel)) (fun _ _ _ _ _=>eV (i:=8) cX.nd rfl (Or.inl rfl)) (fun _ _ _ _ _=>A1) (fun _ _ _ _ _=>(px K rfl (pv 8) rfl)))
   (ae (aZ (i:=4) cX.nd rfl (Or.inl rfl) ah)
   (ae (aZ (i:=5) cX.nd rfl (Or.inl rfl) (Mu rfl (by rfl) T.vK (pv 3) (cO eB (pv 1) ah)))
   (ae (wH PassesOwn.never (aM BE (pv 5) (pv 1) (aS _)) (ae (aQ (pv 0) (pv 5) rfl)
   (ae (aZ (i:=6) cX.nd rfl (Or.inl rfl) (iy PySem.F.plainAttrs_list PySem.F.slot_list_index PySem.F.type_list_index PR (pv 3) (aa (pv 5) af)))
   (ae (aJ (aB (YJ T) (hr.mono (by decide)) (by rfl) T.Vi T.QA.kp T.Vj .nil aX (aa (pv 0) (aa (aG aN (pv 2) (pv 6) (fun _ _=>rfl)) af))))
   (ae (Pw (ai (aG aN (pv 2) (pv 6) (fun _ _=>rfl)) rfl) (Pu (pv 3) (pv 6) set_list))
   (ae (Ku (i:=4) cX.nd rfl (Or.inl rfl) ah Kv)
   (ak (aZ (i:=5) cX.nd rfl (Or.inl rfl) (bc (V7 rfl) (by rfl) T.vK PyProof.Rows.boot_min (aa (pv 3) af))))))))))
   (ak (aL (pv 4))))))),?_⟩
  have S0:=R.hn
  have CK:=fI T
  refine ⟨_,rfl,A.w,_,_,_,_,rfl,R.cV,T.aw,T.aA,rfl,A.cd,_,_,rfl,R.cd,tp R.len,fun ns p Ri af5 hp=>⟨p,rfl,⟨_,cK.of ab⟩,fun D hD=> ?_⟩⟩
  have S1:=aj.ao (o:=HO.lst (ns.map V.int)) hp
  have OA:L2.upd H p (HO.lst (ns.map V.int)) p=some (.lst (ns.map V.int)):=ab
  generalize L2.upd H p (HO.lst (ns.map V.int))=H1 at *
  have SD:∀l,aj H1 (L2.upd H1 D (.lst l)):=fun l=>aj.ao hD
  have hnl:ns.length≤64:=by
   rw [Ri.length_eq,List.length_map]
   exact hlen
  refine Gi (K:=K) (a:=p) (xs:=ns.map V.int) (fun i H'=>H'=L2.upd H1 D (.lst (((ns.take i).filterMap (oF cas W.clients)).map fun x=>V.ref x.2.1))) rfl (fun i H' _ pd=> ?_) (fun i x H' hx pd=> ?_) (fun H2 Uj=> ?_)
  ·rw [pd]
   exact cK.of (SD _ _ _ OA)
  ·subst pd
   obtain ⟨n,hn,rfl⟩:∃n,ns[i]?=some n∧x=V.int n:=by
    rw [List.getElem?_map] at hx
    cases q:ns[i]? with
    |none=>rw [q] at hx;cases hx
    |some n=>rw [q] at hx;exact ⟨n,rfl,(Option.some.inj hx).symm⟩
   obtain ⟨ci,hci⟩:=List.getElem?_of_mem (List.mem_of_getElem? hn)
   have Gd:=Ri.mem_iff.mp (List.mem_of_getElem? hn)
   obtain ⟨c,hc,hcn⟩:=List.mem_map.mp Gd
   obtain ⟨j,hj⟩:=List.getElem?_of_mem hc
   obtain ⟨ca,dt,d,pl,be,le,qQ,dY⟩:=R.cli hj
   subst hcn
   have apH:=Dl S0 dt hj
   have SS:=S1.trans (SD (((ns.take i).filterMap (oF cas W.clients)).map fun x=>V.ref x.2.1))
   have DG:gC (L2.upd H1 D (.lst (((ns.take i).filterMap (oF cas W.clients)).map fun x=>V.ref x.2.1))) A.cd (V.int (c.host:Int)) (some (.ref ca)):=by
    rw [←apH]
    exact gC.k (k:=Sum.inl (c.host:Int)) (SS _ _ R.cd)
   have tk:ns.take (i + 1)=ns.take i ++ [(c.host:Int)] :=by rw [List.take_add_one,hn];rfl
   have Uk:=zN (cas:=cas) S0 hj dt
   refine ⟨rfl,_,rfl,A.w,_,_,_,_,rfl,SS _ _ R.cV,T.aw,T.aA,rfl,_,rfl,A.cd,_,rfl,DG,ca,_,d,_,_,rfl,SS _ _ qQ,T.aq,T.bp,rfl,_,rfl,?_⟩
   cases hd:c.due with
   |none=>
    refine bQ ?_
    rw [hd] at Uk
    rw [tk,List.filterMap_append,List.filterMap_cons,Uk]
    simp
   |some du=>
    refine bI ?_
    rw [hd] at Uk
    refine ⟨_,rfl,A.w,_,_,_,_,rfl,SS _ _ R.cV,T.aw,T.aA,rfl,_,rfl,A.cd,_,rfl,DG,_,ab,?_,?_⟩
    ·rw [List.length_map]
     have h1:=List.length_filterMap_le (oF cas W.clients) (ns.take i)
     rw [List.length_take] at h1
     exact Nat.lt_of_le_of_lt (show _≤64 by omega) (by decide)
    ·rw [cJ,tk,List.filterMap_append,List.filterMap_cons,Uk]
     simp
  ·rw [List.length_map,List.take_length] at Uj
   have WS0:=Rg (cas:=cas) S0 R.len Ri af5
   have E1:(ns.filterMap (oF cas W.clients)).length≤64:=Nat.le_trans (List.length_filterMap_le _ _) hnl
   generalize ns.filterMap (oF cas W.clients)=OF at Uj WS0 E1
   have S2:aj H H2:=by
    rw [Uj]
    exact S1.trans (SD _)
   have OD:H2 D=some (.lst (OF.map fun x=>V.ref x.2.1)):=by
    rw [Uj]
    exact ab
   have hDH:H D=none:=S1.free hD
   clear Uj
   refine ⟨_,rfl,D,rfl,⟨_,cK.of OD⟩,fun F hF=> ?_⟩
   have SF:∀l,aj H2 (L2.upd H2 F (.lst l)):=fun l=>aj.ao hF
   refine Gi (K:=K) (a:=D) (xs:=OF.map fun x=>V.ref x.2.1) (fun i H'=>H'=L2.upd H2 F (.lst ((OF.take i).map fun x=>nV x.2.2))) rfl (fun i H' _ pd=> ?_) (fun i x H' hx pd=> ?_) (fun H3 NL=> ?_)
   ·rw [pd]
    exact cK.of (SF _ _ _ OD)
   ·subst pd
    obtain ⟨y,hy,rfl⟩:∃y,OF[i]?=some y∧x=V.ref y.2.1:=by
     rw [List.getElem?_map] at hx
     cases q:OF[i]? with
     |none=>rw [q] at hx;cases hx
     |some n=>rw [q] at hx;exact ⟨n,rfl,(Option.some.inj hx).symm⟩
    obtain ⟨hya,c,hyc,hyd⟩:=WS0.at_ y (List.mem_of_getElem? hy)
    obtain ⟨d,pl,be,le,qQ,dY⟩:=R.gN hyc hya
    have SS:=S2.trans (SF ((OF.take i).map fun x=>nV x.2.2))
    refine ⟨rfl,?_⟩
    refine Dm ?_
    refine ⟨_,rfl,y.2.1,_,d,_,_,rfl,SS _ _ qQ,T.aq,T.bp,rfl,_,ab,?_,?_⟩
    ·rw [List.length_map,List.length_take]
     exact Nat.lt_of_le_of_lt (show _≤64 by omega) (by decide)
    ·rw [cJ,List.take_add_one,hy,List.map_append,hyd]
     rfl
   ·rw [List.length_map,List.take_length] at NL
    have S3:aj H H3:=by
     rw [NL]
     exact S2.trans (SF _)
    have hw3:H3 D=some (.lst (OF.map fun x=>V.ref x.2.1)):=by
     rw [NL]
     exact SF _ _ _ OD
    have hd3:H3 F=some (.lst (OF.map fun x=>nV x.2.2)):=by
     rw [NL]
     exact ab
    have hFH:H F=none:=S2.free hF
    have hDF:D≠F:=aI OD hF
    have R3:=R.same S3
    have F3:ez A cas H H3:=aj.ek S3
    have mD:=R.fresh hDH
    have mF:=R.fresh hFH
    clear NL
    have hmm:∀ws:List AU,(ws.map fun x=>nV x.2.2)=(ws.map fun x=>(x.2.2:Int)).map V.int:=fun ws=>by rw [List.map_map];rfl
    refine ⟨_,rfl,_,rfl,_,_,rfl,rfl,F,OF.map (fun x=>(x.2.2:Int)),rfl,cK.of (by rw [←hmm];exact hd3),?_⟩
    have st0:∀x0:Int,((OF= [] ∧x0=(e:Int) + 1)∨((∃x∈OF,x0=(x.2.2:Int))∧∀y∈OF,x0≤(y.2.2:Int)))→Uh (cs t) lid e W A cas H D F (mu e W.clients) [some (.ref A.w),some (nV e),some (.ref D),some (.ref F),some (nV 0),some (.int x0),none,none,none] H3:=fun x0 hx=>
     ⟨W,0,OF,x0,none,rfl,yy.start hg hmu,R3,rfl,Rh,hw3,hd3,WS0,E1,hx,rfl,F3⟩
    refine (fun turn=>⟨fun z=>⟨Uh (cs t) lid e W A cas H D F,⟨_,st0 _ (.inl ⟨List.map_eq_nil_iff.mp z,rfl⟩)⟩,turn⟩,fun m hm hle=>⟨Uh (cs t) lid e W A cas H D F,⟨_,st0 m (.inr ⟨(let ⟨x,hx,e1⟩:=List.mem_map.mp hm;⟨x,hx,e1.symm⟩),fun y hy=>hle _ (List.mem_map.mpr ⟨y,hy,rfl⟩)⟩)⟩,turn⟩⟩) ?_
    ·rintro m σ Hk ⟨Wk,kk,ws,x0,v6,rfl,Tx,Rk,hck,hbk,hDk,hFk,WSk,apK,hx0,rfl,Fk⟩
     refine ⟨_,rfl,_,rfl,_,_,rfl,rfl,_,rfl,?_⟩
     refine eR (fun hle=> ?_) fun hle=> ?_
     ·have Wz:x0≤(e:Int):=of_decide_eq_true hle
      obtain ⟨hex,gk⟩:(∃x∈ws,x0=(x.2.2:Int))∧∀y∈ws,x0≤(y.2.2:Int):=by
       rcases hx0 with ⟨_,q⟩|q
       ·omega
       ·exact q
      obtain ⟨p,x,Vp,hxx,apL⟩:=J6 hex
      subst hxx
      obtain ⟨hxa,c,SA,hxd⟩:=WSk.at_ x (List.mem_of_getElem? Vp)
      have hte:x.2.2≤e:=by omega
      have YK:∀y∈ws,x.2.2≤y.2.2:=fun y hy=>by have:=gk y hy;omega
      have hf2:∀ (q:Nat)(y:AU),q < p→ws[q]?=some y→y.2.2≠x.2.2:=fun q y hq hy z=>apL q y hq hy (by rw [z])
      obtain ⟨af7,_⟩:=WSk.soonest Vp YK hf2 SA
      have hgc:=Tx.good.cl c (List.mem_of_getElem? SA)
      have hph:=lD hgc hxd
      have apN:=Tx.act SA af7 hxd hte
      have apO:=C7 Tx.good SA hxd hte
      obtain ⟨ea1,ea2,ea3,_⟩:=yx (t:=x.2.2) Tx.good SA hph
      obtain ⟨did,t2,ht2,awM⟩:=sV x.2.2 hgc hph
      refine ⟨fun σ' H'=>∃m',m' < mu e Wk.clients∧Uh (cs t) lid e W A cas H D F m' σ' H',fun _ _ h=>h,?_⟩
      refine ⟨_,rfl,_,rfl,A.w,_,_,_,rfl,Rk.cV,T.aw,T.a8,lt1000 rfl,?_⟩
      have R4:=Rk.Q3 CK x.2.2
      have F4:ez A cas Hk (L2.upd Hk A.w (.ins (cs t).W A.dw (A.fs x.2.2 Wk.servers Wk.cap))):=ez.upd (.inl rfl)
      have YM:=F4 _ _ hDk mD
      have hF4:=F4 _ _ hFk mF
      generalize hH4:L2.upd Hk A.w _=H4
      have hH:L2.upd Hk A.w (.ins (cs t).W A.dw (A.fs x.2.2 Wk.servers Wk.cap))=H4:=hH4
      rw [hH] at R4 F4 YM hF4
      clear hH hH4
      refine ⟨_,rfl,.inl ⟨rfl,_,cK.of hF4⟩,_,rfl,F,_,_,p,nV x.2.2,rfl,rfl,cK.of hF4,rfl,?_,?_,?_,?_,?_⟩
      ·rw [List.all_map]
       exact List.all_eq_true.mpr fun y _=>rfl
      ·rw [List.getElem?_map,Vp]
       rfl
      ·show ((x.2.2:Int)==(x.2.2:Int))=true
       exact beq_self_eq_true _
      ·intro q z hq hz
       rw [List.getElem?_map] at hz
       cases hy:ws[q]? with
       |none=>rw [hy] at hz;cases hz
       |some y=>
        rw [hy] at hz
        cases hz
        have:=hf2 q y hq hy
        show ((y.2.2:Int)==(x.2.2:Int))=false
        exact beq_eq_false_iff_ne.mpr (by omega)
      ·
       have Zq:∀ {Hx:Hp},(ws.map fun x=>V.ref x.2.1)[p]?=some (V.ref x.2.1):=by
        intro _
        rw [List.getElem?_map,Vp]
        rfl
       refine ⟨_,rfl,_,rfl,_,rfl,D,_,_,_,rfl,rfl,cK.of YM,iQ (Zq (Hx:=H4)),A,cas,{Wk with now:=x.2.2},x.1,x.2.1,c,rfl,R4,Nat.le_trans hbk Tf,hxa,SA,hgc,hph,fun H5 R5 F5=> ?_⟩
       have R5':Rep (cs t) H5 A cas (gi Wk x.2.2 c):=R5
       have hD5:=F5 _ _ YM mD
       have hF5:=F5 _ _ hF4 mF
       have hc5:(gi Wk x.2.2 c).clients[x.1]?=some (Vbcnag.acts x.2.2 c).1:=by
        rw [ea1]
        exact jU SA
       obtain ⟨d5,pl5,be5,le5,apP,awO⟩:=R5'.gN hc5 hxa
       refine ⟨_,rfl,_,rfl,D,_,_,_,rfl,rfl,cK.of hD5,iQ (Zq (Hx:=H5)),x.2.1,_,d5,_,_,rfl,apP,T.aq,T.bp,rfl,_,rfl,_,rfl,F,_,_,p,rfl,rfl,hF5,?_,?_⟩
       ·unfold Pd
        have:p < ws.length:=(List.getElem?_eq_some_iff.mp Vp).1
        rw [List.length_map,if_pos (by omega),if_pos (by omega)]
        rfl
       ·have Zk:((ws.map fun x=>nV x.2.2).set p (oV (Vbcnag.acts x.2.2 c).1.due))=((ws.set p (x.1,x.2.1,t2)).map fun x=>nV x.2.2):=by
         rw [List.map_set,ht2]
         rfl
        have hws:(ws.set p (x.1,x.2.1,t2)).map (fun x=>V.ref x.2.1)=ws.map fun x=>V.ref x.2.1:=by
         rw [List.map_set]
         apply List.ext_getElem?
         intro q
         rw [List.getElem?_set]
         split
         ·rename_i hq
          subst hq
          have hl:=(List.getElem?_eq_some_iff.mp Vp).1
          rw [List.length_map,if_pos hl,Zq (Hx:=H5)]
         ·rfl
        have R6:=Rep.other R5' hF5 mF (.lst ((ws.set p (x.1,x.2.1,t2)).map fun x=>nV x.2.2))
        have WS6:=WSk.set Vp SA did.host ht2
        rw [←ea1] at WS6
        have hD6:L2.upd H5 F (.lst ((ws.set p (x.1,x.2.1,t2)).map fun x=>nV x.2.2)) D=some (.lst ((ws.set p (x.1,x.2.1,t2)).map fun x=>V.ref x.2.1)):=by
         rw [az hDF,hws]
         exact hD5
        have F6:ez A cas H (L2.upd H5 F (.lst ((ws.set p (x.1,x.2.1,t2)).map fun x=>nV x.2.2))):=fun b o hb nm=>by
         rw [az (aI hb hFH)]
         exact (Fk.trans (F4.trans F5)) b o hb nm
        have eD:p < ws.length:=(List.getElem?_eq_some_iff.mp Vp).1
        refine ⟨_,rfl,_,_,rfl,rfl,?_⟩
        rw [show ((ws.map fun x=>nV x.2.2).set p (oV (Vbcnag.acts x.2.2 c).1.due))=((ws.set p (x.1,x.2.1,t2)).map fun x=>nV x.2.2) from Zk]
        refine ⟨_,rfl,F,(ws.set p (x.1,x.2.1,t2)).map (fun x=>(x.2.2:Int)),rfl,cK.of (by rw [←hmm];exact ab),(by rw [List.length_map,List.length_set];omega),fun m' Wu apQ=> ?_⟩
        obtain ⟨y,hy,ey⟩:=List.mem_map.mp Wu
        exact ⟨_,apO,gi Wk x.2.2 c,kk + 1,ws.set p (x.1,x.2.1,t2),m',some (nV p),rfl,apN,R6,ea3.trans hck,(by rw [←hck];exact OE (by rw [hck];exact hbk)),hD6,ab,WS6,(by rw [List.length_set];exact apK),
         .inr ⟨⟨y,hy,ey.symm⟩,fun z hz=>apQ _ (List.mem_map.mpr ⟨z,hz,rfl⟩)⟩,rfl,F6⟩
     ·have Wz:¬x0≤(e:Int):=fun q=>hle (decide_eq_true q)
      have Qm:=Tx.ends fun c hc d hd=>by
       obtain ⟨i,hi⟩:=List.getElem?_of_mem hc
       obtain ⟨y,hy,Vn⟩:=WSk.all i c d hi hd
       obtain ⟨_,c1,DT,hd1⟩:=WSk.at_ y hy
       rw [Vn,hi] at DT
       cases DT
       rw [hd] at hd1
       have ed:d=y.2.2:=Option.some.inj hd1
       rcases hx0 with ⟨q,_⟩|⟨_,q⟩
       ·rw [q] at hy
        cases hy
       ·have:=q y hy
        omega
      exact ⟨_,rfl,k Hk Wk kk Qm Rk Fk⟩
end
end Rl
namespace Rl
open PySem PySem.Spec PyProof.Rows L2
open Vbcnag (Mark Msg Under Offer Lease Client Relay Assigned Written)
def bz (g:VW→List Int→Prop)(f:VW→List Int→VW×List Int)(K:PySem.W.Frag)(C:Cs):Sp:=fun vs H Q _=>∃ (A:Ad)(cas:List Addr)(W:VW)(nm:Addr)(ns:List Int),
 vs= [.ref A.w,.ref nm] ∧Rep C H A cas W∧cp W∧cK K H nm (ns.map V.int)∧¬A.mut cas nm∧g W ns∧
 ∀ (H':Hp)(Ei:List Addr)(p:Addr),Rep C H' A Ei (f W ns).1→ez A cas H H'→(∀b∈Ei,b∈cas∨H b=none)→H' p=some (.lst ((f W ns).2.map V.int))→H p=none→Q (.ref p) H'
theorem Fz {cas:List Addr}{W:VW}{n:Nat}(hl:cas.length=W.clients.length)(h:Vbcnag.clientOf W n=none):dz (bL cas W.clients) (Sum.inl (n:Int))=none:=by
 cases q:dz (bL cas W.clients) (Sum.inl (n:Int)) with
 |none=>rfl
 |some v=>
  have m:=To q
  rw [tp hl] at m
  obtain ⟨i,hi,e⟩:=List.mem_map.mp m
  obtain ⟨c,hc,e2⟩:=List.mem_map.mp hi
  have e3:i=(n:Int):=Sum.inl.inj e
  exact absurd (List.mem_map.mpr ⟨c,hc,by omega⟩) (oE h)
theorem Dn {h:Int}(a:Vbcnag.isHost h=true):∃n:Nat,h=(n:Int):=⟨h.toNat,by have:=bR.mp a;omega⟩
theorem cP {H:Hp}{a p:Addr}{o:HO}(h:L2.upd H a o p=none):H p=none:=by
 by_cases z:p=a
 ·rw [z,ab] at h
  cases h
 ·rw [az z] at h
  exact h
theorem Rep.find {C:Cs}{H:Hp}{A:Ad}{cas:List Addr}{W:VW}(R:Rep C H A cas W)(n:Nat):(Vbcnag.clientOf W n=none∧gC H A.cd (V.int (n:Int)) none)∨
  ∃ (i:Nat)(ca:Addr)(c:Client)(d:Addr)(pl be le:V),Vbcnag.clientOf W n=some c∧c.host=n∧W.clients[i]?=some c∧cas[i]?=some ca∧H ca=some (.ins C.C d (wC c pl be le))∧Oy H c pl be le∧gC H A.cd (V.int (n:Int)) (some (.ref ca)):=by
 have wD:∀o,dz (bL cas W.clients) (Sum.inl (n:Int))=o→gC H A.cd (V.int (n:Int)) o:=fun o e=>by
  rw [←e]
  exact gC.k (k:=Sum.inl (n:Int)) R.cd
 cases hc:Vbcnag.clientOf W n with
 |none=>exact .inl ⟨rfl,wD _ (Fz R.len hc)⟩
 |some c=>
  obtain ⟨Zx,DX⟩:=lC hc
  obtain ⟨i,hi⟩:=List.getElem?_of_mem Zx
  obtain ⟨ca,dt,d,pl,be,le,qQ,dY⟩:=R.cli hi
  have hv:=Dl R.hn dt hi
  rw [DX] at hv
  exact .inr ⟨i,ca,c,d,pl,be,le,rfl,DX,hi,dt,qQ,dY,wD _ hv⟩
theorem pf {W:VW}{n:Nat}{f:Client→VW×List Int}(hh:Vbcnag.isHost (n:Int)=true)(hc:Vbcnag.clientOf W n=none):Vbcnag.withClient W (n:Int) f=(W,[-2]):=by
 unfold Vbcnag.withClient
 rw [hh,Int.toNat_natCast,hc]
 rfl
theorem gg {W:VW}{n:Nat}{c:Client}{f:Client→VW×List Int}(hh:Vbcnag.isHost (n:Int)=true)(hc:Vbcnag.clientOf W n=some c):Vbcnag.withClient W (n:Int) f=f c:=by
 unfold Vbcnag.withClient
 rw [hh,Int.toNat_natCast,hc]
 rfl
section
variable {P:Program}{w:World}{K:PySem.W.Frag}{mg:Str→Option Value}{base:Heap}{t:ke}
abbrev g1:VW→List Int→Prop:=fun _ ns=>∃h,ns= [h] ∧Vbcnag.isHost h=true
def uM:VW→List Int→VW×List Int:=fun W ns=>Vbcnag.inWorld W (.unplug (ns.headD 0))
theorem OG (T:Txt K mg t):bH P w K mg base fg 8 t.eJ t.xo xa (bz g1 uM K (cs t)):=by
 refine T.Cj.ok E8 (fun vs H Q E h=> ?_) (fun dZ A0 outer s H vs Q E hr h=> ?_)
 ·obtain ⟨A,cas,W,nm,ns,rfl,_⟩:=h
  rfl
 ·obtain ⟨A,cas,W,nm,ns,rfl,R,wg,hS,uZ,⟨h0,rfl,hh⟩,k⟩:=h
  obtain ⟨n,rfl⟩:=Dn hh
  have hu:=gE hr
  have CK:=fI T
  refine ⟨_,ae (aZ (i:=2) E8.nd rfl (Or.inl rfl) (gS hu (ai (pv 0) rfl) (aG aN (pv 1) ah (fun _ _=>rfl)) ⟨rfl,rfl,rfl,rfl⟩))
   (ae (br (PW.pt (wF (cq (gQ (pv 2))) (pq (cq (gQ (ai (pv 2) rfl)))))) (ak (aL (bb (aa (d7 cG ah) af)))) aY)
   (ae (aQ (pv 2) eU rfl)
   (ak (aL (bb (aa ah af)))))),?_⟩
  rcases R.find n with ⟨hc,DG⟩|⟨i,ca,c,d,pl,be,le,hc,DX,hi,dt,qQ,dY,DG⟩
  ·have hf:uM W [(n:Int)] =(W,[-2]):=pf hh hc
   rw [hf] at k
   refine ⟨_,rfl,A.w,_,_,_,_,rfl,R.cV,T.aw,T.aA,rfl,A.cd,rfl,.inl ⟨_,.inl R.cd⟩,_,rfl,nm,_,_,_,rfl,rfl,hS,rfl,_,DG,?_⟩
   refine ⟨_,rfl,_,rfl,bI ?_⟩
   refine bI ?_
   exact ⟨_,rfl,(by show 1≤sizeLine;decide),fun p hp=>k _ cas p (R.same (aj.ao hp)) (aj.ek (aj.ao hp)) (fun b h=> .inl h) ab hp⟩
  ·refine ⟨_,rfl,A.w,_,_,_,_,rfl,R.cV,T.aw,T.aA,rfl,A.cd,rfl,.inl ⟨_,.inl R.cd⟩,_,rfl,nm,_,_,_,rfl,rfl,hS,rfl,_,DG,?_⟩
   refine ⟨_,rfl,_,rfl,bQ ?_⟩
   refine ⟨_,rfl,ca,_,d,_,_,rfl,qQ,T.aq,T.aP,rfl,_,rfl,?_⟩
   have eD:=dY.pl
   cases hp:c.place with
   |none=>
    have hf:uM W [(n:Int)] =(W,[-2]):=(gg hh hc).trans (if_pos hp)
    rw [hf] at k
    rw [hp] at eD
    have e:pl= .bY:=eD
    subst e
    refine bI ?_
    exact ⟨_,rfl,(by show 1≤sizeLine;decide),fun p hp=>k _ cas p (R.same (aj.ao hp)) (aj.ek (aj.ao hp)) (fun b h=> .inl h) ab hp⟩
   |some m=>
    have hf:uM W [(n:Int)] =({W with clients:=W.clients.set i {c with place:=none} },[0]):=by
     refine (gg hh hc).trans ((if_neg (by rw [hp];exact fun q=>nomatch q)).trans ?_)
     rw [bX (d:={c with place:=none}) R.hn hi rfl]
    rw [hf] at k
    rw [hp] at eD
    obtain ⟨b,e,_⟩:=eD
    subst e
    refine bQ ?_
    refine ⟨_,rfl,ca,_,d,_,rfl,qQ,T.aq,T.aP,lt1000 rfl,?_⟩
    have R1:=R.setC CK (c':={c with place:=none}) dt hi rfl qQ ⟨rfl,dY.be,dY.le⟩
    exact ⟨(by show 1≤sizeLine;decide),fun p hp=>k _ cas p (Rep.same R1 (aj.ao hp)) ((ez.upd (Ad.iA dt)).trans (aj.ek (aj.ao hp))) (fun b h=> .inl h) ab (cP hp)⟩
def OH:VW→List Int→VW×List Int:=fun W ns=>Vbcnag.inWorld W (.off (ns.headD 0))
theorem J7 (T:Txt K mg t):bH P w K mg base fg 8 t.cR t.pO pE (bz g1 OH K (cs t)):=by
 refine T.vX.ok Ab (fun vs H Q E h=> ?_) (fun dZ A0 outer s H vs Q E hr h=> ?_)
 ·obtain ⟨A,cas,W,nm,ns,rfl,_⟩:=h
  rfl
 ·obtain ⟨A,cas,W,nm,ns,rfl,R,wg,hS,uZ,⟨h0,rfl,hh⟩,k⟩:=h
  obtain ⟨n,rfl⟩:=Dn hh
  have hu:=gE hr
  have CK:=fI T
  obtain ⟨Rj,AE,AF⟩:=T.Fm
  refine ⟨_,ae (aZ (i:=2) Ab.nd rfl (Or.inl rfl) (gS hu (ai (pv 0) rfl) (aG aN (pv 1) ah (fun _ _=>rfl)) ⟨rfl,rfl,rfl,rfl⟩))
   (ae (br (cq (gQ (pv 2))) (ak (aL (bb (aa (d7 cG ah) af)))) aY)
   (ae (br (aM cU (ai (pv 2) rfl) (aE (by rfl) AE AF) (aS _)) (ak (aL (bb (aa (d7 cG ah) af)))) aY)
   (ae (aQ (pv 2) (aE (by rfl) AE AF) rfl)
   (ae (aQ (pv 2) ah rfl)
   (ae (aQ (pv 2) ah rfl)
   (ae (aQ (pv 2) ah rfl)
   (ae (aQ (pv 2) eU rfl)
   (ae (aQ (pv 2) eU rfl)
   (ak (aL (bb (aa ah af)))))))))))),?_⟩
  rcases R.find n with ⟨hc,DG⟩|⟨i,ca,c,d,pl,be,le,hc,DX,hi,dt,qQ,dY,DG⟩
  ·have hf:OH W [(n:Int)] =(W,[-2]):=pf hh hc
   rw [hf] at k
   refine ⟨_,rfl,A.w,_,_,_,_,rfl,R.cV,T.aw,T.aA,rfl,A.cd,rfl,.inl ⟨_,.inl R.cd⟩,_,rfl,nm,_,_,_,rfl,rfl,hS,rfl,_,DG,?_⟩
   refine ⟨_,rfl,_,rfl,bI ?_⟩
   exact ⟨_,rfl,(by show 1≤sizeLine;decide),fun p hp=>k _ cas p (R.same (aj.ao hp)) (aj.ek (aj.ao hp)) (fun b h=> .inl h) ab hp⟩
  ·refine ⟨_,rfl,A.w,_,_,_,_,rfl,R.cV,T.aw,T.aA,rfl,A.cd,rfl,.inl ⟨_,.inl R.cd⟩,_,rfl,nm,_,_,_,rfl,rfl,hS,rfl,_,DG,?_⟩
   refine ⟨_,rfl,_,rfl,bQ ?_⟩
   refine ⟨_,rfl,ca,_,d,_,_,rfl,qQ,T.aq,T.aH,rfl,rfl,_,rfl,?_⟩
   refine eR (fun q1=> ?_) fun q1=> ?_
   ·have h1:c.phase=0:=bV (b:=0)|>.mp q1
    have hf:OH W [(n:Int)] =(W,[-3]):=(gg hh hc).trans (if_pos h1)
    rw [hf] at k
    exact ⟨_,rfl,(by show 1≤sizeLine;decide),fun p hp=>k _ cas p (R.same (aj.ao hp)) (aj.ek (aj.ao hp)) (fun b h=> .inl h) ab hp⟩
   ·have h1:¬c.phase=0:=fun z=>q1 (bV (b:=0)|>.mpr z)
    have hf:OH W [(n:Int)] =({W with clients:=W.clients.set i {c with phase:=0,number:=0,sent:=0,tries:=0,due:=none,best:=none} },[0]):=by
     refine (gg hh hc).trans ((if_neg h1).trans ?_)
     rw [bX (d:={c with phase:=0,number:=0,sent:=0,tries:=0,due:=none,best:=none}) R.hn hi rfl]
    rw [hf] at k
    refine ⟨_,rfl,ca,_,d,_,rfl,qQ,T.aq,T.aH,lt1000 rfl,_,rfl,ca,_,d,_,rfl,ab,T.aq,T.bD,lt1000 rfl,_,rfl,ca,_,d,_,rfl,ab,T.aq,T.bT,lt1000 rfl,
     _,rfl,ca,_,d,_,rfl,ab,T.aq,T.aV,lt1000 rfl,_,rfl,ca,_,d,_,rfl,ab,T.aq,T.bp,lt1000 rfl,_,rfl,ca,_,d,_,rfl,ab,T.aq,T.a7,lt1000 rfl,?_⟩
    rw [cJ,cJ,cJ,cJ,cJ]
    have R1:=R.setC CK (c':={c with phase:=0,number:=0,sent:=0,tries:=0,due:=none,best:=none}) dt hi rfl qQ ⟨dY.pl,rfl,dY.le⟩
    exact ⟨(by show 1≤sizeLine;decide),fun p hp=>k _ cas p (Rep.same R1 (aj.ao hp)) ((ez.upd (Ad.iA dt)).trans (aj.ek (aj.ao hp))) (fun b h=> .inl h) ab (cP hp)⟩
def uN:VW→List Int→VW×List Int:=fun W ns=>Vbcnag.inWorld W (.forget (ns.headD 0))
theorem OI (T:Txt K mg t):bH P w K mg base fg 8 t.eK t.xp xb (bz g1 uN K (cs t)):=by
 refine T.Cm.ok E9 (fun vs H Q E h=> ?_) (fun dZ A0 outer s H vs Q E hr h=> ?_)
 ·obtain ⟨A,cas,W,nm,ns,rfl,_⟩:=h
  rfl
 ·obtain ⟨A,cas,W,nm,ns,rfl,R,wg,hS,uZ,⟨h0,rfl,hh⟩,k⟩:=h
  obtain ⟨n,rfl⟩:=Dn hh
  have hu:=gE hr
  have CK:=fI T
  obtain ⟨Rj,AE,AF⟩:=T.Fm
  refine ⟨_,ae (aZ (i:=2) E9.nd rfl (Or.inl rfl) (gS hu (ai (pv 0) rfl) (aG aN (pv 1) ah (fun _ _=>rfl)) ⟨rfl,rfl,rfl,rfl⟩))
   (ae (br (cq (gQ (pv 2))) (ak (aL (bb (aa (d7 cG ah) af)))) aY)
   (ae (br (aM BD (ai (pv 2) rfl) (aE (by rfl) AE AF) (aS _)) (ak (aL (bb (aa (d7 cG ah) af)))) aY)
   (ae (aQ (pv 2) eU rfl)
   (ak (aL (bb (aa ah af))))))),?_⟩
  rcases R.find n with ⟨hc,DG⟩|⟨i,ca,c,d,pl,be,le,hc,DX,hi,dt,qQ,dY,DG⟩
  ·have hf:uN W [(n:Int)] =(W,[-2]):=pf hh hc
   rw [hf] at k
   refine ⟨_,rfl,A.w,_,_,_,_,rfl,R.cV,T.aw,T.aA,rfl,A.cd,rfl,.inl ⟨_,.inl R.cd⟩,_,rfl,nm,_,_,_,rfl,rfl,hS,rfl,_,DG,?_⟩
   refine ⟨_,rfl,_,rfl,bI ?_⟩
   exact ⟨_,rfl,(by show 1≤sizeLine;decide),fun p hp=>k _ cas p (R.same (aj.ao hp)) (aj.ek (aj.ao hp)) (fun b h=> .inl h) ab hp⟩
  ·refine ⟨_,rfl,A.w,_,_,_,_,rfl,R.cV,T.aw,T.aA,rfl,A.cd,rfl,.inl ⟨_,.inl R.cd⟩,_,rfl,nm,_,_,_,rfl,rfl,hS,rfl,_,DG,?_⟩
   refine ⟨_,rfl,_,rfl,bQ ?_⟩
   refine ⟨_,rfl,ca,_,d,_,_,rfl,qQ,T.aq,T.aH,rfl,rfl,_,rfl,?_⟩
   by_cases h1:c.phase=0
   ·have hf:uN W [(n:Int)] =({W with clients:=W.clients.set i {c with lease:=none} },[0]):=by
     refine (gg hh hc).trans ((if_neg (fun q=>q h1)).trans ?_)
     rw [bX (d:={c with lease:=none}) R.hn hi rfl]
    rw [hf] at k
    refine P7 (show nV c.phase=V.int 0 by rw [h1];rfl) ?_
    refine ⟨_,rfl,ca,_,d,_,rfl,qQ,T.aq,T.aK,lt1000 rfl,?_⟩
    have R1:=R.setC CK (c':={c with lease:=none}) dt hi rfl qQ ⟨dY.pl,dY.be,rfl⟩
    exact ⟨(by show 1≤sizeLine;decide),fun p hp=>k _ cas p (Rep.same R1 (aj.ao hp)) ((ez.upd (Ad.iA dt)).trans (aj.ek (aj.ao hp))) (fun b h=> .inl h) ab (cP hp)⟩
   ·have hf:uN W [(n:Int)] =(W,[-3]):=(gg hh hc).trans (if_pos h1)
    rw [hf] at k
    have u4:decide (nV c.phase=V.int 0)=false:=decide_eq_false fun q=>h1 (bV (b:=0)|>.mp (decide_eq_true q))
    rw [u4]
    refine bI ?_
    exact ⟨_,rfl,(by show 1≤sizeLine;decide),fun p hp=>k _ cas p (R.same (aj.ao hp)) (aj.ek (aj.ao hp)) (fun b h=> .inl h) ab hp⟩
end
end Rl
namespace Rl
open PySem PySem.Spec PyProof.Rows L2
open Vbcnag (Mark Msg Under Offer Lease Client Relay Assigned Written)
theorem cp.YN {W:VW}(g:cp W):W.bag.length≤10000:=Nat.le_trans g.bag g.cap.2
section
variable {P:Program}{w:World}{K:PySem.W.Frag}{mg:Str→Option Value}{base:Heap}{t:ke}
def YO:VW→List Int→VW×List Int:=fun W ns=>Vbcnag.inWorld W (.on (ns.headD 0))
theorem LK (T:Txt K mg t):bH P w K mg base fg 8 t.dP t.ua tS (bz g1 YO K (cs t)):=by
 refine T.zh.ok BY (fun vs H Q E h=> ?_) (fun dZ A0 outer s H vs Q E hr h=> ?_)
 ·obtain ⟨A,cas,W,nm,ns,rfl,_⟩:=h
  rfl
 ·obtain ⟨A,cas,W,nm,ns,rfl,R,wg,hS,uZ,⟨h0,rfl,hh⟩,k⟩:=h
  obtain ⟨n,rfl⟩:=Dn hh
  have hu:=gE hr
  have CK:=fI T
  obtain ⟨Rj,AE,AF⟩:=T.Fm
  refine ⟨_,ae (aZ (i:=2) BY.nd rfl (Or.inl rfl) (gS hu (ai (pv 0) rfl) (aG aN (pv 1) ah (fun _ _=>rfl)) ⟨rfl,rfl,rfl,rfl⟩))
   (ae (br (cq (gQ (pv 2))) (ak (aL (bb (aa (d7 cG ah) af)))) aY)
   (ae (br (aM BD (ai (pv 2) rfl) (aE (by rfl) AE AF) (aS _)) (ak (aL (bb (aa (d7 cG ah) af)))) aY)
   (ae (br (PW.pt (iB (cq (gR (ai (pv 2) rfl))) (fK (aM wJ (aG bq (ai (pv 2) rfl) ah (fun _ _=>rfl)) (ai (pv 0) rfl) (aS _))))) (ak (aJ (aB (MY T) (hr.mono (by decide)) (by rfl) T.sf T.mW.kp T.si .nil aX (aa (pv 0) (aa (pv 2) (aa ah af)))))) (ak (aJ (aB (yD T) (hr.mono (by decide)) (by rfl) T.zd T.vU.kp T.ze .nil aX (aa (pv 0) (aa (pv 2) (aa ah af)))))))
   (ak (aL (bb (aa ah af))))))),?_⟩
  rcases R.find n with ⟨hc,DG⟩|⟨i,ca,c,d,pl,be,le,hc,DX,hi,dt,qQ,dY,DG⟩
  ·have hf:YO W [(n:Int)] =(W,[-2]):=pf hh hc
   rw [hf] at k
   refine ⟨_,rfl,A.w,_,_,_,_,rfl,R.cV,T.aw,T.aA,rfl,A.cd,rfl,.inl ⟨_,.inl R.cd⟩,_,rfl,nm,_,_,_,rfl,rfl,hS,rfl,_,DG,?_⟩
   refine ⟨_,rfl,_,rfl,bI ?_⟩
   exact ⟨_,rfl,(by show 1≤sizeLine;decide),fun p hp=>k _ cas p (R.same (aj.ao hp)) (aj.ek (aj.ao hp)) (fun b h=> .inl h) ab hp⟩
  ·refine ⟨_,rfl,A.w,_,_,_,_,rfl,R.cV,T.aw,T.aA,rfl,A.cd,rfl,.inl ⟨_,.inl R.cd⟩,_,rfl,nm,_,_,_,rfl,rfl,hS,rfl,_,DG,?_⟩
   refine ⟨_,rfl,_,rfl,bQ ?_⟩
   refine ⟨_,rfl,ca,_,d,_,_,rfl,qQ,T.aq,T.aH,rfl,rfl,_,rfl,?_⟩
   by_cases h1:c.phase=0
   ·refine P7 (show nV c.phase=V.int 0 by rw [h1];rfl) ?_
    have fin:∀ (y:Vbcnag.Done)(H':Hp),YO W [(n:Int)] =(Vbcnag.done W y,[0])→Rep (cs t) H' A cas (Vbcnag.done W y)→ez A cas H H'→(∀b,H' b=none→H b=none)→∀p,H' p=none→Q (.ref p) (L2.upd H' p (.lst [V.int 0])):=fun y H' hf R' F' fr p hp=>by
     rw [hf] at k
     exact k _ cas p (R'.same (aj.ao hp)) (F'.trans (aj.ek (aj.ao hp))) (fun b h=> .inl h) ab (fr p hp)
    have fr:∀ {W':VW}{H':Hp},Rep (cs t) H' A cas W'→ez A cas H H'→∀b,H' b=none→H b=none:=fun {W' H'} R' F' b hb=>by
     cases q:H b with
     |none=>rfl
     |some o=>
      by_cases hm:A.mut cas b
      ·obtain ⟨o',DW⟩:=R'.there hm
       rw [hb] at DW
       cases DW
      ·rw [F' b o q hm] at hb
       cases hb
    have jX:YO W [(n:Int)] =(Vbcnag.done W (match c.lease with
      |none=>Vbcnag.seek W.now 0 c
      |some l=>if W.now < l.till then Vbcnag.comeBack W.now 0 l c else Vbcnag.seek W.now 0 c),[0]):=(gg hh hc).trans (if_neg (fun q=>q h1))
    refine ⟨_,rfl,ca,_,d,_,_,rfl,qQ,T.aq,T.aK,rfl,_,rfl,?_⟩
    have hle:=dY.le
    cases hl:c.lease with
    |none=>
     rw [hl] at hle jX
     have e:le= .bY:=hle
     subst e
     refine bQ ?_
     refine bQ ?_
     refine ⟨_,rfl,_,rfl,A,cas,W,i,ca,c,0,rfl,R,wg.YN,dt,hi,Nat.zero_le _,fun H' R' F'=> ?_⟩
     exact ⟨(by show 1≤sizeLine;decide),fin _ H' jX R' F' (fr R' F')⟩
    |some l=>
     rw [hl] at hle jX
     obtain ⟨b,e,Gw⟩:=hle
     subst e
     refine bI ?_
     refine ⟨_,rfl,ca,_,d,_,_,rfl,qQ,T.aq,T.aK,rfl,b,_,_,_,rfl,rfl,bO.of Gw,rfl,_,rfl,A.w,_,_,_,_,rfl,R.cV,T.aw,T.a8,rfl,_,_,rfl,rfl,_,rfl,?_⟩
     refine eR (fun q2=> ?_) fun q2=> ?_
     ·have h2:W.now < l.till:=jV.mp q2
      refine ⟨_,rfl,_,rfl,A,cas,W,i,ca,c,0,l,rfl,R,wg.YN,dt,hi,Nat.zero_le _,hl,fun H' R' F'=> ?_⟩
      exact ⟨(by show 1≤sizeLine;decide),fin _ H' (jX.trans (by dsimp only;rw [if_pos h2])) R' F' (fr R' F')⟩
     ·have h2:¬W.now < l.till:=fun z=>q2 (jV.mpr z)
      refine ⟨_,rfl,_,rfl,A,cas,W,i,ca,c,0,rfl,R,wg.YN,dt,hi,Nat.zero_le _,fun H' R' F'=> ?_⟩
      exact ⟨(by show 1≤sizeLine;decide),fin _ H' (jX.trans (by dsimp only;rw [if_neg h2])) R' F' (fr R' F')⟩
   ·have hf:YO W [(n:Int)] =(W,[-3]):=(gg hh hc).trans (if_pos h1)
    rw [hf] at k
    have u4:decide (nV c.phase=V.int 0)=false:=decide_eq_false fun q=>h1 (bV (b:=0)|>.mp (decide_eq_true q))
    rw [u4]
    refine bI ?_
    exact ⟨_,rfl,(by show 1≤sizeLine;decide),fun p hp=>k _ cas p (R.same (aj.ao hp)) (aj.ek (aj.ao hp)) (fun b h=> .inl h) ab hp⟩
abbrev Rm:VW→List Int→Prop:=fun _ ns=>∃h,ns= [h] ∧Vbcnag.within h 0 20000=true
def M4:VW→List Int→VW×List Int:=fun W ns=>Vbcnag.inWorld W (.tick (ns.headD 0))
theorem Rep.lR {C:Cs}{H H':Hp}{A:Ad}{cas:List Addr}{W':VW}(R':Rep C H' A cas W')(F':ez A cas H H'){b:Addr}(hb:H' b=none):H b=none:=by
 cases q:H b with
 |none=>rfl
 |some o=>
  by_cases hm:A.mut cas b
  ·obtain ⟨o',DW⟩:=R'.there hm
   rw [hb] at DW
   cases DW
  ·rw [F' b o q hm] at hb
   cases hb
theorem Ul (T:Txt K mg t):bH P w K mg base fg 9 t.iK t.G7 GQ (bz Rm M4 K (cs t)):=by
 refine T.Lj.ok GR (fun vs H Q E h=> ?_) (fun dZ A0 outer s H vs Q E hr h=> ?_)
 ·obtain ⟨A,cas,W,nm,ns,rfl,_⟩:=h
  rfl
 ·obtain ⟨A,cas,W,nm,ns,rfl,R,wg,hS,uZ,⟨h0,rfl,hh⟩,k⟩:=h
  obtain ⟨n,rfl⟩:∃n:Nat,h0=(n:Int):=⟨h0.toNat,by have:=bR.mp hh;omega⟩
  have CK:=fI T
  obtain ⟨aga,Rn,Ro⟩:=T.JS
  refine ⟨_,ae (aZ (i:=2) GR.nd rfl (Or.inl rfl) (cO eB (ai (pv 0) rfl) (aG aN (pv 1) ah (fun _ _=>rfl))))
   (ae (br (aM wJ (pv 2) (aE (by rfl) Rn Ro) (aS _)) (ak (aL (bb (aa (d7 cG ah) af)))) aY)
   (ae (aZ (i:=3) GR.nd rfl (Or.inl rfl) (aB (Ir T) (hr.mono (by decide)) (by rfl) T.Ag T.sj.kp T.Ah .nil aX (aa (pv 0) (aa (pv 2) af))))
   (ae (aQ (pv 0) (pv 2) rfl)
   (ak (aL (bb (aa ah (aa (pv 2) (aa (pv 3) af))))))))),?_⟩
  refine ⟨_,rfl,A.w,_,_,_,_,rfl,R.cV,T.aw,T.a8,rfl,_,rfl,nm,_,_,_,rfl,rfl,hS,rfl,_,_,rfl,rfl,?_⟩
  refine ⟨_,rfl,_,_,rfl,rfl,_,rfl,?_⟩
  have jX:M4 W [(n:Int)] =if Vbcnag.TIMES < W.now + n then (W,[-2]) else ((Vbcnag.ticks ((n + 1) * (W.clients.length + 1)) (W.now + n) W).1,0::Vbcnag.nums [(Vbcnag.ticks ((n + 1) * (W.clients.length + 1)) (W.now + n) W).1.now,(Vbcnag.ticks ((n + 1) * (W.clients.length + 1)) (W.now + n) W).2]):=by
   show (if Vbcnag.within (n:Int) 0 20000=false then _ else _)=_
   rw [hh]
   rfl
  refine eR (fun q1=> ?_) fun q1=> ?_
  ·have h1:Vbcnag.TIMES < W.now + n:=by
    have:=of_decide_eq_true q1
    unfold Vbcnag.TIMES
    omega
   rw [if_pos h1] at jX
   rw [jX] at k
   exact ⟨_,rfl,(by show 1≤sizeLine;decide),fun p hp=>k _ cas p (R.same (aj.ao hp)) (aj.ek (aj.ao hp)) (fun b h=> .inl h) ab hp⟩
  ·have h1:¬Vbcnag.TIMES < W.now + n:=fun z=>q1 (decide_eq_true (by unfold Vbcnag.TIMES at z;omega))
   rw [if_neg h1] at jX
   rw [jX] at k
   refine ⟨_,rfl,_,rfl,A,cas,W,W.now + n,(n + 1) * (W.clients.length + 1),rfl,R,wg.cap.2,wg.bag,wg.yz,wg.t,C8 wg.Oq,fun H' W' kk he R' F'=> ?_⟩
   rw [he] at k
   refine ⟨_,rfl,_,rfl,A.w,_,_,_,rfl,R'.cV,T.aw,T.a8,lt1000 rfl,?_⟩
   have R2:=R'.Q3 CK (W.now + n)
   exact ⟨_,rfl,_,rfl,(by show 3≤sizeLine;decide),fun p hp=>k _ cas p (Rep.same R2 (aj.ao hp)) ((F'.trans (ez.upd (.inl rfl))).trans (aj.ek (aj.ao hp))) (fun b h=> .inl h) ab (R'.lR F' (cP hp))⟩
end
end Rl
namespace Rl
open PySem PySem.Spec PyProof.Rows L2
open Vbcnag (Mark Msg Under Offer Lease Client Relay Assigned Written)
theorem fJ {a b c a' b' c':Nat}:df a b c=df a' b' c' ↔ a=a'∧b=b'∧c=c':=by
 unfold df
 constructor
 ·intro h
  injection h with h1 h
  injection h with h2 h
  injection h with h3 _
  have e1:=Sum.inl.inj h1
  have e2:=Sum.inl.inj h2
  have e3:=Sum.inl.inj h3
  omega
 ·rintro ⟨rfl,rfl,rfl⟩
  rfl
def isA (s h r:Nat)(y:Assigned):Bool:=decide (y.server=s∧y.host=h∧y.relay=r)
theorem Iu {H:Hp}{p:List Key×V}{y:Assigned}(a:gu H p y)(s h r:Nat):decide (p.1=df s h r)=isA s h r y:=by
 unfold isA
 rw [a.1]
 by_cases q:y.server=s∧y.host=h∧y.relay=r
 ·rw [decide_eq_true q,decide_eq_true (fJ.mpr q)]
 ·rw [decide_eq_false q,decide_eq_false (fun z=>q (fJ.mp z))]
theorem Iv {H:Hp}(s h r:Nat):∀ {kvs:List (List Key×V)}{l:List Assigned},Paired (gu H) kvs l→(kvs.any fun kv=>decide (kv.1=df s h r))=l.any (isA s h r)
 |_,_,.nil=>rfl
 |_,_,.cons a t=>by rw [List.any_cons,List.any_cons,Iu a,Iv s h r t]
theorem J8 {H:Hp}(s h r:Nat){kvs:List (List Key×V)}{l:List Assigned}(P:Paired (gu H) kvs l):(dz kvs (df s h r)).isSome=l.any (isA s h r):=by
 rw [←lV,Iv s h r P]
theorem M5 {H:Hp}{x:Assigned}{v:V}(hx:gu H (df x.server x.host x.relay,v) x):∀ {kvs:List (List Key×V)}{l:List Assigned},Paired (gu H) kvs l→
  Paired (gu H) (kvs.map fun kv=>if kv.1=df x.server x.host x.relay then (kv.1,v) else kv) (l.map fun y=>if isA x.server x.host x.relay y=true then x else y)
 |_,_,.nil=> .nil
 |_,_,.cons (a:=p) (b:=y) a t=>by
  rw [List.map_cons,List.map_cons]
  refine .cons ?_ (M5 hx t)
  have e:=Iu a x.server x.host x.relay
  by_cases q:p.1=df x.server x.host x.relay
  ·rw [if_pos q,←e,if_pos (decide_eq_true q),q]
   exact hx
  ·rw [if_neg q,←e,if_neg (by simpa using q)]
   exact a
theorem Um {H:Hp}{x:Assigned}{v:V}(hx:gu H (df x.server x.host x.relay,v) x){kvs:List (List Key×V)}{l:List Assigned}(P:Paired (gu H) kvs l):
  Paired (gu H) (putK kvs (df x.server x.host x.relay) v) (if l.any (isA x.server x.host x.relay)=true then l.map (fun y=>if isA x.server x.host x.relay y=true then x else y) else l ++ [x]):=by
 unfold putK
 rw [Iv _ _ _ P]
 split
 ·exact M5 hx P
 ·exact Paired.AD P hx
theorem J9 {H:Hp}(s h r:Nat):∀ {kvs:List (List Key×V)}{l:List Assigned},Paired (gu H) kvs l→Paired (gu H) (BM kvs (df s h r)) (l.filter fun y=> !isA s h r y)
 |_,_,.nil=> .nil
 |_,_,.cons (a:=p) (b:=y) a t=>by
  have e:=Iu a s h r
  have ih:=J9 s h r t
  unfold BM at ih ⊢
  rw [List.filter_cons,List.filter_cons,←e]
  by_cases q:p.1=df s h r
  ·rw [if_neg (by simp [q]),if_neg (by simp [q])]
   exact ih
  ·rw [if_pos (by simp [q]),if_pos (by simp [q])]
   exact .cons a ih
section
variable {P:Program}{w:World}{K:PySem.W.Frag}{mg:Str→Option Value}{base:Heap}{t:ke}
abbrev Iw:VW→List Int→Prop:=fun W ns=>∃s h r a l:Nat,ns= [(s:Int),(h:Int),(r:Int),(a:Int),(l:Int)] ∧
 (Vbcnag.isServer W (s:Int) && (Vbcnag.isHost (h:Int) && (Vbcnag.isRelay W (r:Int) && (Vbcnag.within (a:Int) 0 (Vbcnag.ADDRS - 1) && Vbcnag.within (l:Int) 1 1000000000))))=true
def uP:VW→List Int→VW×List Int:=fun W ns=>match ns with
 | [s,h,r,a,l] =>Vbcnag.inWorld W (.assign s h r a l)
 |_=>(W,[])
theorem OJ (T:Txt K mg t):bH P w K mg base fg 8 t.f_assign t.xq xf (bz Iw uP K (cs t)):=by
 refine T.Cn.ok Fb (fun vs H Q E h=> ?_) (fun dZ A0 outer s H vs Q E hr h=> ?_)
 ·obtain ⟨A,cas,W,nm,ns,rfl,_⟩:=h
  rfl
 ·obtain ⟨A,cas,W,nm,ns,rfl,R,wg,hS,uZ,⟨sv,ho,re,ad,ln,rfl,hh⟩,k⟩:=h
  have hu:=gE hr
  obtain ⟨kvs,Rp,hP⟩:=R.ag
  have jX:uP W [(sv:Int),(ho:Int),(re:Int),(ad:Int),(ln:Int)] =(if W.assigned.any (isA sv ho re)=true then ({W with assigned:=W.assigned.map fun y=>if isA sv ho re y=true then {server:=sv,host:=ho,relay:=re,addr:=ad,len:=ln} else y},[0])
    else if 128≤W.assigned.length then (W,[-2]) else ({W with assigned:=W.assigned ++ [{server:=sv,host:=ho,relay:=re,addr:=ad,len:=ln}] },[0])):=by
   show (if _=false then _ else _)=_
   rw [hh]
   rfl
  have hlen:kvs.length=W.assigned.length:=Paired.length hP
  obtain ⟨Pf,AV,AW⟩:=T.rj
  refine ⟨_,ae (aZ (i:=2) Fb.nd rfl (Or.inl rfl) (b0 (aa (aG aN (pv 1) ah (fun _ _=>rfl)) (aa (aG aN (pv 1) ah (fun _ _=>rfl)) (aa (aG aN (pv 1) ah (fun _ _=>rfl)) af)))))
   (ae (br (PW.pt (iB (cq (yX hu (pv 2) (ai (pv 0) rfl))) (fK (aM cU (bc NV (by rfl) T.dN PySem.boot_len (aa (ai (pv 0) rfl) af)) (aE (by rfl) AV AW) (aS _))))) (ak (aL (bb (aa (d7 cG ah) af)))) aY)
   (ae (A2 hu (ai (pv 0) rfl) (pv 2) (b0 (aa (aG aN (pv 1) ah (fun _ _=>rfl)) (aa (aG aN (pv 1) ah (fun _ _=>rfl)) af))) rfl)
   (ak (aL (bb (aa ah af)))))),?_⟩
  refine ⟨_,rfl,nm,_,_,_,rfl,rfl,hS,rfl,_,rfl,nm,_,_,_,rfl,rfl,hS,rfl,_,rfl,nm,_,_,_,rfl,rfl,hS,rfl,(by show 3≤sizeLine;decide),fun q hq=> ?_⟩
  have S1:=aj.ao (o:=HO.tup [V.int (sv:Int),V.int (ho:Int),V.int (re:Int)]) hq
  have LL:L2.upd H q (HO.tup [V.int (sv:Int),V.int (ho:Int),V.int (re:Int)]) q=some (.tup ((df sv ho re).map kV)):=ab
  generalize L2.upd H q (HO.tup [V.int (sv:Int),V.int (ho:Int),V.int (re:Int)])=H1 at *
  have R1:=R.same S1
  have Iy:=S1 _ _ Rp
  have hP1:Paired (gu H1) kvs W.assigned:=Paired.cN hP fun a b f=>f.keep (aj.keep (C:=cs t) S1)
  have DG:=gC.t Iy LL
  have Dq:=J8 sv ho re hP
  refine ⟨_,rfl,_,rfl,A.w,_,_,_,_,rfl,R1.cV,T.aw,T.ba,rfl,A.ag,_,rfl,DG,_,rfl,?_⟩
  have E3:cK K H1 nm _:=S1.seq hS
  have eA:kvs.length < sizeLine:=by
   rw [hlen]
   exact Nat.lt_of_le_of_lt wg.asg (by decide)
  have apR:(W.assigned.any (isA sv ho re)=false∧128≤W.assigned.length∧uP W [(sv:Int),(ho:Int),(re:Int),(ad:Int),(ln:Int)] =(W,[-2]))∨
    ((W.assigned.any (isA sv ho re)=true∨(W.assigned.any (isA sv ho re)=false∧¬128≤W.assigned.length))∧uP W [(sv:Int),(ho:Int),(re:Int),(ad:Int),(ln:Int)] =
     ({W with assigned:=if W.assigned.any (isA sv ho re)=true then W.assigned.map (fun y=>if isA sv ho re y=true then {server:=sv,host:=ho,relay:=re,addr:=ad,len:=ln} else y) else W.assigned ++ [{server:=sv,host:=ho,relay:=re,addr:=ad,len:=ln}] },[0])):=by
   cases ha:W.assigned.any (isA sv ho re) with
   |true=>
    rw [ha,if_pos rfl] at jX
    exact .inr ⟨.inl rfl,by rw [if_pos rfl];exact jX⟩
   |false=>
    rw [ha,if_neg Bool.false_ne_true] at jX
    by_cases hl:128≤W.assigned.length
    ·rw [if_pos hl] at jX
     exact .inl ⟨rfl,hl,jX⟩
    ·rw [if_neg hl] at jX
     exact .inr ⟨.inr ⟨rfl,hl⟩,by rw [if_neg Bool.false_ne_true];exact jX⟩
  rcases apR with ⟨ha,hl,hf⟩|⟨agc,hf⟩
  ·rw [hf] at k
   rw [Dq,ha]
   refine bI ?_
   refine ⟨_,rfl,A.w,_,_,_,_,rfl,R1.cV,T.aw,T.ba,rfl,A.ag,_,rfl,Iy,rfl,_,rfl,?_⟩
   have:W.assigned.length=128:=Nat.le_antisymm wg.asg hl
   rw [show decide (V.int (kvs.length:Int)=V.int 128)=true from decide_eq_true (by rw [hlen,this];rfl)]
   refine bI ?_
   exact ⟨_,rfl,(by show 1≤sizeLine;decide),fun p hp=>k _ cas p (R1.same (aj.ao hp)) ((aj.ek S1).trans (aj.ek (aj.ao hp))) (fun b h=> .inl h) ab (S1.free hp)⟩
  ·rw [hf] at k
   rw [Dq]
   have put:∀z,H1 z=none→∀p,L2.upd (L2.upd H1 z (.tup [V.int (ad:Int),V.int (ln:Int)])) A.ag (.dT (putK kvs (df sv ho re) (.ref z))) p=none→
     Q (.ref p) (L2.upd (L2.upd (L2.upd H1 z (.tup [V.int (ad:Int),V.int (ln:Int)])) A.ag (.dT (putK kvs (df sv ho re) (.ref z)))) p (.lst [V.int 0])):=fun z hz p hp=>by
    have S2:=aj.ao (o:=HO.tup [V.int (ad:Int),V.int (ln:Int)]) hz
    have KW:Paired (gu (L2.upd H1 z (.tup [V.int (ad:Int),V.int (ln:Int)]))) kvs W.assigned:=Paired.cN hP1 fun a b f=>f.keep (aj.keep (C:=cs t) S2)
    have R3:=(R1.same S2).Vm (Um (x:={server:=sv,host:=ho,relay:=re,addr:=ad,len:=ln}) (v:= .ref z) ⟨rfl,z,rfl,ab⟩ KW)
    exact k _ cas p (Rep.same R3 (aj.ao hp)) (((aj.ek (S1.trans S2)).trans (ez.upd (.inr (.inr (.inr (.inr (.inr (.inl rfl)))))))).trans (aj.ek (aj.ao hp))) (fun b h=> .inl h) ab (S1.free (S2.free (cP hp)))
   have tail:∀z,H1 z=none→aj H1 (L2.upd H1 z (.tup [V.int (ad:Int),V.int (ln:Int)])):=fun z hz=>aj.ao hz
   rcases agc with ha|⟨ha,hl⟩
   ·rw [ha]
    refine bQ ?_
    refine bQ ?_
    refine ⟨_,rfl,nm,_,_,_,rfl,rfl,E3,rfl,_,rfl,nm,_,_,_,rfl,rfl,E3,rfl,(by show 2≤sizeLine;decide),fun z hz=> ?_⟩
    exact ⟨_,rfl,A.w,_,_,_,_,rfl,tail z hz _ _ R1.cV,T.aw,T.ba,rfl,_,rfl,A.ag,_,rfl,BN.t (tail z hz _ _ Iy) (tail z hz _ _ LL) eA,(by show 1≤sizeLine;decide),put z hz⟩
   ·rw [ha]
    refine bI ?_
    refine ⟨_,rfl,A.w,_,_,_,_,rfl,R1.cV,T.aw,T.ba,rfl,A.ag,_,rfl,Iy,rfl,_,rfl,?_⟩
    rw [show decide (V.int (kvs.length:Int)=V.int 128)=false from decide_eq_false (fun q=>hl (by injection q with q;omega))]
    refine bQ ?_
    refine ⟨_,rfl,nm,_,_,_,rfl,rfl,E3,rfl,_,rfl,nm,_,_,_,rfl,rfl,E3,rfl,(by show 2≤sizeLine;decide),fun z hz=> ?_⟩
    exact ⟨_,rfl,A.w,_,_,_,_,rfl,tail z hz _ _ R1.cV,T.aw,T.ba,rfl,_,rfl,A.ag,_,rfl,BN.t (tail z hz _ _ Iy) (tail z hz _ _ LL) eA,(by show 1≤sizeLine;decide),put z hz⟩
abbrev zO:VW→List Int→Prop:=fun W ns=>∃s h r:Nat,ns= [(s:Int),(h:Int),(r:Int)] ∧(Vbcnag.isServer W (s:Int) && (Vbcnag.isHost (h:Int) && Vbcnag.isRelay W (r:Int)))=true
def uQ:VW→List Int→VW×List Int:=fun W ns=>match ns with
 | [s,h,r] =>Vbcnag.inWorld W (.withdraw s h r)
 |_=>(W,[])
theorem Ka (T:Txt K mg t):bH P w K mg base fg 8 t.cS t.pP pF (bz zO uQ K (cs t)):=by
 refine T.vY.ok Ac (fun vs H Q E h=> ?_) (fun dZ A0 outer s H vs Q E hr h=> ?_)
 ·obtain ⟨A,cas,W,nm,ns,rfl,_⟩:=h
  rfl
 ·obtain ⟨A,cas,W,nm,ns,rfl,R,wg,hS,uZ,⟨sv,ho,re,rfl,hh⟩,k⟩:=h
  have hu:=gE hr
  obtain ⟨kvs,Rp,hP⟩:=R.ag
  have jX:uQ W [(sv:Int),(ho:Int),(re:Int)] =(if W.assigned.any (isA sv ho re)=false then (W,[-2]) else ({W with assigned:=W.assigned.filter fun y=> !isA sv ho re y},[0])):=by
   show (if _=false then _ else _)=_
   rw [hh]
   rfl
  refine ⟨_,ae (aZ (i:=2) Ac.nd rfl (Or.inl rfl) (b0 (aa (aG aN (pv 1) ah (fun _ _=>rfl)) (aa (aG aN (pv 1) ah (fun _ _=>rfl)) (aa (aG aN (pv 1) ah (fun _ _=>rfl)) af)))))
   (ae (br (cq (yX hu (pv 2) (ai (pv 0) rfl))) (ak (aL (bb (aa (d7 cG ah) af)))) aY)
   (ae (aJ (Qe hu (ai (pv 0) rfl) (pv 2) ⟨rfl,rfl,rfl,rfl⟩))
   (ak (aL (bb (aa ah af)))))),?_⟩
  refine ⟨_,rfl,nm,_,_,_,rfl,rfl,hS,rfl,_,rfl,nm,_,_,_,rfl,rfl,hS,rfl,_,rfl,nm,_,_,_,rfl,rfl,hS,rfl,(by show 3≤sizeLine;decide),fun q hq=> ?_⟩
  have S1:=aj.ao (o:=HO.tup [V.int (sv:Int),V.int (ho:Int),V.int (re:Int)]) hq
  have LL:L2.upd H q (HO.tup [V.int (sv:Int),V.int (ho:Int),V.int (re:Int)]) q=some (.tup ((df sv ho re).map kV)):=ab
  generalize L2.upd H q (HO.tup [V.int (sv:Int),V.int (ho:Int),V.int (re:Int)])=H1 at *
  have R1:=R.same S1
  have Iy:=S1 _ _ Rp
  have hP1:Paired (gu H1) kvs W.assigned:=Paired.cN hP fun a b f=>f.keep (aj.keep (C:=cs t) S1)
  have DG:=gC.t Iy LL
  have Dq:=J8 sv ho re hP
  refine ⟨_,rfl,_,rfl,A.w,_,_,_,_,rfl,R1.cV,T.aw,T.ba,rfl,A.ag,_,rfl,DG,_,rfl,?_⟩
  cases hv:dz kvs (df sv ho re) with
  |none=>
   rw [hv] at Dq
   rw [if_pos (show W.assigned.any (isA sv ho re)=false from Dq.symm)] at jX
   rw [jX] at k
   refine bI ?_
   exact ⟨_,rfl,(by show 1≤sizeLine;decide),fun p hp=>k _ cas p (R1.same (aj.ao hp)) ((aj.ek S1).trans (aj.ek (aj.ao hp))) (fun b h=> .inl h) ab (S1.free hp)⟩
  |some v=>
   rw [hv] at Dq
   rw [if_neg (show ¬W.assigned.any (isA sv ho re)=false from fun z=>by rw [←Dq] at z;cases z)] at jX
   rw [jX] at k
   refine bQ ?_
   refine ⟨_,rfl,A.w,_,_,_,_,rfl,R1.cV,T.aw,T.ba,rfl,A.ag,rfl,.inr ⟨_,.inl Iy⟩,_,rfl,kvs,df sv ho re,q,v,Iy,rfl,LL,hv,?_⟩
   have R3:=R1.Vm (J9 sv ho re hP1)
   exact ⟨(by show 1≤sizeLine;decide),fun p hp=>k _ cas p (Rep.same R3 (aj.ao hp)) (((aj.ek S1).trans (ez.upd (.inr (.inr (.inr (.inr (.inr (.inl rfl)))))))).trans (aj.ek (aj.ao hp))) (fun b h=> .inl h) ab (S1.free (cP hp))⟩
abbrev Rq:VW→List Int→Prop:=fun W ns=>∃s x:Nat,ns= [(s:Int),(x:Int)] ∧(Vbcnag.isServer W (s:Int) && Vbcnag.within (x:Int) 0 1)=true
def M6:VW→List Int→VW×List Int:=fun W ns=>match ns with
 | [s,x] =>Vbcnag.inWorld W (.rest s x)
 |_=>(W,[])
theorem Uo (T:Txt K mg t):bH P w K mg base fg 8 t.iJ t.G6 GP (bz Rq M6 K (cs t)):=by
 refine T.Li.ok TN (fun vs H Q E h=> ?_) (fun dZ A0 outer s H vs Q E hr h=> ?_)
 ·obtain ⟨A,cas,W,nm,ns,rfl,_⟩:=h
  rfl
 ·obtain ⟨A,cas,W,nm,ns,rfl,R,wg,hS,uZ,⟨sv,x,rfl,hh⟩,k⟩:=h
  obtain ⟨bs,Vq,ZD,hbs⟩:=R.rs
  have Br:sv < W.servers:=by
   rw [Bool.and_eq_true] at hh
   have:=bR.mp hh.1
   omega
  have jX:M6 W [(sv:Int),(x:Int)] =({W with resting:=if (x:Int)=1 then sv::(W.resting.filter fun t=>t !=sv) else W.resting.filter fun t=>t !=sv},[0]):=by
   show (if _=false then _ else _)=_
   rw [hh]
   rfl
  rw [jX] at k
  refine ⟨_,ae (Pw (jY cU (aG aN (pv 1) ah (fun _ _=>rfl)) ah (aS _)) (Pu (ai (pv 0) rfl) (aG aN (pv 1) ah (fun _ _=>rfl)) set_list))
   (ak (aL (bb (aa ah af)))),?_⟩
  refine ⟨_,rfl,nm,_,_,_,rfl,rfl,hS,rfl,rfl,_,rfl,A.w,_,_,_,_,rfl,R.cV,T.aw,T.cB,rfl,_,rfl,nm,_,_,_,rfl,rfl,hS,rfl,A.rs,_,_,sv,rfl,rfl,Vq,?_,?_⟩
  ·unfold Pd
   rw [List.length_map,if_pos (by omega),if_pos (by omega)]
   rfl
  ·have hx:decide (V.int (x:Int)=V.int 1)=decide (x=1):=by
    by_cases q:x=1
    ·rw [decide_eq_true q,decide_eq_true (by rw [q];rfl)]
    ·rw [decide_eq_false q,decide_eq_false (fun z=>q (by injection z with z;omega))]
   have e1:(bs.map V.bl).set sv (V.bl (decide (V.int (x:Int)=V.int 1)))=(bs.set sv (decide (x=1))).map V.bl:=by
    rw [hx,List.map_set]
   have R1:=R.af0 (bs:=bs.set sv (decide (x=1))) (l:=if (x:Int)=1 then sv::(W.resting.filter fun t=>t !=sv) else W.resting.filter fun t=>t !=sv) (by rw [List.length_set];exact ZD) (fun s' b hb=>by
    by_cases q:sv=s'
    ·subst q
     rw [List.getElem?_set_self (by omega)] at hb
     cases hb
     by_cases z:x=1
     ·rw [if_pos (by omega),decide_eq_true z]
      simp
     ·rw [if_neg (by omega),decide_eq_false z]
      simp
    ·rw [List.getElem?_set_ne q] at hb
     rw [hbs s' b hb]
     have ne:¬s'=sv:=fun z=>q z.symm
     split
     ·simp [ne]
     ·simp [ne])
   rw [←e1] at R1
   exact ⟨(by show 1≤sizeLine;decide),fun p hp=>k _ cas p (Rep.same R1 (aj.ao hp)) ((ez.upd (.inr (.inr (.inr (.inr (.inl rfl)))))).trans (aj.ek (aj.ao hp))) (fun b h=> .inl h) ab (cP hp)⟩
end
end Rl
namespace L2
open PySem PySem.Spec PyProof.Rows
theorem M7 {d:Addr}{o:Obj}{kvs:List (Key×V)}{g:TG}{tt:TT}{te:TE}{vs:List Nat}{σ:St}{H1:Hp}{D:Addr}{Qd:Hp→Prop}(Pv:Nat→Hp→Prop)(h0:Pv 0 (upd H1 D (.lst [])))(hl:∀i H,i≤kvs.length→Pv i H→H d=some (.jM o (.dK kvs)))
  (hs:∀i k x H,kvs[i]?=some (k,x)→Pv i H→g x (wipe σ vs) H fun σ2 H2=>wipe σ2 vs=wipe σ vs∧tt σ2 H2 fun b H3=>
   if b=true then te σ2 H3 fun y H4=>∃acc,H4 D=some (.lst acc)∧acc.length < sizeLine∧Pv (i + 1) (upd H4 D (.lst (acc ++ [y]))) else Pv (i + 1) H3)(hd:∀H,Pv kvs.length H→Qd H):
  ∃W:Nat→Nat→Hp→Prop,(∃m,W 0 m (upd H1 D (.lst [])))∧∀i m H,W i m H→
   ((Itd d o kvs).stop i H∧Qd H)∨((Itd d o kvs).go i H∧∃Nx:Hp→Prop,(∀H',Nx H'→∃m',m' < m∧W (i + 1) m' H')∧∀x H',(Itd d o kvs).Pb i H x H'→g x (wipe σ vs) H' fun σ2 H2=>wipe σ2 vs=wipe σ vs∧tt σ2 H2 fun b H3=>
    if b=true then te σ2 H3 fun y H4=>∃acc,H4 D=some (.lst acc)∧acc.length < sizeLine∧Nx (upd H4 D (.lst (acc ++ [y]))) else Nx H3):=by
 refine ⟨fun i m H=>m=kvs.length - i∧i≤kvs.length∧Pv i H,⟨kvs.length,by simp,Nat.zero_le _,h0⟩,?_⟩
 rintro i m H ⟨rfl,hi,p⟩
 have q:=hl i H hi p
 by_cases eA:i < kvs.length
 ·refine .inr ⟨⟨q,eA⟩,Pv (i + 1),fun H' p'=>⟨kvs.length - (i + 1),by omega,rfl,eA,p'⟩,fun x H' y=> ?_⟩
  obtain ⟨e,k,y⟩:=y
  subst e
  exact hs i k x _ y p
 ·have e:i=kvs.length:=by omega
  subst e
  exact .inl ⟨⟨q,Nat.le_refl _⟩,hd H p⟩
end L2
namespace Rl
open PySem PySem.Spec PyProof.Rows L2
open Vbcnag (Mark Msg Under Offer Lease Client Relay Assigned Written)
section
variable {P:Program}{w:World}{K:PySem.W.Frag}{mg:Str→Option Value}{base:Heap}{t:ke}
theorem dO {H:Hp}{a b:Addr}{o:HO}(h:H a=some o)(n:H b=none):b≠a:=fun q=>by
 rw [q,h] at n
 cases n
def apT (C:Cs):Sp:=fun vs H Q _=>∃ (A:Ad)(cas:List Addr)(W:VW)(r c:Nat),vs= [.ref A.w,nV r,nV c] ∧Rep C H A cas W∧W.clients.length≤64∧
 ∀H',aj H H'→Q (.bl (W.clients.any fun x=>x.place==some {relay:=r,circuit:=c})) H'
theorem FA {cas:List Addr}{cl:List Client}{i:Nat}{k:Key}{x:V}(h:(bL cas cl)[i]?=some (k,x)):∃a c,cas[i]?=some a∧cl[i]?=some c∧x= .ref a:=by
 unfold bL at h
 rw [List.getElem?_zipWith] at h
 cases ha:cas[i]? with
 |none=>rw [ha] at h;cases h
 |some a=>
  cases hc:cl[i]? with
  |none=>rw [ha,hc] at h;cases h
  |some c=>
   rw [ha,hc] at h
   have e:=Option.some.inj h
   exact ⟨a,c,rfl,rfl,(congrArg Prod.snd e).symm⟩
theorem qR {cas:List Addr}{cl:List Client}(h:cas.length=cl.length):(bL cas cl).length=cl.length:=by
 unfold bL
 rw [List.length_zipWith,h,Nat.min_self]
def plD:Option Mark→PyData
 |none=> .none
 |some m=> .tuple [.int (m.relay:Int),.int (m.circuit:Int)]
theorem Iz {K:PySem.W.Frag}{H:Hp}{p:Option Mark}{v:V}(h:JX H p v):Dp K H v (plD p)∧SeqAt.shaped (plD p)=true:=by
 cases p with
 |none=>
  have e:v= .bY:=h
  subst e
  exact ⟨.bY,rfl⟩
 |some m=>
  obtain ⟨b,rfl,hb⟩:=h
  exact ⟨.tup (bO.of hb) (.cons (.int _) (.cons (.int _) .nil)),rfl⟩
theorem M8 (p:Option Mark)(m:Mark):PyData.eqv (plD p) (plD (some m))=(p==some m):=by
 cases p with
 |none=>rfl
 |some q=>
  show ((q.relay:Int)==(m.relay:Int) && ((q.circuit:Int)==(m.circuit:Int) && true))=_
  have e:(some q==some m)=decide (q=m):=by
   by_cases z:q=m
   ·subst z;simp
   ·rw [decide_eq_false z]
    simpa using z
  rw [e]
  by_cases z:q=m
  ·subst z;simp
  ·rw [decide_eq_false z]
   cases q with
   |mk a b=>
    cases m with
    |mk c d=>
     rw [Bool.and_true,Bool.and_eq_false_iff]
     by_cases y:a=c
     ·right
      subst y
      have:¬b=d:=fun x=>z (by rw [x])
      simpa using (fun x:(b:Int)=(d:Int)=>this (by omega))
     ·left
      simpa using (fun x:(a:Int)=(c:Int)=>y (by omega))
theorem zP (T:Txt K mg t):bH P w K mg base fg 1 t.cx t.gw gv (apT (cs t)):=by
 refine T.jR.ok iF (fun vs H Q E h=> ?_) (fun dZ A0 outer s H vs Q E hr h=> ?_)
 ·obtain ⟨A,cas,W,r,c,rfl,_⟩:=h
  rfl
 ·obtain ⟨A,cas,W,r,c,rfl,R,hlen,k⟩:=h
  have hu:=gE hr
  refine ⟨_,ak (aL (bc (V9 rfl) (by rfl) T.Fq PyProof.Rows.boot_any (aa (Gq (Mo (own:= [("client",3)]) rfl iF.nd (EV (ai (pv 0) rfl)) (lU (show Gj rf (ay dk) _ _=true by decide +kernel)) (fun _ _ _ _ _=>eV (i:=3) iF.nd rfl (Or.inl rfl)) (fun _ _ _ _ _=>A1) (fun _ _ _ _ _=>(jY (Tu K rfl hr.units) (px K rfl (pv 3) rfl) (b0 (aa (pv 1) (aa (pv 2) af))) (aS _))))) af))),?_⟩
  refine ⟨A.cd,_,R.cd,trivial,fun od=> ?_⟩
  have wD:L2.upd H A.cd (.jM od (.dK (bL cas W.clients))) A.cd=some (.jM od (.dK (bL cas W.clients))):=ab
  have OK:∀b o,b≠A.cd→H b=some o→L2.upd H A.cd (.jM od (.dK (bL cas W.clients))) b=some o:=fun b o n e=>by
   rw [az n]
   exact e
  have back:∀H',aj (L2.upd H A.cd (.jM od (.dK (bL cas W.clients)))) H'→aj H (L2.upd H' A.cd (.dK (bL cas W.clients))):=fun H' S b o e=>by
   by_cases z:b=A.cd
   ·subst z
    rw [R.cd] at e
    rw [←Option.some.inj e]
    exact ab
   ·rw [az z]
    exact S b o (OK b o z e)
  generalize L2.upd H A.cd (.jM od (.dK (bL cas W.clients)))=H0 at *
  refine ⟨_,rfl,A.w,_,_,_,_,rfl,OK _ _ (bh R.cV R.cd (fun q=>nomatch q)) R.cV,T.aw,T.aA,rfl,A.cd,od,_,rfl,wD,fun D hD=> ?_⟩
  refine M7 (fun i H'=>H' D=some (.lst ((W.clients.take i).map fun x=>V.bl (x.place==some {relay:=r,circuit:=c})))∧aj H0 H') ⟨ab,aj.ao hD⟩ (fun i H' _ pd=>pd.2 _ _ wD) (fun i ky x H' hx pd=> ?_) (fun H' pd=> ?_)
  ·obtain ⟨zQ,S⟩:=pd
   obtain ⟨ca,cl,dt,Mm,rfl⟩:=FA hx
   obtain ⟨d,pl,be,le,qQ,dY⟩:=R.gN Mm dt
   have Rr:=S _ _ (OK _ _ (bh qQ R.cd (fun q=>nomatch q)) qQ)
   refine ⟨rfl,?_⟩
   refine Dm ?_
   refine ⟨_,rfl,ca,_,d,_,_,rfl,Rr,T.aq,T.aP,rfl,_,rfl,_,rfl,(by show 2≤sizeLine;decide),fun z hz=> ?_⟩
   have Sz:=aj.ao (o:=HO.tup [nV r,nV c]) hz
   have kk:dX (cs t) H (L2.upd H' z (.tup [nV r,nV c])):=fun b o f e=>by
    have:b≠A.cd:=fun q=>by
     subst q
     rw [R.cd] at e
     rw [←Option.some.inj e] at f
     exact f
    exact Sz _ _ (S _ _ (OK _ _ this e))
   obtain ⟨d1,d2⟩:=Iz (K:=K) (dY.pl.keep kk)
   obtain ⟨e1,e2⟩:=Iz (K:=K) (H:=L2.upd H' z (.tup [nV r,nV c])) (p:=some {relay:=r,circuit:=c}) (v:= .ref z) ⟨z,rfl,ab⟩
   refine ⟨_,_,d1,e1,d2,e2,_,Sz _ _ zQ,?_,?_,?_⟩
   ·rw [List.length_map,List.length_take]
    exact Nat.lt_of_le_of_lt (show _≤64 by omega) (by decide)
   ·rw [ab,M8,List.take_add_one,Mm,List.map_append]
    rfl
   ·intro b o e
    rw [az (aI e hD)]
    exact (S.trans Sz) b o e
  ·obtain ⟨zQ,S⟩:=pd
   rw [qR R.len,List.take_length] at zQ
   have nD:D≠A.cd:=dO wD hD
   refine ⟨S _ _ wD,D,W.clients.map fun x=>x.place==some {relay:=r,circuit:=c},rfl,cK.of (by rw [az nD,zQ,List.map_map];rfl),?_⟩
   have e:((W.clients.map fun x=>x.place==some {relay:=r,circuit:=c}).any id)=W.clients.any fun x=>x.place==some {relay:=r,circuit:=c}:=by
    rw [List.any_map]
    rfl
   rw [e]
   exact k _ (back _ S)
end
end Rl
namespace Rl
open PySem PySem.Spec PyProof.Rows L2
open Vbcnag (Mark Msg Under Offer Lease Client Relay Assigned Written)
theorem Rt {H:Hp}{a b:Addr}{x y:HO}(n:a≠b):L2.upd (L2.upd H a x) b y=L2.upd (L2.upd H b y) a x:=by
 funext c
 unfold L2.upd
 by_cases e:c=b
 ·subst e
  simp [Ne.symm n]
 ·simp [e]
theorem Ru {a b a' b':Nat}:zK a b=zK a' b' ↔ a=a'∧b=b':=by
 unfold zK
 constructor
 ·intro h
  injection h with h1 h
  injection h with h2 h
  have e1:=Sum.inl.inj h1
  have e2:=Sum.inl.inj h2
  omega
 ·rintro ⟨rfl,rfl⟩
  rfl
theorem LM {W:VW}{k:Mark}{l:Nat}(h:Vbcnag.below W k=none)(m:Mark):Vbcnag.below {W with relays:=W.relays ++ [{above:=some k,limit:=l}] } m=if m=k then some W.relays.length else Vbcnag.below W m:=by
 unfold Vbcnag.below at *
 show List.findIdx? _ (W.relays ++ _)=_
 rw [List.findIdx?_append]
 by_cases q:m=k
 ·subst q
  rw [h,if_pos rfl]
  simp
 ·rw [if_neg q]
  have:List.findIdx? (fun r:Relay=>r.above==some m) [{above:=some k,limit:=l}] =none:=by
   have:¬k=m:=fun z=>q z.symm
   simp [this]
  rw [this]
  simp
section
variable {C:Cs}{H H':Hp}{A:Ad}{cas:List Addr}{W:VW}
theorem Rep.Up (R:Rep C H A cas W){ras:List Addr}{l:List Relay}{kvs:List (List Key×V)}(h:Paired (nR C H) ras l)(hk:kvs.length≤l.length)(hv:∀m:Mark,dz kvs (zK m.relay m.circuit)=(Vbcnag.below {W with relays:=l} m).map nV):
  Rep C (L2.upd (L2.upd H A.rl (.lst (ras.map V.ref))) A.hd (.dT kvs)) A cas {W with relays:=l}:=by
 obtain ⟨awR,h1,h2⟩:=R.rl
 obtain ⟨apU,h3,h4,h5⟩:=R.hd
 obtain ⟨bs,h6,h7⟩:=R.rs
 obtain ⟨ks,h8,h9⟩:=R.ag
 obtain ⟨bas,yB,IV⟩:=R.bg
 have n0:A.hd≠A.rl:=bh h3 h1 (fun q=>nomatch q)
 have at_:∀ {b:Addr}{o:HO},H b=some o→b≠A.rl→b≠A.hd→L2.upd (L2.upd H A.rl (.lst (ras.map V.ref))) A.hd (.dT kvs) b=some o:=fun {b o} e n n'=>by
  rw [az n',az n]
  exact e
 have k1:dX C H (L2.upd H A.rl (.lst (ras.map V.ref))):=dX.upd h1 (fun q=>q)
 have kk:dX C H (L2.upd (L2.upd H A.rl (.lst (ras.map V.ref))) A.hd (.dT kvs)):=k1.trans (dX.upd (u:= .dT apU) (by rw [az n0];exact h3) (fun q=>q))
 refine ⟨at_ R.cV (bh R.cV h1 (fun q=>nomatch q)) (bh R.cV h3 (fun q=>nomatch q)),⟨ras,(by rw [az (Ne.symm n0)];exact ab),Paired.cN h fun a b f=>f.keep kk⟩,⟨kvs,ab,hk,hv⟩,at_ R.cd (bh R.cd h1 (fun q=>nomatch q)) (bh R.cd h3 (fun q=>nomatch q)),
  Paired.cN R.ca fun a b f=>f.keep kk fun o e=> ?_,⟨bs,at_ h6 (Ne.symm R.n1.1) (bh h6 h3 (fun q=>nomatch q)),h7⟩,⟨ks,at_ h8 (bh h8 h1 (fun q=>nomatch q)) (Ne.symm R.n2.1),Paired.cN h9 fun a b f=>f.keep kk⟩,at_ R.wr (bh R.wr h1 (fun q=>nomatch q)) (Ne.symm R.n2.2.1),
  ⟨bas,at_ yB (Ne.symm R.n1.2.1) (bh yB h3 (fun q=>nomatch q)),Paired.cN IV fun a b f=>f.keep kk⟩,R.n1,R.n2,R.n3,R.hn⟩
 obtain ⟨d,pl,be,le,e1,_⟩:=f
 exact at_ e (bh e1 h1 (fun q=>nomatch q)) (bh e1 h3 (fun q=>nomatch q))
end
section
variable {P:Program}{w:World}{K:PySem.W.Frag}{mg:Str→Option Value}{base:Heap}{t:ke}
abbrev LN:VW→List Int→Prop:=fun W ns=>∃p c l:Nat,ns= [(p:Int),(c:Int),(l:Int)] ∧(Vbcnag.isRelay W (p:Int) && (Vbcnag.isCircuit (c:Int) && Vbcnag.within (l:Int) 1 16))=true
def Dr:VW→List Int→VW×List Int:=fun W ns=>match ns with
 | [p,c,l] =>Vbcnag.inWorld W (.relay p c l)
 |_=>(W,[])
theorem IA (T:Txt K mg t):bH P w K mg base fg 8 t.cy t.mR mI (bz LN Dr K (cs t)):=by
 refine T.sy.ok j8 (fun vs H Q E h=> ?_) (fun dZ A0 outer s H vs Q E hr h=> ?_)
 ·obtain ⟨A,cas,W,nm,ns,rfl,_⟩:=h
  rfl
 ·obtain ⟨A,cas,W,nm,ns,rfl,R,wg,hS,uZ,⟨pa,ci,li,rfl,hh⟩,k⟩:=h
  have hu:=gE hr
  obtain ⟨kvs,M9,Rv,IU⟩:=R.hd
  have jX:Dr W [(pa:Int),(ci:Int),(li:Int)] =(if (Vbcnag.below W {relay:=pa,circuit:=ci}).isSome=true∨W.clients.any (fun x=>x.place==some {relay:=pa,circuit:=ci})=true then (W,[-2])
    else if 64≤W.relays.length then (W,[-3]) else if W.bag≠ [] then (W,[-4])
    else ({W with relays:=W.relays ++ [{above:=some {relay:=pa,circuit:=ci},limit:=li}] },0::Vbcnag.nums [W.relays.length])):=by
   show (if _=false then _ else _)=_
   rw [hh]
   rfl
  obtain ⟨SE,Ej,Ek⟩:=T.vk
  refine ⟨_,ae (aZ (i:=2) j8.nd rfl (Or.inl rfl) (aG aN (pv 1) ah (fun _ _=>rfl)))
   (ae (aZ (i:=3) j8.nd rfl (Or.inl rfl) (aG aN (pv 1) ah (fun _ _=>rfl)))
   (ae (br (PW.pt (wF (cq (Gp hu (b0 (aa (pv 2) (aa (pv 3) af))) (ai (pv 0) rfl))) (pq (rq (aB (zP T) (hr.mono (by decide)) (by rfl) T.rg T.jR.kp T.rh .nil aX (aa (pv 0) (aa (pv 2) (aa (pv 3) af)))))))) (ak (aL (bb (aa (d7 cG ah) af)))) aY)
   (ae (br (aM cU (bc aW (by rfl) T.dN PySem.boot_len (aa (ai (pv 0) rfl) af)) (aE (by rfl) Ej Ek) (aS _)) (ak (aL (bb (aa (d7 cG ah) af)))) aY)
   (ae (br (aM wJ (bc aW (by rfl) T.dN PySem.boot_len (aa (ai (pv 0) rfl) af)) ah (aS _)) (ak (aL (bb (aa (d7 cG ah) af)))) aY)
   (ae (aZ (i:=4) j8.nd rfl (Or.inl rfl) (bc aW (by rfl) T.dN PySem.boot_len (aa (ai (pv 0) rfl) af)))
   (ae (aJ (iy PySem.F.plainAttrs_list PySem.F.slot_list_append PySem.F.type_list_append oN (ai (pv 0) rfl) (aa (mx T.l3 (JZ T) (hr.mono (by decide)) (by rfl) T.Hb T.pW .nil aX (aa (pv 2) (aa (pv 3) (aa (aG aN (pv 1) ah (fun _ _=>rfl)) af)))) af)))
   (ae (A2 hu (ai (pv 0) rfl) (b0 (aa (pv 2) (aa (pv 3) af))) (pv 4) rfl)
   (ak (aL (bb (aa ah (aa (pv 4) af)))))))))))),?_⟩
  refine ⟨_,rfl,nm,_,_,_,rfl,rfl,hS,rfl,_,rfl,nm,_,_,_,rfl,rfl,hS,rfl,?_⟩
  refine ⟨_,rfl,_,rfl,(by show 2≤sizeLine;decide),fun q hq=> ?_⟩
  have S1:=aj.ao (o:=HO.tup [V.int (pa:Int),V.int (ci:Int)]) hq
  have LL:L2.upd H q (HO.tup [V.int (pa:Int),V.int (ci:Int)]) q=some (.tup ((zK pa ci).map kV)):=ab
  generalize L2.upd H q (HO.tup [V.int (pa:Int),V.int (ci:Int)])=H1 at *
  have R1:=R.same S1
  have DG:=gC.t (S1 _ _ M9) LL
  rw [IU {relay:=pa,circuit:=ci}] at DG
  refine ⟨_,rfl,A.w,_,_,_,_,rfl,R1.cV,T.aw,T.bN,rfl,A.hd,_,rfl,DG,_,rfl,?_⟩
  have refuse:∀ (H':Hp)(x:Int),aj H H'→Dr W [(pa:Int),(ci:Int),(li:Int)] =(W,[x])→∀p,H' p=none→Q (.ref p) (L2.upd H' p (.lst [V.int x])):=fun H' x S hf p hp=>by
   rw [hf] at k
   exact k _ cas p ((R.same S).same (aj.ao hp)) ((aj.ek S).trans (aj.ek (aj.ao hp))) (fun b h=> .inl h) ab (S.free hp)
  cases hb:Vbcnag.below W {relay:=pa,circuit:=ci} with
  |some q0=>
   refine bI ?_
   refine bI ?_
   exact ⟨_,rfl,(by show 1≤sizeLine;decide),refuse _ _ S1 (jX.trans (if_pos (.inl (by rw [hb];rfl))))⟩
  |none=>
   rw [hb] at jX
   refine bQ ?_
   refine ⟨_,rfl,_,rfl,_,rfl,A,cas,W,pa,ci,rfl,R1,wg.yz,fun H2 S2=> ?_⟩
   refine ⟨_,rfl,?_⟩
   have Vr:=S1.trans S2
   have R2:=R1.same S2
   cases ha:W.clients.any (fun x=>x.place==some {relay:=pa,circuit:=ci}) with
   |true=>
    rw [ha] at jX
    refine bI ?_
    exact ⟨_,rfl,(by show 1≤sizeLine;decide),refuse _ _ Vr (jX.trans (if_pos (.inr rfl)))⟩
   |false=>
    rw [ha,if_neg (by simp)] at jX
    refine bQ ?_
    obtain ⟨ras,dY,yQ⟩:=R2.rl
    obtain ⟨bas,rm,yP⟩:=R2.bg
    have Na:(ras.map V.ref).length=W.relays.length:=by rw [List.length_map];exact Paired.length yQ
    have Vs:(bas.map V.ref).length=W.bag.length:=JY yP
    refine ⟨_,rfl,A.w,_,_,_,_,rfl,R2.cV,T.aw,T.bx,rfl,A.rl,_,rfl,.inl (cK.of dY),rfl,_,rfl,?_⟩
    by_cases SG:64≤W.relays.length
    ·rw [if_pos SG] at jX
     have e64:W.relays.length=64:=Nat.le_antisymm wg.JV SG
     rw [show decide (V.int ((ras.map V.ref).length:Int)=V.int 64)=true from decide_eq_true (by rw [Na,e64];rfl)]
     refine bI ?_
     exact ⟨_,rfl,(by show 1≤sizeLine;decide),refuse _ _ Vr jX⟩
    ·rw [if_neg SG] at jX
     rw [show decide (V.int ((ras.map V.ref).length:Int)=V.int 64)=false from decide_eq_false (fun q=>SG (by injection q with q;omega))]
     refine bQ ?_
     refine ⟨_,rfl,A.w,_,_,_,_,rfl,R2.cV,T.aw,T.bo,rfl,A.bg,_,rfl,.inl (cK.of rm),_,_,rfl,rfl,_,rfl,?_⟩
     refine eR (fun hc=> ?_) fun hc=> ?_
     ·have u4:W.bag≠ [] :=fun q=>by
       have:=of_decide_eq_true hc
       rw [Vs,q] at this
       simp at this
      rw [if_pos u4] at jX
      exact ⟨_,rfl,(by show 1≤sizeLine;decide),refuse _ _ Vr jX⟩
     ·have he:¬W.bag≠ [] :=fun q=>hc (decide_eq_true (by
       have:=List.length_pos_iff.mpr q
       rw [Vs]
       omega))
      rw [if_neg he] at jX
      rw [jX] at k
      have Pe:=Vr.seq hS
      refine ⟨_,rfl,A.w,_,_,_,_,rfl,R2.cV,T.aw,T.bx,rfl,A.rl,_,rfl,.inl (cK.of dY),?_⟩
      refine ⟨_,rfl,A.w,_,_,_,_,rfl,R2.cV,T.aw,T.bx,rfl,.inl ⟨rfl,_,cK.of dY⟩,_,rfl,_,rfl,_,rfl,nm,_,_,_,rfl,rfl,Pe,rfl,fun x dx hx hdx u4=> ?_⟩
      refine ⟨x,dx,_,_,_,rfl,ab,fun H3 YQ hk3=>⟨rfl,?_⟩⟩
      have S3:aj H2 H3:=fun b o e=>hk3 b o (by rw [az (aI e hx),az (aI e hdx)];exact e) (aI e hx)
      clear hk3
      have R3:=R2.same S3
      have YR:=S3 _ _ dY
      have apW:Paired (nR (cs t) H3) ras W.relays:=Paired.cN yQ fun a b f=>f.keep (aj.keep S3)
      refine ⟨A.rl,_,_,rfl,rfl,YR,(by rw [Na];exact Nat.lt_of_le_of_lt wg.JV (by decide)),?_⟩
      have n1:A.w≠A.rl:=bh R3.cV YR (fun q=>nomatch q)
      refine ⟨_,rfl,_,rfl,A.w,_,_,_,_,rfl,(by rw [az n1];exact R3.cV),T.aw,T.bN,rfl,_,rfl,_,rfl,(by show 2≤sizeLine;decide),fun z hz=> ?_⟩
      have nz:z≠A.rl:=fun q=>by
       rw [q,ab] at hz
       cases hz
      rw [Rt (Ne.symm nz)]
      rw [az nz] at hz
      have S4:=aj.ao (o:=HO.tup [V.int (pa:Int),V.int (ci:Int)]) hz
      have ZE:L2.upd H3 z (HO.tup [V.int (pa:Int),V.int (ci:Int)]) z=some (.tup ((zK pa ci).map kV)):=ab
      generalize L2.upd H3 z (HO.tup [V.int (pa:Int),V.int (ci:Int)])=H4 at *
      have R4:=R3.same S4
      have hx4:=S4 _ _ YQ
      have agf:=S4 _ _ (S3 _ _ (Vr _ _ M9))
      have apX:=S4 _ _ YR
      have n2:A.hd≠A.rl:=bh agf apX (fun q=>nomatch q)
      have apY:Paired (nR (cs t) H4) ras W.relays:=Paired.cN apW fun a b f=>f.keep (aj.keep S4)
      refine ⟨A.hd,_,rfl,BN.t (k:=zK pa ci) (by rw [az n2];exact agf) (by rw [az nz];exact ZE) (Nat.lt_of_le_of_lt (Nat.le_trans Rv wg.JV) (by decide)),?_⟩
      have R5:=R4.Up (ras:=ras ++ [x]) (l:=W.relays ++ [{above:=some {relay:=pa,circuit:=ci},limit:=li}]) (kvs:=putK kvs (zK pa ci) (V.int ((ras.map V.ref).length:Int))) (Paired.AD apY (show nR (cs t) H4 x {above:=some {relay:=pa,circuit:=ci},limit:=li} from ⟨dx,hx4⟩))
       (by rw [List.length_append];exact Nat.le_trans (rH ..) (Nat.add_le_add_right Rv 1)) (fun m=>by
        rw [PY,LM hb,IU m]
        by_cases q:m={relay:=pa,circuit:=ci}
        ·subst q
         rw [if_pos rfl,if_pos rfl,Na]
         rfl
        ·rw [if_neg q,if_neg (fun z=>q (by obtain ⟨a,b⟩:=Ru.mp z;cases m;cases a;cases b;rfl))])
      rw [List.map_append] at R5
      refine ⟨_,rfl,(by show 2≤sizeLine;decide),fun p hp=> ?_⟩
      have S14:=(Vr.trans S3).trans S4
      refine k _ cas p (Rep.same R5 (aj.ao hp)) (((aj.ek S14).trans ((ez.upd (.inr (.inl rfl))).trans (ez.upd (.inr (.inr (.inl rfl)))))).trans (aj.ek (aj.ao hp))) (fun b h=> .inl h) ?_ (S14.free (cP (cP hp)))
      rw [ab,Na]
      rfl
end
end Rl
namespace Rl
open PySem PySem.Spec PyProof.Rows L2
open Vbcnag (Mark Msg Under Offer Lease Client Relay Assigned Written)
theorem Kb {cas:List Addr}{cl:List Client}(h:cas.length=cl.length)(x:Addr)(c:Client):bL (cas ++ [x]) (cl ++ [c])=bL cas cl ++ [((Sum.inl (c.host:Int):Key),V.ref x)] :=by
 unfold bL
 rw [List.zipWith_append h]
 rfl
section
variable {C:Cs}{H H':Hp}{A:Ad}{cas:List Addr}{W:VW}
theorem Rep.apZ (R:Rep C H A cas W){x:Addr}{c:Client}(hx:eP C H x c)(hn:x ∉ cas)(hh:c.host ∉ W.clients.map (·.host)):
  Rep C (L2.upd H A.cd (.dK (bL (cas ++ [x]) (W.clients ++ [c])))) A (cas ++ [x]) {W with clients:=W.clients ++ [c] }:=by
 have h0:=R.cd
 generalize hk:bL (cas ++ [x]) (W.clients ++ [c])=kvs
 have kk:dX C H (L2.upd H A.cd (.dK kvs)):=dX.upd h0 (fun q=>q)
 have at_:∀ {b:Addr}{o:HO},H b=some o→b≠A.cd→L2.upd H A.cd (.dK kvs) b=some o:=fun {b o} e n=>by
  rw [az n]
  exact e
 obtain ⟨ras,h1,h2⟩:=R.rl
 obtain ⟨LJ,h3,h4,h5⟩:=R.hd
 obtain ⟨bs,h6,h7⟩:=R.rs
 obtain ⟨ks,h8,h9⟩:=R.ag
 obtain ⟨bas,yB,IV⟩:=R.bg
 have ck:∀ {a:Addr}{b:Client},eP C H a b→eP C (L2.upd H A.cd (.dK kvs)) a b:=fun {a b} f=>f.keep kk fun o e=>by
  obtain ⟨d,pl,be,le,e1,_⟩:=f
  exact at_ e (bh e1 h0 (fun q=>nomatch q))
 refine ⟨at_ R.cV (bh R.cV h0 (fun q=>nomatch q)),⟨ras,at_ h1 (bh h1 h0 (fun q=>nomatch q)),Paired.cN h2 fun a b f=>f.keep kk⟩,⟨LJ,at_ h3 (bh h3 h0 (fun q=>nomatch q)),h4,h5⟩,(by rw [ab,←hk]),
  Paired.AD (Paired.cN R.ca fun a b f=>ck f) (ck hx),⟨bs,at_ h6 (bh h6 h0 (fun q=>nomatch q)),h7⟩,⟨ks,at_ h8 (bh h8 h0 (fun q=>nomatch q)),Paired.cN h9 fun a b f=>f.keep kk⟩,at_ R.wr (bh R.wr h0 (fun q=>nomatch q)),
  ⟨bas,at_ yB (bh yB h0 (fun q=>nomatch q)),Paired.cN IV fun a b f=>f.keep kk⟩,R.n1,R.n2,ml R.n3 hn,?_⟩
 show ((W.clients ++ [c]).map (·.host)).Nodup
 rw [List.map_append]
 exact ml R.hn hh
end
section
variable {P:Program}{w:World}{K:PySem.W.Frag}{mg:Str→Option Value}{base:Heap}{t:ke}
abbrev Rw:VW→List Int→Prop:=fun W ns=>∃h r c:Nat,ns= [(h:Int),(r:Int),(c:Int)] ∧(Vbcnag.isHost (h:Int) && (Vbcnag.isRelay W (r:Int) && Vbcnag.isCircuit (c:Int)))=true
def FC:VW→List Int→VW×List Int:=fun W ns=>match ns with
 | [h,r,c] =>Vbcnag.inWorld W (.plug h r c)
 |_=>(W,[])
theorem Uq (T:Txt K mg t):bH P w K mg base fg 8 t.iI t.G5 GO (bz Rw FC K (cs t)):=by
 refine T.Lf.ok w9 (fun vs H Q E h=> ?_) (fun dZ A0 outer s H vs Q E hr h=> ?_)
 ·obtain ⟨A,cas,W,nm,ns,rfl,_⟩:=h
  rfl
 ·obtain ⟨A,cas,W,nm,ns,rfl,R,wg,hS,uZ,⟨ho,re,ci,rfl,hh⟩,k⟩:=h
  have hu:=gE hr
  have CK:=fI T
  obtain ⟨kvs,M9,Rv,IU⟩:=R.hd
  have jX:FC W [(ho:Int),(re:Int),(ci:Int)] =(if (Vbcnag.clientOf W ho).any (fun x=>x.place.isSome)=true then (W,[-2]) else if (Vbcnag.below W {relay:=re,circuit:=ci}).isSome=true then (W,[-3])
    else match Vbcnag.clientOf W ho with
     |some x=>(Vbcnag.setClient W {x with place:=some {relay:=re,circuit:=ci} },[0])
     |none=>if 64≤W.clients.length then (W,[-4]) else ({W with clients:=W.clients ++ [{host:=ho,place:=some {relay:=re,circuit:=ci} }] },[0])):=by
   show (if _=false then _ else _)=_
   rw [hh]
   rfl
  obtain ⟨Rx,Ds,Dt⟩:=T.sH
  refine ⟨_,ae (aZ (i:=2) w9.nd rfl (Or.inl rfl) (aG aN (pv 1) ah (fun _ _=>rfl)))
   (ae (aZ (i:=3) w9.nd rfl (Or.inl rfl) (b0 (aa (aG aN (pv 1) ah (fun _ _=>rfl)) (aa (aG aN (pv 1) ah (fun _ _=>rfl)) af))))
   (ae (aZ (i:=4) w9.nd rfl (Or.inl rfl) (gS hu (ai (pv 0) rfl) (pv 2) ⟨rfl,rfl,rfl,rfl⟩))
   (ae (br (PW.pt (iB (cq (gR (pv 4))) (fK (cq (gR (ai (pv 4) rfl)))))) (ak (aL (bb (aa (d7 cG ah) af)))) aY)
   (ae (br (cq (Gp hu (pv 3) (ai (pv 0) rfl))) (ak (aL (bb (aa (d7 cG ah) af)))) aY)
   (ae (br (cq (gQ (pv 4))) (ae (br (aM cU (bc EW (by rfl) T.dN PySem.boot_len (aa (ai (pv 0) rfl) af)) (aE (by rfl) Ds Dt) (aS _)) (ak (aL (bb (aa (d7 cG ah) af)))) aY)
   (ae (aZ (i:=4) w9.nd rfl (Or.inl rfl) (mx T.lN (Oz T) (hr.mono (by decide)) (by rfl) T.JI T.u9 .nil aX (aa (pv 2) af)))
   (ak (A2 hu (ai (pv 0) rfl) (pv 2) (pv 4) rfl)))) aY)
   (ae (aQ (pv 4) (pv 3) rfl)
   (ak (aL (bb (aa ah af)))))))))),?_⟩
  refine ⟨_,rfl,nm,_,_,_,rfl,rfl,hS,rfl,_,rfl,nm,_,_,_,rfl,rfl,hS,rfl,_,rfl,nm,_,_,_,rfl,rfl,hS,rfl,(by show 2≤sizeLine;decide),fun q hq=> ?_⟩
  have S1:=aj.ao (o:=HO.tup [V.int (re:Int),V.int (ci:Int)]) hq
  have LL:L2.upd H q (HO.tup [V.int (re:Int),V.int (ci:Int)]) q=some (.tup ((zK re ci).map kV)):=ab
  generalize L2.upd H q (HO.tup [V.int (re:Int),V.int (ci:Int)])=H1 at *
  have R1:=R.same S1
  have DG:=gC.t (S1 _ _ M9) LL
  rw [IU {relay:=re,circuit:=ci}] at DG
  have refuse:∀ (x:Int),FC W [(ho:Int),(re:Int),(ci:Int)] =(W,[x])→∀p,H1 p=none→Q (.ref p) (L2.upd H1 p (.lst [V.int x])):=fun x hf p hp=>by
   rw [hf] at k
   exact k _ cas p (R1.same (aj.ao hp)) ((aj.ek S1).trans (aj.ek (aj.ao hp))) (fun b h=> .inl h) ab (S1.free hp)
  rcases R1.find ho with ⟨hc,DC⟩|⟨i,ca,c,d,pl,be,le,hc,DX,hi,dt,qQ,dY,DC⟩
  ·rw [hc,if_neg (by simp)] at jX
   refine ⟨_,rfl,A.w,_,_,_,_,rfl,R1.cV,T.aw,T.aA,rfl,A.cd,rfl,.inl ⟨_,.inl R1.cd⟩,_,rfl,_,DC,?_⟩
   refine ⟨_,rfl,_,rfl,bQ ?_⟩
   refine bQ ?_
   refine ⟨_,rfl,_,rfl,A.w,_,_,_,_,rfl,R1.cV,T.aw,T.bN,rfl,A.hd,_,rfl,DG,_,rfl,?_⟩
   cases hb:Vbcnag.below W {relay:=re,circuit:=ci} with
   |some q0=>
    refine bI ?_
    exact ⟨_,rfl,(by show 1≤sizeLine;decide),refuse _ (jX.trans (if_pos (by rw [hb];rfl)))⟩
   |none=>
    rw [hb,if_neg (by simp)] at jX
    refine bQ ?_
    refine ⟨_,rfl,_,rfl,bI ?_⟩
    refine ⟨_,rfl,A.w,_,_,_,_,rfl,R1.cV,T.aw,T.aA,rfl,A.cd,_,rfl,R1.cd,rfl,_,rfl,?_⟩
    have Rv:(bL cas W.clients).length=W.clients.length:=qR R.len
    by_cases SG:64≤W.clients.length
    ·have hf1:=jX.trans (if_pos SG)
     have e64:W.clients.length=64:=Nat.le_antisymm wg.yz SG
     rw [show decide (V.int ((bL cas W.clients).length:Int)=V.int 64)=true from decide_eq_true (by rw [Rv,e64];rfl)]
     refine bI ?_
     exact ⟨_,rfl,(by show 1≤sizeLine;decide),refuse _ hf1⟩
    ·have hf1:=jX.trans (if_neg SG)
     rw [hf1] at k
     rw [show decide (V.int ((bL cas W.clients).length:Int)=V.int 64)=false from decide_eq_false (fun q=>SG (by injection q with q;omega))]
     refine bQ ?_
     refine ⟨_,rfl,fun x dx hx hdx u4=> ?_⟩
     refine ⟨x,dx,ho,rfl,ab,fun H3 YQ hk3=>⟨rfl,?_⟩⟩
     have S3:aj H1 H3:=fun b o e=>hk3 b o (by rw [az (aI e hx),az (aI e hdx)];exact e) (aI e hx)
     clear hk3
     have R3:=R1.same S3
     have SA:x ∉ cas:=fun m=>by
      obtain ⟨o,DW⟩:=R1.there (b:=x) (.inr (.inr (.inr (.inr (.inr (.inr (.inr (.inr m))))))))
      rw [hx] at DW
      cases DW
     have R4:=R3.apZ (x:=x) (c:={host:=ho}) ⟨dx,.bY,.bY,.bY,YQ,rfl,rfl,rfl⟩ SA (oE hc)
     rw [Kb R.len] at R4
     refine ⟨_,rfl,_,rfl,A.w,_,_,_,_,rfl,R3.cV,T.aw,T.aA,rfl,_,rfl,A.cd,_,rfl,BN.k (k:=Sum.inl (ho:Int)) R3.cd (by rw [Rv];exact Nat.lt_of_le_of_lt wg.yz (by decide)),?_⟩
     rw [PZ _ (Fz R.len hc)]
     have ncd:x≠A.cd:=bh YQ R3.cd (fun q=>nomatch q)
     have hx4:L2.upd H3 A.cd (HO.dK (bL cas W.clients ++ [((Sum.inl (ho:Int):Key),V.ref x)])) x=some (.ins t.aT dx (wC {host:=ho} .bY .bY .bY)):=by
      rw [az ncd]
      exact YQ
     refine ⟨_,rfl,_,rfl,x,_,dx,_,rfl,hx4,T.aq,T.aP,lt1000 rfl,?_⟩
     have hgx:(cas ++ [x])[W.clients.length]?=some x:=by
      rw [←R.len]
      simp
     have hgc:(W.clients ++ [({host:=ho}:Client)])[W.clients.length]?=some {host:=ho}:=by simp
     have hq4:L2.upd H3 A.cd (HO.dK (bL cas W.clients ++ [((Sum.inl (ho:Int):Key),V.ref x)])) q=some (.tup [nV re,nV ci]):=by
      have SH:=S3 _ _ LL
      rw [az (bh SH R3.cd (fun q=>nomatch q))]
      exact SH
     have R5:=R4.setC CK (c':={host:=ho,place:=some {relay:=re,circuit:=ci} }) (pl:= .ref q) (be:= .bY) (le:= .bY) hgx hgc rfl hx4 ⟨⟨q,rfl,hq4⟩,rfl,rfl⟩
     have ap1:(W.clients ++ [({host:=ho}:Client)]).set W.clients.length {host:=ho,place:=some {relay:=re,circuit:=ci} }=W.clients ++ [{host:=ho,place:=some {relay:=re,circuit:=ci} }] :=by
      rw [List.set_append_right _ _ (Nat.le_refl _),Nat.sub_self]
      rfl
     have eW:({W with clients:=(W.clients ++ [({host:=ho}:Client)]).set W.clients.length {host:=ho,place:=some {relay:=re,circuit:=ci} } }:VW)={W with clients:=W.clients ++ [{host:=ho,place:=some {relay:=re,circuit:=ci} }] }:=by rw [ap1]
     have R6:=eW ▸ R5
     have S13:=S1.trans S3
     refine ⟨(by show 1≤sizeLine;decide),fun p hp=>k _ (cas ++ [x]) p (Rep.same R6 (aj.ao hp)) (fun b o e n=> ?_) (fun b h=> ?_) ab (S13.free (cP (cP hp)))⟩
     ·have hb3:=S13 _ _ e
      have nx:b≠x:=fun z=>by
       rw [z,S1.free hx] at e
       cases e
      have nc:b≠A.cd:=fun z=>n (.inr (.inr (.inr (.inl z))))
      have e2:L2.upd (L2.upd H3 A.cd (HO.dK (bL cas W.clients ++ [((Sum.inl (ho:Int):Key),V.ref x)]))) x (.ins t.aT dx (wC {host:=ho,place:=some {relay:=re,circuit:=ci} } (.ref q) .bY .bY)) b=some o:=by
       rw [az nx,az nc]
       exact hb3
      rw [az (aI e2 hp)]
      exact e2
     ·rcases List.mem_append.mp h with h|h
      ·exact .inl h
      ·exact .inr (by rw [List.mem_singleton.mp h];exact S1.free hx)
  ·rw [hc] at jX
   refine ⟨_,rfl,A.w,_,_,_,_,rfl,R1.cV,T.aw,T.aA,rfl,A.cd,rfl,.inl ⟨_,.inl R1.cd⟩,_,rfl,_,DC,?_⟩
   refine ⟨_,rfl,_,rfl,bI ?_⟩
   refine ⟨_,rfl,ca,_,d,_,_,rfl,qQ,T.aq,T.aP,rfl,_,rfl,?_⟩
   have eD:=dY.pl
   cases hp:c.place with
   |some m=>
    rw [hp] at eD
    obtain ⟨b,e,_⟩:=eD
    subst e
    refine bI ?_
    exact ⟨_,rfl,(by show 1≤sizeLine;decide),refuse _ (jX.trans (if_pos (by show c.place.isSome=true;rw [hp];rfl)))⟩
   |none=>
    rw [hp] at eD
    have e:pl= .bY:=eD
    subst e
    rw [if_neg (by show ¬c.place.isSome=true;rw [hp];simp)] at jX
    refine bQ ?_
    refine ⟨_,rfl,_,rfl,A.w,_,_,_,_,rfl,R1.cV,T.aw,T.bN,rfl,A.hd,_,rfl,DG,_,rfl,?_⟩
    cases hb:Vbcnag.below W {relay:=re,circuit:=ci} with
    |some q0=>
     refine bI ?_
     exact ⟨_,rfl,(by show 1≤sizeLine;decide),refuse _ (jX.trans (if_pos (by rw [hb];rfl)))⟩
    |none=>
     rw [hb,if_neg (by simp)] at jX
     have hf:FC W [(ho:Int),(re:Int),(ci:Int)] =({W with clients:=W.clients.set i {c with place:=some {relay:=re,circuit:=ci} } },[0]):=by
      rw [jX]
      show (Vbcnag.setClient W {c with place:=some {relay:=re,circuit:=ci} },[0])=_
      rw [bX (d:={c with place:=some {relay:=re,circuit:=ci} }) R.hn hi rfl]
     rw [hf] at k
     refine bQ ?_
     refine ⟨_,rfl,_,rfl,bQ ?_⟩
     refine ⟨_,rfl,_,rfl,ca,_,d,_,rfl,qQ,T.aq,T.aP,lt1000 rfl,?_⟩
     have R2:=R1.setC CK (c':={c with place:=some {relay:=re,circuit:=ci} }) (pl:= .ref q) dt hi rfl qQ ⟨⟨q,rfl,LL⟩,dY.be,dY.le⟩
     exact ⟨(by show 1≤sizeLine;decide),fun p hp=>k _ cas p (Rep.same R2 (aj.ao hp)) (((aj.ek S1).trans (ez.upd (Ad.iA dt))).trans (aj.ek (aj.ao hp))) (fun b h=> .inl h) ab (S1.free (cP hp))⟩
end
end Rl
namespace Rl
open PySem PySem.Spec PyProof.Rows L2
open Vbcnag (Mark Msg Under Offer Lease Client Relay Assigned Written)
section
variable {P:Program}{w:World}{K:PySem.W.Frag}{mg:Str→Option Value}{base:Heap}{t:ke}
def first (servers cap now:Nat):VW:={now:=now,servers:=servers,cap:=cap,relays:= [{above:=none,limit:=16}] }
def Ur (C:Cs):Sp:=fun vs H Q _=>∃ (p d:Addr)(sv cap now:Nat),vs= [.ref p,nV sv,nV cap,nV now] ∧H p=some (.ins C.W d [])∧sv≤4∧
 ∀ (H':Hp)(A:Ad),A.w=p→Rep C H' A [] (first sv cap now)→(∀b o,H b=some o→b≠p→H' b=some o)→(∀b,A.mut [] b→b=p∨H b=none)→Q .bY H'
def FD (p:Addr)(H H':Hp):Prop:=∀b o,H b=some o→b≠p→H' b=some o
theorem FD.trans {p:Addr}{H H1 H2:Hp}(a:FD p H H1)(b:FD p H1 H2):FD p H H2:=fun c o h n=>b c o (a c o h n) n
theorem FD.set {p:Addr}{H:Hp}{o:HO}:FD p H (L2.upd H p o):=fun b x e n=>by
 rw [az n]
 exact e
theorem FD.same {p:Addr}{H H':Hp}(S:aj H H'):FD p H H':=fun b o e _=>S b o e
theorem FD.none {p:Addr}{H H':Hp}(B:FD p H H'){b:Addr}(n:b≠p)(h:H' b=none):H b=none:=by
 cases q:H b with
 |none=>rfl
 |some o=>
  rw [B b o q n] at h
  cases h
theorem YS (n:Nat):(List.replicate (n:Int).toNat [V.bl false]).flatten=(List.replicate n false).map V.bl:=by
 rw [Int.toNat_natCast,List.map_replicate]
 induction n with
 |zero=>rfl
 |succ n ih=>
  rw [List.replicate_succ,List.replicate_succ,List.flatten_cons,ih]
  rfl
theorem mn {p a:Addr}{H H':Hp}{o u v:HO}(hp:H p=some u)(ha:H a=none)(e:L2.upd (L2.upd H a o) p v=H'):FD p H H'∧H' a=some o∧H' p=some v∧a≠p:=by
 have n:a≠p:=fun z=>by
  rw [z,hp] at ha
  cases ha
 subst e
 refine ⟨fun b x hb nb=> ?_,?_,ab,n⟩
 ·rw [az nb,az (aI hb ha)]
  exact hb
 ·rw [az n]
  exact ab
theorem Ry (T:Txt K mg t):bH P w K mg base fg 3 t.cZ t.kg j0 (Ur (cs t)):=by
 refine T.xw.ok D5 (fun vs H Q E h=> ?_) (fun dZ A0 outer s H vs Q E hr h=> ?_)
 ·obtain ⟨p,d,sv,cap,now,rfl,_⟩:=h
  rfl
 ·obtain ⟨p,d,sv,cap,now,rfl,h0,Br,k⟩:=h
  obtain ⟨SI,El,Em⟩:=T.vi
  refine ⟨_,ae (aQ (pv 0) (pv 3) rfl)
   (ae (aQ (pv 0) (pv 1) rfl)
   (ae (aQ (pv 0) (pv 2) rfl)
   (ae (aQ (pv 0) (bb (aa (mx T.l3 (JZ T) (hr.mono (by decide)) (by rfl) T.Hb T.pW .nil aX (aa eU (aa eU (aa (aE (by rfl) El Em) af)))) af)) rfl)
   (ae (aQ (pv 0) BO rfl)
   (ae (aQ (pv 0) P4 rfl)
   (ae (aQ (pv 0) (cO V6 (bb (aa L9 af)) (pv 1)) rfl)
   (ae (aQ (pv 0) BO rfl)
   (ae (aQ (pv 0) BO rfl)
   (ak (aQ (pv 0) (bb af) rfl)))))))))),?_⟩
  refine ⟨_,rfl,_,rfl,p,_,d,_,rfl,h0,T.aw,T.a8,lt1000 rfl,_,rfl,_,rfl,p,_,d,_,rfl,ab,T.aw,T.bC,lt1000 rfl,_,rfl,_,rfl,p,_,d,_,rfl,ab,T.aw,T.ej,lt1000 rfl,?_⟩
  rw [cJ,cJ]
  generalize DU:L2.upd H p _=H1
  have B1:FD p H H1:=DU ▸ FD.set
  have p1:H1 p=some (.ins t.bj d [("now",nV now),("servers",nV sv),("cap",nV cap)]):=DU ▸ ab
  clear DU
  refine fun x dx hx hdx u4=>⟨x,dx,_,_,_,rfl,ab,fun H2 hx2 hk2=>⟨rfl,(by show 1≤sizeLine;decide),fun rl dY=> ?_⟩⟩
  have S2:aj H1 H2:=fun b o e=>hk2 b o (by rw [az (aI e hx),az (aI e hdx)];exact e) (aI e hx)
  clear hk2
  have p2:=S2 _ _ p1
  have x2:x≠p:=fun z=>by
   rw [z,p1] at hx
   cases hx
  refine ⟨_,rfl,p,_,d,_,rfl,(aj.ao dY) _ _ p2,T.aw,T.bx,lt1000 rfl,?_⟩
  generalize NL:L2.upd (L2.upd H2 rl _) p _=H3
  obtain ⟨B3,r3,p3,n3⟩:=mn p2 dY NL
  clear NL
  refine fun hd M9=>⟨_,rfl,p,_,d,_,rfl,(aj.ao M9) _ _ p3,T.aw,T.bN,lt1000 rfl,?_⟩
  generalize hH4:L2.upd (L2.upd H3 hd _) p _=H4
  obtain ⟨B4,r4,p4,n4⟩:=mn p3 M9 hH4
  clear hH4
  refine fun cd wD=>⟨_,rfl,p,_,d,_,rfl,(aj.ao wD) _ _ p4,T.aw,T.aA,lt1000 rfl,?_⟩
  generalize hH5:L2.upd (L2.upd H4 cd _) p _=H5
  obtain ⟨B5,r5,p5,n5⟩:=mn p4 wD hH5
  clear hH5
  refine ⟨(by show 1≤sizeLine;decide),fun l0 hl0=>⟨_,rfl,l0,(sv:Int),_,rfl,rfl,ab,(by omega),(by omega),(by simp;exact Nat.le_trans Br (by decide)),fun rs Vq=> ?_⟩⟩
  have S6:=aj.ao (o:=HO.lst [V.bl false]) hl0
  generalize L2.upd H5 l0 (HO.lst [V.bl false])=H6 at *
  have p6:=S6 _ _ p5
  refine ⟨_,rfl,p,_,d,_,rfl,(aj.ao Vq) _ _ p6,T.aw,T.cB,lt1000 rfl,?_⟩
  generalize hH7:L2.upd (L2.upd H6 rs _) p _=H7
  obtain ⟨B7,r7,p7,n7⟩:=mn p6 Vq hH7
  clear hH7
  refine fun ag Rp=>⟨_,rfl,p,_,d,_,rfl,(aj.ao Rp) _ _ p7,T.aw,T.ba,lt1000 rfl,?_⟩
  generalize hH8:L2.upd (L2.upd H7 ag _) p _=H8
  obtain ⟨B8,r8,p8,n8⟩:=mn p7 Rp hH8
  clear hH8
  refine fun wr OL=>⟨_,rfl,p,_,d,_,rfl,(aj.ao OL) _ _ p8,T.aw,T.cj,lt1000 rfl,?_⟩
  generalize hH9:L2.upd (L2.upd H8 wr _) p _=H9
  obtain ⟨B9,r9,p9,n9⟩:=mn p8 OL hH9
  clear hH9
  refine ⟨(by show 0≤sizeLine;decide),fun bg rm=>⟨_,rfl,p,_,d,_,rfl,(aj.ao rm) _ _ p9,T.aw,T.bo,lt1000 rfl,?_⟩⟩
  generalize hHA:L2.upd (L2.upd H9 bg _) p _=HA
  obtain ⟨BA,rA,pA,nA⟩:=mn p9 rm hHA
  clear hHA
  have T9:=BA
  have T8:=B9.trans T9
  have T7:=B8.trans T8
  have T6:=B7.trans T7
  have T5:=(FD.same (p:=p) S6).trans T6
  have T4:=B5.trans T5
  have T3:=B4.trans T4
  have T2:=B3.trans T3
  have U1:=B1
  have U2:=U1.trans (FD.same S2)
  have U3:=U2.trans B3
  have U4:=U3.trans B4
  have U5:=U4.trans B5
  have U6:=U5.trans (FD.same S6)
  have U7:=U6.trans B7
  have U8:=U7.trans B8
  have U9:=U8.trans B9
  have er:=YS sv
  rw [er] at r7
  have rlA:=T3 _ _ r3 n3
  have hdA:=T4 _ _ r4 n4
  have cdA:=T5 _ _ r5 n5
  have rsA:=T7 _ _ r7 n7
  have agA:=T8 _ _ r8 n8
  have wrA:=T9 _ _ r9 n9
  have xA:=T2 _ _ hx2 x2
  refine k HA ⟨p,d,rl,hd,cd,rs,ag,wr,bg⟩ rfl ⟨pA,⟨[x],rlA,.cons ⟨dx,xA⟩ .nil⟩,⟨[],hdA,Nat.zero_le _,fun m=>rfl⟩,cdA,.nil,⟨List.replicate sv false,rsA,List.length_replicate,fun s' b hb=> ?_⟩,⟨[],agA,.nil⟩,wrA,⟨[],rA,.nil⟩,
   ⟨?_,?_,?_⟩,⟨?_,?_,?_⟩,List.nodup_nil,List.nodup_nil⟩ (U9.trans BA) (fun b hb=> ?_)
  ·have:=List.mem_of_getElem? hb
   have e:=(List.mem_replicate.mp this).2
   rw [e]
   rfl
  ·exact aI ((FD.same (p:=p) S6) _ _ ((B4.trans B5) _ _ r3 n3) n3) Vq
  ·exact aI (((((B4.trans B5).trans (FD.same (p:=p) S6)).trans B7).trans (B8.trans B9)) _ _ r3 n3) rm
  ·exact aI ((B8.trans B9) _ _ r7 n7) rm
  ·exact aI (((B5.trans (FD.same (p:=p) S6)).trans B7) _ _ r4 n4) Rp
  ·exact aI ((((B5.trans (FD.same (p:=p) S6)).trans B7).trans B8) _ _ r4 n4) OL
  ·exact aI r8 OL
  ·rcases hb with q|q|q|q|q|q|q|q|q
   ·exact .inl q
   ·subst q
    exact .inr (U2.none n3 dY)
   ·subst q
    exact .inr (U3.none n4 M9)
   ·subst q
    exact .inr (U4.none n5 wD)
   ·subst q
    exact .inr (U6.none n7 Vq)
   ·subst q
    exact .inr (U7.none n8 Rp)
   ·subst q
    exact .inr (U8.none n9 OL)
   ·subst q
    exact .inr (U9.none nA rm)
   ·cases q
end
end Rl
namespace L2
theorem Nb {α:Type}(A:List α)(v:α)(C:List α){i:Int}(h:i=(A.length:Int)):Jd (A ++ v::C) i=some v:=by
 subst h
 unfold Jd Pd
 rw [if_pos (by omega),if_pos (by rw [List.length_append,List.length_cons];omega)]
 simp
theorem Us (A B C:List V){i j:Int}(h:i=(A.length:Int))(h':j=((A.length + B.length:Nat):Int)):vS (A ++ (B ++ C)) (some i) (some j)=B:=by
 subst h h'
 unfold vS
 rw [HT.AZ,HT.AZ]
 have e1:min A.length (A ++ (B ++ C)).length=A.length:=by rw [List.length_append];omega
 have e2:min (A.length + B.length) (A ++ (B ++ C)).length=A.length + B.length:=by rw [List.length_append,List.length_append];omega
 rw [e1,e2,List.drop_left,Nat.add_sub_cancel_left,List.take_left]
end L2
namespace Rl
open PySem PySem.Spec PyProof.Rows L2
section
variable {P:Program}{w:World}{K:PySem.W.Frag}{mg:Str→Option Value}{base:Heap}{t:ke}
def Rz (H H':Hp)(ta:Addr)(c:Int×List Int):Prop:=∃nm,H' ta=some (.tup [.int c.1,.ref nm])∧H' nm=some (.lst (c.2.map V.int))∧H nm=none
def Ut (K:PySem.W.Frag):Sp:=fun vs H Q _=>∃ (a:Addr)(cs:List (Int×List Int)),vs= [.ref a] ∧cK K H a ((enc cs).map V.int)∧cs.length≤400∧
 ∀ (H':Hp)(p:Addr)(Kc:List Addr),aj H H'→H' p=some (.lst (Kc.map V.ref))→H p=none→Paired (Rz H H') Kc cs→Q (.ref p) H'
theorem OM (pre:List (Int×List Int))(c:Int×List Int)(r:List (Int×List Int)):enc (pre ++ c::r)=enc pre ++ (c.1::(c.2.length:Int)::(c.2 ++ (0::enc r))):=by
 rw [wt]
 show enc pre ++ (Ij c ++ enc r)=_
 unfold Ij
 simp
def SInv (H:Hp)(a S:Addr)(cs:List (Int×List Int)):Nat→L2.St→Hp→Prop:=fun m σ Hk=>∃ (pre post:List (Int×List Int))(Kc:List Addr)(v3:Option V),
 cs=pre ++ post∧m=post.length∧σ= [some (.ref a),some (.ref S),some (.int ((enc pre).length:Int)),v3] ∧aj H Hk∧Hk S=some (.lst (Kc.map V.ref))∧Paired (fun ta c=>Rz H Hk ta c∧∀nm,Hk ta=some (.tup [.int c.1,.ref nm])→nm≠S) Kc pre
theorem Du (T:Txt K mg t):bH P w K mg base fg 1 t.c8 t.i6 iX (Ut K):=by
 refine T.om.ok fD (fun vs H Q E h=> ?_) (fun dZ A0 outer s H vs Q E hr h=> ?_)
 ·obtain ⟨a,cs,rfl,_⟩:=h
  rfl
 ·obtain ⟨a,cs,rfl,hS,hlen,k⟩:=h
  refine ⟨_,ae (aZ (i:=1) fD.nd rfl (Or.inl rfl) (bb af))
   (ae (aZ (i:=2) fD.nd rfl (Or.inl rfl) ah)
   (ae (wH PassesOwn.never (aM oM (pv 2) (bc aW (by rfl) T.dN PySem.boot_len (aa (pv 0) af)) (aS _)) (ae (aZ (i:=3) fD.nd rfl (Or.inl rfl) (wM FZ (pv 0) (wL (cO eB (pv 2) ah)) (wL (cO eB (cO eB (pv 2) ah) (aG aN (pv 0) (cO eB (pv 2) ah) (fun _ _=>rfl))))))
   (ae (aJ (iy PySem.F.plainAttrs_list PySem.F.slot_list_append PySem.F.type_list_append oN (pv 1) (aa (b0 (aa (aG aN (pv 0) (pv 2) (fun _ _=>rfl)) (aa (pv 3) af))) af)))
   (ak (Ku (i:=2) fD.nd rfl (Or.inl rfl) (cO eB (bc aW (by rfl) T.dN PySem.boot_len (aa (pv 3) af)) ah) Kv)))))
   (ak (aL (pv 1))))),?_⟩
  refine ⟨(by show 0≤sizeLine;decide),fun S Qh=> ?_⟩
  refine ⟨SInv H a S cs,⟨cs.length,[],cs,[],none,rfl,rfl,rfl,aj.ao Qh,ab,.nil⟩,?_⟩
  rintro m σ Hk ⟨pre,post,Kc,v3,UX,hm,rfl,Sk,Pg,hP⟩
  have hSa:=Sk.seq hS
  refine ⟨_,rfl,_,rfl,a,_,rfl,.inl hSa,_,_,rfl,rfl,_,rfl,?_⟩
  rw [List.length_map]
  cases post with
  |nil=>
   rw [List.append_nil] at UX
   subst UX
   rw [decide_eq_false (Int.lt_irrefl _)]
   refine bQ ?_
   exact ⟨_,rfl,k Hk S Kc Sk Pg Qh (Paired.cN hP fun a b f=>f.1)⟩
  |cons c r=>
   have hx:enc cs=enc pre ++ (c.1::(c.2.length:Int)::(c.2 ++ (0::enc r))):=by rw [UX,OM]
   have eA:(enc pre).length < (enc cs).length:=by
    rw [hx,List.length_append,List.length_cons]
    omega
   rw [decide_eq_true (by omega)]
   refine bI ?_
   have hx1:(enc cs).map V.int=(enc pre).map V.int ++ (V.int c.1::(V.int (c.2.length:Int)::(c.2.map V.int ++ (V.int 0::(enc r).map V.int)))):=by
    rw [hx]
    simp
   have hx2:(enc cs).map V.int=((enc pre).map V.int ++ [V.int c.1]) ++ (V.int (c.2.length:Int)::(c.2.map V.int ++ (V.int 0::(enc r).map V.int))):=by
    rw [hx1]
    simp
   have YQ:(enc cs).map V.int=((enc pre).map V.int ++ [V.int c.1,V.int (c.2.length:Int)]) ++ (c.2.map V.int ++ (V.int 0::(enc r).map V.int)):=by
    rw [hx1]
    simp
   refine ⟨SInv H a S cs|>fun f σ' H'=>∃m',m' < m∧f m' σ' H',fun σ' H' h=>h,?_⟩
   refine ⟨_,rfl,_,rfl,_,_,rfl,rfl,_,rfl,_,rfl,_,_,rfl,rfl,_,rfl,_,rfl,?_⟩
   refine ⟨_,_,rfl,rfl,a,_,_,V.int (c.2.length:Int),rfl,rfl,hSa,(by rw [hx2];exact Nb _ _ _ (by simp)),_,_,rfl,rfl,_,rfl,a,_,rfl,hSa,fun nm uZ=> ?_⟩
   rw [show vS ((enc cs).map V.int) (some (((enc pre).length:Int) + 2)) (some (((enc pre).length:Int) + 2 + (c.2.length:Int)))=c.2.map V.int from by
    rw [YQ]
    exact Us _ _ _ (by simp) (by simp)]
   have S2:=aj.ao (o:=HO.lst (c.2.map V.int)) uZ
   have agg:L2.upd Hk nm (HO.lst (c.2.map V.int)) nm=some (.lst (c.2.map V.int)):=ab
   have nS:nm≠S:=dO Pg uZ
   generalize L2.upd Hk nm (HO.lst (c.2.map V.int))=H2 at *
   have Pe:=S2 _ _ Pg
   have ap5:=S2.seq hSa
   refine ⟨_,rfl,.inl ⟨rfl,_,cK.of Pe⟩,_,rfl,_,rfl,a,_,_,V.int c.1,rfl,rfl,ap5,(by rw [hx1];exact Nb _ _ _ (by simp)),_,rfl,(by show 2≤sizeLine;decide),fun z hz=> ?_⟩
   have S3:=aj.ao (o:=HO.tup [V.int c.1,.ref nm]) hz
   have YT:L2.upd H2 z (HO.tup [V.int c.1,.ref nm]) z=some (.tup [V.int c.1,.ref nm]):=ab
   have zS:z≠S:=dO Pe hz
   generalize L2.upd H2 z (HO.tup [V.int c.1,.ref nm])=H3 at *
   have hS3:=S3 _ _ Pe
   have eD:Kc.length=pre.length:=Paired.length hP
   have agh:pre.length < 400:=by
    have:=congrArg List.length UX
    rw [List.length_append,List.length_cons] at this
    omega
   refine ⟨S,_,_,rfl,rfl,hS3,(by rw [List.length_map,eD];exact Nat.lt_of_lt_of_le agh (by decide)),?_⟩
   have nzn:z≠nm:=dO agg hz
   have agi:L2.upd H3 S (HO.lst (Kc.map V.ref ++ [V.ref z])) nm=some (.lst (c.2.map V.int)):=by
    rw [az nS]
    exact S3 _ _ agg
   have ZE:L2.upd H3 S (HO.lst (Kc.map V.ref ++ [V.ref z])) z=some (.tup [V.int c.1,.ref nm]):=by
    rw [az zS]
    exact YT
   have S4:aj H (L2.upd H3 S (HO.lst (Kc.map V.ref ++ [V.ref z]))):=fun b o e=>by
    rw [az (aI e Qh)]
    exact S3 _ _ (S2 _ _ (Sk _ _ e))
   refine ⟨_,rfl,_,rfl,nm,_,rfl,.inl (cK.of agi),_,_,rfl,rfl,?_⟩
   refine ⟨_,_,rfl,rfl,?_⟩
   refine ⟨r.length,(by rw [hm,List.length_cons];omega),pre ++ [c],r,Kc ++ [z],some (.ref nm),(by rw [UX,List.append_assoc];rfl),rfl,?_,S4,(by rw [List.map_append];exact ab),Paired.AD (Paired.cN hP fun a b f=> ?_) ⟨⟨nm,ZE,agi,Sk.free uZ⟩,fun nm' e=> ?_⟩⟩
   ·have e:((enc pre).length:Int) + (((c.2.map V.int).length:Int) + 3)=((enc (pre ++ [c])).length:Int):=by
     rw [wt]
     show _=((enc pre ++ (Ij c ++ [])).length:Int)
     unfold Ij
     simp
     omega
    rw [←e]
    rfl
   ·obtain ⟨⟨nm0,f1,f2,f3⟩,f4⟩:=f
    have up:∀b o,b≠S→Hk b=some o→L2.upd H3 S (HO.lst (Kc.map V.ref ++ [V.ref z])) b=some o:=fun b o n e=>by
     rw [az n]
     exact S3 _ _ (S2 _ _ e)
    have g1:=up _ _ (bh f1 Pg (fun q=>nomatch q)) f1
    refine ⟨⟨nm0,g1,up _ _ (f4 _ f1) f2,f3⟩,fun nm' e=> ?_⟩
    rw [g1] at e
    cases e
    exact f4 _ f1
   ·rw [ZE] at e
    cases e
    exact nS
end
end Rl
namespace Rl
open PySem PySem.Spec PyProof.Rows L2
section
variable {P:Program}{w:World}{K:PySem.W.Frag}{mg:Str→Option Value}{base:Heap}{t:ke}
def zR (C:Cs)(H:Hp)(A:Ad)(cas:List Addr):Option VW→V→Prop
 |none,v=>v= .bY
 |some W,v=>v= .ref A.w∧Rep C H A cas W
def IB (A:Ad)(cas:List Addr):Option VW→Addr→Prop
 |none,_=>False
 |some _,b=>A.mut cas b
theorem zR.other {C:Cs}{H:Hp}{A:Ad}{cas:List Addr}{s:Option VW}{v:V}(h:zR C H A cas s v){F:Addr}{xs:List V}(hF:H F=some (.lst xs))(nm:¬IB A cas s F)(o:HO):zR C (L2.upd H F o) A cas s v:=by
 cases s with
 |none=>exact h
 |some W=>exact ⟨h.1,h.2.other hF nm o⟩
def RA (K:PySem.W.Frag)(C:Cs):Sp:=fun vs H Q _=>∃ (n:Nat)(s:Option VW)(A:Ad)(cas:List Addr)(wv:V)(p:Int)(ns:List Int)(nm:Addr),
 vs= [wv,.int p,.ref nm] ∧n < 400∧Fx n s∧zR C H A cas s wv∧H nm=some (.lst (ns.map V.int))∧¬IB A cas s nm∧VbcnagNeutral.asked1 (nQ (p,ns))=true∧
 ∀ (H':Hp)(ta ra:Addr)(wv':V)(A':Ad)(Ei:List Addr),H' ta=some (.tup [wv',.ref ra])→H' ra=some (.lst ((di s (p,ns)).2.map V.int))→zR C H' A' Ei (di s (p,ns)).1 wv'→(∀b o,H b=some o→¬IB A cas s b→H' b=some o)→
  (∀b,IB A' Ei (di s (p,ns)).1 b→IB A cas s b∨H b=none)→H ra=none→Q (.ref ta) H'
def Vt (K:PySem.W.Frag):Sp:=fun vs H Q _=>∃ (a:Addr)(l:List Int),vs= [.ref a] ∧cK K H a (l.map V.int)∧PyVbcnag.answers_asked l=true∧
 ∀H' p,aj H H'→H' p=some (.lst ((PyVbcnag.answers l).map V.int))→H p=none→Q (.ref p) H'
def ap6 (C:Cs)(H0:Hp)(a G:Addr)(cs:List (Int×List Int)):Nat→L2.St→Hp→Prop:=fun i σ Hk=>∃ (A:Ad)(cas:List Addr)(wv:V)(v3 v4 v5:Option V),
 σ= [some (.ref a),some wv,some (.ref G),v3,v4,v5] ∧Fx i (gn none (cs.take i))∧zR C Hk A cas (gn none (cs.take i)) wv∧Hk G=some (.lst ((dI none (cs.take i)).map V.int))∧(∀b o,H0 b=some o→b≠G→Hk b=some o)∧∀b,IB A cas (gn none (cs.take i)) b→H0 b=none
theorem LO (IC:Txt K mg t→bH P w K mg base fg 40 t.nY t.B2 B0 (RA K (cs t)))(T:Txt K mg t):bH P w K mg base fg 41 t.f9 t.lM tV (Vt K):=by
 refine T.zl.ok gD (fun vs H Q E h=> ?_) (fun dZ A0 outer s H vs Q E hr h=> ?_)
 ·obtain ⟨a,l,rfl,_⟩:=h
  rfl
 ·obtain ⟨a,l,rfl,hS,LP,k⟩:=h
  obtain ⟨cl,hl,hlen,ap7,agk,hsz⟩:=JT LP
  subst hl
  refine ⟨_,ae (aZ (i:=1) gD.nd rfl (Or.inl rfl) eU)
   (ae (aZ (i:=2) gD.nd rfl (Or.inl rfl) (bb af))
   (ae (BB PassesOwn.never rfl (tG (aB (Du T) (hr.mono (by decide)) (by rfl) T.vg T.om.kp T.vh .nil aX (aa (pv 0) af))) (Kt rfl (oK (eV (i:=3) gD.nd rfl (Or.inl rfl)) (oK (eV (i:=4) gD.nd rfl (Or.inl rfl)) FR))) (ae (aZ (i:=5) gD.nd rfl (Or.inl rfl) (aB (IC T) (hr.mono (by decide)) (by rfl) T.QN T.Ln.kp T.QO .nil aX (aa (pv 1) (aa (pv 3) (aa (pv 4) af)))))
   (ae (aZ (i:=1) gD.nd rfl (Or.inl rfl) (aG bq (pv 5) ah (fun _ _=>rfl)))
   (ae (aJ (iy PySem.F.plainAttrs_list PySem.F.slot_list_append PySem.F.type_list_append oN (pv 2) (aa (bc aW (by rfl) T.dN PySem.boot_len (aa (aG bq (pv 5) ah (fun _ _=>rfl)) af)) af)))
   (ak (aJ (iy PySem.F.plainAttrs_list PySem.F.slot_list_extend PySem.F.type_list_extend oO (pv 2) (aa (aG bq (pv 5) ah (fun _ _=>rfl)) af))))))))
   (ak (aL (pv 2))))),?_⟩
  refine ⟨(by show 0≤sizeLine;decide),fun G hG=> ?_⟩
  have S1:=aj.ao (o:=HO.lst []) hG
  have G1:L2.upd H G (HO.lst []) G=some (.lst []):=ab
  generalize L2.upd H G (HO.lst [])=H1 at *
  refine ⟨_,rfl,a,cl,rfl,S1.seq hS,hlen,fun H2 p Kc S2 hp hpn hP=>⟨p,rfl,⟨_,cK.of hp⟩,?_⟩⟩
  have Vr:=S1.trans S2
  have hpG:p≠G:=dO G1 hpn
  have hPl:=cT.mp hP
  refine BC (K:=K) (a:=p) (xs:=Kc.map V.ref) (ap6 (cs t) H2 a G cl) ?_ (fun i σ Hk _ hk=> ?_) (fun i x σ Hk hx hk=> ?_) (fun σ Hk hk=> ?_)
  ·exact ⟨⟨p,p,p,p,p,p,p,p,p⟩,[],.bY,none,none,none,rfl,trivial,rfl,S2 _ _ G1,fun b o e _=>e,fun b h=>h.elim⟩
  ·obtain ⟨A,cas,wv,v3,v4,v5,rfl,hg,qW,Vu,ER,hm⟩:=hk
   exact cK.of (ER _ _ hp hpG)
  ·obtain ⟨A,cas,wv,v3,v4,v5,rfl,hg,qW,Vu,ER,hm⟩:=hk
   rw [List.getElem?_map] at hx
   obtain ⟨ta,IW,rfl⟩:∃ta,Kc[i]?=some ta∧x=V.ref ta:=by
    cases q:Kc[i]? with
    |none=>rw [q] at hx;cases hx
    |some ta=>rw [q] at hx;exact ⟨ta,rfl,(Option.some.inj hx).symm⟩
   have hil:i < cl.length:=by
    rw [←hPl.1]
    exact (List.getElem?_eq_some_iff.mp IW).1
   have hc:cl[i]?=some cl[i] :=List.getElem?_eq_getElem hil
   obtain ⟨nm,h1,h2,h3⟩:=hPl.2 i ta _ IW hc
   generalize cl[i] =c at *
   have Vv:cl.take (i + 1)=cl.take i ++ [c] :=by rw [List.take_add_one,hc];rfl
   have agl:=ap7 c (List.mem_of_getElem? hc)
   have n1:nm≠G:=fun q=>by
    rw [q,G1] at h3
    cases h3
   have h1k:=ER _ _ h1 (bh h1 (S2 _ _ G1) (fun q=>nomatch q))
   have h2k:=ER _ _ h2 n1
   refine ⟨ta,_,rfl,bO.of h1k,rfl,_,_,rfl,_,_,rfl,rfl,?_⟩
   have nmm:¬IB A cas (gn none (cl.take i)) nm:=fun q=>by
    have:=hm _ q
    rw [h2] at this
    cases this
   have nmG:¬IB A cas (gn none (cl.take i)) G:=fun q=>by
    have:=hm _ q
    rw [S2 _ _ G1] at this
    cases this
   refine ⟨_,rfl,_,rfl,_,rfl,i,gn none (cl.take i),A,cas,wv,c.1,c.2,nm,rfl,(by omega),hg,qW,h2k,nmm,agl,fun H' tb ra wv' A' Ei e1 e2 e3 e4 e5 e6=> ?_⟩
   have hw:(di (gn none (cl.take i)) (c.1,c.2)).1=gn none (cl.take (i + 1)):=by
    rw [Vv,yq]
    rfl
   have ht:dI none (cl.take (i + 1))=dI none (cl.take i) ++ (((di (gn none (cl.take i)) (c.1,c.2)).2.length:Int)::(di (gn none (cl.take i)) (c.1,c.2)).2):=by
    rw [Vv,mh]
    show _ ++ (_::(_ ++ []))=_
    rw [List.append_nil]
   have hG':=e4 _ _ Vu nmG
   have nra:ra≠G:=dO Vu e6
   have hG3:(dI none (cl.take (i + 1))).length≤10000000:=by
    refine Nat.le_trans ?_ hsz
    rw [agk,Ik]
    have e:=congrArg List.length (show dI none cl=dI none (cl.take (i + 1)) ++ dI (gn none (cl.take (i + 1))) (cl.drop (i + 1)) by rw [←mh,List.take_append_drop])
    rw [List.length_append] at e
    show _≤(dI none cl).length
    omega
   rw [ht,List.length_append,List.length_cons] at hG3
   refine ⟨_,rfl,tb,_,_,_,rfl,rfl,bO.of e1,rfl,?_⟩
   refine ⟨_,rfl,.inl ⟨rfl,_,cK.of hG'⟩,_,rfl,tb,_,_,_,rfl,rfl,bO.of e1,rfl,ra,_,rfl,.inl (cK.of e2),G,_,_,rfl,rfl,hG',?_,?_⟩
   ·rw [List.length_map]
    exact Nat.lt_of_le_of_lt (show _≤10000000 by omega) (by decide)
   have e1':L2.upd H' G (HO.lst ((dI none (cl.take i)).map V.int ++ [V.int (((di (gn none (cl.take i)) (c.1,c.2)).2.map V.int).length:Int)])) tb=some (.tup [wv',.ref ra]):=by
    rw [az (bh e1 hG' (fun q=>nomatch q))]
    exact e1
   have e2':L2.upd H' G (HO.lst ((dI none (cl.take i)).map V.int ++ [V.int (((di (gn none (cl.take i)) (c.1,c.2)).2.map V.int).length:Int)])) ra=some (.lst ((di (gn none (cl.take i)) (c.1,c.2)).2.map V.int)):=by
    rw [az nra]
    exact e2
   refine ⟨_,rfl,.inl ⟨rfl,_,cK.of ab⟩,_,rfl,tb,_,_,_,rfl,rfl,bO.of e1',rfl,G,ra,_,_,rfl,rfl,ab,e2',?_,?_⟩
   ·simp only [List.length_append,List.length_map,List.length_cons,List.length_nil]
    exact Nat.le_trans (show _≤10000000 by omega) (by decide)
   rw [cJ]
   refine ⟨A',Ei,wv',some (.int c.1),some (.ref nm),some (.ref tb),rfl,?_,?_,?_,fun b o e n=> ?_,fun b hb=> ?_⟩
   ·rw [←hw]
    exact Ow hg _
   ·rw [←hw]
    have nG':¬IB A' Ei (di (gn none (cl.take i)) (c.1,c.2)).1 G:=fun q=>by
     rcases e5 G q with z|z
     ·exact nmG z
     ·rw [Vu] at z
      cases z
    exact zR.other e3 hG' nG' _
   ·rw [ab,ht,List.map_append,List.append_assoc,List.length_map]
    rfl
   ·rw [az n]
    exact e4 _ _ (ER _ _ e n) fun q=>by
     have:=hm _ q
     rw [e] at this
     cases this
   ·rw [←hw] at hb
    rcases e5 b hb with q|q
    ·exact hm _ q
    ·cases z:H2 b with
     |none=>rfl
     |some o=>
      by_cases bG:b=G
      ·rw [bG,Vu] at q
       cases q
      ·rw [ER _ _ z bG] at q
       cases q
  ·obtain ⟨A,cas,wv,v3,v4,v5,rfl,hg,qW,Vu,ER,hm⟩:=hk
   rw [List.length_map,hPl.1,List.take_length] at Vu
   refine ⟨_,rfl,k Hk G (fun b o e=>ER b o (Vr _ _ e) (aI e hG)) ?_ hG⟩
   rw [Vu,agk,Ik]
   rfl
end
end Rl
namespace Rl
open PySem PySem.Spec PyProof.Rows L2
section
variable {P:Program}{w:World}{K:PySem.W.Frag}{mg:Str→Option Value}{base:Heap}{t:ke}
theorem ID (T:Txt K mg t)(s:Shared)(us:List Value)(hu:us.length=(["calls"] :List Str).length):BindsTo s t.lM ⟨us,[]⟩ ((["calls"] :List Str).zip us):=by
 obtain ⟨oc,od,kV,doc,pm,an,dZ,ct,S8,h1,h2⟩:=T.zl.ex
 rw [h1]
 exact match us,hu with| [_],_=> .of_eq rfl
end
end Rl
namespace Rl
open PySem PySem.Spec PyProof.Rows L2
open Vbcnag (Mark Msg Under Offer Lease Client Relay Assigned Written)
theorem nT {a b:Nat}:decide (nV a=nV b)=decide (a=b):=by
 by_cases h:a=b
 ·rw [h,decide_eq_true rfl,decide_eq_true rfl]
 ·rw [decide_eq_false h,decide_eq_false (fun q=>h (by injection q with q;omega))]
section
variable {P:Program}{w:World}{K:PySem.W.Frag}{mg:Str→Option Value}{base:Heap}{t:ke}
def iu (s:Nat)(u:Under):Offer:={server:=s,addr:=u.msg.addr,len:=u.msg.len}
def RB (C:Cs):Sp:=fun vs H Q _=>∃ (m:Addr)(u:Under)(o:Option Offer)(bv:V)(s:Nat),vs= [.ref m,bv] ∧gM C H m u∧Ox H o bv∧u.msg.server=some s∧Q (.bl (Vbcnag.better (iu s u) o)) H
theorem IE (T:Txt K mg t):bH P w K mg base fg 1 t.ee t.mP mE (RB (cs t)):=by
 refine T.sk.ok GI (fun vs H Q E h=> ?_) (fun dZ A0 outer s H vs Q E hr h=> ?_)
 ·obtain ⟨m,u,o,bv,sv,rfl,_⟩:=h
  rfl
 ·obtain ⟨m,u,o,bv,sv,rfl,⟨dm,pp,mm,xs,hM,hp,hm,zT⟩,hof,Br,k⟩:=h
  rw [Br] at hM
  refine ⟨_,ae (br (cq (gQ (pv 1))) (ak (aL L9)) aY)
   (ae (br (aM cU (ai (pv 0) rfl) (aG bq (pv 1) ah (fun _ _=>rfl)) (aS _)) (ak (aL (jY oM (ai (pv 0) rfl) (aG bq (pv 1) ah (fun _ _=>rfl)) (aS _)))) aY)
   (ak (aL (jY wJ (ai (pv 0) rfl) (aG bq (pv 1) ah (fun _ _=>rfl)) (aS _))))),?_⟩
  cases o with
  |none=>
   have e:bv= .bY:=hof
   subst e
   exact ⟨_,rfl,_,rfl,bI k⟩
  |some o=>
   obtain ⟨b,rfl,hb⟩:=hof
   refine ⟨_,rfl,_,rfl,bQ ?_⟩
   refine ⟨_,rfl,m,_,dm,_,_,rfl,hM,T.au,T.a9,rfl,_,rfl,b,_,_,_,rfl,rfl,bO.of hb,rfl,rfl,_,rfl,?_⟩
   refine eR (fun q=> ?_) fun q=> ?_
   ·have h1:u.msg.len=o.len:=bV.mp q
    refine ⟨_,rfl,m,_,dm,_,_,rfl,hM,T.au,T.a3,rfl,_,rfl,b,_,_,_,rfl,rfl,bO.of hb,rfl,_,_,rfl,rfl,?_⟩
    have e:Vbcnag.better (iu sv u) (some o)=decide ((sv:Int) < (o.server:Int)):=by
     unfold Vbcnag.better iu
     dsimp only
     rw [h1,decide_eq_false (Nat.lt_irrefl _),beq_self_eq_true,Bool.false_or,Bool.true_and]
     exact decide_eq_decide.mpr (by omega)
    rw [e] at k
    exact k
   ·have h1:¬u.msg.len=o.len:=fun z=>q (bV.mpr z)
    refine ⟨_,rfl,m,_,dm,_,_,rfl,hM,T.au,T.a9,rfl,_,rfl,b,_,_,_,rfl,rfl,bO.of hb,rfl,_,_,rfl,rfl,?_⟩
    have e:Vbcnag.better (iu sv u) (some o)=decide ((o.len:Int) < (u.msg.len:Int)):=by
     unfold Vbcnag.better iu
     dsimp only
     rw [beq_eq_false_iff_ne.mpr h1,Bool.false_and,Bool.or_false]
     exact decide_eq_decide.mpr (by omega)
    rw [e] at k
    exact k
def dW (s:Nat)(u:Under)(c:Client):Client:=if c.phase=1∧Vbcnag.better (iu s u) c.best=true then {c with best:=some (iu s u)} else c
def Uu (C:Cs):Sp:=fun vs H Q _=>∃ (A:Ad)(cas:List Addr)(W:VW)(i:Nat)(ca:Addr)(c:Client)(m:Addr)(u:Under)(s:Nat),vs= [.ref ca,.ref m] ∧Rep C H A cas W∧cas[i]?=some ca∧W.clients[i]?=some c∧gM C H m u∧u.msg.server=some s∧
 ∀H',Rep C H' A cas {W with clients:=W.clients.set i (dW s u c)}→ez A cas H H'→Q .bY H'
theorem Dv {α:Type}:∀ {l:List α}{i:Nat}{c:α},l[i]?=some c→l.set i c=l
 | [],_,_,h=>by simp at h
 |x::l,0,c,h=>by
  have e:x=c:=Option.some.inj h
  rw [e]
  rfl
 |x::l,i + 1,c,h=>by
  have hh:l[i]?=some c:=h
  show x::l.set i c=x::l
  rw [Dv hh]
theorem En (T:Txt K mg t):bH P w K mg base fg 2 t.dB t.kl j2 (Uu (cs t)):=by
 refine T.pY.ok D8 (fun vs H Q E h=> ?_) (fun dZ A0 outer s H vs Q E hr h=> ?_)
 ·obtain ⟨A,cas,W,i,ca,c,m,u,sv,rfl,_⟩:=h
  rfl
 ·obtain ⟨A,cas,W,i,ca,c,m,u,sv,rfl,R,hi,hc,MA,Br,k⟩:=h
  have CK:=fI T
  obtain ⟨d,pl,be,le,dt,dY⟩:=R.gN hc hi
  have same:dW sv u c=c→Q .bY H:=fun e=>k H (by rw [e,Dv hc];exact R) ez.refl
  obtain ⟨Ug,Ip,Iq⟩:=T.Bf
  refine ⟨_,ak (br (PW.pt (iB (aM cU (ai (pv 0) rfl) (aE (by rfl) Ip Iq) (aS _)) (fK (rq (aB (IE T) (hr.mono (by decide)) (by rfl) T.Ai T.sk.kp T.Aj .nil aX (aa (pv 1) (aa (ai (pv 0) rfl) af))))))) (ak (aQ (pv 0) (b0 (aa (ai (pv 1) rfl) (aa (ai (pv 1) rfl) (aa (ai (pv 1) rfl) af)))) rfl)) aY),?_⟩
  refine ⟨_,rfl,ca,_,d,_,_,rfl,dt,T.aq,T.aH,rfl,rfl,_,rfl,?_⟩
  refine eR (fun q=> ?_) fun q=> ?_
  ·have h1:c.phase=1:=bV (b:=1)|>.mp q
   refine ⟨_,rfl,_,rfl,ca,_,d,_,_,rfl,dt,T.aq,T.a7,rfl,m,u,c.best,be,sv,rfl,MA,dY.be,Br,?_⟩
   refine ⟨_,rfl,?_⟩
   refine eR (fun q2=> ?_) fun q2=> ?_
   ·have Uv:Vbcnag.better (iu sv u) c.best=true:=q2
    obtain ⟨dm,pp,mm,xs,hM,hp,hm,zT⟩:=MA
    rw [Br] at hM
    refine ⟨_,rfl,m,_,dm,_,_,rfl,hM,T.au,T.a3,rfl,_,rfl,m,_,dm,_,_,rfl,hM,T.au,T.a4,rfl,_,rfl,m,_,dm,_,_,rfl,hM,T.au,T.a9,rfl,(by show 3≤sizeLine;decide),fun b hb=> ?_⟩
    have S1:=aj.ao (o:=HO.tup [nV sv,nV u.msg.addr,nV u.msg.len]) hb
    have Q5:L2.upd H b (HO.tup [nV sv,nV u.msg.addr,nV u.msg.len]) b=some (HO.tup [nV sv,nV u.msg.addr,nV u.msg.len]):=ab
    have IF:=S1 _ _ dt
    refine ⟨_,rfl,ca,_,d,_,rfl,IF,T.aq,T.a7,lt1000 rfl,?_⟩
    have e:dW sv u c={c with best:=some (iu sv u)}:=if_pos ⟨h1,Uv⟩
    rw [e] at k
    refine k _ ((R.same S1).setC CK (c':={c with best:=some (iu sv u)}) hi hc rfl IF ⟨dY.pl.keep (aj.keep (C:=cs t) S1),⟨b,rfl,Q5⟩,dY.le.keep (aj.keep (C:=cs t) S1)⟩) ((aj.ek S1).trans (ez.upd (Ad.iA hi)))
   ·exact same (if_neg fun z=>q2 z.2)
  ·have h1:¬c.phase=1:=fun z=>q (bV (b:=1)|>.mpr z)
   exact same (if_neg fun z=>h1 z.1)
end
end Rl
namespace Rl
open PySem PySem.Spec PyProof.Rows L2
open Vbcnag (Mark Msg Under Offer Lease Client Relay Assigned Written)
theorem Nc (n:Nat)(l:List Nat):Tc (nV n) (l.map nV)=decide (n∈l):=by
 induction l with
 |nil=>rfl
 |cons a l ih=>
  have e:Tc (nV n) ((a::l).map nV)=(((a:Int)==(n:Int))||Tc (nV n) (l.map nV)):=rfl
  rw [e,ih]
  by_cases h:n=a
  ·subst h
   rw [beq_self_eq_true,Bool.true_or,decide_eq_true (List.mem_cons_self ..)]
  ·rw [beq_eq_false_iff_ne.mpr (fun q=>h (by omega)),Bool.false_or]
   exact decide_eq_decide.mpr ⟨fun q=>List.mem_cons_of_mem _ q,fun q=>(List.mem_cons.mp q).resolve_left h⟩
theorem RC {W:VW}{i:Nat}{c c':Client}{y:Vbcnag.Done}(nd:(W.clients.map (·.host)).Nodup)(hc:W.clients[i]?=some c)(h1:c'.host=c.host)(h2:y.1.host=c.host):Vbcnag.done {W with clients:=W.clients.set i c'} y=Vbcnag.done W y:=by
 rw [uL nd hc h2,uL (W:={W with clients:=W.clients.set i c'}) (c:=c') (by show ((W.clients.set i c').map (·.host)).Nodup;rw [lQ hc h1];exact nd) (jU hc) (by rw [h2,h1])]
 show ({W with clients:=(W.clients.set i c').set i y.1,bag:=_}:VW)=_
 rw [List.set_set]
theorem FE {W:VW}{i:Nat}{c:Client}(nd:(W.clients.map (·.host)).Nodup)(hc:W.clients[i]?=some c):Vbcnag.done W (c,[])=W:=by
 rw [uL nd hc rfl,Dv hc]
 have e0:Vbcnag.outOf c [] = [] :=by
  unfold Vbcnag.outOf
  split <;>rfl
 show ({W with clients:=W.clients,bag:=W.bag ++ (Vbcnag.outOf c []).take _}:VW)=W
 rw [e0,List.take_nil,List.append_nil]
section
variable {P:Program}{w:World}{K:PySem.W.Frag}{mg:Str→Option Value}{base:Heap}{t:ke}
def agm (C:Cs):Sp:=fun vs H Q _=>∃ (ca:Addr)(c:Client)(m:Addr)(u:Under)(s:Nat),vs= [.ref ca,.ref m] ∧eP C H ca c∧yr c∧gM C H m u∧u.msg.server=some s∧
 ∀H',aj H H'→Q (.bl (Vbcnag.wanted c s u.msg.addr)) H'
theorem Eo (T:Txt K mg t):bH P w K mg base fg 1 t.dC t.km j3 (agm (cs t)):=by
 refine T.pZ.ok D9 (fun vs H Q E h=> ?_) (fun dZ A0 outer s H vs Q E hr h=> ?_)
 ·obtain ⟨ca,c,m,u,sv,rfl,_⟩:=h
  rfl
 ·obtain ⟨ca,c,m,u,sv,rfl,⟨d,pl,be,le,dt,dY⟩,cg,⟨dm,pp,mm,xs,hM,hp,hm,zT⟩,Br,k⟩:=h
  rw [Br] at hM
  obtain ⟨yG,iq,ir⟩:=T.hW
  obtain ⟨LQ,wx,wy⟩:=T.qh
  obtain ⟨RD,Dx,Dy⟩:=T.xR
  obtain ⟨Rf,Dj,Dk⟩:=T.Ct
  refine ⟨_,ae (br (aM cU (ai (pv 0) rfl) (aE (by rfl) Dj Dk) (aS _)) (ak (aL (Pt (jY cU (ai (pv 1) rfl) (aG bq (ai (pv 0) rfl) ah (fun _ _=>rfl)) (aS _)) (Pr (jY cU (ai (pv 1) rfl) (aG bq (ai (pv 0) rfl) ah (fun _ _=>rfl)) (aS _)))))) aY)
   (ak (aL (Pt (jY EL (ai (pv 0) rfl) (b0 (aa (aE (by rfl) Dx Dy) (aa (aE (by rfl) wx wy) (aa (aE (by rfl) iq ir) af)))) (by with_unfolding_all rfl)) (Pr (jY cU (ai (pv 1) rfl) (aG bq (ai (pv 0) rfl) ah (fun _ _=>rfl)) (aS _)))))),?_⟩
  refine ⟨_,rfl,ca,_,d,_,_,rfl,dt,T.aq,T.aH,rfl,rfl,_,rfl,?_⟩
  refine eR (fun q=> ?_) fun q=> ?_
  ·have h1:c.phase=2:=bV (b:=2)|>.mp q
   obtain ⟨o,ho⟩:=Option.isSome_iff_exists.mp (cg.ask h1)
   have IT:=dY.be
   rw [ho] at IT
   obtain ⟨b,e,hb⟩:=IT
   subst e
   have hw:Vbcnag.wanted c sv u.msg.addr=(decide (nV sv=nV o.server) && decide (nV u.msg.addr=nV o.addr)):=by
    unfold Vbcnag.wanted
    rw [if_pos h1,ho,nT,nT]
    show (o.server==sv && o.addr==u.msg.addr)=_
    rw [Bool.eq_iff_iff]
    simp only [Bool.and_eq_true,beq_iff_eq,decide_eq_true_eq]
    constructor <;>rintro ⟨h1,h2⟩ <;>exact ⟨h1.symm,h2.symm⟩
   rw [hw] at k
   refine ⟨_,rfl,m,_,dm,_,_,rfl,hM,T.au,T.a3,rfl,_,rfl,ca,_,d,_,_,rfl,dt,T.aq,T.a7,rfl,b,_,_,_,rfl,rfl,bO.of hb,rfl,rfl,_,rfl,?_⟩
   refine eR (fun q2=> ?_) fun q2=> ?_
   ·have Uv:decide (nV sv=nV o.server)=true:=q2
    rw [Uv,Bool.true_and] at k
    refine ⟨_,rfl,m,_,dm,_,_,rfl,hM,T.au,T.a4,rfl,_,rfl,ca,_,d,_,_,rfl,dt,T.aq,T.a7,rfl,b,_,_,_,rfl,rfl,bO.of hb,rfl,rfl,?_⟩
    exact k H (aj.refl H)
   ·have Uv:decide (nV sv=nV o.server)=false:=Bool.eq_false_iff.mpr q2
    rw [Uv,Bool.false_and] at k
    exact k H (aj.refl H)
  ·have h1:¬c.phase=2:=fun z=>q (bV (b:=2)|>.mpr z)
   refine ⟨_,rfl,ca,_,d,_,_,rfl,dt,T.aq,T.aH,rfl,(by show 3≤sizeLine;decide),fun q3 SH=> ?_⟩
   have S1:=aj.ao (o:=HO.tup [V.int 4,V.int 5,V.int 6]) SH
   have h3:L2.upd H q3 (HO.tup [V.int 4,V.int 5,V.int 6]) q3=some (.tup [V.int 4,V.int 5,V.int 6]):=ab
   generalize L2.upd H q3 (HO.tup [V.int 4,V.int 5,V.int 6])=H1 at *
   refine ⟨q3,_,rfl,.inr (bO.of h3),rfl,rfl,_,rfl,?_⟩
   have Zr:Tc (nV c.phase) [V.int 4,V.int 5,V.int 6] =decide (c.phase∈ [4,5,6]):=Nc c.phase [4,5,6]
   show if Tc (nV c.phase) [V.int 4,V.int 5,V.int 6] =true then _ else _
   rw [Zr]
   refine eR (fun q2=> ?_) fun q2=> ?_
   ·have YU:c.phase=4∨c.phase=5∨c.phase=6:=by simpa using q2
    obtain ⟨l,hl⟩:=Option.isSome_iff_exists.mp (cg.held (by omega))
    have hle:=dY.le
    rw [hl] at hle
    obtain ⟨b,e,hb⟩:=hle
    subst e
    have hw:Vbcnag.wanted c sv u.msg.addr=decide (nV u.msg.addr=nV l.addr):=by
     unfold Vbcnag.wanted
     rw [if_neg h1,if_pos YU,hl,nT]
     show (l.addr==u.msg.addr)=_
     rw [Bool.eq_iff_iff]
     simp only [beq_iff_eq,decide_eq_true_eq]
     exact eq_comm
    rw [hw] at k
    refine ⟨_,rfl,m,_,dm,_,_,rfl,S1 _ _ hM,T.au,T.a4,rfl,_,rfl,ca,_,d,_,_,rfl,S1 _ _ dt,T.aq,T.aK,rfl,b,_,_,_,rfl,rfl,bO.of (S1 _ _ hb),rfl,rfl,?_⟩
    exact k H1 S1
   ·have YU:¬ (c.phase=4∨c.phase=5∨c.phase=6):=fun z=>q2 (by simpa using z)
    have hw:Vbcnag.wanted c sv u.msg.addr=false:=by
     unfold Vbcnag.wanted
     rw [if_neg h1,if_neg YU]
    rw [hw] at k
    exact k H1 S1
def ff (s:Nat)(u:Under)(c:Client):Lease:={server:=s,addr:=u.msg.addr,half:=c.sent + u.msg.len / 2,late:=c.sent + u.msg.len * 7 / 8,till:=c.sent + u.msg.len}
def mq (now s:Nat)(u:Under)(c:Client):Vbcnag.Done:=if Vbcnag.wanted c s u.msg.addr=true∧now < c.sent + u.msg.len then Vbcnag.settle now (ff s u c) {c with best:=none,lease:=some (ff s u c)} else (c,[])
def IG (f:Nat→Under→Client→Vbcnag.Done)(p:Under→Prop)(C:Cs):Sp:=fun vs H Q _=>∃ (A:Ad)(cas:List Addr)(W:VW)(i:Nat)(ca:Addr)(c:Client)(m:Addr)(u:Under),vs= [.ref A.w,.ref ca,.ref m] ∧Rep C H A cas W∧W.bag.length≤10000∧cas[i]?=some ca∧W.clients[i]?=some c∧yr c∧gM C H m u∧p u∧
 ∀H',Rep C H' A cas (Vbcnag.done W (f W.now u c))→ez A cas H H'→Q .bY H'
theorem tq (T:Txt K mg t)(sv:Nat):bH P w K mg base fg 6 t.eC t.lZ lW (IG (fun now u c=>mq now sv u c) (fun u=>u.msg.server=some sv) (cs t)):=by
 refine T.vV.ok mG (fun vs H Q E h=> ?_) (fun dZ A0 outer s H vs Q E hr h=> ?_)
 ·obtain ⟨A,cas,W,i,ca,c,m,u,rfl,_⟩:=h
  rfl
 ·obtain ⟨A,cas,W,i,ca,c,m,u,rfl,R,rm,hi,hc,cg,MA,Br,k⟩:=h
  have CK:=fI T
  have CA:=R.gN hc hi
  obtain ⟨d,pl,be,le,dt,dY⟩:=id CA
  obtain ⟨dm,pp,mm,xs,hM,hp,hm,zT⟩:=id MA
  rw [Br] at hM
  have same:∀H1,aj H H1→mq W.now sv u c=(c,[])→Q .bY H1:=fun H1 S e=>k H1 (by show Rep _ _ _ _ (Vbcnag.done W (mq W.now sv u c));rw [e,FE R.hn hc];exact R.same S) (aj.ek S)
  refine ⟨_,ae (aZ (i:=3) mG.nd rfl (Or.inl rfl) (cO eB (ai (pv 1) rfl) (ai (pv 2) rfl)))
   (ak (br (PW.pt (iB (rq (aB (Eo T) (hr.mono (by decide)) (by rfl) T.xF T.pZ.kp T.xG .nil aX (aa (pv 1) (aa (pv 2) af)))) (fK (aM wJ (pv 3) (ai (pv 0) rfl) (aS _))))) (ae (aZ (i:=4) mG.nd rfl (Or.inl rfl) (cO eB (ai (pv 1) rfl) (cO FT (ai (pv 2) rfl) ah)))
   (ae (aZ (i:=5) mG.nd rfl (Or.inl rfl) (cO eB (ai (pv 1) rfl) (cO FT (cO VS (ai (pv 2) rfl) ah) ah)))
   (ae (aQ (pv 1) eU rfl)
   (ae (aQ (pv 1) (b0 (aa (ai (pv 2) rfl) (aa (ai (pv 2) rfl) (aa (pv 4) (aa (pv 5) (aa (pv 3) af)))))) rfl)
   (ak (aJ (aB (Fy T) (hr.mono (by decide)) (by rfl) T.Cc T.xy.kp T.Cd .nil aX (aa (pv 0) (aa (pv 1) af))))))))) aY)),?_⟩
  refine ⟨_,rfl,ca,_,d,_,_,rfl,dt,T.aq,T.bT,rfl,_,rfl,m,_,dm,_,_,rfl,hM,T.au,T.a9,rfl,_,_,rfl,rfl,?_⟩
  refine ⟨_,rfl,_,rfl,ca,c,m,u,sv,rfl,CA,cg,MA,Br,fun H1 S1=> ?_⟩
  refine ⟨_,rfl,?_⟩
  refine eR (fun q=> ?_) fun q=> ?_
  ·have q':Vbcnag.wanted c sv u.msg.addr=true:=q
   refine ⟨_,rfl,_,rfl,A.w,_,_,_,_,rfl,S1 _ _ R.cV,T.aw,T.a8,rfl,_,_,rfl,rfl,_,rfl,?_⟩
   refine eR (fun q2=> ?_) fun q2=> ?_
   ·have Uv:W.now < c.sent + u.msg.len:=by
     have:=of_decide_eq_true q2
     omega
    have IF:=S1 _ _ dt
    have rn:=S1 _ _ hM
    have R1:=R.same S1
    have e0:mq W.now sv u c=Vbcnag.settle W.now (ff sv u c) {c with best:=none,lease:=some (ff sv u c)}:=if_pos ⟨q',Uv⟩
    refine ⟨_,rfl,ca,_,d,_,_,rfl,IF,T.aq,T.bT,rfl,_,rfl,m,_,dm,_,_,rfl,rn,T.au,T.a9,rfl,_,_,rfl,rfl,⟨by decide,by decide⟩,_,_,rfl,rfl,?_⟩
    refine ⟨_,rfl,ca,_,d,_,_,rfl,IF,T.aq,T.bT,rfl,_,rfl,m,_,dm,_,_,rfl,rn,T.au,T.a9,rfl,_,_,rfl,rfl,.inr ⟨by decide,by decide⟩,_,_,rfl,rfl,⟨by decide,by decide⟩,_,_,rfl,rfl,?_⟩
    refine ⟨_,rfl,ca,_,d,_,rfl,IF,T.aq,T.a7,lt1000 rfl,?_⟩
    have nm:m≠ca:=bh rn IF (fun z=>CK.cm (by injection z with z;exact z.symm))
    generalize Ep:L2.upd H1 ca _=H2
    have Uj:L2.upd H1 ca (.ins (cs t).C d (wC {c with best:=none} pl .bY le))=H2:=Ep
    have SJ:=(az (o:=HO.ins (cs t).C d (wC {c with best:=none} pl .bY le)) nm).trans rn
    have zL:L2.upd H1 ca (.ins (cs t).C d (wC {c with best:=none} pl .bY le)) ca=some (.ins (cs t).C d (wC {c with best:=none} pl .bY le)):=ab
    have R2:=R1.setC CK (c':={c with best:=none}) hi hc rfl IF ⟨dY.pl.keep (aj.keep (C:=cs t) S1),rfl,dY.le.keep (aj.keep (C:=cs t) S1)⟩
    have F2:ez A cas H (L2.upd H1 ca (.ins (cs t).C d (wC {c with best:=none} pl .bY le))):=(aj.ek S1).trans (ez.upd (Ad.iA hi))
    have nf:¬Fix (cs t) (.ins (cs t).C d (wC c pl be le)):=fun z=>by
     rcases z with z|z
     ·exact CK.cr z
     ·exact CK.cm z
    have ap9:JX H2 c.place pl:=by
     rw [←Uj]
     exact (dY.pl.keep (aj.keep (C:=cs t) S1)).keep (dX.upd IF nf)
    rw [Uj] at SJ zL R2 F2
    clear Uj Ep
    refine ⟨_,rfl,m,_,dm,_,_,rfl,SJ,T.au,T.a3,rfl,_,rfl,m,_,dm,_,_,rfl,SJ,T.au,T.a4,rfl,_,rfl,_,rfl,_,rfl,(by show 5≤sizeLine;decide),fun b hb=> ?_⟩
    have eH:(c.sent:Int) + (u.msg.len:Int) / 2=((c.sent + u.msg.len / 2:Nat):Int):=by omega
    have eL:(c.sent:Int) + (u.msg.len:Int) * 7 / 8=((c.sent + u.msg.len * 7 / 8:Nat):Int):=by omega
    have eT:(c.sent:Int) + (u.msg.len:Int)=((c.sent + u.msg.len:Nat):Int):=by omega
    generalize Er:L2.upd H2 b _=H3
    have NL:L2.upd H2 b (HO.tup [nV sv,nV u.msg.addr,nV (c.sent + u.msg.len / 2),nV (c.sent + u.msg.len * 7 / 8),nV (c.sent + u.msg.len)])=H3:=by
     rw [←Er]
     show L2.upd H2 b (HO.tup [V.int sv,V.int u.msg.addr,V.int ((c.sent + u.msg.len / 2:Nat):Int),V.int ((c.sent + u.msg.len * 7 / 8:Nat):Int),V.int ((c.sent + u.msg.len:Nat):Int)])=_
     rw [←eH,←eL,←eT]
     rfl
    have S3:aj H2 H3:=by rw [←NL];exact aj.ao hb
    have hb3:H3 b=some (HO.tup [nV sv,nV u.msg.addr,nV (c.sent + u.msg.len / 2),nV (c.sent + u.msg.len * 7 / 8),nV (c.sent + u.msg.len)]):=by rw [←NL];exact ab
    clear NL Er
    have agn:=S3 _ _ zL
    refine ⟨_,rfl,ca,_,d,_,rfl,agn,T.aq,T.aK,lt1000 rfl,?_⟩
    have R3:=(R2.same S3).setC CK (c':={c with best:=none,lease:=some (ff sv u c)}) hi (jU hc) rfl agn ⟨ap9.keep (aj.keep (C:=cs t) S3),rfl,⟨b,rfl,hb3⟩⟩
    have R4:Rep (cs t) (L2.upd H3 ca (.ins (cs t).C d (wC {c with best:=none,lease:=some (ff sv u c)} pl .bY (.ref b)))) A cas {W with clients:=W.clients.set i {c with best:=none,lease:=some (ff sv u c)} }:=by
     have e:(W.clients.set i {c with best:=none}).set i {c with best:=none,lease:=some (ff sv u c)}=W.clients.set i {c with best:=none,lease:=some (ff sv u c)}:=List.set_set ..
     rw [←e]
     exact R3
    refine ⟨_,rfl,_,rfl,A,cas,{W with clients:=W.clients.set i {c with best:=none,lease:=some (ff sv u c)} },i,ca,{c with best:=none,lease:=some (ff sv u c)},ff sv u c,rfl,R4,rm,hi,jU hc,rfl,fun H5 R5 F5=> ?_⟩
    refine k H5 ?_ (((F2.trans (aj.ek S3)).trans (ez.upd (Ad.iA hi))).trans F5)
    show Rep _ _ _ _ (Vbcnag.done W (mq W.now sv u c))
    rw [e0,←RC (c':={c with best:=none,lease:=some (ff sv u c)}) R.hn hc rfl (qM W.now (ff sv u c) (c:={c with best:=none,lease:=some (ff sv u c)}) rfl).1.host]
    exact R5
   ·have Uv:¬W.now < c.sent + u.msg.len:=fun z=>q2 (decide_eq_true (by omega))
    exact same H1 S1 (if_neg fun z=>Uv z.2)
  ·exact same H1 S1 (if_neg fun z=>q z.1)
end
end Rl
namespace Rl
open PySem PySem.Spec PyProof.Rows L2
open Vbcnag (Mark Msg Under Offer Lease Client Relay Assigned Written)
theorem Kd {now:Nat}{c:Client}{m:Msg}(h:c.phase=0∨m.number≠c.number):Vbcnag.hears now c m=(c,[]):=if_pos h
theorem Uw {now s:Nat}{c:Client}{u:Under}(h:¬ (c.phase=0∨u.msg.number≠c.number))(hk:u.msg.kind=2)(hs:u.msg.server=some s):Vbcnag.hears now c u.msg=(dW s u c,[]):=by
 unfold Vbcnag.hears
 rw [if_neg h,hk,hs]
 unfold dW
 show (if c.phase=1∧Vbcnag.better (iu s u) c.best=true then _ else _)=_
 split <;>rfl
theorem Ux {now s:Nat}{c:Client}{u:Under}(h:¬ (c.phase=0∨u.msg.number≠c.number))(hk:u.msg.kind=4)(hs:u.msg.server=some s):Vbcnag.hears now c u.msg=mq now s u c:=by
 unfold Vbcnag.hears
 rw [if_neg h,hk,hs]
 rfl
theorem Nd {now:Nat}{c:Client}{m:Msg}(h:¬ (c.phase=0∨m.number≠c.number))(hk:m.kind=5):Vbcnag.hears now c m=if c.phase=2∨c.phase=4∨c.phase=5∨c.phase=6 then Vbcnag.seek now 0 c else (c,[]):=by
 unfold Vbcnag.hears
 rw [if_neg h,hk]
 cases m.server <;>rfl
theorem LR {now:Nat}{c:Client}{m:Msg}(h2:m.kind≠2)(h4:m.kind≠4)(h5:m.kind≠5):Vbcnag.hears now c m=(c,[]):=by
 unfold Vbcnag.hears
 split
 ·rfl
 ·split
  ·rename_i e _
   exact absurd e h2
  ·rename_i e _
   exact absurd e h4
  ·rename_i e
   exact absurd e h5
  ·rfl
section
variable {P:Program}{w:World}{K:PySem.W.Frag}{mg:Str→Option Value}{base:Heap}{t:ke}
theorem Uy (T:Txt K mg t):bH P w K mg base fg 7 t.pM t.G4 GG (IG (fun now u c=>Vbcnag.hears now c u.msg) (fun u=>u.msg.server.isSome=true) (cs t)):=by
 refine T.Le.ok TK (fun vs H Q E h=> ?_) (fun dZ A0 outer s H vs Q E hr h=> ?_)
 ·obtain ⟨A,cas,W,i,ca,c,m,u,rfl,_⟩:=h
  rfl
 ·obtain ⟨A,cas,W,i,ca,c,m,u,rfl,R,rm,hi,hc,cg,MA,Br,k⟩:=h
  obtain ⟨sv,Br⟩:=Option.isSome_iff_exists.mp Br
  have CK:=fI T
  obtain ⟨d,pl,be,le,dt,dY⟩:=R.gN hc hi
  obtain ⟨dm,pp,mm,xs,hM,hp,hm,zT⟩:=id MA
  have tq:∀T:Txt K mg t,bH P w K mg base fg 6 t.eC t.lZ lW (IG (fun now u c=>mq now sv u c) (fun u=>u.msg.server=some sv) (cs t)):=fun T=>tq T sv
  have same:∀H1,aj H H1→Vbcnag.hears W.now c u.msg=(c,[])→Q .bY H1:=fun H1 S e=>k H1 (by show Rep _ _ _ _ (Vbcnag.done W (Vbcnag.hears W.now c u.msg));rw [e,FE R.hn hc];exact R.same S) (aj.ek S)
  have RE:Vbcnag.hears W.now c u.msg=(c,[])→Q .bY H:=same H (aj.refl H)
  obtain ⟨Uz,IH,II⟩:=T.Hi
  obtain ⟨ago,RF,RG⟩:=T.QQ
  obtain ⟨yG,iq,ir⟩:=T.hW
  obtain ⟨LQ,wx,wy⟩:=T.qh
  obtain ⟨RD,Dx,Dy⟩:=T.xR
  obtain ⟨Rf,Dj,Dk⟩:=T.Ct
  obtain ⟨aqa,UA,UB⟩:=T.WX
  obtain ⟨Rj,AE,AF⟩:=T.Fm
  refine ⟨_,ae (br (PW.pt (wF (aM cU (ai (pv 1) rfl) (aE (by rfl) AE AF) (aS _)) (pq (aM BD (ai (pv 2) rfl) (ai (pv 1) rfl) (aS _))))) (ak wG) aY)
   (ak (br (aM cU (ai (pv 2) rfl) (aE (by rfl) IH II) (aS _)) (ak (aJ (aB (En T) (hr.mono (by decide)) (by rfl) T.xD T.pY.kp T.xE .nil aX (aa (pv 1) (aa (pv 2) af))))) (ak (br (aM cU (ai (pv 2) rfl) (aE (by rfl) RF RG) (aS _)) (ak (aJ (aB (tq T) (hr.mono (by decide)) (by rfl) T.Ce T.vV.kp T.Cf .nil aX (aa (pv 0) (aa (pv 1) (aa (pv 2) af)))))) (ak (br (PW.pt (iB (aM cU (ai (pv 2) rfl) (aE (by rfl) UA UB) (aS _)) (fK (aM EL (ai (pv 1) rfl) (b0 (aa (aE (by rfl) Dj Dk) (aa (aE (by rfl) Dx Dy) (aa (aE (by rfl) wx wy) (aa (aE (by rfl) iq ir) af))))) (by with_unfolding_all rfl))))) (ak (aJ (aB (yD T) (hr.mono (by decide)) (by rfl) T.zd T.vU.kp T.ze .nil aX (aa (pv 0) (aa (pv 1) (aa ah af)))))) aY)))))),?_⟩
  refine ⟨_,rfl,ca,_,d,_,_,rfl,dt,T.aq,T.aH,rfl,rfl,_,rfl,?_⟩
  refine eR (fun q=> ?_) fun q=> ?_
  ·have h1:c.phase=0:=bV (b:=0)|>.mp q
   exact bI (RE (Kd (.inl h1)))
  have h1:¬c.phase=0:=fun z=>q (bV (b:=0)|>.mpr z)
  refine ⟨_,rfl,m,_,dm,_,_,rfl,hM,T.au,T.bM,rfl,_,rfl,ca,_,d,_,_,rfl,dt,T.aq,T.bD,rfl,rfl,_,rfl,?_⟩
  rw [nT]
  by_cases h2:¬u.msg.number=c.number
  ·rw [decide_eq_false h2]
   exact bI (RE (Kd (.inr h2)))
  have h2:=Decidable.not_not.mp h2
  rw [decide_eq_true h2]
  refine bQ ?_
  have hn:¬ (c.phase=0∨u.msg.number≠c.number):=fun z=>z.elim h1 (fun z=>z h2)
  refine ⟨_,rfl,m,_,dm,_,_,rfl,hM,T.au,T.bB,rfl,rfl,_,rfl,?_⟩
  refine eR (fun q2=> ?_) fun q2=> ?_
  ·have k2:u.msg.kind=2:=bV (b:=2)|>.mp q2
   refine ⟨_,rfl,_,rfl,A,cas,W,i,ca,c,m,u,sv,rfl,R,hi,hc,MA,Br,fun H1 R1 F1=> ?_⟩
   refine k H1 ?_ F1
   show Rep _ _ _ _ (Vbcnag.done W (Vbcnag.hears W.now c u.msg))
   have Vw:(dW sv u c).host=c.host:=by
    unfold dW
    split <;>rfl
   have e0:Vbcnag.outOf (dW sv u c) [] = [] :=by
    unfold Vbcnag.outOf
    split <;>rfl
   rw [Uw hn k2 Br,uL (y:=(dW sv u c,[])) R.hn hc Vw]
   show Rep _ _ _ _ {W with clients:=W.clients.set i (dW sv u c),bag:=W.bag ++ (Vbcnag.outOf (dW sv u c) []).take _}
   rw [e0,List.take_nil,List.append_nil]
   exact R1
  have k2:u.msg.kind≠2:=fun z=>q2 (bV (b:=2)|>.mpr z)
  refine ⟨_,rfl,m,_,dm,_,_,rfl,hM,T.au,T.bB,rfl,rfl,_,rfl,?_⟩
  refine eR (fun q4=> ?_) fun q4=> ?_
  ·have k4:u.msg.kind=4:=bV (b:=4)|>.mp q4
   refine ⟨_,rfl,_,rfl,_,rfl,A,cas,W,i,ca,c,m,u,rfl,R,rm,hi,hc,cg,MA,Br,fun H1 R1 F1=> ?_⟩
   refine k H1 ?_ F1
   show Rep _ _ _ _ (Vbcnag.done W (Vbcnag.hears W.now c u.msg))
   rw [Ux hn k4 Br]
   exact R1
  have k4:u.msg.kind≠4:=fun z=>q4 (bV (b:=4)|>.mpr z)
  refine ⟨_,rfl,m,_,dm,_,_,rfl,hM,T.au,T.bB,rfl,rfl,_,rfl,?_⟩
  refine eR (fun q5=> ?_) fun q5=> ?_
  ·have k5:u.msg.kind=5:=bV (b:=5)|>.mp q5
   refine ⟨_,rfl,ca,_,d,_,_,rfl,dt,T.aq,T.aH,rfl,(by show 4≤sizeLine;decide),fun q3 SH=> ?_⟩
   have S1:=aj.ao (o:=HO.tup [V.int 2,V.int 4,V.int 5,V.int 6]) SH
   have h3:L2.upd H q3 (HO.tup [V.int 2,V.int 4,V.int 5,V.int 6]) q3=some (.tup [V.int 2,V.int 4,V.int 5,V.int 6]):=ab
   generalize L2.upd H q3 (HO.tup [V.int 2,V.int 4,V.int 5,V.int 6])=H1 at *
   refine ⟨q3,_,rfl,.inr (bO.of h3),rfl,rfl,_,rfl,?_⟩
   have Zr:Tc (nV c.phase) [V.int 2,V.int 4,V.int 5,V.int 6] =decide (c.phase∈ [2,4,5,6]):=Nc c.phase [2,4,5,6]
   show if Tc (nV c.phase) [V.int 2,V.int 4,V.int 5,V.int 6] =true then _ else _
   rw [Zr]
   refine eR (fun q6=> ?_) fun q6=> ?_
   ·have YU:c.phase=2∨c.phase=4∨c.phase=5∨c.phase=6:=by simpa using q6
    refine ⟨_,rfl,_,rfl,A,cas,W,i,ca,c,0,rfl,R.same S1,rm,hi,hc,Nat.zero_le _,fun H2 R2 F2=> ?_⟩
    refine k H2 ?_ ((aj.ek S1).trans F2)
    show Rep _ _ _ _ (Vbcnag.done W (Vbcnag.hears W.now c u.msg))
    rw [Nd hn k5,if_pos YU]
    exact R2
   ·have YU:¬ (c.phase=2∨c.phase=4∨c.phase=5∨c.phase=6):=fun z=>q6 (by simpa using z)
    exact same H1 S1 ((Nd hn k5).trans (if_neg YU))
  ·have k5:u.msg.kind≠5:=fun z=>q5 (bV (b:=5)|>.mpr z)
   exact RE (LR k2 k4 k5)
end
end Rl
namespace Rl
open PySem PySem.Spec PyProof.Rows L2
open Vbcnag (Mark Msg Under Offer Lease Client Relay Assigned Written)
theorem FF {x y:Written}:df x.server x.host x.addr=df y.server y.host y.addr ↔ fi x=fi y:=by
 rw [fJ]
 constructor
 ·rintro ⟨h1,h2,h3⟩
  show (_,_,_)=(_,_,_)
  rw [h1,h2,h3]
 ·intro q
  injection q with q1 q
  injection q with q2 q3
  exact ⟨q1,q2,q3⟩
def iP (x:Written):List Written→Nat
 | [] =>x.till
 |y::l=>if y.server=x.server∧y.host=x.host∧y.addr=x.addr then max y.till x.till else iP x l
theorem RH (x:Written):∀l:List Written,(((dz (cC l) (df x.server x.host x.addr)).getD (nV x.till))=nV x.till∧iP x l=x.till)∨∃n,dz (cC l) (df x.server x.host x.addr)=some (nV n)∧iP x l=max n x.till
 | [] => .inl ⟨rfl,rfl⟩
 |y::l=>by
  unfold cC iP
  rw [List.map_cons]
  by_cases h:y.server=x.server∧y.host=x.host∧y.addr=x.addr
  ·rw [if_pos h,c9 (fJ.mpr h)]
   exact .inr ⟨y.till,rfl,rfl⟩
  ·rw [if_neg h,da (fun q=>h (fJ.mp q))]
   exact RH x l
theorem Nf {x:Written}:∀ {l:List Written},fi x ∉ l.map fi→(cC l).any (fun kv=>decide (kv.1=df x.server x.host x.addr))=false∧Vbcnag.write x l=l ++ [x] ∧iP x l=x.till
 | [],_=>⟨rfl,rfl,rfl⟩
 |y::l,h=>by
  rw [List.map_cons,List.mem_cons] at h
  have u4:¬ (y.server=x.server∧y.host=x.host∧y.addr=x.addr):=fun q=>h (.inl (by
   obtain ⟨q1,q2,q3⟩:=q
   show (_,_,_)=(_,_,_)
   rw [q1,q2,q3]))
  obtain ⟨h1,h2,h3⟩:=Nf (l:=l) fun q=>h (.inr q)
  refine ⟨?_,?_,?_⟩
  ·unfold cC at h1 ⊢
   rw [List.map_cons,List.any_cons,h1,Bool.or_false]
   exact decide_eq_false fun q=>u4 (fJ.mp q)
  ·unfold Vbcnag.write
   rw [if_neg u4,h2]
   rfl
  ·unfold iP
   rw [if_neg u4,h3]
theorem RI {x:Written}{v:V}:∀ {l:List Written},fi x ∉ l.map fi→(cC l).map (fun kv=>if kv.1=df x.server x.host x.addr then (kv.1,v) else kv)=cC l
 | [],_=>rfl
 |y::l,h=>by
  rw [List.map_cons,List.mem_cons] at h
  have u4:¬df y.server y.host y.addr=df x.server x.host x.addr:=fun q=>h (.inl (FF.mp q).symm)
  have ih:=RI (v:=v) (l:=l) fun q=>h (.inr q)
  unfold cC at ih ⊢
  rw [List.map_cons,List.map_cons,ih,if_neg u4]
theorem YV {x:Written}:∀ {l:List Written},(l.map fi).Nodup→putK (cC l) (df x.server x.host x.addr) (nV (iP x l))=cC (Vbcnag.write x l):=by
 have agp:∀ {l:List Written},(l.map fi).Nodup→fi x∈l.map fi→(cC l).any (fun kv=>decide (kv.1=df x.server x.host x.addr))=true∧
   (cC l).map (fun kv=>if kv.1=df x.server x.host x.addr then (kv.1,nV (iP x l)) else kv)=cC (Vbcnag.write x l):=by
  intro l
  induction l with
  |nil=>intro _ h;cases h
  |cons y l ih=>
   intro nd hm
   rw [List.map_cons,List.nodup_cons] at nd
   by_cases h:y.server=x.server∧y.host=x.host∧y.addr=x.addr
   ·have e:fi x=fi y:=by
     obtain ⟨q1,q2,q3⟩:=h
     show (_,_,_)=(_,_,_)
     rw [q1,q2,q3]
    have hk:df y.server y.host y.addr=df x.server x.host x.addr:=fJ.mpr h
    constructor
    ·show (decide (df y.server y.host y.addr=df x.server x.host x.addr)||_)=true
     rw [decide_eq_true hk,Bool.true_or]
    ·unfold iP Vbcnag.write
     rw [if_pos h,if_pos h]
     have hr:=RI (x:=x) (v:=nV (max y.till x.till)) (l:=l) (by rw [e];exact nd.1)
     unfold cC at hr ⊢
     rw [List.map_cons,List.map_cons,List.map_cons,if_pos hk]
     show _::List.map _ (List.map _ l)=_
     rw [hr]
   ·have e:fi x≠fi y:=fun q=>h (fJ.mp (FF.mpr q.symm))
    have hk:¬df y.server y.host y.addr=df x.server x.host x.addr:=fun q=>h (fJ.mp q)
    have Wu:fi x∈l.map fi:=by
     rw [List.map_cons,List.mem_cons] at hm
     exact hm.resolve_left e
    obtain ⟨i1,i2⟩:=ih nd.2 Wu
    constructor
    ·show (decide (df y.server y.host y.addr=df x.server x.host x.addr)||(cC l).any _)=true
     rw [i1,Bool.or_true]
    ·unfold iP Vbcnag.write
     rw [if_neg h,if_neg h]
     show (if df y.server y.host y.addr=df x.server x.host x.addr then _ else _)::(cC l).map _=_::cC (Vbcnag.write x l)
     rw [i2,if_neg hk]
 intro l nd
 unfold putK
 by_cases h:fi x∈l.map fi
 ·obtain ⟨h1,h2⟩:=agp nd h
  rw [if_pos h1,h2]
 ·obtain ⟨h1,h2,h3⟩:=Nf h
  rw [if_neg (by rw [h1];exact Bool.false_ne_true),h2,h3]
  unfold cC
  rw [List.map_append]
  rfl
theorem gM.parts {C:Cs}{H:Hp}{m:Addr}{u:Under}(h:gM C H m u):∃d p mk xs,H m=some (.ins C.M d (mfs (.ref p) (nV u.msg.host) (nV u.msg.number) (nV u.msg.kind) (oV u.msg.server) (nV u.msg.addr) (nV u.msg.len) (nV u.msg.hops) (.ref mk)))∧
 H p=some (.tup (dj u.place))∧H mk=some (.tup xs)∧Paired (dn H) u.msg.marks xs:=h
theorem dn.keep {C:Cs}{H H':Hp}(k:dX C H H'){m:Mark}{v:V}(h:dn H m v):dn H' m v:=by
 obtain ⟨b,e,q⟩:=h
 exact ⟨b,e,k.tup q⟩
theorem bS {C:Cs}{H H':Hp}(k:dX C H H'){l:List Mark}{xs:List V}(h:Paired (dn H) l xs):Paired (dn H') l xs:=Paired.cN h fun m v f=>f.keep k
section
variable {P:Program}{w:World}{K:PySem.W.Frag}{mg:Str→Option Value}{base:Heap}{t:ke}
def FG (u:Under)(pl:Vbcnag.Place)(hops:Nat)(mk:List Mark):Under:={place:=pl,msg:={u.msg with hops:=hops,marks:=mk} }
def Ng (C:Cs):Sp:=fun vs H Q _=>∃ (A:Ad)(cas:List Addr)(W:VW)(m:Addr)(u:Under)(pa ma:Addr)(pl:Vbcnag.Place)(hops:Nat)(mk:List Mark)(xs:List V),vs= [.ref A.w,.ref m,.ref pa,nV hops,.ref ma] ∧Rep C H A cas W∧W.bag.length≤10000∧gM C H m u∧
 H pa=some (.tup (dj pl))∧H ma=some (.tup xs)∧Paired (dn H) mk xs∧∀H',Rep C H' A cas (Vbcnag.puts W [FG u pl hops mk]).1→ez A cas H H'→Q .bY H'
theorem zU (T:Txt K mg t):bH P w K mg base fg 3 t.g9 t.xm wY (Ng (cs t)):=by
 refine T.sm.ok N8 (fun vs H Q E h=> ?_) (fun dZ A0 outer s H vs Q E hr h=> ?_)
 ·obtain ⟨A,cas,W,m,u,pa,ma,pl,hops,mk,xs,rfl,_⟩:=h
  rfl
 ·obtain ⟨A,cas,W,m,u,pa,ma,pl,hops,mk,xs,rfl,R,hb,MA,hpa,ON,zT,k⟩:=h
  obtain ⟨dm,pp,mm,ys,hM,_⟩:=MA.parts
  refine ⟨_,ak (aJ (aB (Dg T) (hr.mono (by decide)) (by rfl) T.Fc T.B6.kp T.Fd .nil aX (aa (pv 0) (aa (mx T.fc (Im T) (hr.mono (by decide)) (by rfl) T.o5 T.fF .nil aX (aa (pv 2) (aa (ai (pv 1) rfl) (aa (ai (pv 1) rfl) (aa (ai (pv 1) rfl) (aa (ai (pv 1) rfl) (aa (ai (pv 1) rfl) (aa (ai (pv 1) rfl) (aa (pv 3) (aa (pv 4) af)))))))))) af)))),?_⟩
  refine ⟨_,rfl,_,rfl,_,rfl,m,_,dm,_,_,rfl,hM,T.au,T.bA,rfl,_,rfl,m,_,dm,_,_,rfl,hM,T.au,T.bM,rfl,_,rfl,m,_,dm,_,_,rfl,hM,T.au,T.bB,rfl,_,rfl,m,_,dm,_,_,rfl,hM,T.au,T.a3,rfl,
   _,rfl,m,_,dm,_,_,rfl,hM,T.au,T.a4,rfl,_,rfl,m,_,dm,_,_,rfl,hM,T.au,T.a9,rfl,_,rfl,_,rfl,?_⟩
  intro x dx nx OB ZC
  refine ⟨x,dx,_,_,_,_,_,_,_,_,_,rfl,ab,fun H5 h5 k5=>⟨rfl,?_⟩⟩
  have S5:=aj.made nx OB k5
  refine ⟨A,cas,W,x,FG u pl hops mk,rfl,R.same S5,hb,⟨dx,pa,ma,xs,h5,S5 _ _ hpa,S5 _ _ ON,bS (aj.keep (C:=cs t) S5) zT⟩,fun H6 R6 F6=> ?_⟩
  exact k H6 R6 ((aj.ek S5).trans F6)
def qS (u:Under)(s kind addr len:Nat):Under:={place:= .down 0,msg:={u.msg with kind:=kind,server:=some s,addr:=addr,len:=len,hops:=0} }
def RJ (C:Cs):Sp:=fun vs H Q _=>∃ (A:Ad)(cas:List Addr)(W:VW)(m:Addr)(u:Under)(s kind addr len:Nat),vs= [.ref A.w,.ref m,nV kind,nV addr,nV len] ∧Rep C H A cas W∧W.bag.length≤10000∧gM C H m u∧u.place= .server s∧
 ∀H',Rep C H' A cas (Vbcnag.puts W [qS u s kind addr len]).1→ez A cas H H'→Q .bY H'
theorem uR (T:Txt K mg t):bH P w K mg base fg 3 t.hJ t.xn w6 (RJ (cs t)):=by
 refine T.o8.ok Oa (fun vs H Q E h=> ?_) (fun dZ A0 outer s H vs Q E hr h=> ?_)
 ·obtain ⟨A,cas,W,m,u,sv,kind,addr,len,rfl,_⟩:=h
  rfl
 ·obtain ⟨A,cas,W,m,u,sv,kind,addr,len,rfl,R,hb,MA,eD,k⟩:=h
  obtain ⟨dm,pp,mm,ys,hM,hp,hm,zT⟩:=MA.parts
  rw [eD] at hp
  obtain ⟨RK,Dz,DA⟩:=T.Hh
  refine ⟨_,ak (aJ (aB (Dg T) (hr.mono (by decide)) (by rfl) T.Fc T.B6.kp T.Fd .nil aX (aa (pv 0) (aa (mx T.fc (Im T) (hr.mono (by decide)) (by rfl) T.o5 T.fF .nil aX (aa (b0 (aa (aE (by rfl) Dz DA) (aa ah (aa ah af)))) (aa (ai (pv 1) rfl) (aa (ai (pv 1) rfl) (aa (pv 2) (aa (aG bq (ai (pv 1) rfl) ah (fun _ _=>rfl)) (aa (pv 3) (aa (pv 4) (aa ah (aa (ai (pv 1) rfl) af)))))))))) af)))),?_⟩
  refine ⟨_,rfl,(by show 3≤sizeLine;decide),fun z hz=> ?_⟩
  have S1:=aj.ao (o:=HO.tup [V.int 2,V.int 0,V.int 0]) hz
  have vM:L2.upd H z (HO.tup [V.int 2,V.int 0,V.int 0]) z=some (.tup (dj (.down 0))):=ab
  generalize L2.upd H z (HO.tup [V.int 2,V.int 0,V.int 0])=H1 at *
  have rn:=S1 _ _ hM
  refine ⟨_,rfl,m,_,dm,_,_,rfl,rn,T.au,T.bA,rfl,_,rfl,m,_,dm,_,_,rfl,rn,T.au,T.bM,rfl,_,rfl,_,rfl,m,_,dm,_,_,rfl,rn,T.au,T.aD,rfl,pp,_,_,_,rfl,rfl,bO.of (S1 _ _ hp),rfl,
   _,rfl,_,rfl,_,rfl,m,_,dm,_,_,rfl,rn,T.au,T.aR,rfl,?_⟩
  intro x dx nx OB ZC
  refine ⟨x,dx,_,_,_,_,_,_,_,_,_,rfl,ab,fun H5 h5 k5=>⟨rfl,?_⟩⟩
  have S5:=aj.made nx OB k5
  have YD:=S1.trans S5
  refine ⟨A,cas,W,x,qS u sv kind addr len,rfl,R.same YD,hb,⟨dx,z,mm,ys,h5,S5 _ _ vM,YD _ _ hm,bS (aj.keep (C:=cs t) YD) zT⟩,fun H6 R6 F6=> ?_⟩
  exact k H6 R6 ((aj.ek YD).trans F6)
def UC (C:Cs):Sp:=fun vs H Q _=>∃ (A:Ad)(cas:List Addr)(W:VW)(m:Addr)(u:Under)(s len:Nat),vs= [.ref A.w,.ref m,nV len] ∧Rep C H A cas W∧(W.written.map fi).Nodup∧W.written.length < sizeLine∧gM C H m u∧u.place= .server s∧
 ∀H',Rep C H' A cas {W with written:=Vbcnag.write {server:=s,host:=u.msg.host,addr:=u.msg.addr,till:=W.now + len} W.written}→ez A cas H H'→Q .bY H'
theorem Es (T:Txt K mg t):bH P w K mg base fg 2 t.dE t.kr j5 (UC (cs t)):=by
 refine T.qb.ok nX (fun vs H Q E h=> ?_) (fun dZ A0 outer s H vs Q E hr h=> ?_)
 ·obtain ⟨A,cas,W,m,u,sv,len,rfl,_⟩:=h
  rfl
 ·obtain ⟨A,cas,W,m,u,sv,len,rfl,R,nd,eA,MA,eD,k⟩:=h
  obtain ⟨dm,pp,mm,ys,hM,hp,hm,zT⟩:=MA.parts
  rw [eD] at hp
  have hu:=gE hr
  refine ⟨_,ae (aZ (i:=3) nX.nd rfl (Or.inl rfl) (b0 (aa (aG bq (ai (pv 1) rfl) ah (fun _ _=>rfl)) (aa (ai (pv 1) rfl) (aa (ai (pv 1) rfl) af)))))
   (ae (aZ (i:=4) nX.nd rfl (Or.inl rfl) (cO eB (ai (pv 0) rfl) (pv 2)))
   (ak (A2 hu (ai (pv 0) rfl) (pv 3) (bc (EE rfl) (by rfl) T.CB PyProof.Rows.boot_max (aa (pv 4) (aa (P5 hu (ai (pv 0) rfl) (pv 3) (pv 4) ⟨rfl,rfl,rfl,rfl⟩) af))) rfl))),?_⟩
  refine ⟨_,rfl,m,_,dm,_,_,rfl,hM,T.au,T.aD,rfl,pp,_,_,_,rfl,rfl,bO.of hp,rfl,_,rfl,m,_,dm,_,_,rfl,hM,T.au,T.bA,rfl,_,rfl,m,_,dm,_,_,rfl,hM,T.au,T.a4,rfl,(by show 3≤sizeLine;decide),fun q hq=> ?_⟩
  have S1:=aj.ao (o:=HO.tup [nV sv,nV u.msg.host,nV u.msg.addr]) hq
  have LL:L2.upd H q (HO.tup [nV sv,nV u.msg.host,nV u.msg.addr]) q=some (.tup ((df sv u.msg.host u.msg.addr).map kV)):=ab
  generalize L2.upd H q (HO.tup [nV sv,nV u.msg.host,nV u.msg.addr])=H1 at *
  have R1:=R.same S1
  have DG:=gC.t R1.wr LL
  refine ⟨_,rfl,A.w,_,_,_,_,rfl,R1.cV,T.aw,T.a8,rfl,_,rfl,_,_,rfl,rfl,?_⟩
  have eE:(W.now:Int) + (len:Int)=((W.now + len:Nat):Int):=by omega
  refine ⟨_,rfl,_,rfl,A.w,_,_,_,_,rfl,R1.cV,T.aw,T.cj,rfl,A.wr,rfl,.inr ⟨_,.inl R1.wr⟩,_,rfl,_,rfl,_,DG,?_⟩
  have E1:(cC W.written).length < sizeLine:=by
   unfold cC
   rw [List.length_map]
   exact eA
  have fin:∀v:Int,v=((iP {server:=sv,host:=u.msg.host,addr:=u.msg.addr,till:=W.now + len} W.written:Nat):Int)→Q .bY (L2.upd H1 A.wr (.dT (putK (cC W.written) (df sv u.msg.host u.msg.addr) (V.int v)))):=fun v hv=>by
   subst hv
   have hp:=YV (x:={server:=sv,host:=u.msg.host,addr:=u.msg.addr,till:=W.now + len}) nd
   have Zs:putK (cC W.written) (df sv u.msg.host u.msg.addr) (V.int ((iP {server:=sv,host:=u.msg.host,addr:=u.msg.addr,till:=W.now + len} W.written:Nat):Int))=_:=hp
   rw [Zs]
   exact k _ (R1.afZ _) ((aj.ek S1).trans (ez.upd (.inr (.inr (.inr (.inr (.inr (.inr (.inl rfl)))))))))
  obtain ⟨j,hj,he⟩:∃j:Int,(dz (cC W.written) (df sv u.msg.host u.msg.addr)).getD (V.int ((W.now:Int) + (len:Int)))=V.int j∧(if j >(W.now:Int) + (len:Int) then j else (W.now:Int) + (len:Int))=((iP {server:=sv,host:=u.msg.host,addr:=u.msg.addr,till:=W.now + len} W.written:Nat):Int):=by
   rcases RH {server:=sv,host:=u.msg.host,addr:=u.msg.addr,till:=W.now + len} W.written with ⟨h1,h2⟩|⟨n,h1,h2⟩
   ·refine ⟨(W.now:Int) + (len:Int),?_,?_⟩
    ·have Vh:=h1
     unfold nV at Vh
     dsimp only at Vh
     rw [←eE] at Vh
     exact Vh
    ·rw [h2]
     show (if _ then _ else _)=((W.now + len:Nat):Int)
     split <;>omega
   ·refine ⟨(n:Int),?_,?_⟩
    ·have Vh:dz (cC W.written) (df sv u.msg.host u.msg.addr)=some (nV n):=h1
     rw [Vh]
     rfl
    ·rw [h2]
     show (if _ then _ else _)=((max n (W.now + len):Nat):Int)
     rw [eE]
     clear h2
     generalize W.now + len=z
     rcases Nat.le_total n z with q|q
     ·rw [Nat.max_eq_right q]
      split <;>omega
     ·rw [Nat.max_eq_left q]
      split <;>omega
  exact ⟨(W.now:Int) + (len:Int),j,congrArg (fun z=> [V.int ((W.now:Int) + (len:Int)),z]) hj,_,rfl,A.w,_,_,_,_,rfl,R1.cV,T.aw,T.cj,rfl,_,rfl,A.wr,_,rfl,BN.t R1.wr LL E1,fin _ he⟩
end
end Rl
namespace Rl
open PySem PySem.Spec PyProof.Rows L2
open Vbcnag (Mark Msg Under Offer Lease Client Relay Assigned Written)
theorem Rep.keep {C:Cs}{H H':Hp}{A:Ad}{cas:List Addr}{W:VW}(K:C.Ok)(R:Rep C H A cas W)(F:ez A cas H H'):dX C H H':=by
 intro b o fx hb
 refine F b o hb fun hm=> ?_
 have no:∀ {o':HO},H b=some o'→¬Fix C o'→False:=fun {o'} h n=>n (by rw [hb] at h;cases h;exact fx)
 rcases hm with e|e|e|e|e|e|e|e|e
 ·subst e
  exact no R.cV fun q=>by
   rcases q with q|q
   ·exact K.wr q
   ·exact K.wm q
 ·subst e
  obtain ⟨_,h,_⟩:=R.rl
  exact no h fun q=>q
 ·subst e
  obtain ⟨_,h,_⟩:=R.hd
  exact no h fun q=>q
 ·subst e
  exact no R.cd fun q=>q
 ·subst e
  obtain ⟨_,h,_⟩:=R.rs
  exact no h fun q=>q
 ·subst e
  obtain ⟨_,h,_⟩:=R.ag
  exact no h fun q=>q
 ·subst e
  exact no R.wr fun q=>q
 ·subst e
  obtain ⟨_,h,_⟩:=R.bg
  exact no h fun q=>q
 ·obtain ⟨i,hi⟩:=List.getElem?_of_mem e
  have P:=cT.mp R.ca
  have eA:i < W.clients.length:=by
   rw [←P.1]
   exact (List.getElem?_eq_some_iff.mp hi).1
  obtain ⟨d,pl,be,le,h,_⟩:=P.2 i b _ hi (List.getElem?_eq_getElem eA)
  exact no h fun q=>by
   rcases q with q|q
   ·exact K.cr q
   ·exact K.cm q
def AsO (H:Hp):Option Assigned→V→Prop
 |none,v=>v= .bY
 |some a,v=>∃b,v= .ref b∧H b=some (.tup [nV a.addr,nV a.len])
def wz (W:VW)(s:Nat)(u:Under):Option Assigned→VW×List Under
 |some a=>if a.addr=u.msg.addr then ({W with written:=Vbcnag.write {server:=s,host:=u.msg.host,addr:=a.addr,till:=W.now + a.len} W.written},[qS u s 4 a.addr a.len]) else (W,[qS u s 5 0 0])
 |none=>if u.msg.server.isSome=true then (W,[qS u s 5 0 0]) else (W,[])
section
variable {P:Program}{w:World}{K:PySem.W.Frag}{mg:Str→Option Value}{base:Heap}{t:ke}
def RL (C:Cs):Sp:=fun vs H Q _=>∃ (A:Ad)(cas:List Addr)(W:VW)(m:Addr)(u:Under)(s:Nat)(a:Option Assigned)(av:V),vs= [.ref A.w,.ref m,av] ∧Rep C H A cas W∧W.bag.length≤10000∧(W.written.map fi).Nodup∧W.written.length < sizeLine∧gM C H m u∧u.place= .server s∧AsO H a av∧
 ∀H',Rep C H' A cas (Vbcnag.puts (wz W s u a).1 (wz W s u a).2).1→ez A cas H H'→Q .bY H'
theorem AX (T:Txt K mg t):bH P w K mg base fg 4 t.cH t.hC gU (RL (cs t)):=by
 refine T.l4.ok AR (fun vs H Q E h=> ?_) (fun dZ A0 outer s H vs Q E hr h=> ?_)
 ·obtain ⟨A,cas,W,m,u,sv,a,av,rfl,_⟩:=h
  rfl
 ·obtain ⟨A,cas,W,m,u,sv,a,av,rfl,R,hb,nd,eA,MA,eD,ha,k⟩:=h
  obtain ⟨dm,pp,mm,ys,hM,hp,hm,zT⟩:=MA.parts
  have CK:=fI T
  obtain ⟨aqa,UA,UB⟩:=T.WX
  obtain ⟨ago,RF,RG⟩:=T.QQ
  refine ⟨_,ak (br (cq (gQ (pv 2))) (ak (br (cq (gR (ai (pv 1) rfl))) (ak (aJ (aB (uR T) (hr.mono (by decide)) (by rfl) T.sr T.o8.kp T.su .nil aX (aa (pv 0) (aa (pv 1) (aa (aE (by rfl) UA UB) (aa ah (aa ah af)))))))) aY)) (ak (br (aM cU (aG bq (pv 2) ah (fun _ _=>rfl)) (ai (pv 1) rfl) (aS _)) (ae (aJ (aB (Es T) (hr.mono (by decide)) (by rfl) T.xJ T.qb.kp T.xK .nil aX (aa (pv 0) (aa (pv 1) (aa (aG bq (pv 2) ah (fun _ _=>rfl)) af)))))
   (ak (aJ (aB (uR T) (hr.mono (by decide)) (by rfl) T.sr T.o8.kp T.su .nil aX (aa (pv 0) (aa (pv 1) (aa (aE (by rfl) RF RG) (aa (aG bq (pv 2) ah (fun _ _=>rfl)) (aa (aG bq (pv 2) ah (fun _ _=>rfl)) af))))))))) (ak (aJ (aB (uR T) (hr.mono (by decide)) (by rfl) T.sr T.o8.kp T.su .nil aX (aa (pv 0) (aa (pv 1) (aa (aE (by rfl) UA UB) (aa ah (aa ah af))))))))))),?_⟩
  cases a with
  |none=>
   have e:av= .bY:=ha
   subst e
   refine ⟨_,rfl,_,rfl,bI ?_⟩
   refine ⟨_,rfl,m,_,dm,_,_,rfl,hM,T.au,T.a3,rfl,_,rfl,?_⟩
   cases hs:u.msg.server with
   |none=>
    have er:wz W sv u none=(W,[]):=if_neg (by rw [hs];exact Bool.false_ne_true)
    rw [er] at k
    exact bQ (k H R ez.refl)
   |some x=>
    have er:wz W sv u none=(W,[qS u sv 5 0 0]):=if_pos (by rw [hs];rfl)
    rw [er] at k
    refine bI ?_
    exact ⟨_,rfl,_,rfl,A,cas,W,m,u,sv,5,0,0,rfl,R,hb,MA,eD,fun H1 R1 F1=>k H1 R1 F1⟩
  |some a=>
   obtain ⟨b,rfl,wu⟩:=ha
   refine ⟨_,rfl,_,rfl,bQ ?_⟩
   refine ⟨_,rfl,b,_,_,_,rfl,rfl,bO.of wu,rfl,_,rfl,m,_,dm,_,_,rfl,hM,T.au,T.a4,rfl,rfl,_,rfl,?_⟩
   refine eR (fun q=> ?_) fun q=> ?_
   ·have h1:a.addr=u.msg.addr:=bV.mp q
    have er:wz W sv u (some a)=({W with written:=Vbcnag.write {server:=sv,host:=u.msg.host,addr:=u.msg.addr,till:=W.now + a.len} W.written},[qS u sv 4 a.addr a.len]):=(if_pos h1).trans (by rw [h1])
    rw [er] at k
    refine ⟨_,rfl,_,rfl,_,rfl,b,_,_,_,rfl,rfl,bO.of wu,rfl,A,cas,W,m,u,sv,a.len,rfl,R,nd,eA,MA,eD,fun H1 R1 F1=> ?_⟩
    have kk:=R.keep CK F1
    have agq:=kk.tup wu
    exact ⟨_,rfl,_,rfl,_,rfl,b,_,_,_,rfl,rfl,bO.of agq,rfl,_,rfl,b,_,_,_,rfl,rfl,bO.of agq,rfl,A,cas,_,m,u,sv,4,a.addr,a.len,rfl,R1,hb,MA.keep kk,eD,fun H2 R2 F2=>k H2 R2 (F1.trans F2)⟩
   ·have h1:¬a.addr=u.msg.addr:=fun z=>q (bV.mpr z)
    have er:wz W sv u (some a)=(W,[qS u sv 5 0 0]):=if_neg h1
    rw [er] at k
    exact ⟨_,rfl,_,rfl,A,cas,W,m,u,sv,5,0,0,rfl,R,hb,MA,eD,fun H1 R1 F1=>k H1 R1 F1⟩
def cQ (W:VW)(u:Under):VW:=(Vbcnag.puts (Vbcnag.handled W u).1 (Vbcnag.handled W u).2).1
def tu (p:VW→Under→Prop)(C:Cs):Sp:=fun vs H Q _=>∃ (A:Ad)(cas:List Addr)(W:VW)(m:Addr)(u:Under),vs= [.ref A.w,.ref m] ∧Rep C H A cas W∧cp W∧W.written.length < sizeLine∧gM C H m u∧jQ W.relays.length W.servers u∧p W u∧
 ∀H',Rep C H' A cas (cQ W u)→ez A cas H H'→Q .bY H'
theorem Nh {H:Hp}(s h r:Nat):∀ {kvs:List (List Key×V)}{l:List Assigned},Paired (gu H) kvs l→AsO H (l.find? fun a=>a.server==s && (a.host==h && a.relay==r)) ((dz kvs (df s h r)).getD .bY)
 |_,_,.nil=>rfl
 |p::kvs,y::l,.cons a t=>by
  by_cases q:y.server=s∧y.host=h∧y.relay=r
  ·have e:(y.server==s && (y.host==h && y.relay==r))=true:=by
    obtain ⟨q1,q2,q3⟩:=q
    rw [q1,q2,q3,beq_self_eq_true,beq_self_eq_true,beq_self_eq_true]
    rfl
   rw [List.find?_cons,e,c9 (by rw [a.1];exact fJ.mpr q)]
   exact a.2
  ·have e:(y.server==s && (y.host==h && y.relay==r))=false:=by
    rw [Bool.eq_false_iff]
    intro z
    simp only [Bool.and_eq_true,beq_iff_eq] at z
    exact q z
   rw [List.find?_cons,e,da (by rw [a.1];exact fun z=>q (fJ.mp z))]
   exact Nh s h r t
theorem FH {W:VW}{s:Nat}{m:Msg}(h:W.resting.contains s=true∨m.marks= []):Vbcnag.served W s m=(W,[]):=by
 unfold Vbcnag.served
 dsimp only
 split
 ·rfl
 ·rcases h with h|h
  ·rename_i q
   exact absurd h q
  ·rw [h]
   rfl
def AG (W:VW)(s:Nat)(m:Msg)(first:Mark):Option Assigned:=W.assigned.find? fun a=>a.server==s && (a.host==m.host && a.relay==first.relay)
theorem RM {W:VW}{s:Nat}{u:Under}{first:Mark}(h:¬W.resting.contains s=true)(hl:u.msg.marks.getLast?=some first)(hk:u.msg.kind=1):
  Vbcnag.served W s u.msg=(W,match AG W s u.msg first with|some a=> [qS u s 2 a.addr a.len] |none=> []):=by
 unfold Vbcnag.served AG
 dsimp only
 rw [if_neg h,hl,hk]
 dsimp only
 cases W.assigned.find? _ <;>rfl
theorem RN {W:VW}{s:Nat}{u:Under}{first:Mark}(h:¬W.resting.contains s=true)(hl:u.msg.marks.getLast?=some first)(hk:u.msg.kind=3):
  Vbcnag.served W s u.msg=if u.msg.server.any (fun t=>t !=s)=true then (W,[]) else wz W s u (AG W s u.msg first):=by
 unfold Vbcnag.served AG
 dsimp only
 rw [if_neg h,hl,hk]
 dsimp only
 cases W.assigned.find? _ <;>rfl
theorem Ke {W:VW}{s:Nat}{u:Under}(h1:u.msg.kind≠1)(h3:u.msg.kind≠3):Vbcnag.served W s u.msg=(W,[]):=by
 unfold Vbcnag.served
 dsimp only
 split
 ·rfl
 ·split
  ·rfl
  ·split
   ·rename_i e _
    exact absurd e h1
   ·rename_i e
    exact absurd e h3
   ·rfl
end
end Rl
namespace Rl
open PySem PySem.Spec PyProof.Rows L2
open Vbcnag (Mark Msg Under Offer Lease Client Relay Assigned Written)
theorem RO {α:Type}{xs:List α}{v:α}(h:xs.getLast?=some v):Jd xs (-1)=some v:=by
 have u4:xs≠ [] :=fun q=>by rw [q] at h;cases h
 have hl:0 < xs.length:=List.length_pos_iff.mpr u4
 unfold Jd Pd
 rw [if_neg (by omega),if_pos (by omega)]
 show xs[((-1:Int) + (xs.length:Int)).toNat]?=some v
 rw [show ((-1:Int) + (xs.length:Int)).toNat=xs.length - 1 by omega,←List.getLast?_eq_getElem?]
 exact h
theorem Paired.last {α β:Type}{F:α→β→Prop}:∀ {l:List α}{m:List β}{a:α},Paired F l m→l.getLast?=some a→∃b,m.getLast?=some b∧F a b
 |_,_,a,.nil,h=>by cases h
 | [x],_,a,.cons f .nil,h=>by
  have e:x=a:=Option.some.inj h
  exact ⟨_,rfl,e ▸ f⟩
 |x::y::l,_,a,.cons f (.cons f' t),h=>by
  have h':(y::l).getLast?=some a:=by
   rw [←h,List.getLast?_cons_cons]
  obtain ⟨c,h1,h2⟩:=Paired.last (.cons f' t) h'
  exact ⟨c,by rw [List.getLast?_cons_cons];exact h1,h2⟩
section
variable {P:Program}{w:World}{K:PySem.W.Frag}{mg:Str→Option Value}{base:Heap}{t:ke}
theorem RP (T:Txt K mg t):bH P w K mg base fg 5 t.ko t.Bc A9 (tu (fun _ u=>∃s,u.place= .server s) (cs t)):=by
 refine T.He.ok wZ (fun vs H Q E h=> ?_) (fun dZ A0 outer s H vs Q E hr h=> ?_)
 ·obtain ⟨A,cas,W,m,u,rfl,_⟩:=h
  rfl
 ·obtain ⟨A,cas,W,m,u,rfl,R,wg,eA,MA,Vx,⟨sv,eD⟩,k⟩:=h
  obtain ⟨dm,pp,mm,ys,hM,hp,hm,zT⟩:=MA.parts
  rw [eD] at hp
  have hu:=gE hr
  have CK:=fI T
  have hb:W.bag.length≤10000:=Nat.le_trans wg.bag wg.cap.2
  have Br:=Vx.server sv eD
  have hh:cQ W u=(Vbcnag.puts (Vbcnag.served W sv u.msg).1 (Vbcnag.served W sv u.msg).2).1:=by
   unfold cQ Vbcnag.handled
   rw [eD]
  rw [hh] at k
  have same:∀H1,aj H H1→Vbcnag.served W sv u.msg=(W,[])→Q .bY H1:=fun H1 S e=>by
   rw [e] at k
   exact k H1 (R.same S) (aj.ek S)
  obtain ⟨bs,Vq,ZD,hbs⟩:=R.rs
  obtain ⟨bv,hbv⟩:∃b,bs[sv]?=some b:=⟨_,List.getElem?_eq_getElem (by omega)⟩
  have agr:=hbs sv bv hbv
  have Sw:Jd (bs.map V.bl) (sv:Int)=some (V.bl bv):=iQ (by rw [List.getElem?_map,hbv];rfl)
  have EN:ys.length=u.msg.marks.length:=(Paired.length zT).symm
  obtain ⟨ZF,OO,OP⟩:=T.zm
  obtain ⟨Uz,IH,II⟩:=T.Hi
  obtain ⟨ags,RQ,RR⟩:=T.sG
  refine ⟨_,ae (aZ (i:=2) wZ.nd rfl (Or.inl rfl) (aG bq (ai (pv 1) rfl) ah (fun _ _=>rfl)))
   (ae (br (PW.pt (wF (rq (aG aN (ai (pv 0) rfl) (pv 2) (fun _ _=>rfl))) (pq (aM cU (bc aW (by rfl) T.dN PySem.boot_len (aa (ai (pv 1) rfl) af)) ah (aS _))))) (ak wG) aY)
   (ae (aZ (i:=3) wZ.nd rfl (Or.inl rfl) (aG bq (ai (pv 1) rfl) (d7 cG ah) (fun _ _=>rfl)))
   (ae (aZ (i:=4) wZ.nd rfl (Or.inl rfl) (gS hu (ai (pv 0) rfl) (b0 (aa (pv 2) (aa (ai (pv 1) rfl) (aa (aG bq (pv 3) ah (fun _ _=>rfl)) af)))) ⟨rfl,rfl,rfl,rfl⟩))
   (ak (br (aM cU (ai (pv 1) rfl) (aE (by rfl) OO OP) (aS _)) (ak (br (cq (gR (pv 4))) (ak (aJ (aB (uR T) (hr.mono (by decide)) (by rfl) T.sr T.o8.kp T.su .nil aX (aa (pv 0) (aa (pv 1) (aa (aE (by rfl) IH II) (aa (aG bq (pv 4) ah (fun _ _=>rfl)) (aa (aG bq (pv 4) ah (fun _ _=>rfl)) af)))))))) aY)) (ak (br (PW.pt (iB (aM cU (ai (pv 1) rfl) (aE (by rfl) RQ RR) (aS _)) (fK (PW.pt (wF (cq (gQ (ai (pv 1) rfl))) (pq (aM cU (ai (pv 1) rfl) (pv 2) (aS _)))))))) (ak (aJ (aB (AX T) (hr.mono (by decide)) (by rfl) T.so T.l4.kp T.sq .nil aX (aa (pv 0) (aa (pv 1) (aa (pv 4) af)))))) aY))))))),?_⟩
  refine ⟨_,rfl,m,_,dm,_,_,rfl,hM,T.au,T.aD,rfl,pp,_,_,_,rfl,rfl,bO.of hp,rfl,?_⟩
  refine ⟨_,rfl,A.w,_,_,_,_,rfl,R.cV,T.aw,T.cB,rfl,_,rfl,A.rs,_,_,_,rfl,rfl,cK.of Vq,Sw,bv,rfl,?_⟩
  refine eR (fun q=> ?_) fun q=> ?_
  ·exact bI (same H (aj.refl H) (FH (.inl (by rw [←agr];exact q))))
  have hnr:¬W.resting.contains sv=true:=by rw [←agr];exact q
  refine ⟨_,rfl,m,_,dm,_,_,rfl,hM,T.au,T.aR,rfl,mm,_,rfl,.inr (bO.of hm),rfl,_,rfl,?_⟩
  cases DB:u.msg.marks with
  |nil=>
   rw [DB] at EN
   rw [show decide (V.int (ys.length:Int)=V.int 0)=true from decide_eq_true (by rw [EN];rfl)]
   exact bI (same H (aj.refl H) (FH (.inr DB)))
  |cons SK mks=>
   rw [DB] at EN
   rw [show decide (V.int (ys.length:Int)=V.int 0)=false from decide_eq_false (fun z=>by
    injection z with z
    rw [EN,List.length_cons] at z
    omega)]
   refine bQ ?_
   obtain ⟨first,hfi⟩:∃f,u.msg.marks.getLast?=some f:=by
    rw [DB]
    exact ⟨_,List.getLast?_cons⟩
   obtain ⟨fv,hfv,fb,rfl,hfb⟩:=Paired.last zT hfi
   refine ⟨_,rfl,m,_,dm,_,_,rfl,hM,T.au,T.aR,rfl,_,rfl,mm,_,_,_,rfl,rfl,bO.of hm,RO hfv,?_⟩
   obtain ⟨kvs,Rp,hP⟩:=R.ag
   refine ⟨_,rfl,A.w,_,_,_,_,rfl,R.cV,T.aw,T.ba,rfl,A.ag,rfl,.inr ⟨_,.inl Rp⟩,_,rfl,_,rfl,m,_,dm,_,_,rfl,hM,T.au,T.bA,rfl,_,rfl,fb,_,_,_,rfl,rfl,bO.of hfb,rfl,(by show 3≤sizeLine;decide),fun z hz=> ?_⟩
   have S1:=aj.ao (o:=HO.tup [nV sv,nV u.msg.host,nV first.relay]) hz
   have vM:L2.upd H z (HO.tup [nV sv,nV u.msg.host,nV first.relay]) z=some (.tup ((df sv u.msg.host first.relay).map kV)):=ab
   generalize L2.upd H z (HO.tup [nV sv,nV u.msg.host,nV first.relay])=H1 at *
   have R1:=R.same S1
   have ZG:=MA.keep (aj.keep (C:=cs t) S1)
   have rn:=S1 _ _ hM
   have hP1:Paired (gu H1) kvs W.assigned:=Paired.cN hP fun a b f=>f.keep (aj.keep (C:=cs t) S1)
   have ZH:AsO H1 (AG W sv u.msg first) ((dz kvs (df sv u.msg.host first.relay)).getD .bY):=Nh sv u.msg.host first.relay hP1
   refine ⟨_,gC.t (S1 _ _ Rp) vM,?_⟩
   generalize (dz kvs (df sv u.msg.host first.relay)).getD .bY=av at *
   refine ⟨_,rfl,m,_,dm,_,_,rfl,rn,T.au,T.bB,rfl,rfl,_,rfl,?_⟩
   refine eR (fun q1=> ?_) fun q1=> ?_
   ·have k1:u.msg.kind=1:=bV (b:=1)|>.mp q1
    have NZ:=RM (u:=u) hnr hfi k1
    cases ha:AG W sv u.msg first with
    |none=>
     rw [ha] at ZH NZ
     have e:av= .bY:=ZH
     subst e
     exact ⟨_,rfl,_,rfl,bQ (same H1 S1 NZ)⟩
    |some a=>
     rw [ha] at ZH NZ
     obtain ⟨b,rfl,wu⟩:=ZH
     rw [NZ] at k
     refine ⟨_,rfl,_,rfl,bI ?_⟩
     exact ⟨_,rfl,_,rfl,_,rfl,b,_,_,_,rfl,rfl,bO.of wu,rfl,_,rfl,b,_,_,_,rfl,rfl,bO.of wu,rfl,A,cas,W,m,u,sv,2,a.addr,a.len,rfl,R1,hb,ZG,eD,fun H2 R2 F2=>k H2 R2 ((aj.ek S1).trans F2)⟩
   have k1:u.msg.kind≠1:=fun z=>q1 (bV (b:=1)|>.mpr z)
   refine ⟨_,rfl,m,_,dm,_,_,rfl,rn,T.au,T.bB,rfl,rfl,_,rfl,?_⟩
   refine eR (fun q3=> ?_) fun q3=> ?_
   ·have k3:u.msg.kind=3:=bV (b:=3)|>.mp q3
    have NZ:=RN (u:=u) hnr hfi k3
    have SJ:=rn
    refine ⟨_,rfl,m,_,dm,_,_,rfl,rn,T.au,T.a3,rfl,_,rfl,?_⟩
    cases hs:u.msg.server with
    |none=>
     rw [if_neg (by rw [hs];exact Bool.false_ne_true)] at NZ
     rw [NZ] at k
     refine bI (bI ?_)
     exact ⟨_,rfl,_,rfl,_,rfl,A,cas,W,m,u,sv,AG W sv u.msg first,av,rfl,R1,hb,wg.YB,eA,ZG,eD,ZH,fun H2 R2 F2=>k H2 R2 ((aj.ek S1).trans F2)⟩
    |some x=>
     rw [hs] at SJ
     refine bQ ?_
     refine ⟨_,rfl,m,_,dm,_,_,rfl,SJ,T.au,T.a3,rfl,_,rfl,rfl,_,rfl,?_⟩
     refine eR (fun q4=> ?_) fun q4=> ?_
     ·have h4:x=sv:=bV.mp q4
      rw [if_neg (by rw [hs,h4];show ¬ (sv !=sv)=true;simp)] at NZ
      rw [NZ] at k
      exact ⟨_,rfl,_,rfl,_,rfl,A,cas,W,m,u,sv,AG W sv u.msg first,av,rfl,R1,hb,wg.YB,eA,ZG,eD,ZH,fun H2 R2 F2=>k H2 R2 ((aj.ek S1).trans F2)⟩
     ·have h4:¬x=sv:=fun z=>q4 (bV.mpr z)
      rw [if_pos (by rw [hs];show (x !=sv)=true;simpa using h4)] at NZ
      exact same H1 S1 NZ
   ·have k3:u.msg.kind≠3:=fun z=>q3 (bV (b:=3)|>.mpr z)
    exact same H1 S1 (Ke k1 k3)
end
end Rl
namespace Rl
open PySem PySem.Spec PyProof.Rows L2
open Vbcnag (Mark Msg Under Offer Lease Client Relay Assigned Written)
theorem DD {xs:List V}{k:Nat}(h:k≤xs.length):vS xs (some (k:Int)) none=xs.drop k:=by
 unfold vS
 rw [HT.PM,HT.AZ,Nat.min_eq_left h]
 rw [←List.length_drop,List.take_length]
section
variable {P:Program}{w:World}{K:PySem.W.Frag}{mg:Str→Option Value}{base:Heap}{t:ke}
theorem IJ (T:Txt K mg t):bH P w K mg base fg 4 t.ef t.mQ mH (tu (fun _ u=>∃r,u.place= .down r) (cs t)):=by
 refine T.sx.ok gW (fun vs H Q E h=> ?_) (fun dZ A0 outer s H vs Q E hr h=> ?_)
 ·obtain ⟨A,cas,W,m,u,rfl,_⟩:=h
  rfl
 ·obtain ⟨A,cas,W,m,u,rfl,R,wg,eA,MA,Vx,⟨rr,eD⟩,k⟩:=h
  obtain ⟨dm,pp,mm,ys,hM,hp,hm,zT⟩:=MA.parts
  rw [eD] at hp
  have hu:=gE hr
  have CK:=fI T
  have hb:W.bag.length≤10000:=Nat.le_trans wg.bag wg.cap.2
  have EN:ys.length=u.msg.marks.length:=(Paired.length zT).symm
  obtain ⟨kvs,M9,Rv,IU⟩:=R.hd
  obtain ⟨RK,Dz,DA⟩:=T.Hh
  obtain ⟨asu,agu,agv⟩:=T.Vk
  refine ⟨_,ae (aZ (i:=2) gW.nd rfl (Or.inl rfl) (aG bq (ai (pv 1) rfl) ah (fun _ _=>rfl)))
   (ae (br (PW.pt (wF (aM cU (bc aW (by rfl) T.dN PySem.boot_len (aa (ai (pv 1) rfl) af)) ah (aS _)) (pq (aM BD (aG bq (aG bq (ai (pv 1) rfl) ah (fun _ _=>rfl)) ah (fun _ _=>rfl)) (pv 2) (aS _))))) (ak wG) aY)
   (ae (aZ (i:=3) gW.nd rfl (Or.inl rfl) (aG bq (ai (pv 1) rfl) ah (fun _ _=>rfl)))
   (ae (br (cq (Gp hu (pv 3) (ai (pv 0) rfl))) (ak (aZ (i:=4) gW.nd rfl (Or.inl rfl) (b0 (aa (aE (by rfl) Dz DA) (aa (Gn hu (ai (pv 0) rfl) (pv 3) (fun _ _=>rfl)) (aa ah af)))))) (ak (aZ (i:=4) gW.nd rfl (Or.inl rfl) (b0 (aa (aE (by rfl) agu agv) (aa (pv 2) (aa (aG bq (pv 3) ah (fun _ _=>rfl)) af)))))))
   (ak (aJ (aB (zU T) (hr.mono (by decide)) (by rfl) T.xH T.sm.kp T.xI .nil aX (aa (pv 0) (aa (pv 1) (aa (pv 4) (aa (ai (pv 1) rfl) (aa (wM V0 (ai (pv 1) rfl) (wL ah) FU) af))))))))))),?_⟩
  refine ⟨_,rfl,m,_,dm,_,_,rfl,hM,T.au,T.aD,rfl,pp,_,_,_,rfl,rfl,bO.of hp,rfl,?_⟩
  refine ⟨_,rfl,m,_,dm,_,_,rfl,hM,T.au,T.aR,rfl,mm,_,rfl,.inr (bO.of hm),rfl,_,rfl,?_⟩
  cases DB:u.msg.marks with
  |nil=>
   have hh:cQ W u=W:=by
    unfold cQ Vbcnag.handled
    rw [eD,DB]
    rfl
   rw [hh] at k
   rw [DB] at EN
   rw [show decide (V.int (ys.length:Int)=V.int 0)=true from decide_eq_true (by rw [EN];rfl)]
   exact bI (k H R ez.refl)
  |cons SK mks=>
   rw [DB] at EN zT
   rw [show decide (V.int (ys.length:Int)=V.int 0)=false from decide_eq_false (fun z=>by
    injection z with z
    rw [EN,List.length_cons] at z
    omega)]
   refine bQ ?_
   cases zT with
   |cons f0 ft=>
    rename_i v0 RS
    obtain ⟨fb,rfl,hfb⟩:=f0
    refine ⟨_,rfl,m,_,dm,_,_,rfl,hM,T.au,T.aR,rfl,mm,_,_,_,rfl,rfl,bO.of hm,iQ (j:=0) rfl,fb,_,_,_,rfl,rfl,bO.of hfb,rfl,_,rfl,rfl,_,rfl,?_⟩
    rw [nT]
    by_cases RT:¬SK.relay=rr
    ·have hh:cQ W u=W:=by
      unfold cQ Vbcnag.handled
      rw [eD,DB]
      dsimp only
      rw [if_pos RT]
      rfl
     rw [hh] at k
     rw [decide_eq_false RT]
     exact bI (k H R ez.refl)
    have RT:=Decidable.not_not.mp RT
    rw [decide_eq_true RT]
    refine bQ ?_
    refine ⟨_,rfl,m,_,dm,_,_,rfl,hM,T.au,T.aR,rfl,mm,_,_,_,rfl,rfl,bO.of hm,iQ (j:=0) rfl,?_⟩
    have vR:H fb=some (.tup ((zK SK.relay SK.circuit).map kV)):=hfb
    have DG:=gC.t M9 vR
    rw [IU SK] at DG
    refine ⟨_,rfl,_,rfl,A.w,_,_,_,_,rfl,R.cV,T.aw,T.bN,rfl,A.hd,_,rfl,DG,_,rfl,?_⟩
    have whole:¬ (HT.iw (V.ref fb::RS).length 0 (some 1)=0∧HT.iw (V.ref fb::RS).length (V.ref fb::RS).length none=(V.ref fb::RS).length):=fun z=>by
     have z1:HT.iw (V.ref fb::RS).length 0 (some ((1:Nat):Int))=0:=z.1
     rw [HT.AZ,List.length_cons] at z1
     omega
    have fin:∀ (H1:Hp)(z:Addr)(pl:Vbcnag.Place),aj H H1→H1 z=some (.tup (dj pl))→cQ W u=(Vbcnag.puts W [FG u pl u.msg.hops mks]).1→∀p,H1 p=none→
      Ng (cs t) [.ref A.w,.ref m,.ref z,nV u.msg.hops,.ref p] (L2.upd H1 p (.tup (vS (V.ref fb::RS) (some 1) none))) Q E:=fun H1 z pl S1 hz hh p OA=>by
     rw [hh] at k
     have ec:vS (V.ref fb::RS) (some 1) none=RS:=DD (k:=1) (by show 1≤RS.length + 1;omega)
     rw [ec]
     have S2:=S1.trans (aj.ao (o:=HO.tup RS) OA)
     exact ⟨A,cas,W,m,u,z,p,pl,u.msg.hops,mks,RS,rfl,R.same S2,hb,MA.keep (aj.keep (C:=cs t) S2),aj.ao OA _ _ hz,ab,bS (aj.keep (C:=cs t) S2) ft,fun H2 R2 F2=>k H2 R2 ((aj.ek S2).trans F2)⟩
    cases SM:Vbcnag.below W SK with
    |none=>
     refine bQ ?_
     refine ⟨_,rfl,_,rfl,fb,_,_,_,rfl,rfl,bO.of hfb,rfl,(by show 3≤sizeLine;decide),fun z hz=> ?_⟩
     have S1:=aj.ao (o:=HO.tup [V.int 3,nV rr,nV SK.circuit]) hz
     have vM:L2.upd H z (HO.tup [V.int 3,nV rr,nV SK.circuit]) z=some (.tup (dj (.circuit rr SK.circuit))):=ab
     generalize L2.upd H z (HO.tup [V.int 3,nV rr,nV SK.circuit])=H1 at *
     have rn:=S1 _ _ hM
     refine ⟨_,rfl,_,rfl,_,rfl,_,rfl,m,_,dm,_,_,rfl,rn,T.au,T.bu,rfl,_,rfl,m,_,dm,_,_,rfl,rn,T.au,T.aR,rfl,_,rfl,mm,_,rfl,bO.of (S1 _ _ hm),whole,fun p OA=> ?_⟩
     refine fin H1 z _ S1 vM ?_ p OA
     unfold cQ Vbcnag.handled
     rw [eD,DB]
     dsimp only
     rw [if_neg (fun z=>z RT),SM,RT]
     rfl
    |some qq=>
     refine bI ?_
     rw [SM] at DG
     refine ⟨_,rfl,A.w,_,_,_,_,rfl,R.cV,T.aw,T.bN,rfl,_,rfl,A.hd,_,rfl,DG,(by show 3≤sizeLine;decide),fun z hz=> ?_⟩
     have S1:=aj.ao (o:=HO.tup [V.int 2,nV qq,V.int 0]) hz
     have vM:L2.upd H z (HO.tup [V.int 2,nV qq,V.int 0]) z=some (.tup (dj (.down qq))):=ab
     generalize L2.upd H z (HO.tup [V.int 2,nV qq,V.int 0])=H1 at *
     have rn:=S1 _ _ hM
     refine ⟨_,rfl,_,rfl,_,rfl,_,rfl,m,_,dm,_,_,rfl,rn,T.au,T.bu,rfl,_,rfl,m,_,dm,_,_,rfl,rn,T.au,T.aR,rfl,_,rfl,mm,_,rfl,bO.of (S1 _ _ hm),whole,fun p OA=> ?_⟩
     refine fin H1 z _ S1 vM ?_ p OA
     unfold cQ Vbcnag.handled
     rw [eD,DB]
     dsimp only
     rw [if_neg (fun z=>z RT),SM]
     rfl
theorem Kf (T:Txt K mg t):bH P w K mg base fg 8 t.eY t.pN pB (tu (fun _ u=>∃r c,u.place= .circuit r c) (cs t)):=by
 refine T.vW.ok Aa (fun vs H Q E h=> ?_) (fun dZ A0 outer s H vs Q E hr h=> ?_)
 ·obtain ⟨A,cas,W,m,u,rfl,_⟩:=h
  rfl
 ·obtain ⟨A,cas,W,m,u,rfl,R,wg,eA,MA,Vx,⟨rr,cc,eD⟩,k⟩:=h
  obtain ⟨dm,pp,mm,ys,hM,hp,hm,zT⟩:=MA.parts
  rw [eD] at hp
  have hu:=gE hr
  have CK:=fI T
  have hb:W.bag.length≤10000:=Nat.le_trans wg.bag wg.cap.2
  have Br:u.msg.server.isSome=true:=by
   rcases Vx.back with q|q
   ·exact absurd eD (q.2 rr cc)
   ·exact q.1
  refine ⟨_,ae (aZ (i:=2) Aa.nd rfl (Or.inl rfl) (gS hu (ai (pv 0) rfl) (ai (pv 1) rfl) ⟨rfl,rfl,rfl,rfl⟩))
   (ak (br (PW.pt (iB (cq (gR (pv 2))) (fK (aM (PU hr.units) (ai (pv 2) rfl) (b0 (aa (aG bq (ai (pv 1) rfl) ah (fun _ _=>rfl)) (aa (aG bq (ai (pv 1) rfl) ah (fun _ _=>rfl)) af))) (aS _))))) (ak (aJ (aB (Uy T) (hr.mono (by decide)) (by rfl) T.QB T.Le.kp T.QC .nil aX (aa (pv 0) (aa (pv 2) (aa (pv 1) af)))))) aY)),?_⟩
  rcases R.find u.msg.host with ⟨hc,DG⟩|⟨i,ca,c,d,pl,be,le,hc,DX,hi,dt,qQ,dY,DG⟩
  ·have hh:cQ W u=W:=by
    unfold cQ Vbcnag.handled
    rw [eD]
    dsimp only
    rw [hc]
    rfl
   rw [hh] at k
   refine ⟨_,rfl,A.w,_,_,_,_,rfl,R.cV,T.aw,T.aA,rfl,A.cd,rfl,.inl ⟨_,.inl R.cd⟩,_,rfl,m,_,dm,_,_,rfl,hM,T.au,T.bA,rfl,_,DG,?_⟩
   exact ⟨_,rfl,_,rfl,bQ (k H R ez.refl)⟩
  ·have hh:cQ W u=if c.place=some {relay:=rr,circuit:=cc} then Vbcnag.done W (Vbcnag.hears W.now c u.msg) else W:=by
    unfold cQ Vbcnag.handled
    rw [eD]
    dsimp only
    rw [hc]
    dsimp only
    split <;>rfl
   rw [hh] at k
   refine ⟨_,rfl,A.w,_,_,_,_,rfl,R.cV,T.aw,T.aA,rfl,A.cd,rfl,.inl ⟨_,.inl R.cd⟩,_,rfl,m,_,dm,_,_,rfl,hM,T.au,T.bA,rfl,_,DG,?_⟩
   refine ⟨_,rfl,_,rfl,bI ?_⟩
   refine ⟨_,rfl,ca,_,d,_,_,rfl,qQ,T.aq,T.aP,rfl,_,rfl,m,_,dm,_,_,rfl,hM,T.au,T.aD,rfl,pp,_,_,_,rfl,rfl,bO.of hp,rfl,_,rfl,m,_,dm,_,_,rfl,hM,T.au,T.aD,rfl,pp,_,_,_,rfl,rfl,bO.of hp,rfl,(by show 2≤sizeLine;decide),fun z hz=> ?_⟩
   have S1:=aj.ao (o:=HO.tup [nV rr,nV cc]) hz
   obtain ⟨d1,d2⟩:=Iz (K:=K) (dY.pl.keep (aj.keep (C:=cs t) S1))
   obtain ⟨e1,e2⟩:=Iz (K:=K) (H:=L2.upd H z (.tup [nV rr,nV cc])) (p:=some {relay:=rr,circuit:=cc}) (v:= .ref z) ⟨z,rfl,ab⟩
   refine ⟨_,_,d1,e1,d2,e2,_,rfl,?_⟩
   rw [M8]
   generalize L2.upd H z (.tup [nV rr,nV cc])=H1 at *
   by_cases hpc:c.place=some {relay:=rr,circuit:=cc}
   ·rw [if_pos hpc] at k
    rw [hpc,beq_self_eq_true]
    refine bI ?_
    exact ⟨_,rfl,_,rfl,_,rfl,A,cas,W,i,ca,c,m,u,rfl,R.same S1,hb,dt,hi,wg.cl c (List.mem_of_getElem? hi),MA.keep (aj.keep (C:=cs t) S1),Br,fun H2 R2 F2=>k H2 R2 ((aj.ek S1).trans F2)⟩
   ·rw [if_neg hpc] at k
    rw [beq_eq_false_iff_ne.mpr hpc]
    exact bQ (k H1 (R.same S1) (aj.ek S1))
end
end Rl
namespace Rl
open PySem PySem.Spec PyProof.Rows L2
open Vbcnag (Mark Msg Under Offer Lease Client Relay Assigned Written)
theorem lS:∀ (l:List Under)(m:Under)(W:VW),(Vbcnag.puts W (l ++ [m])).1=(Vbcnag.puts (Vbcnag.puts W l).1 [m]).1
 | [],_,_=>rfl
 |x::l,m,W=>by
  show (if W.bag.length < W.cap then ((Vbcnag.puts {W with bag:=W.bag ++ [x] } (l ++ [m])).1,x::(Vbcnag.puts {W with bag:=W.bag ++ [x] } (l ++ [m])).2) else Vbcnag.puts W (l ++ [m])).1=
   (Vbcnag.puts (if W.bag.length < W.cap then ((Vbcnag.puts {W with bag:=W.bag ++ [x] } l).1,x::(Vbcnag.puts {W with bag:=W.bag ++ [x] } l).2) else Vbcnag.puts W l).1 [m]).1
  split
  ·exact lS l m _
  ·exact lS l m W
theorem yH {W:VW}(g:cp W)(l:List Under):(Vbcnag.puts W l).1.bag.length≤10000:=by
 rw [gf]
 show (W.bag ++ l.take (W.cap - W.bag.length)).length≤10000
 have h1:=g.bag
 have h2:=g.cap.2
 rw [List.length_append,List.length_take]
 omega
section
variable {P:Program}{w:World}{K:PySem.W.Frag}{mg:Str→Option Value}{base:Heap}{t:ke}
def tw (u:Under)(k:Mark)(n:Nat):List Under:=(List.range n).map fun s=>FG u (.server s) (u.msg.hops + 1) (k::u.msg.marks)
theorem nU (u:Under)(k:Mark)(n:Nat):tw u k (n + 1)=tw u k n ++ [FG u (.server n) (u.msg.hops + 1) (k::u.msg.marks)] :=by
 unfold tw
 rw [List.range_succ,List.map_append]
 rfl
theorem LS (T:Txt K mg t):bH P w K mg base fg 4 t.fX t.tX tO (tu (fun _ u=>∃r c,u.place= .up r c) (cs t)):=by
 refine T.zf.ok iD (fun vs H Q E h=> ?_) (fun dZ A0 outer s H vs Q E hr h=> ?_)
 ·obtain ⟨A,cas,W,m,u,rfl,_⟩:=h
  rfl
 ·obtain ⟨A,cas,W,m,u,rfl,R,wg,eA,MA,Vx,⟨rr,cc,eD⟩,k⟩:=h
  obtain ⟨dm,pp,mm,ys,hM,hp,hm,zT⟩:=MA.parts
  rw [eD] at hp
  have hu:=gE hr
  have CK:=fI T
  have hb:W.bag.length≤10000:=Nat.le_trans wg.bag wg.cap.2
  have EN:ys.length=u.msg.marks.length:=(Paired.length zT).symm
  obtain ⟨kvs,M9,Rv,IU⟩:=R.hd
  obtain ⟨hrr,hms⟩:=Vx.up rr cc eD
  obtain ⟨ras,dY,YW⟩:=R.rl
  obtain ⟨re,RT⟩:∃x,W.relays[rr]?=some x:=⟨_,List.getElem?_eq_getElem hrr⟩
  obtain ⟨ra,yQ,dr,RU⟩:=Paired.at YW RT
  have UD:=qN RT
  have Sw:Jd (ras.map V.ref) (rr:Int)=some (V.ref ra):=iQ (by rw [List.getElem?_map,yQ];rfl)
  have hh:cQ W u=if (Vbcnag.below W {relay:=rr,circuit:=cc}).isNone=true∧(u.msg.hops≠0∨u.msg.marks≠ []) then W else if re.limit≤u.msg.hops then W else
    (Vbcnag.puts W (match re.above with|some a=> [FG u (.up a.relay a.circuit) (u.msg.hops + 1) ({relay:=rr,circuit:=cc}::u.msg.marks)] |none=>tw u {relay:=rr,circuit:=cc} W.servers)).1:=by
   unfold cQ Vbcnag.handled
   rw [eD]
   dsimp only
   rw [UD]
   split
   ·rfl
   ·split
    ·rfl
    ·cases re.above <;>rfl
  rw [hh] at k
  obtain ⟨Kg,tD,tE⟩:=T.sF
  obtain ⟨agw,RV,RW⟩:=T.QP
  refine ⟨_,ae (aZ (i:=2) iD.nd rfl (Or.inl rfl) (b0 (aa (aG bq (ai (pv 1) rfl) ah (fun _ _=>rfl)) (aa (aG bq (ai (pv 1) rfl) ah (fun _ _=>rfl)) af))))
   (ae (aZ (i:=3) iD.nd rfl (Or.inl rfl) (aG aN (ai (pv 0) rfl) (aG bq (pv 2) ah (fun _ _=>rfl)) (fun _ _=>rfl)))
   (ae (br (PW.pt (iB (cq (yX hu (pv 2) (ai (pv 0) rfl))) (fK (PW.pt (wF (aM BD (ai (pv 1) rfl) ah (aS _)) (pq (aM wJ (bc aW (by rfl) T.dN PySem.boot_len (aa (ai (pv 1) rfl) af)) ah (aS _)))))))) (ak wG) aY)
   (ae (br (aM Z8 (ai (pv 1) rfl) (ai (pv 3) rfl) (aS _)) (ak wG) aY)
   (ae (aZ (i:=4) iD.nd rfl (Or.inl rfl) (cO eB (ai (pv 1) rfl) ah))
   (ae (aZ (i:=5) iD.nd rfl (Or.inl rfl) (cO Mi (b0 (aa (pv 2) af)) (ai (pv 1) rfl)))
   (ak (br (cq (gQ (ai (pv 3) rfl))) (ak (BB PassesOwn.never rfl (NB (by rfl) T.qi (aa (ai (pv 0) rfl) af)) (eV (i:=6) iD.nd rfl (Or.inl rfl)) (ak (aJ (aB (zU T) (hr.mono (by decide)) (by rfl) T.xH T.sm.kp T.xI .nil aX (aa (pv 0) (aa (pv 1) (aa (b0 (aa (aE (by rfl) tD tE) (aa (pv 6) (aa ah af)))) (aa (pv 4) (aa (pv 5) af)))))))))) (ak (aJ (aB (zU T) (hr.mono (by decide)) (by rfl) T.xH T.sm.kp T.xI .nil aX (aa (pv 0) (aa (pv 1) (aa (b0 (aa (aE (by rfl) RV RW) (aa (ai (pv 3) rfl) (aa (ai (pv 3) rfl) af)))) (aa (pv 4) (aa (pv 5) af))))))))))))))),?_⟩
  refine ⟨_,rfl,m,_,dm,_,_,rfl,hM,T.au,T.aD,rfl,pp,_,_,_,rfl,rfl,bO.of hp,rfl,_,rfl,m,_,dm,_,_,rfl,hM,T.au,T.aD,rfl,pp,_,_,_,rfl,rfl,bO.of hp,rfl,(by show 2≤sizeLine;decide),fun z hz=> ?_⟩
  have S1:=aj.ao (o:=HO.tup [nV rr,nV cc]) hz
  have vM:L2.upd H z (HO.tup [nV rr,nV cc]) z=some (.tup [nV rr,nV cc]):=ab
  generalize L2.upd H z (HO.tup [nV rr,nV cc])=H1 at *
  have R1:=R.same S1
  have rn:=S1 _ _ hM
  have Zz:=S1 _ _ hm
  have agx:=S1 _ _ RU
  have hzk:H1 z=some (.tup ((zK rr cc).map kV)):=vM
  have DG:=gC.t (S1 _ _ M9) hzk
  rw [IU {relay:=rr,circuit:=cc}] at DG
  refine ⟨_,rfl,A.w,_,_,_,_,rfl,R1.cV,T.aw,T.bx,rfl,_,rfl,z,_,_,_,rfl,rfl,bO.of vM,rfl,A.rl,_,_,_,rfl,rfl,cK.of (S1 _ _ dY),Sw,?_⟩
  refine ⟨_,rfl,_,rfl,A.w,_,_,_,_,rfl,R1.cV,T.aw,T.bN,rfl,A.hd,_,rfl,DG,_,rfl,?_⟩
  cases SM:Vbcnag.below W {relay:=rr,circuit:=cc} with
  |some q=>
   refine bQ ?_
   have hn:¬ ((Vbcnag.below W {relay:=rr,circuit:=cc}).isNone=true∧(u.msg.hops≠0∨u.msg.marks≠ [])):=fun z=>by
    rw [SM] at z
    exact Bool.false_ne_true z.1
   rw [if_neg hn] at k
   refine ⟨_,rfl,m,_,dm,_,_,rfl,rn,T.au,T.bu,rfl,_,rfl,ra,_,dr,_,_,rfl,agx,T.cn,T.de,rfl,_,_,rfl,rfl,_,rfl,?_⟩
   refine eR (fun q1=> ?_) fun q1=> ?_
   ·have h1:re.limit≤u.msg.hops:=by
     have:=of_decide_eq_true q1
     omega
    rw [if_pos h1] at k
    exact k H1 R1 (aj.ek S1)
   have h1:¬re.limit≤u.msg.hops:=fun z=>q1 (decide_eq_true (by omega))
   rw [if_neg h1] at k
   refine ⟨_,rfl,m,_,dm,_,_,rfl,rn,T.au,T.bu,rfl,_,_,rfl,rfl,?_⟩
   refine ⟨_,rfl,(by show 1≤sizeLine;decide),fun z2 RX=> ?_⟩
   have S2:=aj.ao (o:=HO.tup [V.ref z]) RX
   have YT:L2.upd H1 z2 (HO.tup [V.ref z]) z2=some (.tup [V.ref z]):=ab
   generalize L2.upd H1 z2 (HO.tup [V.ref z])=H2 at *
   refine ⟨_,rfl,m,_,dm,_,_,rfl,S2 _ _ rn,T.au,T.aR,rfl,z2,mm,_,_,rfl,rfl,bO.of YT,bO.of (S2 _ _ Zz),(fun q=>nomatch q),(by
    have:=Vx.marks
    rw [←EN] at this
    show 1 + ys.length≤sizeLine
    exact Nat.le_trans (show _≤33 by omega) (by decide)),fun e=> ?_,fun ne p hp3=> ?_⟩
   ·have S3:=S1.trans S2
    have Ph:=S2
    have ON:H2 z2=some (.tup (V.ref z::ys)):=by rw [e];exact YT
    generalize z2=ma at *
    generalize H2=H3 at *
    have RY:Paired (dn H3) ({relay:=rr,circuit:=cc}::u.msg.marks) (V.ref z::ys):= .cons ⟨z,rfl,Ph _ _ vM⟩ (bS (aj.keep (C:=cs t) S3) zT)
    have R3:=R.same S3
    have YX:=S3 _ _ hM
    have qT:=S3 _ _ RU
    have RZ:=MA.keep (aj.keep (C:=cs t) S3)
    refine ⟨_,rfl,ra,_,dr,_,_,rfl,qT,T.cn,T.a6,rfl,_,rfl,?_⟩
    cases wu:re.above with
    |none=>
     rw [wu] at k
     refine bI ?_
     have hs4:=wg.Zy
     refine ⟨_,rfl,A.w,_,_,_,_,rfl,R3.cV,T.aw,T.bC,rfl,(W.servers:Int),rfl,(by omega),(by omega),?_⟩
     refine tH (n:=(W.servers:Int).toNat) (fun i σ Hk=>∃v6,σ= [some (V.ref A.w),some (V.ref m),some (V.ref z),some (V.ref ra),some (nV (u.msg.hops + 1)),some (V.ref ma),v6] ∧Rep (cs t) Hk A cas (Vbcnag.puts W (tw u {relay:=rr,circuit:=cc} i)).1∧ez A cas H3 Hk) ⟨none,rfl,R3,ez.refl⟩ (fun i σ Hk hi hk=> ?_) (fun σ Hk hk=> ?_)
     ·obtain ⟨v6,rfl,Rk,Fk⟩:=hk
      rw [show (0:Int) + (i:Int)=(i:Int) from Int.zero_add _]
      have kk:=R3.keep CK Fk
      refine ⟨_,rfl,_,rfl,_,rfl,(by show 3≤sizeLine;decide),fun q hq=> ?_⟩
      have Sq:=aj.ao (o:=HO.tup [V.int 1,V.int (i:Int),V.int 0]) hq
      have kq:=kk.trans (aj.keep (C:=cs t) Sq)
      exact ⟨_,rfl,_,rfl,A,cas,_,m,u,q,ma,.server i,u.msg.hops + 1,{relay:=rr,circuit:=cc}::u.msg.marks,V.ref z::ys,rfl,Rk.same Sq,yH wg _,RZ.keep kq,ab,kq.tup ON,bS kq RY,fun H5 R5 F5=>⟨some (V.int (i:Int)),rfl,(by rw [nU,lS];exact R5),(Fk.trans (aj.ek Sq)).trans F5⟩⟩
     ·obtain ⟨v6,rfl,Rk,Fk⟩:=hk
      rw [Int.toNat_natCast] at Rk
      exact k Hk Rk ((aj.ek S3).trans Fk)
    |some a=>
     rw [wu] at k qT
     refine bQ ?_
     refine ⟨_,rfl,_,rfl,_,rfl,ra,_,dr,_,_,rfl,qT,T.cn,T.a6,rfl,_,rfl,ra,_,dr,_,_,rfl,qT,T.cn,T.bK,rfl,(by show 3≤sizeLine;decide),fun q hq=> ?_⟩
     have Sq:=aj.ao (o:=HO.tup [V.int 0,nV a.relay,nV a.circuit]) hq
     exact ⟨_,rfl,_,rfl,A,cas,W,m,u,q,ma,.up a.relay a.circuit,u.msg.hops + 1,{relay:=rr,circuit:=cc}::u.msg.marks,V.ref z::ys,rfl,R3.same Sq,hb,RZ.keep (aj.keep (C:=cs t) Sq),ab,Sq _ _ ON,bS (aj.keep (C:=cs t) Sq) RY,fun H5 R5 F5=>k H5 R5 (((aj.ek S3).trans (aj.ek Sq)).trans F5)⟩
   ·have Ph:=S2.trans (aj.ao (o:=HO.tup ([V.ref z] ++ ys)) hp3)
    have S3:=S1.trans Ph
    have ON:L2.upd H2 p (.tup ([V.ref z] ++ ys)) p=some (.tup (V.ref z::ys)):=ab
    generalize L2.upd H2 p (.tup ([V.ref z] ++ ys))=H3 at *
    generalize p=ma at *
    have RY:Paired (dn H3) ({relay:=rr,circuit:=cc}::u.msg.marks) (V.ref z::ys):= .cons ⟨z,rfl,Ph _ _ vM⟩ (bS (aj.keep (C:=cs t) S3) zT)
    have R3:=R.same S3
    have YX:=S3 _ _ hM
    have qT:=S3 _ _ RU
    have RZ:=MA.keep (aj.keep (C:=cs t) S3)
    refine ⟨_,rfl,ra,_,dr,_,_,rfl,qT,T.cn,T.a6,rfl,_,rfl,?_⟩
    cases wu:re.above with
    |none=>
     rw [wu] at k
     refine bI ?_
     have hs4:=wg.Zy
     refine ⟨_,rfl,A.w,_,_,_,_,rfl,R3.cV,T.aw,T.bC,rfl,(W.servers:Int),rfl,(by omega),(by omega),?_⟩
     refine tH (n:=(W.servers:Int).toNat) (fun i σ Hk=>∃v6,σ= [some (V.ref A.w),some (V.ref m),some (V.ref z),some (V.ref ra),some (nV (u.msg.hops + 1)),some (V.ref ma),v6] ∧Rep (cs t) Hk A cas (Vbcnag.puts W (tw u {relay:=rr,circuit:=cc} i)).1∧ez A cas H3 Hk) ⟨none,rfl,R3,ez.refl⟩ (fun i σ Hk hi hk=> ?_) (fun σ Hk hk=> ?_)
     ·obtain ⟨v6,rfl,Rk,Fk⟩:=hk
      rw [show (0:Int) + (i:Int)=(i:Int) from Int.zero_add _]
      have kk:=R3.keep CK Fk
      refine ⟨_,rfl,_,rfl,_,rfl,(by show 3≤sizeLine;decide),fun q hq=> ?_⟩
      have Sq:=aj.ao (o:=HO.tup [V.int 1,V.int (i:Int),V.int 0]) hq
      have kq:=kk.trans (aj.keep (C:=cs t) Sq)
      exact ⟨_,rfl,_,rfl,A,cas,_,m,u,q,ma,.server i,u.msg.hops + 1,{relay:=rr,circuit:=cc}::u.msg.marks,V.ref z::ys,rfl,Rk.same Sq,yH wg _,RZ.keep kq,ab,kq.tup ON,bS kq RY,fun H5 R5 F5=>⟨some (V.int (i:Int)),rfl,(by rw [nU,lS];exact R5),(Fk.trans (aj.ek Sq)).trans F5⟩⟩
     ·obtain ⟨v6,rfl,Rk,Fk⟩:=hk
      rw [Int.toNat_natCast] at Rk
      exact k Hk Rk ((aj.ek S3).trans Fk)
    |some a=>
     rw [wu] at k qT
     refine bQ ?_
     refine ⟨_,rfl,_,rfl,_,rfl,ra,_,dr,_,_,rfl,qT,T.cn,T.a6,rfl,_,rfl,ra,_,dr,_,_,rfl,qT,T.cn,T.bK,rfl,(by show 3≤sizeLine;decide),fun q hq=> ?_⟩
     have Sq:=aj.ao (o:=HO.tup [V.int 0,nV a.relay,nV a.circuit]) hq
     exact ⟨_,rfl,_,rfl,A,cas,W,m,u,q,ma,.up a.relay a.circuit,u.msg.hops + 1,{relay:=rr,circuit:=cc}::u.msg.marks,V.ref z::ys,rfl,R3.same Sq,hb,RZ.keep (aj.keep (C:=cs t) Sq),ab,Sq _ _ ON,bS (aj.keep (C:=cs t) Sq) RY,fun H5 R5 F5=>k H5 R5 (((aj.ek S3).trans (aj.ek Sq)).trans F5)⟩
  |none=>
   refine bI ?_
   refine ⟨_,rfl,m,_,dm,_,_,rfl,rn,T.au,T.bu,rfl,rfl,_,rfl,?_⟩
   by_cases Vw:¬u.msg.hops=0
   ·rw [show decide (nV u.msg.hops=V.int 0)=false from nT.trans (decide_eq_false Vw)]
    rw [if_pos ⟨by rw [SM];rfl,.inl Vw⟩] at k
    exact bI (bI (k H1 R1 (aj.ek S1)))
   have Vw:=Decidable.not_not.mp Vw
   rw [show decide (nV u.msg.hops=V.int 0)=true from nT.trans (decide_eq_true Vw)]
   refine bQ ?_
   refine ⟨_,rfl,m,_,dm,_,_,rfl,rn,T.au,T.aR,rfl,mm,_,rfl,.inr (bO.of Zz),_,_,rfl,rfl,_,rfl,?_⟩
   refine eR (fun q0=> ?_) fun q0=> ?_
   ·have h0:u.msg.marks≠ [] :=fun z=>by
     have:=of_decide_eq_true q0
     rw [EN,z] at this
     exact absurd this (by decide)
    rw [if_pos ⟨by rw [SM];rfl,.inr h0⟩] at k
    exact k H1 R1 (aj.ek S1)
   have h0:u.msg.marks= [] :=by
    apply List.eq_nil_of_length_eq_zero
    have:¬ (0:Int) < (ys.length:Int):=fun z=>q0 (decide_eq_true z)
    omega
   have hn:¬ ((Vbcnag.below W {relay:=rr,circuit:=cc}).isNone=true∧(u.msg.hops≠0∨u.msg.marks≠ [])):=fun z=>z.2.elim (fun y=>y Vw) (fun y=>y h0)
   rw [if_neg hn] at k
   refine ⟨_,rfl,m,_,dm,_,_,rfl,rn,T.au,T.bu,rfl,_,rfl,ra,_,dr,_,_,rfl,agx,T.cn,T.de,rfl,_,_,rfl,rfl,_,rfl,?_⟩
   refine eR (fun q1=> ?_) fun q1=> ?_
   ·have h1:re.limit≤u.msg.hops:=by
     have:=of_decide_eq_true q1
     omega
    rw [if_pos h1] at k
    exact k H1 R1 (aj.ek S1)
   have h1:¬re.limit≤u.msg.hops:=fun z=>q1 (decide_eq_true (by omega))
   rw [if_neg h1] at k
   refine ⟨_,rfl,m,_,dm,_,_,rfl,rn,T.au,T.bu,rfl,_,_,rfl,rfl,?_⟩
   refine ⟨_,rfl,(by show 1≤sizeLine;decide),fun z2 RX=> ?_⟩
   have S2:=aj.ao (o:=HO.tup [V.ref z]) RX
   have YT:L2.upd H1 z2 (HO.tup [V.ref z]) z2=some (.tup [V.ref z]):=ab
   generalize L2.upd H1 z2 (HO.tup [V.ref z])=H2 at *
   refine ⟨_,rfl,m,_,dm,_,_,rfl,S2 _ _ rn,T.au,T.aR,rfl,z2,mm,_,_,rfl,rfl,bO.of YT,bO.of (S2 _ _ Zz),(fun q=>nomatch q),(by
    have:=Vx.marks
    rw [←EN] at this
    show 1 + ys.length≤sizeLine
    exact Nat.le_trans (show _≤33 by omega) (by decide)),fun e=> ?_,fun ne p hp3=> ?_⟩
   ·have S3:=S1.trans S2
    have Ph:=S2
    have ON:H2 z2=some (.tup (V.ref z::ys)):=by rw [e];exact YT
    generalize z2=ma at *
    generalize H2=H3 at *
    have RY:Paired (dn H3) ({relay:=rr,circuit:=cc}::u.msg.marks) (V.ref z::ys):= .cons ⟨z,rfl,Ph _ _ vM⟩ (bS (aj.keep (C:=cs t) S3) zT)
    have R3:=R.same S3
    have YX:=S3 _ _ hM
    have qT:=S3 _ _ RU
    have RZ:=MA.keep (aj.keep (C:=cs t) S3)
    refine ⟨_,rfl,ra,_,dr,_,_,rfl,qT,T.cn,T.a6,rfl,_,rfl,?_⟩
    cases wu:re.above with
    |none=>
     rw [wu] at k
     refine bI ?_
     have hs4:=wg.Zy
     refine ⟨_,rfl,A.w,_,_,_,_,rfl,R3.cV,T.aw,T.bC,rfl,(W.servers:Int),rfl,(by omega),(by omega),?_⟩
     refine tH (n:=(W.servers:Int).toNat) (fun i σ Hk=>∃v6,σ= [some (V.ref A.w),some (V.ref m),some (V.ref z),some (V.ref ra),some (nV (u.msg.hops + 1)),some (V.ref ma),v6] ∧Rep (cs t) Hk A cas (Vbcnag.puts W (tw u {relay:=rr,circuit:=cc} i)).1∧ez A cas H3 Hk) ⟨none,rfl,R3,ez.refl⟩ (fun i σ Hk hi hk=> ?_) (fun σ Hk hk=> ?_)
     ·obtain ⟨v6,rfl,Rk,Fk⟩:=hk
      rw [show (0:Int) + (i:Int)=(i:Int) from Int.zero_add _]
      have kk:=R3.keep CK Fk
      refine ⟨_,rfl,_,rfl,_,rfl,(by show 3≤sizeLine;decide),fun q hq=> ?_⟩
      have Sq:=aj.ao (o:=HO.tup [V.int 1,V.int (i:Int),V.int 0]) hq
      have kq:=kk.trans (aj.keep (C:=cs t) Sq)
      exact ⟨_,rfl,_,rfl,A,cas,_,m,u,q,ma,.server i,u.msg.hops + 1,{relay:=rr,circuit:=cc}::u.msg.marks,V.ref z::ys,rfl,Rk.same Sq,yH wg _,RZ.keep kq,ab,kq.tup ON,bS kq RY,fun H5 R5 F5=>⟨some (V.int (i:Int)),rfl,(by rw [nU,lS];exact R5),(Fk.trans (aj.ek Sq)).trans F5⟩⟩
     ·obtain ⟨v6,rfl,Rk,Fk⟩:=hk
      rw [Int.toNat_natCast] at Rk
      exact k Hk Rk ((aj.ek S3).trans Fk)
    |some a=>
     rw [wu] at k qT
     refine bQ ?_
     refine ⟨_,rfl,_,rfl,_,rfl,ra,_,dr,_,_,rfl,qT,T.cn,T.a6,rfl,_,rfl,ra,_,dr,_,_,rfl,qT,T.cn,T.bK,rfl,(by show 3≤sizeLine;decide),fun q hq=> ?_⟩
     have Sq:=aj.ao (o:=HO.tup [V.int 0,nV a.relay,nV a.circuit]) hq
     exact ⟨_,rfl,_,rfl,A,cas,W,m,u,q,ma,.up a.relay a.circuit,u.msg.hops + 1,{relay:=rr,circuit:=cc}::u.msg.marks,V.ref z::ys,rfl,R3.same Sq,hb,RZ.keep (aj.keep (C:=cs t) Sq),ab,Sq _ _ ON,bS (aj.keep (C:=cs t) Sq) RY,fun H5 R5 F5=>k H5 R5 (((aj.ek S3).trans (aj.ek Sq)).trans F5)⟩
   ·have Ph:=S2.trans (aj.ao (o:=HO.tup ([V.ref z] ++ ys)) hp3)
    have S3:=S1.trans Ph
    have ON:L2.upd H2 p (.tup ([V.ref z] ++ ys)) p=some (.tup (V.ref z::ys)):=ab
    generalize L2.upd H2 p (.tup ([V.ref z] ++ ys))=H3 at *
    generalize p=ma at *
    have RY:Paired (dn H3) ({relay:=rr,circuit:=cc}::u.msg.marks) (V.ref z::ys):= .cons ⟨z,rfl,Ph _ _ vM⟩ (bS (aj.keep (C:=cs t) S3) zT)
    have R3:=R.same S3
    have YX:=S3 _ _ hM
    have qT:=S3 _ _ RU
    have RZ:=MA.keep (aj.keep (C:=cs t) S3)
    refine ⟨_,rfl,ra,_,dr,_,_,rfl,qT,T.cn,T.a6,rfl,_,rfl,?_⟩
    cases wu:re.above with
    |none=>
     rw [wu] at k
     refine bI ?_
     have hs4:=wg.Zy
     refine ⟨_,rfl,A.w,_,_,_,_,rfl,R3.cV,T.aw,T.bC,rfl,(W.servers:Int),rfl,(by omega),(by omega),?_⟩
     refine tH (n:=(W.servers:Int).toNat) (fun i σ Hk=>∃v6,σ= [some (V.ref A.w),some (V.ref m),some (V.ref z),some (V.ref ra),some (nV (u.msg.hops + 1)),some (V.ref ma),v6] ∧Rep (cs t) Hk A cas (Vbcnag.puts W (tw u {relay:=rr,circuit:=cc} i)).1∧ez A cas H3 Hk) ⟨none,rfl,R3,ez.refl⟩ (fun i σ Hk hi hk=> ?_) (fun σ Hk hk=> ?_)
     ·obtain ⟨v6,rfl,Rk,Fk⟩:=hk
      rw [show (0:Int) + (i:Int)=(i:Int) from Int.zero_add _]
      have kk:=R3.keep CK Fk
      refine ⟨_,rfl,_,rfl,_,rfl,(by show 3≤sizeLine;decide),fun q hq=> ?_⟩
      have Sq:=aj.ao (o:=HO.tup [V.int 1,V.int (i:Int),V.int 0]) hq
      have kq:=kk.trans (aj.keep (C:=cs t) Sq)
      exact ⟨_,rfl,_,rfl,A,cas,_,m,u,q,ma,.server i,u.msg.hops + 1,{relay:=rr,circuit:=cc}::u.msg.marks,V.ref z::ys,rfl,Rk.same Sq,yH wg _,RZ.keep kq,ab,kq.tup ON,bS kq RY,fun H5 R5 F5=>⟨some (V.int (i:Int)),rfl,(by rw [nU,lS];exact R5),(Fk.trans (aj.ek Sq)).trans F5⟩⟩
     ·obtain ⟨v6,rfl,Rk,Fk⟩:=hk
      rw [Int.toNat_natCast] at Rk
      exact k Hk Rk ((aj.ek S3).trans Fk)
    |some a=>
     rw [wu] at k qT
     refine bQ ?_
     refine ⟨_,rfl,_,rfl,_,rfl,ra,_,dr,_,_,rfl,qT,T.cn,T.a6,rfl,_,rfl,ra,_,dr,_,_,rfl,qT,T.cn,T.bK,rfl,(by show 3≤sizeLine;decide),fun q hq=> ?_⟩
     have Sq:=aj.ao (o:=HO.tup [V.int 0,nV a.relay,nV a.circuit]) hq
     exact ⟨_,rfl,_,rfl,A,cas,W,m,u,q,ma,.up a.relay a.circuit,u.msg.hops + 1,{relay:=rr,circuit:=cc}::u.msg.marks,V.ref z::ys,rfl,R3.same Sq,hb,RZ.keep (aj.keep (C:=cs t) Sq),ab,Sq _ _ ON,bS (aj.keep (C:=cs t) Sq) RY,fun H5 R5 F5=>k H5 R5 (((aj.ek S3).trans (aj.ek Sq)).trans F5)⟩
end
end Rl
namespace Rl
open PySem PySem.Spec PyProof.Rows L2
open Vbcnag (Mark Msg Under Offer Lease Client Relay Assigned Written)
theorem Paired.erase {α β:Type}{F:α→β→Prop}:∀ {l:List α}{m:List β}(i:Nat),Paired F l m→Paired F (l.eraseIdx i) (m.eraseIdx i)
 |_,_,_,.nil=> .nil
 |_,_,0,.cons _ t=>t
 |_,_,i + 1,.cons f t=> .cons f (Paired.erase i t)
theorem Ni {k n:Nat}(h:k < n):seqIndex? (k:Int) n=some k:=by
 refine (FW (n:=n) (i:=(k:Int)) (j:=k) ?_).1
 unfold Pd
 rw [if_pos (by omega),if_pos (by omega),Int.toNat_natCast]
section
variable {P:Program}{w:World}{K:PySem.W.Frag}{mg:Str→Option Value}{base:Heap}{t:ke}
def OQ (C:Cs):Sp:=fun vs H Q _=>∃ (A:Ad)(cas:List Addr)(W:VW)(k:Nat),vs= [.ref A.w,nV k] ∧Rep C H A cas W∧cp W∧W.written.length < sizeLine∧k < W.bag.length∧
 ∀H',Rep C H' A cas (Vbcnag.delivered W k).1→ez A cas H H'→Q .bY H'
theorem vN (T:Txt K mg t):bH P w K mg base fg 9 t.dD t.kn j4 (OQ (cs t)):=by
 refine T.kF.ok u5 (fun vs H Q E h=> ?_) (fun dZ A0 outer s H vs Q E hr h=> ?_)
 ·obtain ⟨A,cas,W,kk,rfl,_⟩:=h
  rfl
 ·obtain ⟨A,cas,W,kk,rfl,R,wg,eA,Kh,k⟩:=h
  obtain ⟨bas,rm,yP⟩:=R.bg
  have hb:W.bag.length≤10000:=Nat.le_trans wg.bag wg.cap.2
  have ZD:bas.length=W.bag.length:=Paired.length yP
  obtain ⟨u,Pj⟩:∃u,W.bag[kk]?=some u:=⟨_,List.getElem?_eq_getElem Kh⟩
  obtain ⟨m,YY,MA⟩:=Paired.at yP Pj
  have aqg:(Vbcnag.delivered W kk).1=cQ {W with bag:=W.bag.eraseIdx kk} u:=by
   unfold Vbcnag.delivered cQ
   rw [Pj]
  rw [aqg] at k
  have MG:=wg.msgs u (List.mem_of_getElem? Pj)
  have wg1:=qO wg kk
  have R1:=R.LI (Paired.erase kk yP)
  have k1:dX (cs t) H (L2.upd H A.bg (.lst ((bas.eraseIdx kk).map V.ref))):=dX.upd rm (fun q=>q)
  have F1:ez A cas H (L2.upd H A.bg (.lst ((bas.eraseIdx kk).map V.ref))):=ez.upd (.inr (.inr (.inr (.inr (.inr (.inr (.inr (.inl rfl))))))))
  obtain ⟨agw,RV,RW⟩:=T.QP
  obtain ⟨Kg,tD,tE⟩:=T.sF
  obtain ⟨RK,Dz,DA⟩:=T.Hh
  refine ⟨_,ae (aZ (i:=2) u5.nd rfl (Or.inl rfl) (iy PySem.F.plainAttrs_list PySem.F.slot_list_pop PySem.F.type_list_pop Jh (ai (pv 0) rfl) (aa (pv 1) af)))
   (ak (br (aM cU (aG bq (ai (pv 2) rfl) ah (fun _ _=>rfl)) (aE (by rfl) RV RW) (aS _)) (ak (aJ (aB (LS T) (hr.mono (by decide)) (by rfl) T.Fe T.zf.kp T.Ff .nil aX (aa (pv 0) (aa (pv 2) af))))) (ak (br (aM cU (aG bq (ai (pv 2) rfl) ah (fun _ _=>rfl)) (aE (by rfl) tD tE) (aS _)) (ak (aJ (aB (RP T) (hr.mono (by decide)) (by rfl) T.MH T.He.kp T.MI .nil aX (aa (pv 0) (aa (pv 2) af))))) (ak (br (aM cU (aG bq (ai (pv 2) rfl) ah (fun _ _=>rfl)) (aE (by rfl) Dz DA) (aS _)) (ak (aJ (aB (IJ T) (hr.mono (by decide)) (by rfl) T.Ak T.sx.kp T.Al .nil aX (aa (pv 0) (aa (pv 2) af))))) (ak (aJ (aB (Kf T) (hr.mono (by decide)) (by rfl) T.Cg T.vW.kp T.Ci .nil aX (aa (pv 0) (aa (pv 2) af))))))))))),?_⟩
  refine ⟨_,rfl,A.w,_,_,_,_,rfl,R.cV,T.aw,T.bo,rfl,.inl ⟨rfl,_,cK.of rm⟩,_,rfl,A.bg,_,(kk:Int),kk,V.ref m,rfl,rfl,rm,(by omega),(by omega),Ni (by rw [List.length_map,ZD];exact Kh),(by rw [List.getElem?_map,YY];rfl),?_⟩
  rw [tK]
  generalize L2.upd H A.bg (.lst ((bas.eraseIdx kk).map V.ref))=H1 at *
  have ZG:=MA.keep k1
  obtain ⟨dm,pp,mm,ys,hM,hp,hm,zT⟩:=ZG.parts
  have go:∀p:VW→Under→Prop,p {W with bag:=W.bag.eraseIdx kk} u→tu p (cs t) [.ref A.w,.ref m] H1 Q E:=fun p hp=>⟨A,cas,_,m,u,rfl,R1,wg1,eA,ZG,MG,hp,fun H2 R2 F2=>k H2 R2 (F1.trans F2)⟩
  cases eD:u.place with
  |up r c=>
   rw [eD] at hp
   refine ⟨_,rfl,m,_,dm,_,_,rfl,hM,T.au,T.aD,rfl,pp,_,_,_,rfl,rfl,bO.of hp,rfl,rfl,_,rfl,bI ?_⟩
   exact ⟨_,rfl,_,rfl,go _ ⟨r,c,eD⟩⟩
  |server sv=>
   rw [eD] at hp
   refine ⟨_,rfl,m,_,dm,_,_,rfl,hM,T.au,T.aD,rfl,pp,_,_,_,rfl,rfl,bO.of hp,rfl,rfl,_,rfl,bQ ?_⟩
   refine ⟨_,rfl,m,_,dm,_,_,rfl,hM,T.au,T.aD,rfl,pp,_,_,_,rfl,rfl,bO.of hp,rfl,rfl,_,rfl,bI ?_⟩
   exact ⟨_,rfl,_,rfl,go _ ⟨sv,eD⟩⟩
  |down r=>
   rw [eD] at hp
   refine ⟨_,rfl,m,_,dm,_,_,rfl,hM,T.au,T.aD,rfl,pp,_,_,_,rfl,rfl,bO.of hp,rfl,rfl,_,rfl,bQ ?_⟩
   refine ⟨_,rfl,m,_,dm,_,_,rfl,hM,T.au,T.aD,rfl,pp,_,_,_,rfl,rfl,bO.of hp,rfl,rfl,_,rfl,bQ ?_⟩
   refine ⟨_,rfl,m,_,dm,_,_,rfl,hM,T.au,T.aD,rfl,pp,_,_,_,rfl,rfl,bO.of hp,rfl,rfl,_,rfl,bI ?_⟩
   exact ⟨_,rfl,_,rfl,go _ ⟨r,eD⟩⟩
  |circuit r c=>
   rw [eD] at hp
   refine ⟨_,rfl,m,_,dm,_,_,rfl,hM,T.au,T.aD,rfl,pp,_,_,_,rfl,rfl,bO.of hp,rfl,rfl,_,rfl,bQ ?_⟩
   refine ⟨_,rfl,m,_,dm,_,_,rfl,hM,T.au,T.aD,rfl,pp,_,_,_,rfl,rfl,bO.of hp,rfl,rfl,_,rfl,bQ ?_⟩
   refine ⟨_,rfl,m,_,dm,_,_,rfl,hM,T.au,T.aD,rfl,pp,_,_,_,rfl,rfl,bO.of hp,rfl,rfl,_,rfl,bQ ?_⟩
   exact ⟨_,rfl,_,rfl,go _ ⟨r,c,eD⟩⟩
end
end Rl
namespace L2
open PySem PySem.Spec PyProof.Rows
theorem YZ {X:Cx}{tg l:Expr}{tl tl':TE}(h:PE X l tl)(h':PE X l tl'):PI X tg l (fun σ H R=>UT X.K tl σ H R∨Z4 X.K tl' σ H R):=by
 intro pins s σ H R I q
 rcases q with q|q
 ·exact tG h pins s σ H R I q
 ·exact VP h' pins s σ H R I q
end L2
namespace Rl
open PySem PySem.Spec PyProof.Rows L2
open Vbcnag (Mark Msg Under Offer Lease Client Relay Assigned Written)
def UE (v i:V):V:=if v= .bY then i else v
theorem aj.tup {K:PySem.W.Frag}{H H':Hp}(S:aj H H'){a:Addr}{xs:List V}(h:bO K H a xs):bO K H' a xs:=by
 rcases h with (h|⟨o,h⟩)|h
 ·exact .inl (.inl (S _ _ h))
 ·exact .inl (.inr ⟨o,S _ _ h⟩)
 ·exact .inr h
section
variable {P:Program}{w:World}{K:PySem.W.Frag}{mg:Str→Option Value}{base:Heap}{t:ke}
def aqh:Sp:=fun vs H Q _=>∃ (v i:V),vs= [v,i] ∧Q (UE v i) H
theorem mr (T:Txt K mg t):bH P w K mg base fg 1 t.fY t.tY tQ aqh:=by
 refine T.iO.ok K9 (fun vs H Q E h=> ?_) (fun dZ A0 outer s H vs Q E hr h=> ?_)
 ·obtain ⟨v,i,rfl,_⟩:=h
  rfl
 ·obtain ⟨v,i,rfl,k⟩:=h
  unfold UE at k
  refine ⟨_,ak (aL (I0 (cq (gQ (pv 0))) (pv 1) (pv 0))),?_⟩
  refine ⟨_,rfl,_,rfl,?_⟩
  by_cases h:v= .bY
  ·rw [if_pos h] at k
   rw [decide_eq_true h]
   exact bI ⟨_,rfl,k⟩
  ·rw [if_neg h] at k
   rw [decide_eq_false h]
   exact bQ ⟨_,rfl,k⟩
def dy (l:List Mark):List Int:=Vbcnag.nums (l.flatMap fun k=> [k.relay,k.circuit])
theorem LU (l:List Mark)(a:Mark):dy (l ++ [a])=dy l ++ [(a.relay:Int),(a.circuit:Int)] :=by
 unfold dy Vbcnag.nums
 rw [List.flatMap_append,List.map_append]
 rfl
theorem lT:∀l:List Mark,(dy l).length=2 * l.length
 | [] =>rfl
 |a::l=>by
  show (dy l).length + 2=_
  rw [lT l,List.length_cons]
  omega
def Bs (K:PySem.W.Frag):Sp:=fun vs H Q _=>∃ (p:Addr)(xs:List V)(ms:List Mark),vs= [.ref p] ∧(cK K H p xs∨bO K H p xs)∧Paired (dn H) ms xs∧ms.length≤1000000∧
 ∀H' r,aj H H'→H' r=some (.lst ((Vbcnag.markNums ms).map V.int))→H r=none→Q (.ref r) H'
theorem dJ (T:Txt K mg t):bH P w K mg base fg 1 t.cI t.fE fA (Bs K):=by
 refine T.jN.ok pC (fun vs H Q E h=> ?_) (fun dZ A0 outer s H vs Q E hr h=> ?_)
 ·obtain ⟨p,xs,ms,rfl,_⟩:=h
  rfl
 ·obtain ⟨p,xs,ms,rfl,hS,hP,hlen,k⟩:=h
  have hl:xs.length=ms.length:=(Paired.length hP).symm
  have hPi:=cT.mp hP
  refine ⟨_,ae (aZ (i:=1) pC.nd rfl (Or.inl rfl) (bb (aa (bc aW (by rfl) T.dN PySem.boot_len (aa (pv 0) af)) af)))
   (ae (BB PassesOwn.never rfl (YZ (pv 0) (pv 0)) (eV (i:=2) pC.nd rfl (Or.inl rfl)) (ak (aJ (iy PySem.F.plainAttrs_list PySem.F.slot_list_extend PySem.F.type_list_extend pz (pv 1) (aa (pv 2) af)))))
   (ak (aL (pv 1)))),?_⟩
  refine ⟨_,rfl,p,xs,rfl,hS,(by show 1≤sizeLine;decide),fun r AB=> ?_⟩
  have S1:=aj.ao (o:=HO.lst [V.int (xs.length:Int)]) AB
  have J1:L2.upd H r (HO.lst [V.int (xs.length:Int)]) r=some (.lst (((ms.length:Int)::dy (ms.take 0)).map V.int)):=by rw [ab,hl];rfl
  generalize L2.upd H r (HO.lst [V.int (xs.length:Int)])=H1 at *
  have agz:∃v2,[some (V.ref p),some (V.ref r),(none:Option V)] = [some (V.ref p),some (V.ref r),v2] ∧H1 r=some (.lst (((ms.length:Int)::dy (ms.take 0)).map V.int))∧aj H H1:=⟨none,rfl,J1,S1⟩
  have step:∀ (i:Nat)(x:V)(Hk:Hp),xs[i]?=some x→Hk r=some (.lst (((ms.length:Int)::dy (ms.take i)).map V.int))→aj H Hk→∃b,x= .ref b∧∃a c:Int,bO K Hk b [V.int a,V.int c] ∧(((ms.length:Int)::dy (ms.take i)).map V.int).length + 2≤sizeLine∧
    L2.upd Hk r (.lst (((ms.length:Int)::dy (ms.take i)).map V.int ++ [V.int a,V.int c])) r=some (.lst (((ms.length:Int)::dy (ms.take (i + 1))).map V.int))∧aj H (L2.upd Hk r (.lst (((ms.length:Int)::dy (ms.take i)).map V.int ++ [V.int a,V.int c]))):=fun i x Hk hx hk S=>by
   have hi:i < ms.length:=by
    rw [←hl]
    exact (List.getElem?_eq_some_iff.mp hx).1
   obtain ⟨b,e,hb⟩:=hPi.2 i ms[i] x (List.getElem?_eq_getElem hi) hx
   refine ⟨b,e,ms[i].relay,ms[i].circuit,bO.of (S _ _ hb),?_,?_,fun b o e=> ?_⟩
   ·rw [List.length_map,List.length_cons,lT,List.length_take]
    exact Nat.le_trans (show _≤2000003 by omega) (by decide)
   ·rw [ab,List.take_add_one,List.getElem?_eq_getElem hi]
    show _=some (HO.lst ((_::dy (ms.take i ++ [ms[i]])).map V.int))
    rw [LU,←List.cons_append,List.map_append]
    rfl
   ·rw [az (aI e AB)]
    exact S b o e
  have fin:∀Hk,Hk r=some (.lst (((ms.length:Int)::dy (ms.take xs.length)).map V.int))→aj H Hk→Q (.ref r) Hk:=fun Hk hk S=>by
   rw [hl,List.take_length] at hk
   exact k Hk r S hk AB
  rcases hS with hS|hS
  ·refine .inl ⟨_,rfl,p,rfl,⟨_,S1.seq hS⟩,?_⟩
   refine BC (K:=K) (a:=p) (xs:=xs) (fun i σ Hk=>∃v2,σ= [some (V.ref p),some (V.ref r),v2] ∧Hk r=some (.lst (((ms.length:Int)::dy (ms.take i)).map V.int))∧aj H Hk) agz (fun i σ Hk _ hk=> ?_) (fun i x σ Hk hx hk=> ?_) (fun σ Hk hk=> ?_)
   ·obtain ⟨v2,_,_,S⟩:=hk
    exact S.seq hS
   ·obtain ⟨v2,rfl,hk,S⟩:=hk
    obtain ⟨b,rfl,a,c,h1,h2,h3,h4⟩:=step i x Hk hx hk S
    exact ⟨_,rfl,.inl ⟨rfl,_,cK.of hk⟩,_,rfl,r,b,_,_,rfl,rfl,hk,h1,h2,⟨_,rfl,h3,h4⟩⟩
   ·obtain ⟨v2,rfl,hk,S⟩:=hk
    exact ⟨_,rfl,fin Hk hk S⟩
  ·refine .inr ⟨_,rfl,p,rfl,⟨_,aj.tup S1 hS⟩,?_⟩
   refine SQ (K:=K) (a:=p) (xs:=xs) (fun i σ Hk=>∃v2,σ= [some (V.ref p),some (V.ref r),v2] ∧Hk r=some (.lst (((ms.length:Int)::dy (ms.take i)).map V.int))∧aj H Hk) agz (fun i σ Hk _ hk=> ?_) (fun i x σ Hk hx hk=> ?_) (fun σ Hk hk=> ?_)
   ·obtain ⟨v2,_,_,S⟩:=hk
    exact aj.tup S hS
   ·obtain ⟨v2,rfl,hk,S⟩:=hk
    obtain ⟨b,rfl,a,c,h1,h2,h3,h4⟩:=step i x Hk hx hk S
    exact ⟨_,rfl,.inl ⟨rfl,_,cK.of hk⟩,_,rfl,r,b,_,_,rfl,rfl,hk,h1,h2,⟨_,rfl,h3,h4⟩⟩
   ·obtain ⟨v2,rfl,hk,S⟩:=hk
    exact ⟨_,rfl,fin Hk hk S⟩
end
end Rl
namespace Rl
open PySem PySem.Spec PyProof.Rows L2
open Vbcnag (Mark Msg Under Offer Lease Client Relay Assigned Written)
theorem R0 (o:Option Nat):UE (oV o) (V.int (-1))=V.int (Vbcnag.optional o):=by
 cases o with
 |none=>exact if_pos rfl
 |some n=>exact if_neg (fun q=>nomatch q)
theorem aj.own {H Hk:Hp}{r:Addr}{o:HO}(S:aj H Hk)(h:H r=none):aj H (L2.upd Hk r o):=fun b x e=>by
 rw [az (aI e h)]
 exact S b x e
section
variable {P:Program}{w:World}{K:PySem.W.Frag}{mg:Str→Option Value}{base:Heap}{t:ke}
def R8 (C:Cs):Sp:=fun vs H Q _=>∃ (m:Addr)(u:Under),vs= [.ref m] ∧gM C H m u∧u.msg.marks.length≤32∧
 ∀H' r,aj H H'→H' r=some (.lst ((Vbcnag.shown u).map V.int))→H r=none→Q (.ref r) H'
theorem place_len (p:Vbcnag.Place):(dj p).length=3:=by cases p <;>rfl
theorem tF (T:Txt K mg t):bH P w K mg base fg 2 t.c6 t.i3 iT (R8 (cs t)):=by
 refine T.jt.ok rN (fun vs H Q E h=> ?_) (fun dZ A0 outer s H vs Q E hr h=> ?_)
 ·obtain ⟨m,u,rfl,_⟩:=h
  rfl
 ·obtain ⟨m,u,rfl,MA,EN,k⟩:=h
  obtain ⟨dm,pp,mm,ys,hM,hp,hm,zT⟩:=MA.parts
  have dJ:∀T:Txt K mg t,bH P w K mg base fg 1 t.cI t.fE fA (Bs K):=fun T=>Rl.dJ T
  refine ⟨_,ae (aZ (i:=1) rN.nd rfl (Or.inl rfl) (EK F9 (by rfl) T.zp PyProof.Rows.boot_list (aa (ai (pv 0) rfl) af)))
   (ae (aJ (iy PySem.F.plainAttrs_list PySem.F.slot_list_extend PySem.F.type_list_extend oO (pv 1) (aa (bb (aa (ai (pv 0) rfl) (aa (ai (pv 0) rfl) (aa (ai (pv 0) rfl) (aa (aB (mr T) (hr.mono (by decide)) (by rfl) T.lO T.iO.kp T.lP .nil aX (aa (ai (pv 0) rfl) (aa (d7 cG ah) af))) af))))) af)))
   (ae (aJ (iy PySem.F.plainAttrs_list PySem.F.slot_list_extend PySem.F.type_list_extend oO (pv 1) (aa (bb (aa (ai (pv 0) rfl) (aa (ai (pv 0) rfl) (aa (ai (pv 0) rfl) af)))) af)))
   (ae (aJ (iy PySem.F.plainAttrs_list PySem.F.slot_list_extend PySem.F.type_list_extend oO (pv 1) (aa (aB (dJ T) (hr.mono (by decide)) (by rfl) T.mX T.jN.kp T.mY .nil aX (aa (ai (pv 0) rfl) af)) af)))
   (ak (aL (pv 1)))))),?_⟩
  refine ⟨_,rfl,m,_,dm,_,_,rfl,hM,T.au,T.aD,rfl,pp,_,rfl,.inr (bO.of hp),fun r AB=> ?_⟩
  have S1:=aj.ao (o:=HO.lst (dj u.place)) AB
  have J1:L2.upd H r (HO.lst (dj u.place)) r=some (.lst (dj u.place)):=ab
  generalize L2.upd H r (HO.lst (dj u.place))=H1 at *
  have rn:=S1 _ _ hM
  refine ⟨_,rfl,.inl ⟨rfl,_,cK.of J1⟩,_,rfl,m,_,dm,_,_,rfl,rn,T.au,T.bA,rfl,_,rfl,m,_,dm,_,_,rfl,rn,T.au,T.bM,rfl,_,rfl,m,_,dm,_,_,rfl,rn,T.au,T.bB,rfl,
   _,rfl,m,_,dm,_,_,rfl,rn,T.au,T.a3,rfl,_,rfl,_,_,rfl,(by show 4≤sizeLine;decide),fun z hz=> ?_⟩
  have S2:=aj.ao (o:=HO.lst [nV u.msg.host,nV u.msg.number,nV u.msg.kind,UE (oV u.msg.server) (V.int (-1))]) hz
  have RX:L2.upd H1 z (HO.lst [nV u.msg.host,nV u.msg.number,nV u.msg.kind,UE (oV u.msg.server) (V.int (-1))]) z=some (.lst [nV u.msg.host,nV u.msg.number,nV u.msg.kind,V.int (Vbcnag.optional u.msg.server)]):=by rw [ab,R0]
  refine ⟨r,z,_,_,rfl,rfl,S2 _ _ J1,RX,(by rw [place_len];show 7≤sizeLine;decide),?_⟩
  have S3:=aj.own (r:=r) (o:=HO.lst (dj u.place ++ [nV u.msg.host,nV u.msg.number,nV u.msg.kind,V.int (Vbcnag.optional u.msg.server)])) (S1.trans S2) AB
  generalize Er:L2.upd _ r (HO.lst (dj u.place ++ [nV u.msg.host,nV u.msg.number,nV u.msg.kind,V.int (Vbcnag.optional u.msg.server)]))=H3
  have hr3:H3 r=some (HO.lst (dj u.place ++ [nV u.msg.host,nV u.msg.number,nV u.msg.kind,V.int (Vbcnag.optional u.msg.server)])):=by rw [←Er];exact ab
  have S3':aj H H3:=by rw [←Er];exact S3
  clear S3 Er
  have YX:=S3' _ _ hM
  refine ⟨_,rfl,.inl ⟨rfl,_,cK.of hr3⟩,_,rfl,m,_,dm,_,_,rfl,YX,T.au,T.a4,rfl,_,rfl,m,_,dm,_,_,rfl,YX,T.au,T.a9,rfl,_,rfl,m,_,dm,_,_,rfl,YX,T.au,T.bu,rfl,(by show 3≤sizeLine;decide),fun z4 ZE=> ?_⟩
  have S4:=aj.ao (o:=HO.lst [nV u.msg.addr,nV u.msg.len,nV u.msg.hops]) ZE
  refine ⟨r,z4,_,_,rfl,rfl,S4 _ _ hr3,ab,(by rw [List.length_append,place_len];show 10≤sizeLine;decide),?_⟩
  have S5:=aj.own (r:=r) (o:=HO.lst (dj u.place ++ [nV u.msg.host,nV u.msg.number,nV u.msg.kind,V.int (Vbcnag.optional u.msg.server)] ++ [nV u.msg.addr,nV u.msg.len,nV u.msg.hops])) (S3'.trans S4) AB
  generalize Y0:L2.upd _ r (HO.lst (dj u.place ++ [nV u.msg.host,nV u.msg.number,nV u.msg.kind,V.int (Vbcnag.optional u.msg.server)] ++ [nV u.msg.addr,nV u.msg.len,nV u.msg.hops]))=H5
  have hr5:H5 r=some (HO.lst (dj u.place ++ [nV u.msg.host,nV u.msg.number,nV u.msg.kind,V.int (Vbcnag.optional u.msg.server)] ++ [nV u.msg.addr,nV u.msg.len,nV u.msg.hops])):=by rw [←Y0];exact ab
  have S5':aj H H5:=by rw [←Y0];exact S5
  clear S5 Y0
  have hM5:=S5' _ _ hM
  refine ⟨_,rfl,.inl ⟨rfl,_,cK.of hr5⟩,_,rfl,m,_,dm,_,_,rfl,hM5,T.au,T.aR,rfl,mm,ys,u.msg.marks,rfl,.inr (bO.of (S5' _ _ hm)),bS (aj.keep (C:=cs t) S5') zT,Nat.le_trans EN (by decide),fun H6 q S6 hq ZI=> ?_⟩
  have hfl:(Vbcnag.markNums u.msg.marks).length=2 * u.msg.marks.length + 1:=by
   show (dy u.msg.marks).length + 1=_
   rw [lT]
  refine ⟨r,q,_,_,rfl,rfl,S6 _ _ hr5,hq,?_,?_⟩
  ·rw [List.length_append,List.length_append,place_len,List.length_map,hfl]
   exact Nat.le_trans (show _≤100 by show 3 + 4 + 3 + _≤100;omega) (by decide)
  ·refine ⟨_,rfl,k _ r (aj.own (S5'.trans S6) AB) ?_ AB⟩
   rw [ab]
   congr 1
   congr 1
   unfold Vbcnag.shown
   cases u.place <;>rw [List.append_assoc,List.append_assoc] <;>rfl
end
end Rl
namespace Rl
open PySem PySem.Spec PyProof.Rows L2
open Vbcnag (Mark Msg Under Offer Lease Client Relay Assigned Written)
def plN:Option Mark→List Int
 |none=> [-1, -1]
 |some p=>Vbcnag.nums [p.relay,p.circuit]
def ofN:Option Offer→List Int
 |none=> [-1,0,0]
 |some o=>Vbcnag.nums [o.server,o.addr,o.len]
def leN:Option Lease→List Int
 |none=> [-1,0,0,0,0]
 |some l=>Vbcnag.nums [l.server,l.addr,l.half,l.late,l.till]
theorem Nj (c:Client):Vbcnag.clientSaid c= [(c.phase:Int),(c.counter:Int),(c.number:Int),(c.sent:Int),(c.tries:Int),Vbcnag.optional c.due] ++ plN c.place ++ ofN c.best ++ leN c.lease:=by
 unfold Vbcnag.clientSaid plN ofN leN
 cases c.place <;>cases c.best <;>cases c.lease <;>rfl
theorem LV {v:V}{a b:Addr}(h:v= .ref b):UE v (.ref a)= .ref b:=by
 rw [h]
 exact if_neg (fun q=>nomatch q)
theorem agD {K:PySem.W.Frag}{H:Hp}{p:Option Mark}{v:V}{a:Addr}(h:JX H p v)(ha:bO K H a [V.int (-1),V.int (-1)]):∃b,UE v (.ref a)= .ref b∧bO K H b ((plN p).map V.int):=by
 cases p with
 |none=>
  have e:v= .bY:=h
  exact ⟨a,if_pos e,ha⟩
 |some m=>
  obtain ⟨b,e,q⟩:=h
  exact ⟨b,LV e,bO.of q⟩
theorem agE {K:PySem.W.Frag}{H:Hp}{p:Option Offer}{v:V}{a:Addr}(h:Ox H p v)(ha:bO K H a [V.int (-1),V.int 0,V.int 0]):∃b,UE v (.ref a)= .ref b∧bO K H b ((ofN p).map V.int):=by
 cases p with
 |none=>
  have e:v= .bY:=h
  exact ⟨a,if_pos e,ha⟩
 |some m=>
  obtain ⟨b,e,q⟩:=h
  exact ⟨b,LV e,bO.of q⟩
theorem agF {K:PySem.W.Frag}{H:Hp}{p:Option Lease}{v:V}{a:Addr}(h:Q2 H p v)(ha:bO K H a [V.int (-1),V.int 0,V.int 0,V.int 0,V.int 0]):∃b,UE v (.ref a)= .ref b∧bO K H b ((leN p).map V.int):=by
 cases p with
 |none=>
  have e:v= .bY:=h
  exact ⟨a,if_pos e,ha⟩
 |some m=>
  obtain ⟨b,e,q⟩:=h
  exact ⟨b,LV e,bO.of q⟩
section
variable {P:Program}{w:World}{K:PySem.W.Frag}{mg:Str→Option Value}{base:Heap}{t:ke}
def R9 (C:Cs):Sp:=fun vs H Q _=>∃ (ca:Addr)(c:Client),vs= [.ref ca] ∧eP C H ca c∧
 ∀H' r,aj H H'→H' r=some (.lst ((Vbcnag.clientSaid c).map V.int))→H r=none→Q (.ref r) H'
theorem Et (T:Txt K mg t):bH P w K mg base fg 2 t.dF t.ku j6 (R9 (cs t)):=by
 refine T.qc.ok u6 (fun vs H Q E h=> ?_) (fun dZ A0 outer s H vs Q E hr h=> ?_)
 ·obtain ⟨ca,c,rfl,_⟩:=h
  rfl
 ·obtain ⟨ca,c,rfl,⟨d,pl,be,le,dt,dY⟩,k⟩:=h
  refine ⟨_,ae (aZ (i:=1) u6.nd rfl (Or.inl rfl) (bb (aa (ai (pv 0) rfl) (aa (ai (pv 0) rfl) (aa (ai (pv 0) rfl) (aa (ai (pv 0) rfl) (aa (ai (pv 0) rfl) (aa (aB (mr T) (hr.mono (by decide)) (by rfl) T.lO T.iO.kp T.lP .nil aX (aa (ai (pv 0) rfl) (aa (d7 cG ah) af))) af))))))))
   (ae (aJ (iy PySem.F.plainAttrs_list PySem.F.slot_list_extend PySem.F.type_list_extend pz (pv 1) (aa (aB (mr T) (hr.mono (by decide)) (by rfl) T.lO T.iO.kp T.lP .nil aX (aa (ai (pv 0) rfl) (aa (aE (v:= .ref t.gb) (by rfl) T.Fn rfl) af))) af)))
   (ae (aJ (iy PySem.F.plainAttrs_list PySem.F.slot_list_extend PySem.F.type_list_extend pz (pv 1) (aa (aB (mr T) (hr.mono (by decide)) (by rfl) T.lO T.iO.kp T.lP .nil aX (aa (ai (pv 0) rfl) (aa (aE (v:= .ref t.eZ) (by rfl) T.Cu rfl) af))) af)))
   (ae (aJ (iy PySem.F.plainAttrs_list PySem.F.slot_list_extend PySem.F.type_list_extend pz (pv 1) (aa (aB (mr T) (hr.mono (by decide)) (by rfl) T.lO T.iO.kp T.lP .nil aX (aa (ai (pv 0) rfl) (aa (aE (v:= .ref t.e9) (by rfl) T.Cw rfl) af))) af)))
   (ak (aL (pv 1)))))),?_⟩
  refine ⟨_,rfl,ca,_,d,_,_,rfl,dt,T.aq,T.aH,rfl,_,rfl,ca,_,d,_,_,rfl,dt,T.aq,T.bw,rfl,_,rfl,ca,_,d,_,_,rfl,dt,T.aq,T.bD,rfl,_,rfl,ca,_,d,_,_,rfl,dt,T.aq,T.bT,rfl,
   _,rfl,ca,_,d,_,_,rfl,dt,T.aq,T.aV,rfl,_,rfl,ca,_,d,_,_,rfl,dt,T.aq,T.bp,rfl,_,rfl,_,_,rfl,(by show 6≤sizeLine;decide),fun r AB=> ?_⟩
  generalize Y1:L2.upd H r _=H1
  have J1:H1 r=some (.lst ([(c.phase:Int),(c.counter:Int),(c.number:Int),(c.sent:Int),(c.tries:Int),Vbcnag.optional c.due].map V.int)):=by
   rw [←Y1,ab,R0]
   rfl
  have S1:aj H H1:=by rw [←Y1];exact aj.ao AB
  clear Y1
  obtain ⟨b1,e1,q1⟩:=agD (K:=K) (a:=t.gb) (dY.pl.keep (aj.keep (C:=cs t) S1)) (T.Fo H1)
  refine ⟨_,rfl,.inl ⟨rfl,_,cK.of J1⟩,_,rfl,ca,_,d,_,_,rfl,S1 _ _ dt,T.aq,T.aP,rfl,_,_,rfl,r,b1,_,_,rfl,congrArg (fun z=> [z]) e1,J1,q1,?_,?_⟩
  ·cases c.place <;>(show 8≤sizeLine;decide)
  rw [←List.map_append]
  generalize Ep:L2.upd H1 r _=H2
  have OR:H2 r=some (.lst (([(c.phase:Int),(c.counter:Int),(c.number:Int),(c.sent:Int),(c.tries:Int),Vbcnag.optional c.due] ++ plN c.place).map V.int)):=by rw [←Ep];exact ab
  have S2:aj H H2:=by rw [←Ep];exact aj.own S1 AB
  clear Ep
  obtain ⟨b2,e2,q2⟩:=agE (K:=K) (a:=t.eZ) (dY.be.keep (aj.keep (C:=cs t) S2)) (T.Cv H2)
  refine ⟨_,rfl,.inl ⟨rfl,_,cK.of OR⟩,_,rfl,ca,_,d,_,_,rfl,S2 _ _ dt,T.aq,T.a7,rfl,_,_,rfl,r,b2,_,_,rfl,congrArg (fun z=> [z]) e2,OR,q2,?_,?_⟩
  ·cases c.place <;>cases c.best <;>(show 11≤sizeLine;decide)
  rw [←List.map_append]
  generalize Er:L2.upd H2 r _=H3
  have hr3:H3 r=some (.lst (([(c.phase:Int),(c.counter:Int),(c.number:Int),(c.sent:Int),(c.tries:Int),Vbcnag.optional c.due] ++ plN c.place ++ ofN c.best).map V.int)):=by rw [←Er];exact ab
  have S3:aj H H3:=by rw [←Er];exact aj.own S2 AB
  clear Er
  obtain ⟨b3,e3,q3⟩:=agF (K:=K) (a:=t.e9) (dY.le.keep (aj.keep (C:=cs t) S3)) (T.Cy H3)
  refine ⟨_,rfl,.inl ⟨rfl,_,cK.of hr3⟩,_,rfl,ca,_,d,_,_,rfl,S3 _ _ dt,T.aq,T.aK,rfl,_,_,rfl,r,b3,_,_,rfl,congrArg (fun z=> [z]) e3,hr3,q3,?_,?_⟩
  ·cases c.place <;>cases c.best <;>cases c.lease <;>(show 16≤sizeLine;decide)
  rw [←List.map_append,←Nj]
  exact ⟨_,rfl,k _ r (aj.own S3 AB) ab AB⟩
end
end Rl
namespace Rl
open PySem PySem.Spec PyProof.Rows L2
open Vbcnag (Mark Msg Under Offer Lease Client Relay Assigned Written)
theorem wA (x:Nat×Nat):∀l:List (Nat×Nat),(Vbcnag.putIn x l).Perm (x::l)
 | [] =>List.Perm.refl _
 |y::l=>by
  unfold Vbcnag.putIn
  split
  ·exact List.Perm.refl _
  ·exact ((wA x l).cons y).trans (List.Perm.swap x y l)
theorem yI (x:Nat×Nat):∀ {l:List (Nat×Nat)},l.Pairwise (fun a b=>a.1≤b.1)→(Vbcnag.putIn x l).Pairwise (fun a b=>a.1≤b.1)
 | [],_=>List.pairwise_singleton _ _
 |y::l,h=>by
  rw [List.pairwise_cons] at h
  unfold Vbcnag.putIn
  split
  ·rename_i hle
   refine List.pairwise_cons.mpr ⟨fun b hb=> ?_,List.pairwise_cons.mpr h⟩
   rcases List.mem_cons.mp hb with e|e
   ·rw [e];exact hle
   ·exact Nat.le_trans hle (h.1 b e)
  ·rename_i hle
   refine List.pairwise_cons.mpr ⟨fun b hb=> ?_,yI x h.2⟩
   rcases List.mem_cons.mp ((wA x l).mem_iff.mp hb) with e|e
   ·rw [e];omega
   ·exact h.1 b e
theorem uS:∀l:List (Nat×Nat),(l.foldr Vbcnag.putIn []).Perm l
 | [] =>List.Perm.refl _
 |x::l=>(wA x _).trans ((uS l).cons x)
theorem AH:∀l:List (Nat×Nat),(l.foldr Vbcnag.putIn []).Pairwise (fun a b=>a.1≤b.1)
 | [] =>List.Pairwise.nil
 |x::l=>yI x (AH l)
theorem AI:∀ {l m:List (Nat×Nat)},l.Perm m→l.Pairwise (fun a b=>a.1≤b.1)→m.Pairwise (fun a b=>a.1≤b.1)→(l.map (·.1)).Nodup→l=m
 | [],m,p,_,_,_=>(List.nil_perm.mp p).symm
 |a::l,[],p,_,_,_=>(by have:=p.length_eq;simp at this)
 |a::l,b::m,p,h1,h2,nd=>by
  have hb:b∈a::l:=p.mem_iff.mpr (List.mem_cons_self ..)
  have ha:a∈b::m:=p.mem_iff.mp (List.mem_cons_self ..)
  rw [List.pairwise_cons] at h1 h2
  rw [List.map_cons,List.nodup_cons] at nd
  have e:a=b:=by
   rcases List.mem_cons.mp hb with q|q
   ·exact q.symm
   ·rcases List.mem_cons.mp ha with q'|q'
    ·exact q'
    ·have:=h1.1 b q
     have:=h2.1 a q'
     have e1:a.1=b.1:=by omega
     exact absurd (by rw [e1];exact List.mem_map_of_mem q) nd.1
  subst e
  rw [AI (List.Perm.cons_inv p) h1.2 h2.2 nd.2]
def jW (x:Nat×Nat):Mark:={relay:=x.1,circuit:=x.2}
def oG (W:VW)(s h:Nat):List (Nat×Nat):=(W.written.filter fun x=>x.server==s && x.host==h).map fun x=>(x.addr,x.till)
theorem UG {W:VW}(nd:(W.written.map fi).Nodup)(s h:Nat):((oG W s h).map (·.1)).Nodup:=by
 unfold oG
 rw [List.map_map]
 generalize W.written=l at *
 induction l with
 |nil=>exact List.nodup_nil
 |cons y l ih=>
  rw [List.map_cons,List.nodup_cons] at nd
  rw [List.filter_cons]
  split
  ·rename_i hy
   rw [List.map_cons,List.nodup_cons]
   refine ⟨fun q=>nd.1 ?_,ih nd.2⟩
   obtain ⟨z,hz,e⟩:=List.mem_map.mp q
   obtain ⟨vM,RX⟩:=List.mem_filter.mp hz
   simp only [Bool.and_eq_true,beq_iff_eq] at hy RX
   have e':z.addr=y.addr:=e
   refine List.mem_map.mpr ⟨z,vM,?_⟩
   show (z.server,z.host,z.addr)=(y.server,y.host,y.addr)
   rw [e',RX.1,RX.2,hy.1,hy.2]
  ·exact ih nd.2
def pairAt (H:Hp)(b:Addr):Int×Int:=match H b with
 |some (.tup [.int a,.int c])=>(a,c)
 |_=>(0,0)
theorem pj {H:Hp}{b:Addr}{a c:Nat}(h:H b=some (.tup [nV a,nV c])):pairAt H b=((a:Int),(c:Int)):=by
 unfold pairAt
 rw [h]
 rfl
section
variable {P:Program}{w:World}{K:PySem.W.Frag}{mg:Str→Option Value}{base:Heap}{t:ke}
def Y2 (C:Cs):Sp:=fun vs H Q _=>∃ (A:Ad)(cas:List Addr)(W:VW)(sv ho:Nat),vs= [.ref A.w,nV sv,nV ho] ∧Rep C H A cas W∧(W.written.map fi).Nodup∧W.written.length < sizeLine∧
 ∀ (H':Hp)(r:Addr)(as:List Addr),aj H H'→H' r=some (.lst (as.map V.ref))→Paired (dn H') (((oG W sv ho).foldr Vbcnag.putIn []).map jW) (as.map V.ref)→H r=none→Q (.ref r) H'
theorem Eu (T:Txt K mg t):bH P w K mg base fg 1 t.dG t.kx j7 (Y2 (cs t)):=by
 refine T.qd.ok iU (fun vs H Q E h=> ?_) (fun dZ A0 outer s H vs Q E hr h=> ?_)
 ·obtain ⟨A,cas,W,sv,ho,rfl,_⟩:=h
  rfl
 ·obtain ⟨A,cas,W,sv,ho,rfl,R,nd,eA,k⟩:=h
  have hu:=gE hr
  refine ⟨_,ak (aL (bc KZ (by rfl) T.l6 PyProof.Rows.boot_sorted (aa (Gq (Mo (own:= [("key",3),("end",4)]) rfl iU.nd (N0 (ai (pv 0) rfl)) (lU (show Gj w8 (ay eX) _ _=true by decide +kernel)) (fun _ _ _ _ _=>Tv (n:=2) K rfl rfl (oK (eV (i:=3) iU.nd rfl (Or.inl rfl)) (oK (eV (i:=4) iU.nd rfl (Or.inl rfl)) FR))) (fun _ _ _ _ _=>Gf (PW.pt (iB (aM cU (aG (Gx K rfl) (pv 3) ah (fun _ _=>rfl)) (pv 1) (aS _)) (fK (aM cU (aG (Gx K rfl) (pv 3) ah (fun _ _=>rfl)) (pv 2) (aS _)))))) (fun _ _ _ _ _=>(b0 (aa (aG (Gx K rfl) (pv 3) ah (fun _ _=>rfl)) (aa (pv 4) af)))))) af))),?_⟩
  refine ⟨A.wr,_,R.wr,trivial,fun od=> ?_⟩
  have OL:L2.upd H A.wr (.jM od (.dT (cC W.written))) A.wr=some (.jM od (.dT (cC W.written))):=ab
  have OK:∀b o,b≠A.wr→H b=some o→L2.upd H A.wr (.jM od (.dT (cC W.written))) b=some o:=fun b o n e=>by
   rw [az n]
   exact e
  have back:∀H',aj (L2.upd H A.wr (.jM od (.dT (cC W.written)))) H'→aj H (L2.upd H' A.wr (.dT (cC W.written))):=fun H' S b o e=>by
   by_cases z:b=A.wr
   ·subst z
    rw [R.wr] at e
    rw [←Option.some.inj e]
    exact ab
   ·rw [az z]
    exact S b o (OK b o z e)
  have asy:∀b,L2.upd H A.wr (.jM od (.dT (cC W.written))) b=none→H b=none:=fun b hb=>cP hb
  generalize L2.upd H A.wr (.jM od (.dT (cC W.written)))=H0 at *
  have E1:(cC W.written).length=W.written.length:=List.length_map ..
  refine ⟨_,rfl,A.w,_,_,_,_,rfl,OK _ _ (bh R.cV R.wr (fun q=>nomatch q)) R.cV,T.aw,T.cj,rfl,A.wr,od,_,rfl,OL,fun D hD=> ?_⟩
  refine K0 (n:=W.written.length) (fun i H'=>∃as:List Addr,H' D=some (.lst (as.map V.ref))∧Paired (dn H') ((oG {W with written:=W.written.take i} sv ho).map jW) (as.map V.ref)∧aj H0 H') ⟨[],ab,.nil,aj.ao hD⟩ (fun i H' hi pd=> ?_) (fun H' pd=> ?_) (fun i x H' H2 hi pd hy=> ?_) (fun H' pd=> ?_)
  ·obtain ⟨as,_,_,S⟩:=pd
   exact ⟨S _ _ OL,by rw [E1];exact hi⟩
  ·obtain ⟨as,_,_,S⟩:=pd
   exact ⟨S _ _ OL,by rw [E1];exact Nat.le_refl _⟩
  ·obtain ⟨as,zQ,hP,S⟩:=pd
   obtain ⟨T0,ky,v,q,IU,rfl,hT0,rfl,hq⟩:=hy
   have Zp:W.written[i]?=some W.written[i] :=List.getElem?_eq_getElem hi
   have Y3:=IU
   unfold cC at Y3
   rw [List.getElem?_map,Zp] at Y3
   have e:=Option.some.inj Y3
   have e1:df W.written[i].server W.written[i].host W.written[i].addr=ky:=congrArg Prod.fst e
   have e2:nV W.written[i].till=v:=congrArg Prod.snd e
   subst e1 e2
   generalize hx:W.written[i] =y at *
   have ST:=aj.ao (o:=HO.tup [V.ref q,nV y.till]) hT0
   have hTt:L2.upd H' T0 (HO.tup [V.ref q,nV y.till]) T0=some (.tup [V.ref q,nV y.till]):=ab
   generalize L2.upd H' T0 (HO.tup [V.ref q,nV y.till])=H2 at *
   have hq2:H2 q=some (.tup [nV y.server,nV y.host,nV y.addr]):=ST _ _ hq
   have S2:=S.trans ST
   have ZJ:=ST _ _ zQ
   have KW:Paired (dn H2) ((oG {W with written:=W.written.take i} sv ho).map jW) (as.map V.ref):=bS (aj.keep (C:=cs t) ST) hP
   have Vv:W.written.take (i + 1)=W.written.take i ++ [y] :=by rw [List.take_add_one,Zp];rfl
   have UY:¬ (y.server=sv∧y.host=ho)→oG {W with written:=W.written.take (i + 1)} sv ho=oG {W with written:=W.written.take i} sv ho:=fun hn=>by
    unfold oG
    dsimp only
    rw [Vv,List.filter_append,List.filter_cons,if_neg (by
     intro z
     simp only [Bool.and_eq_true,beq_iff_eq] at z
     exact hn z),List.filter_nil,List.append_nil]
   refine ⟨T0,_,rfl,bO.of hTt,rfl,_,_,rfl,_,_,rfl,rfl,rfl,?_⟩
   refine ⟨_,rfl,q,_,_,_,rfl,rfl,bO.of hq2,rfl,_,rfl,rfl,_,rfl,?_⟩
   refine eR (fun q1=> ?_) fun q1=> ?_
   ·have h1:y.server=sv:=bV.mp q1
    refine ⟨_,rfl,q,_,_,_,rfl,rfl,bO.of hq2,rfl,_,rfl,rfl,_,rfl,?_⟩
    refine eR (fun q2=> ?_) fun q2=> ?_
    ·have h2:y.host=ho:=bV.mp q2
     refine ⟨_,rfl,q,_,_,_,rfl,rfl,bO.of hq2,rfl,_,rfl,(by show 2≤sizeLine;decide),fun p hp=> ?_⟩
     have Sp:=aj.ao (o:=HO.tup [nV y.addr,nV y.till]) hp
     have hpp:L2.upd H2 p (HO.tup [nV y.addr,nV y.till]) p=some (.tup [nV y.addr,nV y.till]):=ab
     generalize L2.upd H2 p (HO.tup [nV y.addr,nV y.till])=H3 at *
     have Ts:as.length≤i:=by
      have h1:=Paired.length hP
      rw [List.length_map,List.length_map] at h1
      have h2:(oG {W with written:=W.written.take i} sv ho).length≤(W.written.take i).length:=by
       unfold oG
       rw [List.length_map]
       exact List.length_filter_le ..
      rw [List.length_take] at h2
      omega
     refine ⟨_,Sp _ _ ZJ,(by rw [List.length_map];omega),as ++ [p],?_,?_,?_⟩
     ·rw [ab,List.map_append]
      rfl
     ·have aql:oG {W with written:=W.written.take (i + 1)} sv ho=oG {W with written:=W.written.take i} sv ho ++ [(y.addr,y.till)] :=by
       unfold oG
       dsimp only
       rw [Vv,List.filter_append,List.filter_cons,if_pos (by rw [h1,h2,beq_self_eq_true,beq_self_eq_true];rfl),List.filter_nil,List.map_append]
       rfl
      rw [aql,List.map_append,List.map_append]
      have kD:∀ {b:Addr}{xs:List V},H3 b=some (.tup xs)→L2.upd H3 D (.lst (as.map V.ref ++ [V.ref p])) b=some (.tup xs):=fun {b xs} e=>by
       rw [az (bh e (Sp _ _ ZJ) (fun q=>nomatch q))]
       exact e
      refine Paired.AD (Paired.cN KW fun m v f=> ?_) ⟨p,rfl,kD hpp⟩
      obtain ⟨b,e,hb⟩:=f
      exact ⟨b,e,kD (Sp _ _ hb)⟩
     ·exact aj.own (S2.trans Sp) hD
    ·refine ⟨as,ZJ,?_,S2⟩
     rw [UY fun z=>q2 (bV.mpr z.2)]
     exact KW
   ·refine ⟨as,ZJ,?_,S2⟩
    rw [UY fun z=>q1 (bV.mpr z.1)]
    exact KW
  ·obtain ⟨as,zQ,hP,S⟩:=pd
   rw [List.take_length] at hP
   have hP:Paired (dn H') ((oG W sv ho).map jW) (as.map V.ref):=hP
   have Sb:=back _ S
   have nD:D≠A.wr:=dO OL hD
   have kW:∀ {b:Addr}{xs:List V},H' b=some (.tup xs)→L2.upd H' A.wr (.dT (cC W.written)) b=some (.tup xs):=fun {b xs} e=>by
    rw [az (bh e (S _ _ OL) (fun q=>nomatch q))]
    exact e
   have Y4:L2.upd H' A.wr (.dT (cC W.written)) D=some (.lst (as.map V.ref)):=by rw [az nD];exact zQ
   have hP3:Paired (dn (L2.upd H' A.wr (.dT (cC W.written)))) ((oG W sv ho).map jW) (as.map V.ref):=Paired.cN hP fun m v ⟨b,e,hb⟩=>⟨b,e,kW hb⟩
   refine ⟨S _ _ OL,?_⟩
   generalize L2.upd H' A.wr (.dT (cC W.written))=H5 at *
   have fact:∀ {l:List (Nat×Nat)}{bs:List Addr},Paired (dn H5) (l.map jW) (bs.map V.ref)→(∀b∈bs,∃a c:Nat,H5 b=some (.tup [nV a,nV c]))∧l=bs.map fun b=>((pairAt H5 b).1.toNat,(pairAt H5 b).2.toNat):=by
    intro l
    induction l with
    |nil=>
     intro bs h
     cases bs with
     |nil=>exact ⟨fun b hb=>(by cases hb),rfl⟩
     |cons b bs=>cases h
    |cons x l ih=>
     intro bs h
     cases bs with
     |nil=>cases h
     |cons b bs=>
      cases h with
      |cons f tl=>
       obtain ⟨b',e,hb⟩:=f
       cases e
       obtain ⟨i1,i2⟩:=ih tl
       refine ⟨fun c hc=> ?_,?_⟩
       ·rcases List.mem_cons.mp hc with z|z
        ·rw [z]
         exact ⟨_,_,hb⟩
        ·exact i1 c z
       ·rw [List.map_cons,←i2,pj hb]
        rfl
   obtain ⟨fa,fb⟩:=fact hP3
   refine ⟨D,as,pairAt H5,rfl,cK.of Y4,fun b hb=> ?_,fun rL p hp hso hpn=> ?_⟩
   ·obtain ⟨a,c,h⟩:=fa b hb
    rw [pj h]
    exact bO.of h
   ·have Sp:=aj.ao (o:=HO.lst (rL.map V.ref)) hpn
    refine k _ p rL (Sb.trans Sp) ab ?_ (Sb.free hpn)
    have e:(oG W sv ho).foldr Vbcnag.putIn [] =rL.map fun b=>((pairAt H5 b).1.toNat,(pairAt H5 b).2.toNat):=by
     refine AI ?_ (AH _) ?_ ?_
     ·refine (uS _).trans ?_
      rw [fb]
      exact (hp.map _).symm
     ·rw [List.pairwise_map]
      refine hso.imp_of_mem fun {a b} ha hb wu=> ?_
      obtain ⟨a1,a2,h1⟩:=fa a (hp.mem_iff.mp ha)
      obtain ⟨b1,b2,h2⟩:=fa b (hp.mem_iff.mp hb)
      rw [pj h1,pj h2] at wu ⊢
      dsimp only at wu ⊢
      omega
     ·exact ((uS (oG W sv ho)).map (·.1)).nodup_iff.mpr (UG nd sv ho)
    rw [e]
    clear e hso
    have:∀l:List Addr,(∀b∈l,b∈rL)→Paired (dn (L2.upd H5 p (.lst (rL.map V.ref)))) ((l.map fun b=>((pairAt H5 b).1.toNat,(pairAt H5 b).2.toNat)).map jW) (l.map V.ref):=by
     intro l
     induction l with
     |nil=>exact fun _=> .nil
     |cons b l ih=>
      intro hm
      obtain ⟨a,c,h⟩:=fa b (hp.mem_iff.mp (hm b (List.mem_cons_self ..)))
      refine .cons ⟨b,rfl,?_⟩ (ih fun x hx=>hm x (List.mem_cons_of_mem _ hx))
      dsimp only [jW]
      rw [pj h]
      exact Sp _ _ h
    exact this rL fun b hb=>hb
end
end Rl
namespace Rl
open PySem PySem.Spec PyProof.Rows L2
open Vbcnag (Mark Msg Under Offer Lease Client Relay Assigned Written)
section
variable {P:Program}{w:World}{K:PySem.W.Frag}{mg:Str→Option Value}{base:Heap}{t:ke}
def Y5 (C:Cs):Sp:=fun vs H Q _=>∃ (A:Ad)(cas:List Addr)(W:VW)(r c:Nat),vs= [.ref A.w,nV r,nV c] ∧Rep C H A cas W∧cp W∧r < W.relays.length∧
 ∀ (H':Hp)(p:Addr)(as:List Addr),aj H H'→H' p=some (.lst (as.map V.ref))→Paired (dn H') (Vbcnag.pathUp W.relays.length W {relay:=r,circuit:=c}) (as.map V.ref)→H p=none→Q (.ref p) H'
def agH (C:Cs)(H:Hp)(A:Ad)(W:VW)(ras:List Addr)(r c:Nat)(M:Addr):Nat→L2.St→Hp→Prop:=fun m σ Hk=>∃ (kc:Mark)(tl:List Mark)(n:Nat)(ra:Addr)(as:List Addr),
 σ= [some (.ref A.w),some (nV r),some (nV c),some (.ref M),some (.ref ra)] ∧m=kc.relay∧kc.relay < n∧kc.relay < W.relays.length∧tl.length + kc.relay≤64∧ras[kc.relay]?=some ra∧
 Vbcnag.pathUp W.relays.length W {relay:=r,circuit:=c}=Vbcnag.pathUp n W kc ++ tl∧Hk M=some (.lst (as.map V.ref))∧Paired (dn Hk) (kc::tl) (as.map V.ref)∧aj H Hk
theorem LW (T:Txt K mg t):bH P w K mg base fg 1 t.fZ t.tZ tR (Y5 (cs t)):=by
 refine T.zg.ok pD (fun vs H Q E h=> ?_) (fun dZ A0 outer s H vs Q E hr h=> ?_)
 ·obtain ⟨A,cas,W,r,c,rfl,_⟩:=h
  rfl
 ·obtain ⟨A,cas,W,r,c,rfl,R,wg,dY,k⟩:=h
  obtain ⟨ras,OS,YW⟩:=R.rl
  have rel:∀i,i < W.relays.length→∃ (ra dr:Addr)(x:Relay),ras[i]?=some ra∧W.relays[i]?=some x∧H ra=some (.ins (cs t).R dr (rfs (oV (x.above.map (·.relay))) (oV (x.above.map (·.circuit))) (nV x.limit))):=fun i hi=>by
   obtain ⟨x,hx⟩:∃x,W.relays[i]?=some x:=⟨_,List.getElem?_eq_getElem hi⟩
   obtain ⟨ra,yQ,dr,RU⟩:=Paired.at YW hx
   exact ⟨ra,dr,x,yQ,hx,RU⟩
  have Sw:∀ {i:Nat}{ra:Addr},ras[i]?=some ra→Jd (ras.map V.ref) (i:Int)=some (V.ref ra):=fun {i ra} h=>iQ (by rw [List.getElem?_map,h];rfl)
  have axi:=wg.JV
  refine ⟨_,ae (aZ (i:=3) pD.nd rfl (Or.inl rfl) (bb (aa (b0 (aa (pv 1) (aa (pv 2) af))) af)))
   (ae (aZ (i:=4) pD.nd rfl (Or.inl rfl) (aG aN (ai (pv 0) rfl) (pv 1) (fun _ _=>rfl)))
   (ae (wH PassesOwn.never (cq (gR (ai (pv 4) rfl))) (ae (aJ (iy PySem.F.plainAttrs_list PySem.F.slot_list_insert PySem.F.type_list_insert Tw (pv 3) (aa ah (aa (b0 (aa (ai (pv 4) rfl) (aa (ai (pv 4) rfl) af))) af))))
   (ak (aZ (i:=4) pD.nd rfl (Or.inl rfl) (aG aN (ai (pv 0) rfl) (ai (pv 4) rfl) (fun _ _=>rfl))))))
   (ak (aL (pv 3))))),?_⟩
  refine ⟨_,rfl,_,rfl,(by show 2≤sizeLine;decide),fun z hz=> ?_⟩
  have S1:=aj.ao (o:=HO.tup [nV r,nV c]) hz
  have vM:L2.upd H z (HO.tup [nV r,nV c]) z=some (.tup [nV r,nV c]):=ab
  generalize L2.upd H z (HO.tup [nV r,nV c])=H1 at *
  refine ⟨(by show 1≤sizeLine;decide),fun M hM=> ?_⟩
  have hM0:H M=none:=S1.free hM
  have S2:=S1.trans (aj.ao (o:=HO.lst [V.ref z]) hM)
  have RX:=aj.ao (o:=HO.lst [V.ref z]) hM _ _ vM
  have SJ:L2.upd H1 M (HO.lst [V.ref z]) M=some (.lst [V.ref z]):=ab
  generalize L2.upd H1 M (HO.lst [V.ref z])=H2 at *
  obtain ⟨ra,dr,x,yQ,hx,RU⟩:=rel r dY
  refine ⟨_,rfl,A.w,_,_,_,_,rfl,S2 _ _ R.cV,T.aw,T.bx,rfl,_,rfl,A.rl,_,_,_,rfl,rfl,cK.of (S2 _ _ OS),Sw yQ,?_⟩
  refine ⟨agH (cs t) H A W ras r c M,⟨r,{relay:=r,circuit:=c},[],W.relays.length,ra,[z],rfl,rfl,dY,dY,(by show 0 + r≤64;omega),yQ,(List.append_nil _).symm,SJ,.cons ⟨z,rfl,RX⟩ .nil,S2⟩,?_⟩
  rintro m σ Hk ⟨kc,tl,n,ra,as,rfl,hm,hkn,Rv,SG,yQ,hpa,hMk,hP,Sk⟩
  obtain ⟨ra',dr,x,agI,hx,RU⟩:=rel kc.relay Rv
  rw [yQ] at agI
  cases agI
  have OT:=Sk _ _ RU
  have UD:=qN hx
  obtain ⟨n',rfl⟩:∃n',n=n' + 1:=⟨n - 1,by omega⟩
  refine ⟨_,rfl,ra,_,dr,_,_,rfl,OT,T.cn,T.a6,rfl,_,rfl,?_⟩
  cases wu:x.above with
  |none=>
   refine bQ ?_
   refine ⟨_,rfl,k Hk M as Sk hMk ?_ hM0⟩
   have e:Vbcnag.pathUp (n' + 1) W kc= [kc] :=by
    unfold Vbcnag.pathUp
    rw [UD,wu]
   rw [hpa,e]
   exact hP
  |some a=>
   have OT:Hk ra=some (.ins (cs t).R dr (rfs (nV a.relay) (nV a.circuit) (nV x.limit))):=by
    rw [wu] at OT
    exact OT
   have eA:a.relay < kc.relay:=by
    have h0:0 < kc.relay:=by
     rcases Nat.eq_zero_or_pos kc.relay with q|q
     ·obtain ⟨y,hy,hya⟩:=wg.root
      rw [q,hy] at hx
      cases hx
      rw [hya] at wu
      cases wu
     ·exact q
    obtain ⟨m',h1,h2⟩:=wg.tree kc.relay x hx h0
    rw [wu] at h1
    cases h1
    exact h2
   obtain ⟨rb,db,y,hrb,hy,hRB⟩:=rel a.relay (by omega)
   refine bI ⟨fun σ' H'=>∃m',m' < m∧agH (cs t) H A W ras r c M m' σ' H',fun σ' H' h=>h,?_⟩
   refine ⟨_,rfl,.inl ⟨rfl,_,cK.of hMk⟩,_,rfl,ra,_,dr,_,_,rfl,OT,T.cn,T.a6,rfl,_,rfl,ra,_,dr,_,_,rfl,OT,T.cn,T.bK,rfl,(by show 2≤sizeLine;decide),fun q hq=> ?_⟩
   have Sq:=aj.ao (o:=HO.tup [nV a.relay,nV a.circuit]) hq
   have hqq:L2.upd Hk q (HO.tup [nV a.relay,nV a.circuit]) q=some (.tup [nV a.relay,nV a.circuit]):=ab
   generalize L2.upd Hk q (HO.tup [nV a.relay,nV a.circuit])=H5 at *
   have hM5:=Sq _ _ hMk
   have Ts:as.length=tl.length + 1:=by
    have:=Paired.length hP
    rw [List.length_map] at this
    exact this.symm
   refine ⟨M,_,_,rfl,rfl,hM5,(by rw [List.length_map,Ts];exact Nat.lt_of_le_of_lt (show _≤65 by omega) (by decide)),?_⟩
   have S6:=aj.own (o:=HO.lst (V.ref q::as.map V.ref)) (Sk.trans Sq) hM0
   have k6:∀ {b:Addr}{xs:List V},H5 b=some (.tup xs)→L2.upd H5 M (.lst (V.ref q::as.map V.ref)) b=some (.tup xs):=fun {b xs} e=>by
    rw [az (bh e hM5 (fun q=>nomatch q))]
    exact e
   have hM6:L2.upd H5 M (HO.lst (V.ref q::as.map V.ref)) M=some (.lst ((q::as).map V.ref)):=ab
   have hq6:=k6 hqq
   have hP6:Paired (dn (L2.upd H5 M (HO.lst (V.ref q::as.map V.ref)))) (kc::tl) (as.map V.ref):=Paired.cN hP fun m v ⟨b,e,hb⟩=>⟨b,e,k6 (Sq _ _ hb)⟩
   generalize L2.upd H5 M (HO.lst (V.ref q::as.map V.ref))=H6 at *
   have aqn:H6 ra=some (.ins (cs t).R dr (rfs (nV a.relay) (nV a.circuit) (nV x.limit))):=by
    have:=S6 _ _ RU
    rw [wu] at this
    exact this
   refine ⟨_,rfl,A.w,_,_,_,_,rfl,S6 _ _ R.cV,T.aw,T.bx,rfl,_,rfl,ra,_,dr,_,_,rfl,aqn,T.cn,T.a6,rfl,A.rl,_,_,_,rfl,rfl,cK.of (S6 _ _ OS),Sw hrb,?_⟩
   refine ⟨a.relay,(by omega),a,kc::tl,n',rb,q::as,rfl,rfl,(by omega),(by omega),(by show tl.length + 1 + a.relay≤64;omega),hrb,?_,hM6,.cons ⟨q,rfl,hq6⟩ hP6,S6⟩
   have e:Vbcnag.pathUp (n' + 1) W kc=Vbcnag.pathUp n' W a ++ [kc] :=by
    conv=>lhs;unfold Vbcnag.pathUp
    rw [UD,wu]
   rw [hpa,e,List.append_assoc]
   rfl
end
end Rl
namespace Rl
open PySem PySem.Spec PyProof.Rows L2
open Vbcnag (Mark Msg Under Offer Lease Client Relay Assigned Written)
section
variable {P:Program}{w:World}{K:PySem.W.Frag}{mg:Str→Option Value}{base:Heap}{t:ke}
def Y6 (C:Cs):Sp:=fun vs H Q _=>∃ (A:Ad)(cas:List Addr)(W:VW),vs= [.ref A.w] ∧Rep C H A cas W∧W.bag.length≤W.cap∧Q (.bl (Vbcnag.full W)) H
theorem DE (T:Txt K mg t):bH P w K mg base fg 1 t.f6 t.ub tT (Y6 (cs t)):=by
 refine T.uf.ok Lc (fun vs H Q E h=> ?_) (fun dZ A0 outer s H vs Q E hr h=> ?_)
 ·obtain ⟨A,cas,W,rfl,_⟩:=h
  rfl
 ·obtain ⟨A,cas,W,rfl,R,hb,k⟩:=h
  obtain ⟨bas,rm,yP⟩:=R.bg
  have hlen:=JY yP
  refine ⟨_,ak (aL (jY cU (bc aW (by rfl) T.dN PySem.boot_len (aa (ai (pv 0) rfl) af)) (ai (pv 0) rfl) (aS _))),?_⟩
  refine ⟨_,rfl,A.w,_,_,_,_,rfl,R.cV,T.aw,T.bo,rfl,A.bg,_,rfl,.inl (cK.of rm),_,rfl,A.w,_,_,_,_,rfl,R.cV,T.aw,T.ej,rfl,rfl,?_⟩
  have e:Vbcnag.full W=decide (V.int ((bas.map V.ref).length:Int)=nV W.cap):=by
   unfold Vbcnag.full
   rw [hlen]
   have:decide (V.int (W.bag.length:Int)=nV W.cap)=decide (W.bag.length=W.cap):=nT
   rw [this]
   exact decide_eq_decide.mpr (by omega)
  rw [e] at k
  exact k
abbrev gK:VW→List Int→Prop:=fun W ns=>∃k:Nat,ns= [(k:Int)] ∧k < W.bag.length
theorem qU {W:VW}{k:Nat}(h:k < W.bag.length):Vbcnag.isPlace W (k:Int)=true:=bR.mpr ⟨by omega,by omega⟩
def Nk:VW→List Int→VW×List Int:=fun W ns=>Vbcnag.inWorld W (.lose (ns.headD 0))
theorem UH (T:Txt K mg t):bH P w K mg base fg 8 t.iL t.G8 GS (bz gK Nk K (cs t)):=by
 refine T.Lk.ok TQ (fun vs H Q E h=> ?_) (fun dZ A0 outer s H vs Q E hr h=> ?_)
 ·obtain ⟨A,cas,W,nm,ns,rfl,_⟩:=h
  rfl
 ·obtain ⟨A,cas,W,nm,ns,rfl,R,wg,hS,uZ,⟨kk,rfl,Kh⟩,k⟩:=h
  obtain ⟨bas,rm,yP⟩:=R.bg
  have hb:W.bag.length≤10000:=Nat.le_trans wg.bag wg.cap.2
  have ZD:bas.length=W.bag.length:=Paired.length yP
  obtain ⟨u,Pj⟩:∃u,W.bag[kk]?=some u:=⟨_,List.getElem?_eq_getElem Kh⟩
  obtain ⟨m,YY,MA⟩:=Paired.at yP Pj
  have hf:Nk W [(kk:Int)] =({W with bag:=W.bag.eraseIdx kk},[0]):=by
   show (if Vbcnag.isPlace W (kk:Int)=false then _ else _)=_
   rw [qU Kh,if_neg (by decide)]
   rfl
  rw [hf] at k
  have R1:=R.LI (Paired.erase kk yP)
  have F1:ez A cas H (L2.upd H A.bg (.lst ((bas.eraseIdx kk).map V.ref))):=ez.upd (.inr (.inr (.inr (.inr (.inr (.inr (.inr (.inl rfl))))))))
  refine ⟨_,ae (aJ (iy PySem.F.plainAttrs_list PySem.F.slot_list_pop PySem.F.type_list_pop Jh (ai (pv 0) rfl) (aa (aG aN (pv 1) ah (fun _ _=>rfl)) af)))
   (ak (aL (bb (aa ah af)))),?_⟩
  refine ⟨_,rfl,A.w,_,_,_,_,rfl,R.cV,T.aw,T.bo,rfl,.inl ⟨rfl,_,cK.of rm⟩,_,rfl,nm,_,_,_,rfl,rfl,hS,rfl,A.bg,_,(kk:Int),kk,V.ref m,rfl,rfl,rm,(by omega),(by omega),Ni (by rw [List.length_map,ZD];exact Kh),(by rw [List.getElem?_map,YY];rfl),?_⟩
  rw [tK]
  exact ⟨(by show 1≤sizeLine;decide),fun p hp=>k _ cas p (Rep.same R1 (aj.ao hp)) (F1.trans (aj.ek (aj.ao hp))) (fun b h=> .inl h) ab (cP hp)⟩
def Bt:VW→List Int→VW×List Int:=fun W ns=>Vbcnag.inWorld W (.double (ns.headD 0))
theorem OU (T:Txt K mg t):bH P w K mg base fg 8 t.eM t.xr xg (bz gK Bt K (cs t)):=by
 refine T.Cp.ok Og (fun vs H Q E h=> ?_) (fun dZ A0 outer s H vs Q E hr h=> ?_)
 ·obtain ⟨A,cas,W,nm,ns,rfl,_⟩:=h
  rfl
 ·obtain ⟨A,cas,W,nm,ns,rfl,R,wg,hS,uZ,⟨kk,rfl,Kh⟩,k⟩:=h
  obtain ⟨bas,rm,yP⟩:=R.bg
  have hb:W.bag.length≤10000:=Nat.le_trans wg.bag wg.cap.2
  obtain ⟨u,Pj⟩:∃u,W.bag[kk]?=some u:=⟨_,List.getElem?_eq_getElem Kh⟩
  obtain ⟨m,YY,MA⟩:=Paired.at yP Pj
  have hf:Bt W [(kk:Int)] =if Vbcnag.full W=true then (W,[-3]) else ({W with bag:=W.bag ++ [u] },[0]):=by
   show (if Vbcnag.isPlace W (kk:Int)=false then _ else _)=_
   rw [qU Kh,if_neg (by decide)]
   show (if Vbcnag.full W=true then (W,[-3]) else ({W with bag:=W.bag ++ (W.bag[(kk:Int).toNat]?).toList},[0]))=_
   rw [Int.toNat_natCast,Pj]
   rfl
  rw [hf] at k
  refine ⟨_,ae (br (rq (aB (DE T) (hr.mono (by decide)) (by rfl) T.zi T.uf.kp T.zj .nil aX (aa (pv 0) af))) (ak (aL (bb (aa (d7 cG ah) af)))) aY)
   (ae (aJ (aB (Dg T) (hr.mono (by decide)) (by rfl) T.Fc T.B6.kp T.Fd .nil aX (aa (pv 0) (aa (aG aN (ai (pv 0) rfl) (aG aN (pv 1) ah (fun _ _=>rfl)) (fun _ _=>rfl)) af))))
   (ak (aL (bb (aa ah af))))),?_⟩
  refine ⟨_,rfl,A,cas,W,rfl,R,wg.bag,_,rfl,?_⟩
  by_cases OV:Vbcnag.full W=true
  ·rw [if_pos OV] at k
   rw [OV]
   refine bI ?_
   exact ⟨_,rfl,(by show 1≤sizeLine;decide),fun p hp=>k _ cas p (R.same (aj.ao hp)) (aj.ek (aj.ao hp)) (fun b h=> .inl h) ab hp⟩
  ·rw [if_neg OV] at k
   rw [Bool.eq_false_iff.mpr OV]
   refine bQ ?_
   have eA:W.bag.length < W.cap:=by
    unfold Vbcnag.full at OV
    simpa using OV
   refine ⟨_,rfl,_,rfl,A.w,_,_,_,_,rfl,R.cV,T.aw,T.bo,rfl,_,rfl,nm,_,_,_,rfl,rfl,hS,rfl,A.bg,_,_,_,rfl,rfl,cK.of rm,iQ (by rw [List.getElem?_map,YY];rfl),A,cas,W,m,u,rfl,R,hb,MA,fun H1 R1 F1=> ?_⟩
   rw [sU,if_pos eA] at R1
   exact ⟨(by show 1≤sizeLine;decide),fun p hp=>k _ cas p (Rep.same R1 (aj.ao hp)) (F1.trans (aj.ek (aj.ao hp))) (fun b h=> .inl h) ab (R1.lR F1 hp)⟩
def Nl:VW→List Int→VW×List Int:=fun W ns=>Vbcnag.inWorld W (.peek (ns.headD 0))
theorem FI (u:Under)(h:u.msg.marks.length≤32):(Vbcnag.shown u).length≤100:=by
 have hf:(Vbcnag.markNums u.msg.marks).length=2 * u.msg.marks.length + 1:=by
  show (dy u.msg.marks).length + 1=_
  rw [lT]
 unfold Vbcnag.shown
 cases u.place <;>simp only [List.length_append,List.length_cons,Vbcnag.nums,List.length_map,List.length_nil,hf] <;>omega
theorem UI (T:Txt K mg t):bH P w K mg base fg 8 t.iN t.Ha GW (bz gK Nl K (cs t)):=by
 refine T.Lm.ok TR (fun vs H Q E h=> ?_) (fun dZ A0 outer s H vs Q E hr h=> ?_)
 ·obtain ⟨A,cas,W,nm,ns,rfl,_⟩:=h
  rfl
 ·obtain ⟨A,cas,W,nm,ns,rfl,R,wg,hS,uZ,⟨kk,rfl,Kh⟩,k⟩:=h
  obtain ⟨bas,rm,yP⟩:=R.bg
  obtain ⟨u,Pj⟩:∃u,W.bag[kk]?=some u:=⟨_,List.getElem?_eq_getElem Kh⟩
  obtain ⟨m,YY,MA⟩:=Paired.at yP Pj
  have MG:=wg.msgs u (List.mem_of_getElem? Pj)
  have hf:Nl W [(kk:Int)] =(W,0::Vbcnag.shown u):=by
   show (if Vbcnag.isPlace W (kk:Int)=false then _ else _)=_
   rw [qU Kh,if_neg (by decide)]
   show (W,0::((W.bag[(kk:Int).toNat]?).map Vbcnag.shown).getD [])=_
   rw [Int.toNat_natCast,Pj]
   rfl
  rw [hf] at k
  refine ⟨_,ak (aL (cO Gb (bb (aa ah af)) (aB (tF T) (hr.mono (by decide)) (by rfl) T.n6 T.jt.kp T.og .nil aX (aa (aG aN (ai (pv 0) rfl) (aG aN (pv 1) ah (fun _ _=>rfl)) (fun _ _=>rfl)) af)))),?_⟩
  refine ⟨(by show 1≤sizeLine;decide),fun z hz=> ?_⟩
  have S1:=aj.ao (o:=HO.lst [V.int 0]) hz
  have vM:L2.upd H z (HO.lst [V.int 0]) z=some (.lst [V.int 0]):=ab
  generalize L2.upd H z (HO.lst [V.int 0])=H1 at *
  refine ⟨_,rfl,A.w,_,_,_,_,rfl,S1 _ _ R.cV,T.aw,T.bo,rfl,_,rfl,nm,_,_,_,rfl,rfl,S1.seq hS,rfl,A.bg,_,_,_,rfl,rfl,cK.of (S1 _ _ rm),iQ (by rw [List.getElem?_map,YY];rfl),m,u,rfl,MA.keep (aj.keep (C:=cs t) S1),MG.marks,fun H2 r S2 OR AB=> ?_⟩
  have hsl:=FI u MG.marks
  refine ⟨z,r,_,_,rfl,rfl,S2 _ _ vM,OR,(by rw [List.length_map];show 1 + _≤sizeLine;exact Nat.le_trans (show _≤101 by omega) (by decide)),fun p hp=> ?_⟩
  have S3:=(S1.trans S2).trans (aj.ao (o:=HO.lst ([V.int 0] ++ (Vbcnag.shown u).map V.int)) hp)
  exact k _ cas p (R.same S3) (aj.ek S3) (fun b h=> .inl h) ab ((S1.trans S2).free hp)
def yJ:VW→List Int→VW×List Int:=fun W ns=>Vbcnag.inWorld W (.client (ns.headD 0))
theorem DF (T:Txt K mg t):bH P w K mg base fg 8 t.bU t.i4 iV (bz g1 yJ K (cs t)):=by
 refine T.oh.ok rP (fun vs H Q E h=> ?_) (fun dZ A0 outer s H vs Q E hr h=> ?_)
 ·obtain ⟨A,cas,W,nm,ns,rfl,_⟩:=h
  rfl
 ·obtain ⟨A,cas,W,nm,ns,rfl,R,wg,hS,uZ,⟨h0,rfl,hh⟩,k⟩:=h
  obtain ⟨n,rfl⟩:=Dn hh
  have hu:=gE hr
  refine ⟨_,ae (aZ (i:=2) rP.nd rfl (Or.inl rfl) (gS hu (ai (pv 0) rfl) (aG aN (pv 1) ah (fun _ _=>rfl)) ⟨rfl,rfl,rfl,rfl⟩))
   (ae (br (cq (gQ (pv 2))) (ak (aL (bb (aa (d7 cG ah) af)))) aY)
   (ak (aL (cO Gb (bb (aa ah af)) (aB (Et T) (hr.mono (by decide)) (by rfl) T.xM T.qc.kp T.xN .nil aX (aa (pv 2) af)))))),?_⟩
  rcases R.find n with ⟨hc,DG⟩|⟨i,ca,c,d,pl,be,le,hc,DX,hi,dt,qQ,dY,DG⟩
  ·have hf:yJ W [(n:Int)] =(W,[-2]):=pf hh hc
   rw [hf] at k
   refine ⟨_,rfl,A.w,_,_,_,_,rfl,R.cV,T.aw,T.aA,rfl,A.cd,rfl,.inl ⟨_,.inl R.cd⟩,_,rfl,nm,_,_,_,rfl,rfl,hS,rfl,_,DG,?_⟩
   refine ⟨_,rfl,_,rfl,bI ?_⟩
   exact ⟨_,rfl,(by show 1≤sizeLine;decide),fun p hp=>k _ cas p (R.same (aj.ao hp)) (aj.ek (aj.ao hp)) (fun b h=> .inl h) ab hp⟩
  ·have hf:yJ W [(n:Int)] =(W,0::Vbcnag.clientSaid c):=gg hh hc
   rw [hf] at k
   refine ⟨_,rfl,A.w,_,_,_,_,rfl,R.cV,T.aw,T.aA,rfl,A.cd,rfl,.inl ⟨_,.inl R.cd⟩,_,rfl,nm,_,_,_,rfl,rfl,hS,rfl,_,DG,?_⟩
   refine ⟨_,rfl,_,rfl,bQ ?_⟩
   refine ⟨(by show 1≤sizeLine;decide),fun z hz=> ?_⟩
   have S1:=aj.ao (o:=HO.lst [V.int 0]) hz
   have vM:L2.upd H z (HO.lst [V.int 0]) z=some (.lst [V.int 0]):=ab
   generalize L2.upd H z (HO.lst [V.int 0])=H1 at *
   refine ⟨_,rfl,ca,c,rfl,⟨d,pl,be,le,S1 _ _ qQ,dY.keep (aj.keep (C:=cs t) S1)⟩,fun H2 r S2 OR AB=> ?_⟩
   refine ⟨z,r,_,_,rfl,rfl,S2 _ _ vM,OR,?_,fun p hp=> ?_⟩
   ·rw [List.length_map,Nj]
    cases c.place <;>cases c.best <;>cases c.lease <;>(show 17≤sizeLine;decide)
   ·have S3:=(S1.trans S2).trans (aj.ao (o:=HO.lst ([V.int 0] ++ (Vbcnag.clientSaid c).map V.int)) hp)
    exact k _ cas p (R.same S3) (aj.ek S3) (fun b h=> .inl h) ab ((S1.trans S2).free hp)
end
end Rl
namespace Rl
open PySem PySem.Spec PyProof.Rows L2
open Vbcnag (Mark Msg Under Offer Lease Client Relay Assigned Written)
theorem Sd (l:List (Nat×Nat)):Vbcnag.pairs l=0::Vbcnag.markNums (l.map jW):=by
 unfold Vbcnag.pairs Vbcnag.markNums
 rw [List.length_map,List.flatMap_map]
 rfl
theorem Ki:∀ (n:Nat)(W:VW)(k:Mark),(Vbcnag.pathUp n W k).length≤n
 |0,_,_=>Nat.le_refl _
 |n + 1,W,k=>by
  unfold Vbcnag.pathUp
  split
  ·show 1≤n + 1
   omega
  ·rename_i a _
   rw [List.length_append]
   exact Nat.succ_le_succ (Ki n W a)
theorem FJ (l:List Mark):(Vbcnag.markNums l).length=2 * l.length + 1:=by
 show (dy l).length + 1=_
 rw [lT]
section
variable {P:Program}{w:World}{K:PySem.W.Frag}{mg:Str→Option Value}{base:Heap}{t:ke}
abbrev DH:VW→List Int→Prop:=fun W ns=>W.written.length≤500000∧∃s h:Nat,ns= [(s:Int),(h:Int)] ∧(Vbcnag.isServer W (s:Int) && Vbcnag.isHost (h:Int))=true
def yK:VW→List Int→VW×List Int:=fun W ns=>match ns with
 | [s,h] =>Vbcnag.inWorld W (.written s h)
 |_=>(W,[])
theorem AY (T:Txt K mg t):bH P w K mg base fg 8 t.bJ t.hR gX (bz DH yK K (cs t)):=by
 refine T.l5.ok AS (fun vs H Q E h=> ?_) (fun dZ A0 outer s H vs Q E hr h=> ?_)
 ·obtain ⟨A,cas,W,nm,ns,rfl,_⟩:=h
  rfl
 ·obtain ⟨A,cas,W,nm,ns,rfl,R,wg,hS,uZ,⟨E1,sv,ho,rfl,hh⟩,k⟩:=h
  have dJ:∀T:Txt K mg t,bH P w K mg base fg 1 t.cI t.fE fA (Bs K):=fun T=>Rl.dJ T
  have hf:yK W [(sv:Int),(ho:Int)] =(W,0::Vbcnag.markNums (((oG W sv ho).foldr Vbcnag.putIn []).map jW)):=by
   show (if (Vbcnag.isServer W (sv:Int) && Vbcnag.isHost (ho:Int))=false then _ else _)=_
   rw [hh,if_neg (by decide)]
   rw [←Sd]
   rfl
  rw [hf] at k
  have eA:W.written.length < sizeLine:=Nat.lt_of_le_of_lt E1 (by decide)
  refine ⟨_,ak (aL (cO Gb (bb (aa ah af)) (aB (dJ T) (hr.mono (by decide)) (by rfl) T.mX T.jN.kp T.mY .nil aX (aa (aB (Eu T) (hr.mono (by decide)) (by rfl) T.xO T.qd.kp T.xP .nil aX (aa (pv 0) (aa (aG aN (pv 1) ah (fun _ _=>rfl)) (aa (aG aN (pv 1) ah (fun _ _=>rfl)) af)))) af)))),?_⟩
  refine ⟨(by show 1≤sizeLine;decide),fun z hz=> ?_⟩
  have S1:=aj.ao (o:=HO.lst [V.int 0]) hz
  have vM:L2.upd H z (HO.lst [V.int 0]) z=some (.lst [V.int 0]):=ab
  generalize L2.upd H z (HO.lst [V.int 0])=H1 at *
  refine ⟨_,rfl,_,rfl,nm,_,_,_,rfl,rfl,S1.seq hS,rfl,_,rfl,nm,_,_,_,rfl,rfl,S1.seq hS,rfl,A,cas,W,sv,ho,rfl,R.same S1,wg.YB,eA,fun H2 r as S2 OR KW AB=> ?_⟩
  have hle:(((oG W sv ho).foldr Vbcnag.putIn []).map jW).length≤500000:=by
   rw [List.length_map,(uS _).length_eq]
   unfold oG
   rw [List.length_map]
   exact Nat.le_trans (List.length_filter_le ..) E1
  refine ⟨r,_,_,rfl,.inl (cK.of OR),KW,Nat.le_trans hle (by decide),fun H3 q S3 SH ZI=> ?_⟩
  refine ⟨z,q,_,_,rfl,rfl,S3 _ _ (S2 _ _ vM),SH,?_,fun p hp=> ?_⟩
  ·rw [List.length_map,FJ]
   show 1 + _≤sizeLine
   exact Nat.le_trans (show _≤1000002 by omega) (by decide)
  ·have S4:=((S1.trans S2).trans S3).trans (aj.ao (o:=HO.lst ([V.int 0] ++ (Vbcnag.markNums (((oG W sv ho).foldr Vbcnag.putIn []).map jW)).map V.int)) hp)
   exact k _ cas p (R.same S4) (aj.ek S4) (fun b h=> .inl h) ab (((S1.trans S2).trans S3).free hp)
abbrev Se:VW→List Int→Prop:=fun W ns=>∃r c:Nat,ns= [(r:Int),(c:Int)] ∧r < W.relays.length∧(Vbcnag.isRelay W (r:Int) && Vbcnag.isCircuit (c:Int))=true
def Nm:VW→List Int→VW×List Int:=fun W ns=>match ns with
 | [r,c] =>Vbcnag.inWorld W (.path r c)
 |_=>(W,[])
theorem IK (T:Txt K mg t):bH P w K mg base fg 8 t.cz t.mS mJ (bz Se Nm K (cs t)):=by
 refine T.sC.ok GX (fun vs H Q E h=> ?_) (fun dZ A0 outer s H vs Q E hr h=> ?_)
 ·obtain ⟨A,cas,W,nm,ns,rfl,_⟩:=h
  rfl
 ·obtain ⟨A,cas,W,nm,ns,rfl,R,wg,hS,uZ,⟨rr,cc,rfl,dY,hh⟩,k⟩:=h
  have dJ:∀T:Txt K mg t,bH P w K mg base fg 1 t.cI t.fE fA (Bs K):=fun T=>Rl.dJ T
  have hf:Nm W [(rr:Int),(cc:Int)] =(W,0::Vbcnag.markNums (Vbcnag.pathUp W.relays.length W {relay:=rr,circuit:=cc})):=by
   show (if (Vbcnag.isRelay W (rr:Int) && Vbcnag.isCircuit (cc:Int))=false then _ else _)=_
   rw [hh,if_neg (by decide)]
   rfl
  rw [hf] at k
  refine ⟨_,ak (aL (cO Gb (bb (aa ah af)) (aB (dJ T) (hr.mono (by decide)) (by rfl) T.mX T.jN.kp T.mY .nil aX (aa (aB (LW T) (hr.mono (by decide)) (by rfl) T.Fg T.zg.kp T.Fh .nil aX (aa (pv 0) (aa (aG aN (pv 1) ah (fun _ _=>rfl)) (aa (aG aN (pv 1) ah (fun _ _=>rfl)) af)))) af)))),?_⟩
  refine ⟨(by show 1≤sizeLine;decide),fun z hz=> ?_⟩
  have S1:=aj.ao (o:=HO.lst [V.int 0]) hz
  have vM:L2.upd H z (HO.lst [V.int 0]) z=some (.lst [V.int 0]):=ab
  generalize L2.upd H z (HO.lst [V.int 0])=H1 at *
  refine ⟨_,rfl,_,rfl,nm,_,_,_,rfl,rfl,S1.seq hS,rfl,_,rfl,nm,_,_,_,rfl,rfl,S1.seq hS,rfl,A,cas,W,rr,cc,rfl,R.same S1,wg,dY,fun H2 r as S2 OR KW AB=> ?_⟩
  have hle:(Vbcnag.pathUp W.relays.length W {relay:=rr,circuit:=cc}).length≤64:=Nat.le_trans (Ki _ _ _) wg.JV
  refine ⟨r,_,_,rfl,.inl (cK.of OR),KW,Nat.le_trans hle (by decide),fun H3 q S3 SH ZI=> ?_⟩
  refine ⟨z,q,_,_,rfl,rfl,S3 _ _ (S2 _ _ vM),SH,?_,fun p hp=> ?_⟩
  ·rw [List.length_map,FJ]
   show 1 + _≤sizeLine
   exact Nat.le_trans (show _≤1000002 by omega) (by decide)
  ·have S4:=((S1.trans S2).trans S3).trans (aj.ao (o:=HO.lst ([V.int 0] ++ (Vbcnag.markNums (Vbcnag.pathUp W.relays.length W {relay:=rr,circuit:=cc})).map V.int)) hp)
   exact k _ cas p (R.same S4) (aj.ek S4) (fun b h=> .inl h) ab (((S1.trans S2).trans S3).free hp)
abbrev g0:VW→List Int→Prop:=fun _ ns=>ns= []
def fState:VW→List Int→VW×List Int:=fun W _=>Vbcnag.inWorld W .state
theorem Ew (T:Txt K mg t):bH P w K mg base fg 8 t.cf t.kz j9 (bz g0 fState K (cs t)):=by
 refine T.qe.ok Ec (fun vs H Q E h=> ?_) (fun dZ A0 outer s H vs Q E hr h=> ?_)
 ·obtain ⟨A,cas,W,nm,ns,rfl,_⟩:=h
  rfl
 ·obtain ⟨A,cas,W,nm,ns,rfl,R,wg,hS,uZ,rfl,k⟩:=h
  obtain ⟨bas,rm,yP⟩:=R.bg
  obtain ⟨ras,OS,YW⟩:=R.rl
  have hu:=gE hr
  refine ⟨_,ak (aL (bb (aa ah (aa (ai (pv 0) rfl) (aa (bc aW (by rfl) T.dN PySem.boot_len (aa (ai (pv 0) rfl) af)) (aa (bc aW (by rfl) T.dN PySem.boot_len (aa (ai (pv 0) rfl) af)) (aa (bc EW (by rfl) T.dN PySem.boot_len (aa (ai (pv 0) rfl) af)) af))))))),?_⟩
  refine ⟨_,rfl,A.w,_,_,_,_,rfl,R.cV,T.aw,T.a8,rfl,_,rfl,A.w,_,_,_,_,rfl,R.cV,T.aw,T.bo,rfl,A.bg,_,rfl,.inl (cK.of rm),_,rfl,A.w,_,_,_,_,rfl,R.cV,T.aw,T.bx,rfl,A.rl,_,rfl,.inl (cK.of OS),
   _,rfl,A.w,_,_,_,_,rfl,R.cV,T.aw,T.aA,rfl,A.cd,_,rfl,R.cd,(by show 5≤sizeLine;decide),fun p hp=> ?_⟩
  refine k _ cas p (R.same (aj.ao hp)) (aj.ek (aj.ao hp)) (fun b h=> .inl h) ?_ hp
  have e1:=JY yP
  have e2:(ras.map V.ref).length=W.relays.length:=by rw [List.length_map];exact Paired.length YW
  have e3:=qR (cl:=W.clients) R.len
  rw [ab,e1,e2,e3]
  rfl
def Sf:VW→List Int→VW×List Int:=fun W _=>Vbcnag.inWorld W .next
theorem Kj {W:VW}{M:Int}(h1:M∈(W.clients.filterMap (·.due)).map (fun (n:Nat)=>(n:Int)))(h2:∀z∈(W.clients.filterMap (·.due)).map (fun (n:Nat)=>(n:Int)),M≤z):(match Vbcnag.soonest (Vbcnag.dues W) with|some x=>(x.1:Int)|none=> -1)=M:=by
 obtain ⟨d,hd,rfl⟩:=List.mem_map.mp h1
 obtain ⟨c,hc,wD⟩:=List.mem_filterMap.mp hd
 cases hs:Vbcnag.soonest (Vbcnag.dues W) with
 |none=>
  have:=yu hs
  have m:(d,c.host)∈Vbcnag.dues W:=gr.mpr ⟨c,hc,wD,rfl⟩
  rw [this] at m
  cases m
 |some z=>
  obtain ⟨hm,gk⟩:=gq hs
  obtain ⟨c',UQ,Y7,_⟩:=gr.mp hm
  have a:=gk (d,c.host) (gr.mpr ⟨c,hc,wD,rfl⟩)
  have b:=h2 (z.1:Int) (List.mem_map.mpr ⟨z.1,List.mem_filterMap.mpr ⟨c',UQ,Y7⟩,rfl⟩)
  show (z.1:Int)=d
  unfold gp at a
  dsimp only at a
  omega
theorem IL (T:Txt K mg t):bH P w K mg base fg 8 t.cA t.mT mK (bz g0 Sf K (cs t)):=by
 refine T.sD.ok pH (fun vs H Q E h=> ?_) (fun dZ A0 outer s H vs Q E hr h=> ?_)
 ·obtain ⟨A,cas,W,nm,ns,rfl,_⟩:=h
  rfl
 ·obtain ⟨A,cas,W,nm,ns,rfl,R,wg,hS,uZ,rfl,k⟩:=h
  have hu:=gE hr
  have hlen:=wg.yz
  refine ⟨_,ak (aL (bb (aa ah (aa (Mu rfl (by rfl) T.vK (Gq (Mo (own:= [("client",2)]) rfl pH.nd (EV (ai (pv 0) rfl)) (lU (show Gj Ae (ay fB) _ _=true by decide +kernel)) (fun _ _ _ _ _=>eV (i:=2) pH.nd rfl (Or.inl rfl)) (fun _ _ _ _ _=>Gf (cq (gR (px K rfl (pv 2) rfl)))) (fun _ _ _ _ _=>(px K rfl (pv 2) rfl)))) (d7 cG ah)) af)))),?_⟩
  refine ⟨A.cd,_,R.cd,trivial,fun od=> ?_⟩
  have wD:L2.upd H A.cd (.jM od (.dK (bL cas W.clients))) A.cd=some (.jM od (.dK (bL cas W.clients))):=ab
  have OK:∀b o,b≠A.cd→H b=some o→L2.upd H A.cd (.jM od (.dK (bL cas W.clients))) b=some o:=fun b o n e=>by
   rw [az n]
   exact e
  have back:∀H',aj (L2.upd H A.cd (.jM od (.dK (bL cas W.clients)))) H'→aj H (L2.upd H' A.cd (.dK (bL cas W.clients))):=fun H' S b o e=>by
   by_cases z:b=A.cd
   ·subst z
    rw [R.cd] at e
    rw [←Option.some.inj e]
    exact ab
   ·rw [az z]
    exact S b o (OK b o z e)
  generalize L2.upd H A.cd (.jM od (.dK (bL cas W.clients)))=H0 at *
  refine ⟨_,rfl,A.w,_,_,_,_,rfl,OK _ _ (bh R.cV R.cd (fun q=>nomatch q)) R.cV,T.aw,T.aA,rfl,A.cd,od,_,rfl,wD,fun D hD=> ?_⟩
  refine M7 (fun i H'=>H' D=some (.lst (((W.clients.take i).filterMap (·.due)).map nV))∧aj H0 H') ⟨ab,aj.ao hD⟩ (fun i H' _ pd=>pd.2 _ _ wD) (fun i ky x H' hx pd=> ?_) (fun H' pd=> ?_)
  ·obtain ⟨zQ,S⟩:=pd
   obtain ⟨ca,cl,dt,Mm,rfl⟩:=FA hx
   obtain ⟨d,pl,be,le,qQ,dY⟩:=R.gN Mm dt
   have Rr:=S _ _ (OK _ _ (bh qQ R.cd (fun q=>nomatch q)) qQ)
   refine ⟨rfl,?_⟩
   refine ⟨_,rfl,ca,_,d,_,_,rfl,Rr,T.aq,T.bp,rfl,_,rfl,?_⟩
   cases hdu:cl.due with
   |none=>
    refine bQ ⟨?_,S⟩
    rw [List.take_add_one,Mm,List.filterMap_append]
    show _=some (HO.lst ((_ ++ List.filterMap _ [cl]).map nV))
    rw [List.filterMap_cons,hdu,List.filterMap_nil,List.append_nil]
    exact zQ
   |some dd=>
    rw [show wC cl pl be le=wC {cl with due:=some dd} pl be le by rw [←hdu]] at Rr
    refine bI ?_
    refine ⟨_,rfl,ca,_,d,_,_,rfl,Rr,T.aq,T.bp,rfl,_,zQ,?_,?_,?_⟩
    ·rw [List.length_map]
     refine Nat.lt_of_le_of_lt (List.length_filterMap_le ..) ?_
     rw [List.length_take]
     exact Nat.lt_of_le_of_lt (show _≤64 by omega) (by decide)
    ·rw [ab,List.take_add_one,Mm,List.filterMap_append]
     show _=some (HO.lst ((_ ++ List.filterMap _ [cl]).map nV))
     rw [List.filterMap_cons,hdu,List.filterMap_nil,List.map_append]
     rfl
    ·exact aj.own S hD
  ·obtain ⟨zQ,S⟩:=pd
   rw [qR R.len,List.take_length] at zQ
   have nD:D≠A.cd:=dO wD hD
   have Sb:=back _ S
   refine ⟨S _ _ wD,?_⟩
   have ZJ:L2.upd H' A.cd (.dK (bL cas W.clients)) D=some (.lst (((W.clients.filterMap (·.due)).map (fun (n:Nat)=>(n:Int))).map V.int)):=by
    rw [az nD,zQ,List.map_map]
    rfl
   generalize L2.upd H' A.cd (.dK (bL cas W.clients))=H5 at *
   refine ⟨_,rfl,D,_,rfl,cK.of ZJ,fun aqp=> ?_,fun M rn SJ=> ?_⟩
   ·refine ⟨(by show 2≤sizeLine;decide),fun p hp=> ?_⟩
    have S6:=Sb.trans (aj.ao (o:=HO.lst [V.int 0,V.int (-1)]) hp)
    refine k _ cas p (R.same S6) (aj.ek S6) (fun b h=> .inl h) ?_ (Sb.free hp)
    have hs:Vbcnag.soonest (Vbcnag.dues W)=none:=by
     cases hs:Vbcnag.soonest (Vbcnag.dues W) with
     |none=>rfl
     |some z=>
      obtain ⟨c',UQ,Y7,_⟩:=gr.mp (gq hs).1
      have:(z.1:Int)∈(W.clients.filterMap (·.due)).map (fun (n:Nat)=>(n:Int)):=List.mem_map.mpr ⟨z.1,List.mem_filterMap.mpr ⟨c',UQ,Y7⟩,rfl⟩
      rw [aqp] at this
      cases this
    rw [ab]
    show _=some (HO.lst (List.map V.int [0,match Vbcnag.soonest (Vbcnag.dues W) with|some x=>(x.1:Int)|none=> -1]))
    rw [hs]
    rfl
   ·refine ⟨(by show 2≤sizeLine;decide),fun p hp=> ?_⟩
    have S6:=Sb.trans (aj.ao (o:=HO.lst [V.int 0,V.int M]) hp)
    refine k _ cas p (R.same S6) (aj.ek S6) (fun b h=> .inl h) ?_ (Sb.free hp)
    rw [ab]
    show _=some (HO.lst (List.map V.int [0,match Vbcnag.soonest (Vbcnag.dues W) with|some x=>(x.1:Int)|none=> -1]))
    rw [Kj rn SJ]
    rfl
end
end Rl
namespace Rl
open PySem PySem.Spec PyProof.Rows L2
open Vbcnag (Mark Msg Under Offer Lease Client Relay Assigned Written)
theorem OW {W:VW}(g:cp W){k:Nat}(hk:k < W.bag.length):(Vbcnag.delivered W k).1.bag=W.bag.eraseIdx k ++ (Vbcnag.delivered W k).2:=by
 obtain ⟨u,hu⟩:∃u,W.bag[k]?=some u:=⟨_,List.getElem?_eq_getElem hk⟩
 obtain ⟨_,_,_,h4,_⟩:=yA (qO g k) (u:=u) (g.msgs u (List.mem_of_getElem? hu))
 unfold Vbcnag.delivered
 rw [hu]
 dsimp only
 rw [gf]
 show (Vbcnag.handled {W with bag:=W.bag.eraseIdx k} u).1.bag ++ _=_
 rw [h4]
theorem Paired.drop {α β:Type}{F:α→β→Prop}:∀ {l:List α}{m:List β}(n:Nat),Paired F l m→Paired F (l.drop n) (m.drop n)
 |_,_,0,h=>h
 |_,_,_ + 1,.nil=> .nil
 |_,_,n + 1,.cons _ t=>Paired.drop n t
def oH (l:List Under):List Int:=l.flatMap fun u=>((Vbcnag.shown u).length:Int)::Vbcnag.shown u
theorem AJ (l:List Under)(u:Under):oH (l ++ [u])=oH l ++ (((Vbcnag.shown u).length:Int)::Vbcnag.shown u):=by
 unfold oH
 rw [List.flatMap_append]
 show _ ++ (_ ++ [])=_
 rw [List.append_nil]
theorem DI:∀ {l:List Under},(∀u∈l,u.msg.marks.length≤32)→(oH l).length≤101 * l.length
 | [],_=>Nat.le_refl _
 |u::l,h=>by
  have h1:=FI u (h u (List.mem_cons_self ..))
  have h2:=DI (l:=l) fun v hv=>h v (List.mem_cons_of_mem _ hv)
  show ((_::Vbcnag.shown u) ++ oH l).length≤_
  rw [List.length_append,List.length_cons,List.length_cons]
  omega
section
variable {P:Program}{w:World}{K:PySem.W.Frag}{mg:Str→Option Value}{base:Heap}{t:ke}
abbrev DJ:VW→List Int→Prop:=fun W ns=>W.written.length≤500000∧gK W ns
def yL:VW→List Int→VW×List Int:=fun W ns=>Vbcnag.inWorld W (.deliver (ns.headD 0))
theorem LX (T:Txt K mg t):bH P w K mg base fg 10 t.dQ t.uc tU (bz DJ yL K (cs t)):=by
 refine T.zk.ok lX (fun vs H Q E h=> ?_) (fun dZ A0 outer s H vs Q E hr h=> ?_)
 ·obtain ⟨A,cas,W,nm,ns,rfl,_⟩:=h
  rfl
 ·obtain ⟨A,cas,W,nm,ns,rfl,R,wg,hS,uZ,⟨E1,kk,rfl,Kh⟩,k⟩:=h
  obtain ⟨bas,rm,yP⟩:=R.bg
  have CK:=fI T
  have hlen:=JY yP
  have eA:W.written.length < sizeLine:=Nat.lt_of_le_of_lt E1 (by decide)
  have hf:yL W [(kk:Int)] =((Vbcnag.delivered W kk).1,0::((Vbcnag.delivered W kk).2.length:Int)::oH (Vbcnag.delivered W kk).2):=by
   show (if Vbcnag.isPlace W (kk:Int)=false then _ else _)=_
   rw [qU Kh,if_neg (by decide)]
   rfl
  rw [hf] at k
  have Rh:=OW wg Kh
  have ZK:=(ip wg kk).1
  generalize hW':(Vbcnag.delivered W kk).1=W' at *
  generalize hms:(Vbcnag.delivered W kk).2=ms at *
  have hel:(W.bag.eraseIdx kk).length=W.bag.length - 1:=by
   rw [List.length_eraseIdx,if_pos Kh]
  have axo:W'.bag.length=W.bag.length - 1 + ms.length:=by rw [Rh,List.length_append,hel]
  have Tf:W'.bag.length≤10000:=Nat.le_trans ZK.bag ZK.cap.2
  refine ⟨_,ae (aZ (i:=2) lX.nd rfl (Or.inl rfl) (cO Ky (bc aW (by rfl) T.dN PySem.boot_len (aa (ai (pv 0) rfl) af)) ah))
   (ae (aJ (aB (vN T) (hr.mono (by decide)) (by rfl) T.p0 T.kF.kp T.qa .nil aX (aa (pv 0) (aa (aG aN (pv 1) ah (fun _ _=>rfl)) af))))
   (ae (aZ (i:=3) lX.nd rfl (Or.inl rfl) (bb (aa ah (aa (cO Ky (bc aW (by rfl) T.dN PySem.boot_len (aa (ai (pv 0) rfl) af)) (pv 2)) af))))
   (ae (BB PassesOwn.never rfl (tG (wM FZ (ai (pv 0) rfl) (wL (pv 2)) FU)) (eV (i:=4) lX.nd rfl (Or.inl rfl)) (ae (aZ (i:=5) lX.nd rfl (Or.inl rfl) (aB (tF T) (hr.mono (by decide)) (by rfl) T.n6 T.jt.kp T.og .nil aX (aa (pv 4) af)))
   (ae (aJ (iy PySem.F.plainAttrs_list PySem.F.slot_list_append PySem.F.type_list_append oN (pv 3) (aa (bc aW (by rfl) T.dN PySem.boot_len (aa (pv 5) af)) af)))
   (ak (aJ (iy PySem.F.plainAttrs_list PySem.F.slot_list_extend PySem.F.type_list_extend oO (pv 3) (aa (pv 5) af)))))))
   (ak (aL (pv 3)))))),?_⟩
  refine ⟨_,rfl,A.w,_,_,_,_,rfl,R.cV,T.aw,T.bo,rfl,A.bg,_,rfl,.inl (cK.of rm),_,_,rfl,rfl,?_⟩
  refine ⟨_,rfl,_,rfl,nm,_,_,_,rfl,rfl,hS,rfl,A,cas,W,kk,rfl,R,wg,eA,Kh,fun H1 R1 F1=> ?_⟩
  rw [hW'] at R1
  obtain ⟨zV,agJ,agK⟩:=R1.bg
  have Vy:=JY agK
  refine ⟨_,rfl,A.w,_,_,_,_,rfl,R1.cV,T.aw,T.bo,rfl,A.bg,_,rfl,.inl (cK.of agJ),_,rfl,_,_,rfl,rfl,(by show 2≤sizeLine;decide),fun r AB=> ?_⟩
  generalize Ep:L2.upd H1 r _=H2
  have eL:(((bas.map V.ref).length:Int) - 1)=((W.bag.length - 1:Nat):Int):=by
   rw [hlen]
   omega
  have OR:H2 r=some (.lst ((0::(ms.length:Int)::oH (ms.take 0)).map V.int)):=by
   rw [←Ep,ab]
   have e2:(((zV.map V.ref).length:Int) - (((bas.map V.ref).length:Int) - 1))=(ms.length:Int):=by
    rw [Vy,hlen]
    omega
   show some (HO.lst [V.int 0,V.int (((zV.map V.ref).length:Int) - (((bas.map V.ref).length:Int) - 1))])=_
   rw [e2]
   rfl
  have S2:aj H1 H2:=by rw [←Ep];exact aj.ao AB
  clear Ep
  have aqq:H r=none:=R1.lR F1 AB
  refine ⟨_,rfl,A.w,_,_,_,_,rfl,S2 _ _ R1.cV,T.aw,T.bo,rfl,_,rfl,_,rfl,A.bg,_,rfl,cK.of (S2 _ _ agJ),fun L hL=> ?_⟩
  have ec:vS (zV.map V.ref) (some (((bas.map V.ref).length:Int) - 1)) none=(zV.drop (W.bag.length - 1)).map V.ref:=by
   rw [eL,DD (by rw [Vy];omega),List.map_drop]
  rw [ec]
  have S3:=aj.ao (o:=HO.lst ((zV.drop (W.bag.length - 1)).map V.ref)) hL
  have hL3:L2.upd H2 L (HO.lst ((zV.drop (W.bag.length - 1)).map V.ref)) L=some (.lst ((zV.drop (W.bag.length - 1)).map V.ref)):=ab
  have nLr:L≠r:=dO OR hL
  generalize L2.upd H2 L (HO.lst ((zV.drop (W.bag.length - 1)).map V.ref))=H3 at *
  have Ph:=S2.trans S3
  have hP:Paired (gM (cs t) H1) (zV.drop (W.bag.length - 1)) ms:=by
   have h:=Paired.drop (W.bag.length - 1) agK
   have e:W'.bag.drop (W.bag.length - 1)=ms:=by rw [Rh,←hel,List.drop_left]
   rw [e] at h
   exact h
  have hPi:=cT.mp hP
  have Vz:∀u∈ms,u.msg.marks.length≤32:=fun u hu=>(ZK.msgs u (by rw [Rh];exact List.mem_append_right _ hu)).marks
  have axq:ms.length≤10000:=by omega
  refine ⟨L,rfl,⟨_,cK.of hL3⟩,?_⟩
  refine BC (K:=K) (a:=L) (xs:=(zV.drop (W.bag.length - 1)).map V.ref) (fun i σ Hk=>∃v4 v5,σ= [some (V.ref A.w),some (V.ref nm),some (V.int (((bas.map V.ref).length:Int) - 1)),some (V.ref r),v4,v5] ∧Hk r=some (.lst ((0::(ms.length:Int)::oH (ms.take i)).map V.int))∧∀b o,H3 b=some o→b≠r→Hk b=some o)
   ⟨none,none,rfl,S3 _ _ OR,fun b o e _=>e⟩ (fun i σ Hk _ hk=> ?_) (fun i x σ Hk hx hk=> ?_) (fun σ Hk hk=> ?_)
  ·obtain ⟨v4,v5,_,_,ER⟩:=hk
   exact cK.of (ER _ _ hL3 nLr)
  ·obtain ⟨v4,v5,rfl,hrk,ER⟩:=hk
   rw [List.getElem?_map] at hx
   obtain ⟨m,hm,rfl⟩:∃m,(zV.drop (W.bag.length - 1))[i]?=some m∧x=V.ref m:=by
    cases q:(zV.drop (W.bag.length - 1))[i]? with
    |none=>rw [q] at hx;cases hx
    |some m=>rw [q] at hx;exact ⟨m,rfl,(Option.some.inj hx).symm⟩
   have hi:i < ms.length:=by
    rw [←hPi.1]
    exact (List.getElem?_eq_some_iff.mp hm).1
   have hu:ms[i]?=some ms[i] :=List.getElem?_eq_getElem hi
   have MA:=hPi.2 i m _ hm hu
   generalize ms[i] =u at *
   have aqr:=Vz u (List.mem_of_getElem? hu)
   have kk1:dX (cs t) H1 Hk:=fun b o fx e=>ER b o (Ph _ _ e) (fun q=>by
    rw [q,AB] at e
    cases e)
   have Vv:ms.take (i + 1)=ms.take i ++ [u] :=by rw [List.take_add_one,hu];rfl
   have Zt:(oH (ms.take (i + 1))).length≤101 * 10000:=by
    refine Nat.le_trans (DI fun v hv=>Vz v (List.mem_of_mem_take hv)) ?_
    have:(ms.take (i + 1)).length≤ms.length:=by rw [List.length_take];omega
    omega
   rw [Vv,AJ,List.length_append,List.length_cons] at Zt
   refine ⟨_,rfl,m,u,rfl,MA.keep kk1,aqr,fun H4 q S4 hq4 ZI=> ?_⟩
   have hr4:=S4 _ _ hrk
   have nqr:q≠r:=dO hrk ZI
   refine ⟨_,rfl,.inl ⟨rfl,_,cK.of hr4⟩,_,rfl,q,_,rfl,.inl (cK.of hq4),r,_,_,rfl,rfl,hr4,?_,?_⟩
   ·rw [List.length_map,List.length_cons,List.length_cons]
    exact Nat.lt_of_le_of_lt (show _≤101 * 10000 + 2 by omega) (by decide)
   refine ⟨_,rfl,.inl ⟨rfl,_,cK.of ab⟩,_,rfl,r,q,_,_,rfl,rfl,ab,(by rw [az nqr];exact hq4),?_,?_⟩
   ·simp only [List.length_append,List.length_map,List.length_cons,List.length_nil]
    exact Nat.le_trans (show _≤101 * 10000 + 2 by omega) (by decide)
   rw [cJ]
   refine ⟨some (V.ref m),some (V.ref q),rfl,?_,fun b o e n=> ?_⟩
   ·rw [ab,Vv,AJ,List.length_map]
    show _=some (HO.lst ((0::(ms.length:Int)::(oH (ms.take i) ++ _)).map V.int))
    rw [←List.cons_append,←List.cons_append,List.map_append,List.append_assoc]
    rfl
   ·rw [az n]
    exact S4 _ _ (ER b o e n)
  ·obtain ⟨v4,v5,rfl,hrk,ER⟩:=hk
   have hxl:((zV.drop (W.bag.length - 1)).map V.ref).length=ms.length:=by rw [List.length_map];exact hPi.1
   rw [hxl,List.take_length] at hrk
   have S1k:aj H1 Hk:=fun b o e=>ER b o (Ph _ _ e) (fun q=>by
    rw [q,AB] at e
    cases e)
   exact ⟨_,rfl,k Hk cas r (R1.same S1k) (F1.trans (aj.ek S1k)) (fun b h=> .inl h) hrk aqq⟩
end
end Rl
namespace Rl
open PySem PySem.Spec PyProof.Rows L2
open Vbcnag (Mark Msg Under Offer Lease Client Relay Assigned Written)
section
variable {P:Program}{w:World}{K:PySem.W.Frag}{mg:Str→Option Value}{base:Heap}{t:ke}
abbrev Sg:VW→List Int→Prop:=fun W ns=>W.written.length≤500000∧∃m:Nat,ns= [(m:Int)] ∧m≤1000
def Nn:VW→List Int→VW×List Int:=fun W ns=>Vbcnag.inWorld W (.flow (ns.headD 0))
def agM (C:Cs)(H:Hp)(A:Ad)(cas:List Addr)(W:VW)(nm:Addr)(m:Nat):Nat→L2.St→Hp→Prop:=fun μ σ Hk=>∃ (d:Nat)(V':VW),σ= [some (.ref A.w),some (.ref nm),some (nV d)] ∧μ=m - d∧d≤m∧cp V'∧V'.written.length≤500000 + d∧
 (Vbcnag.flows m W).1=(Vbcnag.flows (m - d) V').1∧(Vbcnag.flows m W).2=(Vbcnag.flows (m - d) V').2 + d∧Rep C Hk A cas V'∧ez A cas H Hk
theorem UJ (T:Txt K mg t):bH P w K mg base fg 10 t.iM t.G9 GU (bz Sg Nn K (cs t)):=by
 refine T.Ll.ok GV (fun vs H Q E h=> ?_) (fun dZ A0 outer s H vs Q E hr h=> ?_)
 ·obtain ⟨A,cas,W,nm,ns,rfl,_⟩:=h
  rfl
 ·obtain ⟨A,cas,W,nm,ns,rfl,R,wg,hS,uZ,⟨E1,m,rfl,hm⟩,k⟩:=h
  have hf:Nn W [(m:Int)] =((Vbcnag.flows m W).1,[0,((Vbcnag.flows m W).2:Int)]):=by
   show (if Vbcnag.within (m:Int) 0 1000=false then _ else _)=_
   rw [bR.mpr ⟨by omega,by omega⟩,if_neg (by decide)]
   rfl
  rw [hf] at k
  refine ⟨_,ae (aZ (i:=2) GV.nd rfl (Or.inl rfl) ah)
   (ae (wH PassesOwn.never (PW.pt (iB (aM oM (pv 2) (aG aN (pv 1) ah (fun _ _=>rfl)) (aS _)) (fK (aM wJ (bc aW (by rfl) T.dN PySem.boot_len (aa (ai (pv 0) rfl) af)) ah (aS _))))) (ae (aJ (aB (vN T) (hr.mono (by decide)) (by rfl) T.p0 T.kF.kp T.qa .nil aX (aa (pv 0) (aa ah af))))
   (ak (Ku (i:=2) GV.nd rfl (Or.inl rfl) ah Kv))))
   (ak (aL (bb (aa ah (aa (pv 2) af)))))),?_⟩
  refine ⟨agM (cs t) H A cas W nm m,⟨m,0,W,rfl,rfl,Nat.zero_le _,wg,E1,rfl,rfl,R,ez.refl⟩,?_⟩
  rintro μ σ Hk ⟨d,V',rfl,hμ,hd,ZK,axu,e1,e2,Rk,Fk⟩
  have Pg:cK K Hk nm ([(m:Int)].map V.int):=by
   rcases hS with (h|⟨o,h⟩)|h
   ·exact .inl (.inl (Fk _ _ h uZ))
   ·exact .inl (.inr ⟨o,Fk _ _ h uZ⟩)
   ·exact .inr h
  obtain ⟨bas,rm,yP⟩:=Rk.bg
  have hlen:=JY yP
  have fin:∀ (VA:(Vbcnag.flows (m - d) V')=(V',0)),[V.int 0,nV d].length≤sizeLine∧∀p,Hk p=none→Q (.ref p) (L2.upd Hk p (.lst [V.int 0,nV d])):=fun VA=>by
   refine ⟨(by show 2≤sizeLine;decide),fun p hp=> ?_⟩
   rw [VA] at e1 e2
   rw [e1,e2] at k
   refine k _ cas p (Rk.same (aj.ao hp)) (Fk.trans (aj.ek (aj.ao hp))) (fun b h=> .inl h) ?_ (Rk.lR Fk hp)
   rw [ab,Nat.zero_add]
   rfl
  refine ⟨_,rfl,_,rfl,nm,_,_,_,rfl,rfl,Pg,rfl,_,_,rfl,rfl,_,rfl,?_⟩
  refine eR (fun q=> ?_) fun q=> ?_
  ·have hdm:d < m:=by
    have:=of_decide_eq_true q
    omega
   refine ⟨_,rfl,A.w,_,_,_,_,rfl,Rk.cV,T.aw,T.bo,rfl,A.bg,_,rfl,.inl (cK.of rm),_,_,rfl,rfl,_,rfl,?_⟩
   refine eR (fun q2=> ?_) fun q2=> ?_
   ·have hb0:0 < V'.bag.length:=by
     have:=of_decide_eq_true q2
     rw [hlen] at this
     omega
    refine ⟨fun σ' H'=>∃m',m' < μ∧agM (cs t) H A cas W nm m m' σ' H',fun σ' H' h=>h,?_⟩
    refine ⟨_,rfl,A,cas,V',0,rfl,Rk,ZK,Nat.lt_of_le_of_lt (show _≤501000 by omega) (by decide),hb0,fun H1 R1 F1=> ?_⟩
    obtain ⟨g1,h1⟩:=ip ZK 0
    have hmd:m - d=(m - (d + 1)) + 1:=by omega
    have efl:Vbcnag.flows (m - d) V'=((Vbcnag.flows (m - (d + 1)) (Vbcnag.delivered V' 0).1).1,(Vbcnag.flows (m - (d + 1)) (Vbcnag.delivered V' 0).1).2 + 1):=by
     rw [hmd]
     show (if V'.bag.isEmpty=true then _ else _)=_
     rw [if_neg (by
      intro z
      rw [List.isEmpty_iff] at z
      rw [z] at hb0
      exact absurd hb0 (Nat.lt_irrefl _))]
    rw [efl] at e1 e2
    refine ⟨_,rfl,_,_,rfl,rfl,m - (d + 1),(by omega),d + 1,_,rfl,rfl,hdm,g1,(by omega),e1,?_,R1,Fk.trans F1⟩
    rw [e2]
    dsimp only
    omega
   ·have hb0:V'.bag= [] :=by
     apply List.eq_nil_of_length_eq_zero
     have:¬ (0:Int) < ((bas.map V.ref).length:Int):=fun z=>q2 (decide_eq_true z)
     rw [hlen] at this
     omega
    refine ⟨_,rfl,fin ?_⟩
    obtain ⟨n',hn'⟩:∃n',m - d=n' + 1:=⟨m - d - 1,by omega⟩
    rw [hn']
    show (if V'.bag.isEmpty=true then _ else _)=_
    rw [if_pos (by rw [hb0];rfl)]
  ·have hdm:d=m:=by
    have:¬ (d:Int) < (m:Int):=fun z=>q (decide_eq_true z)
    omega
   refine bQ ⟨_,rfl,fin ?_⟩
   rw [hdm,Nat.sub_self]
   rfl
end
end Rl
namespace Rl
open PySem PySem.Spec PyProof.Rows L2
open Vbcnag (Mark Msg Under Offer Lease Client Relay Assigned Written)
theorem FK:∀ {ms:List Mark}{i:Nat}{m:Mark},ms[i]?=some m→(dy ms)[2 * i]?=some (m.relay:Int)∧(dy ms)[2 * i + 1]?=some (m.circuit:Int)
 | [],_,_,h=>by simp at h
 |x::ms,0,m,h=>by
  have e:x=m:=Option.some.inj h
  subst e
  exact ⟨rfl,rfl⟩
 |x::ms,i + 1,m,h=>by
  have h':ms[i]?=some m:=h
  obtain ⟨h1,h2⟩:=FK h'
  have e:dy (x::ms)=(x.relay:Int)::(x.circuit:Int)::dy ms:=rfl
  rw [e,show 2 * (i + 1)=2 * i + 1 + 1 by omega]
  exact ⟨h1,h2⟩
theorem vO:∀ms:List Mark,Vbcnag.marksIn (dy ms)=ms
 | [] =>rfl
 |x::ms=>by
  show Vbcnag.mark (x.relay:Int) (x.circuit:Int)::Vbcnag.marksIn (dy ms)=_
  rw [vO ms]
  rfl
theorem rg2 (q:Nat)(h:q≤16):RgC 8 (((8 + 2 * q:Nat)):Int) 2 q:=by
 have all:∀q:Fin 17,Builtin.Range.small 8 (((8 + 2 * q.val:Nat)):Int) 2=true∧Builtin.Range.rangeSize 8 (((8 + 2 * q.val:Nat)):Int) 2=(q.val:Int):=by decide
 obtain ⟨h1,h2⟩:=all ⟨q,by omega⟩
 exact ⟨by decide,by decide,h1,h2⟩
section
variable {P:Program}{w:World}{K:PySem.W.Frag}{mg:Str→Option Value}{base:Heap}{t:ke}
def DK (r c h n kd a hp:Nat)(sv:Option Nat)(ms:List Mark):List Int:=(r:Int)::(c:Int)::(h:Int)::(n:Int)::(kd:Int)::Vbcnag.optional sv::(a:Int)::(hp:Int)::dy ms
abbrev LY:VW→List Int→Prop:=fun W ns=>∃ (r c h n kd a hp:Nat)(sv:Option Nat)(ms:List Mark),ns=DK r c h n kd a hp sv ms∧ms.length≤16∧
 (Vbcnag.isRelay W (r:Int) && (Vbcnag.isCircuit (c:Int) && (Vbcnag.isHost (h:Int) && (decide (1≤(n:Int)) && (Vbcnag.within (kd:Int) 1 5 && (Vbcnag.within (Vbcnag.optional sv) (-1) ((W.servers:Int) - 1) && (Vbcnag.within (a:Int) 0 (Vbcnag.ADDRS - 1) && Vbcnag.within (hp:Int) 0 16)))))))=true∧
 ¬ ((dy ms).length % 2=1∨32 < (dy ms).length∨(dy ms).any (fun x=> !Vbcnag.isCircuit x)=true)
def DL:VW→List Int→VW×List Int:=fun W ns=>match ns with
 |r::c::h::n::k::s::a::p::marks=>Vbcnag.inWorld W (.forge r c h n k s a p marks)
 |_=>(W,[])
def Np (r c h n kd a hp:Nat)(sv:Option Nat)(ms:List Mark):Under:={place:= .up r c,msg:={host:=h,number:=n,kind:=kd,server:=sv,addr:=a,hops:=hp,marks:=ms} }
theorem Sh (T:Txt K mg t):bH P w K mg base fg 10 t.f7 t.Bd Ba (bz LY DL K (cs t)):=by
 refine T.Hf.ok o3 (fun vs H Q E h=> ?_) (fun dZ A0 outer s H vs Q E hr h=> ?_)
 ·obtain ⟨A,cas,W,nm,ns,rfl,_⟩:=h
  rfl
 ·obtain ⟨A,cas,W,nm,ns,rfl,R,wg,hS,uZ,⟨r,c,h,n,kd,a,hp,sv,ms,rfl,hms,hh1,hh2⟩,k⟩:=h
  have hu:=gE hr
  have CK:=fI T
  have hb:W.bag.length≤10000:=Nat.le_trans wg.bag wg.cap.2
  have Br:(if Vbcnag.optional sv < 0 then none else some (Vbcnag.optional sv).toNat)=sv:=by
   cases sv with
   |none=>rfl
   |some x=>exact if_neg (by show ¬ (x:Int) < 0;omega)
  have hf:DL W (DK r c h n kd a hp sv ms)=if (Vbcnag.below W {relay:=r,circuit:=c}).isSome=true then (W,[-2]) else if (Vbcnag.clientOf W h).any (fun x=>decide ((n:Int)≤(x.counter:Int)))=false then (W,[-3]) else if Vbcnag.full W=true then (W,[-4]) else ({W with bag:=W.bag ++ [Np r c h n kd a hp sv ms] },[0]):=by
   show (if _=false then _ else if _ then _ else _)=_
   rw [hh1,if_neg (by decide),if_neg hh2,vO]
   show (if _ then _ else if _ then _ else if _ then _ else (({W with bag:=W.bag ++ [Np r c h n kd a hp (if Vbcnag.optional sv < 0 then none else some (Vbcnag.optional sv).toNat) ms] }:VW),([0] :List Int)))=_
   rw [Br]
   rfl
  rw [hf] at k
  obtain ⟨kvs,M9,Rv,IU⟩:=R.hd
  have hnl:((DK r c h n kd a hp sv ms).map V.int).length=8 + 2 * ms.length:=by
   rw [List.length_map]
   show (dy ms).length + 8=_
   rw [lT]
   omega
  have Ex:∀ (i:Nat)(v:Int),(DK r c h n kd a hp sv ms)[i]?=some v→Jd ((DK r c h n kd a hp sv ms).map V.int) (i:Int)=some (V.int v):=fun i v e=>iQ (by rw [List.getElem?_map,e];rfl)
  have OK:=Ex 0 r rfl
  have at1:=Ex 1 c rfl
  have at2:=Ex 2 h rfl
  have at3:=Ex 3 n rfl
  have at4:=Ex 4 kd rfl
  have at5:=Ex 5 (Vbcnag.optional sv) rfl
  have at6:=Ex 6 a rfl
  have at7:=Ex 7 hp rfl
  have atm:∀ (i:Nat)(m:Mark),ms[i]?=some m→Jd ((DK r c h n kd a hp sv ms).map V.int) (8 + (i:Nat) * 2)=some (nV m.relay)∧Jd ((DK r c h n kd a hp sv ms).map V.int) (8 + (i:Nat) * 2 + 1)=some (nV m.circuit):=fun i m e=>by
   obtain ⟨h1,h2⟩:=FK e
   have e1:(8:Int) + (i:Nat) * 2=((8 + 2 * i:Nat):Int):=by omega
   have e2:(8:Int) + (i:Nat) * 2 + 1=((8 + (2 * i + 1):Nat):Int):=by omega
   rw [e2,e1]
   have sh:∀j,(DK r c h n kd a hp sv ms)[8 + j]?=(dy ms)[j]?:=fun j=>by
    rw [Nat.add_comm]
    rfl
   exact ⟨Ex _ _ ((sh _).trans h1),Ex _ _ ((sh _).trans h2)⟩
  generalize hns:(DK r c h n kd a hp sv ms).map V.int=xs at *
  obtain ⟨agw,RV,RW⟩:=T.QP
  refine ⟨_,ae (aZ (i:=2) o3.nd rfl (Or.inl rfl) (b0 (aa (aG aN (pv 1) ah (fun _ _=>rfl)) (aa (aG aN (pv 1) ah (fun _ _=>rfl)) af))))
   (ae (aZ (i:=3) o3.nd rfl (Or.inl rfl) (gS hu (ai (pv 0) rfl) (aG aN (pv 1) ah (fun _ _=>rfl)) ⟨rfl,rfl,rfl,rfl⟩))
   (ae (br (cq (Gp hu (pv 2) (ai (pv 0) rfl))) (ak (aL (bb (aa (d7 cG ah) af)))) aY)
   (ae (br (PW.pt (wF (cq (gQ (pv 3))) (pq (aM wJ (aG aN (pv 1) ah (fun _ _=>rfl)) (ai (pv 3) rfl) (aS _))))) (ak (aL (bb (aa (d7 cG ah) af)))) aY)
   (ae (br (rq (aB (DE T) (hr.mono (by decide)) (by rfl) T.zi T.uf.kp T.zj .nil aX (aa (pv 0) af))) (ak (aL (bb (aa (d7 cG ah) af)))) aY)
   (ae (aZ (i:=4) o3.nd rfl (Or.inl rfl) (I0 (aM cU (aG aN (pv 1) ah (fun _ _=>rfl)) (d7 cG ah) (aS _)) eU (aG aN (pv 1) ah (fun _ _=>rfl))))
   (ae (BL (i:=5) (own:= [("at",6)]) rfl o3.nd rfl rfl (Gh rfl rfl rfl (by decide +kernel)) (NO (by rfl) T.qi (aa ah (aa (bc aW (by rfl) T.dN PySem.boot_len (aa (pv 1) af)) (aa ah af)))) (lU (show Gj Mz (ay pG) _ _=true by decide +kernel)) (fun _ _ _ _ _=>eV (i:=6) o3.nd rfl (Or.inl rfl)) (fun _ _ _ _ _=>A1) (fun _ _ _ _ _=>(b0 (aa (aG (Jy K rfl) (pv 1) (pv 6) (fun _ _=>rfl)) (aa (aG (Jy K rfl) (pv 1) (cO eB (pv 6) ah) (fun _ _=>rfl)) af)))))
   (ae (aJ (aB (Dg T) (hr.mono (by decide)) (by rfl) T.Fc T.B6.kp T.Fd .nil aX (aa (pv 0) (aa (mx T.fc (Im T) (hr.mono (by decide)) (by rfl) T.o5 T.fF .nil aX (aa (cO Mi (b0 (aa (aE (by rfl) RV RW) af)) (pv 2)) (aa (aG aN (pv 1) ah (fun _ _=>rfl)) (aa (aG aN (pv 1) ah (fun _ _=>rfl)) (aa (aG aN (pv 1) ah (fun _ _=>rfl)) (aa (pv 4) (aa (aG aN (pv 1) ah (fun _ _=>rfl)) (aa ah (aa (aG aN (pv 1) ah (fun _ _=>rfl)) (aa (EK D1 (by rfl) T.ug PyProof.Rows.boot_tuple (aa (pv 5) af)) af)))))))))) af))))
   (ak (aL (bb (aa ah af))))))))))),?_⟩
  refine ⟨_,rfl,nm,_,_,_,rfl,rfl,hS,OK,_,rfl,nm,_,_,_,rfl,rfl,hS,at1,(by show 2≤sizeLine;decide),fun z hz=> ?_⟩
  have S1:=aj.ao (o:=HO.tup [nV r,nV c]) hz
  have vM:L2.upd H z (HO.tup [nV r,nV c]) z=some (.tup [nV r,nV c]):=ab
  generalize DU:L2.upd H z (HO.tup [V.int (r:Int),V.int (c:Int)])=H1
  have S1:aj H H1:=by rw [←DU];exact S1
  have vM:H1 z=some (.tup [nV r,nV c]):=by rw [←DU];exact vM
  clear DU
  have R1:=R.same S1
  have E3:=S1.seq hS
  have hzk:H1 z=some (.tup ((zK r c).map kV)):=vM
  have DG:=gC.t (S1 _ _ M9) hzk
  rw [IU {relay:=r,circuit:=c}] at DG
  have aqu:∃cv:V,(∃o,gC H1 A.cd (V.int (h:Int)) o∧o.getD .bY=cv)∧((Vbcnag.clientOf W h=none∧cv= .bY)∨∃ca cl d pl be le,Vbcnag.clientOf W h=some cl∧cv= .ref ca∧H1 ca=some (.ins (cs t).C d (wC cl pl be le))):=by
   rcases R1.find h with ⟨hc,DG⟩|⟨i,ca,cl,d,pl,be,le,hc,DX,hi,dt,qQ,dY,DG⟩
   ·exact ⟨_,⟨_,DG,rfl⟩,.inl ⟨hc,rfl⟩⟩
   ·exact ⟨_,⟨_,DG,rfl⟩,.inr ⟨ca,cl,d,pl,be,le,hc,rfl,qQ⟩⟩
  obtain ⟨cv,⟨o,DGc,rfl⟩,hcv⟩:=aqu
  refine ⟨_,rfl,A.w,_,_,_,_,rfl,R1.cV,T.aw,T.aA,rfl,A.cd,rfl,.inl ⟨_,.inl R1.cd⟩,_,rfl,nm,_,_,_,rfl,rfl,E3,at2,_,DGc,?_⟩
  generalize o.getD .bY=cv at *
  refine ⟨_,rfl,_,rfl,A.w,_,_,_,_,rfl,R1.cV,T.aw,T.bN,rfl,A.hd,_,rfl,DG,_,rfl,?_⟩
  have out:∀ (Hk:Hp)(e:Int),aj H Hk→DL W (DK r c h n kd a hp sv ms)=(W,[e])→∀p,Hk p=none→Q (.ref p) (L2.upd Hk p (.lst [V.int e])):=fun Hk e Sk he p hp=>by
   rw [←hf,he] at k
   have S2:=Sk.trans (aj.ao (o:=HO.lst [V.int e]) hp)
   exact k _ cas p (R.same S2) (aj.ek S2) (fun b h=> .inl h) ab (Sk.free hp)
  cases SM:Vbcnag.below W {relay:=r,circuit:=c} with
  |some q=>
   refine bI ?_
   rw [if_pos (by rw [SM];rfl)] at hf
   exact ⟨_,rfl,(by show 1≤sizeLine;decide),out H1 (-2) S1 hf⟩
  |none=>
   have hbn:¬ (Vbcnag.below W {relay:=r,circuit:=c}).isSome=true:=by rw [SM];exact Bool.false_ne_true
   rw [if_neg hbn] at hf k
   refine bQ ?_
   rcases hcv with ⟨hc,rfl⟩|⟨ca,cl,d,pl,be,le,hc,rfl,qQ⟩
   ·rw [if_pos (by rw [hc];rfl)] at hf
    exact ⟨_,rfl,_,rfl,bI (bI ⟨_,rfl,(by show 1≤sizeLine;decide),out H1 (-3) S1 hf⟩)⟩
   ·refine ⟨_,rfl,_,rfl,bQ ?_⟩
    refine ⟨_,rfl,nm,_,_,_,rfl,rfl,E3,at3,_,rfl,ca,_,d,_,_,rfl,qQ,T.aq,T.bw,rfl,_,_,rfl,rfl,_,rfl,?_⟩
    refine eR (fun q=> ?_) fun q=> ?_
    ·have h1:(Vbcnag.clientOf W h).any (fun x=>decide ((n:Int)≤(x.counter:Int)))=false:=by
      rw [hc]
      show decide ((n:Int)≤(cl.counter:Int))=false
      have:=of_decide_eq_true q
      exact decide_eq_false (by omega)
     rw [if_pos h1] at hf
     exact ⟨_,rfl,(by show 1≤sizeLine;decide),out H1 (-3) S1 hf⟩
    have h1:¬ (Vbcnag.clientOf W h).any (fun x=>decide ((n:Int)≤(x.counter:Int)))=false:=by
     rw [hc]
     show ¬decide ((n:Int)≤(cl.counter:Int))=false
     rw [decide_eq_true (by
      have:¬ (cl.counter:Int) < (n:Int):=fun z=>q (decide_eq_true z)
      omega)]
     decide
    rw [if_neg h1] at hf k
    refine ⟨_,rfl,A,cas,W,rfl,R1,wg.bag,_,rfl,?_⟩
    by_cases OV:Vbcnag.full W=true
    ·rw [if_pos OV] at hf
     rw [OV]
     exact bI ⟨_,rfl,(by show 1≤sizeLine;decide),out H1 (-4) S1 hf⟩
    rw [if_neg OV] at k
    rw [Bool.eq_false_iff.mpr OV]
    refine bQ ?_
    have agO:W.bag.length < W.cap:=by
     unfold Vbcnag.full at OV
     simpa using OV
    refine ⟨_,rfl,nm,_,_,_,rfl,rfl,E3,at5,_,rfl,rfl,_,rfl,?_⟩
    cases hq:sv with
    |none=>
     rw [hq] at at5
     refine bI ?_
     refine ⟨_,rfl,nm,xs,rfl,.inl E3,8,_,2,ms.length,rfl,(by rw [hnl];exact rg2 _ hms),fun D hD=> ?_⟩
     refine K0 (n:=ms.length) (fun i H'=>∃as:List Addr,H' D=some (.lst (as.map V.ref))∧Paired (dn H') (ms.take i) (as.map V.ref)∧aj H1 H') ⟨[],ab,.nil,aj.ao hD⟩ (fun i H' hi _=>hi) (fun H' _=>Nat.le_refl _) (fun i x H' H2 hi pd hy=> ?_) (fun H' pd=> ?_)
     ·obtain ⟨as,zQ,hP,Sk⟩:=pd
      obtain ⟨rfl,rfl⟩:=hy
      have hmi:ms[i]?=some ms[i] :=List.getElem?_eq_getElem hi
      obtain ⟨ta,tb⟩:=atm i ms[i] hmi
      generalize ms[i] =mi at *
      have Pg:=Sk.seq E3
      refine ⟨rfl,Dm ?_⟩
      refine ⟨_,rfl,_,rfl,nm,_,_,_,rfl,rfl,Pg,ta,_,rfl,_,rfl,_,_,rfl,rfl,nm,_,_,_,rfl,rfl,Pg,tb,(by show 2≤sizeLine;decide),fun p hp=> ?_⟩
      have Sp:=aj.ao (o:=HO.tup [nV mi.relay,nV mi.circuit]) hp
      have hpp:L2.upd H2 p (HO.tup [nV mi.relay,nV mi.circuit]) p=some (.tup [nV mi.relay,nV mi.circuit]):=ab
      generalize L2.upd H2 p (HO.tup [nV mi.relay,nV mi.circuit])=H3 at *
      have Y4:=Sp _ _ zQ
      have Ts:as.length≤16:=by
       have h1:=Paired.length hP
       rw [List.length_map,List.length_take] at h1
       omega
      refine ⟨_,Y4,(by rw [List.length_map];exact Nat.lt_of_le_of_lt Ts (by decide)),as ++ [p],?_,?_,aj.own (Sk.trans Sp) hD⟩
      ·rw [ab,List.map_append]
       rfl
      ·rw [List.take_add_one,hmi,List.map_append]
       have kD:∀ {b:Addr}{ys:List V},H3 b=some (.tup ys)→L2.upd H3 D (.lst (as.map V.ref ++ [V.ref p])) b=some (.tup ys):=fun {b ys} e=>by
        rw [az (bh e Y4 (fun q=>nomatch q))]
        exact e
       refine Paired.AD (Paired.cN hP fun m v f=> ?_) ⟨p,rfl,kD hpp⟩
       obtain ⟨b,e,hb⟩:=f
       exact ⟨b,e,kD (Sp _ _ hb)⟩
     ·obtain ⟨as,zQ,hP,Sk⟩:=pd
      rw [List.take_length] at hP
      refine ⟨_,rfl,(by show 1≤sizeLine;decide),fun z1 PX=> ?_⟩
      have Sa:=aj.ao (o:=HO.tup [V.int 0]) PX
      have hza:L2.upd H' z1 (HO.tup [V.int 0]) z1=some (.tup [V.int 0]):=ab
      generalize L2.upd H' z1 (HO.tup [V.int 0])=H3 at *
      have S3:=Sk.trans Sa
      refine ⟨_,rfl,z1,z,_,_,rfl,rfl,bO.of hza,bO.of (S3 _ _ vM),(fun q=>nomatch q),(by show 3≤sizeLine;decide),(fun e=>nomatch e),fun _ z2 Y8=> ?_⟩
      have Sb:=aj.ao (o:=HO.tup ([V.int 0] ++ [nV r,nV c])) Y8
      have hzb:L2.upd H3 z2 (HO.tup ([V.int 0] ++ [nV r,nV c])) z2=some (.tup (dj (.up r c))):=ab
      generalize L2.upd H3 z2 (HO.tup ([V.int 0] ++ [nV r,nV c]))=H4 at *
      have S4:=S3.trans Sb
      have Si:=S4.seq E3
      have YM:=Sb _ _ (Sa _ _ zQ)
      refine ⟨_,rfl,nm,_,_,_,rfl,rfl,Si,at2,_,rfl,nm,_,_,_,rfl,rfl,Si,at3,_,rfl,nm,_,_,_,rfl,rfl,Si,at4,_,rfl,_,rfl,nm,_,_,_,rfl,rfl,Si,at6,_,rfl,nm,_,_,_,rfl,rfl,Si,at7,_,rfl,D,_,rfl,.inl ⟨cK.of YM,fun z3 Y9=> ?_⟩⟩
      have Sc:=aj.ao (o:=HO.tup (as.map V.ref)) Y9
      have hzc:L2.upd H4 z3 (HO.tup (as.map V.ref)) z3=some (.tup (as.map V.ref)):=ab
      generalize L2.upd H4 z3 (HO.tup (as.map V.ref))=H5 at *
      intro x dx nx OB ZC
      refine ⟨x,dx,_,_,_,_,_,_,_,_,_,rfl,ab,fun H6 h6 k6=>⟨rfl,?_⟩⟩
      have S6:=aj.made nx OB k6
      have S26:=(Sa.trans Sb).trans (Sc.trans S6)
      have Za:=(S1.trans Sk).trans S26
      refine ⟨A,cas,W,x,Np r c h n kd a hp sv ms,rfl,R.same Za,hb,⟨dx,z2,z3,as.map V.ref,(by show H6 x=some (HO.ins _ _ (mfs _ _ _ _ (oV sv) _ _ _ _));rw [hq];exact h6),S6 _ _ (Sc _ _ hzb),S6 _ _ hzc,bS (aj.keep (C:=cs t) S26) hP⟩,fun H7 R7 F7=> ?_⟩
      rw [sU,if_pos agO] at R7
      exact ⟨(by show 1≤sizeLine;decide),fun p hp=>k _ cas p (Rep.same R7 (aj.ao hp)) (((aj.ek Za).trans F7).trans (aj.ek (aj.ao hp))) (fun b h=> .inl h) ab (R7.lR ((aj.ek Za).trans F7) hp)⟩
    |some x0=>
     rw [hq] at at5
     rw [show decide (V.int (Vbcnag.optional (some x0))=V.int (-1))=false from decide_eq_false (fun z=>by
      injection z with z
      have z':(x0:Int)= -1:=z
      omega)]
     refine bQ ?_
     refine ⟨_,rfl,nm,_,_,_,rfl,rfl,E3,at5,?_⟩
     refine ⟨_,rfl,nm,xs,rfl,.inl E3,8,_,2,ms.length,rfl,(by rw [hnl];exact rg2 _ hms),fun D hD=> ?_⟩
     refine K0 (n:=ms.length) (fun i H'=>∃as:List Addr,H' D=some (.lst (as.map V.ref))∧Paired (dn H') (ms.take i) (as.map V.ref)∧aj H1 H') ⟨[],ab,.nil,aj.ao hD⟩ (fun i H' hi _=>hi) (fun H' _=>Nat.le_refl _) (fun i x H' H2 hi pd hy=> ?_) (fun H' pd=> ?_)
     ·obtain ⟨as,zQ,hP,Sk⟩:=pd
      obtain ⟨rfl,rfl⟩:=hy
      have hmi:ms[i]?=some ms[i] :=List.getElem?_eq_getElem hi
      obtain ⟨ta,tb⟩:=atm i ms[i] hmi
      generalize ms[i] =mi at *
      have Pg:=Sk.seq E3
      refine ⟨rfl,Dm ?_⟩
      refine ⟨_,rfl,_,rfl,nm,_,_,_,rfl,rfl,Pg,ta,_,rfl,_,rfl,_,_,rfl,rfl,nm,_,_,_,rfl,rfl,Pg,tb,(by show 2≤sizeLine;decide),fun p hp=> ?_⟩
      have Sp:=aj.ao (o:=HO.tup [nV mi.relay,nV mi.circuit]) hp
      have hpp:L2.upd H2 p (HO.tup [nV mi.relay,nV mi.circuit]) p=some (.tup [nV mi.relay,nV mi.circuit]):=ab
      generalize L2.upd H2 p (HO.tup [nV mi.relay,nV mi.circuit])=H3 at *
      have Y4:=Sp _ _ zQ
      have Ts:as.length≤16:=by
       have h1:=Paired.length hP
       rw [List.length_map,List.length_take] at h1
       omega
      refine ⟨_,Y4,(by rw [List.length_map];exact Nat.lt_of_le_of_lt Ts (by decide)),as ++ [p],?_,?_,aj.own (Sk.trans Sp) hD⟩
      ·rw [ab,List.map_append]
       rfl
      ·rw [List.take_add_one,hmi,List.map_append]
       have kD:∀ {b:Addr}{ys:List V},H3 b=some (.tup ys)→L2.upd H3 D (.lst (as.map V.ref ++ [V.ref p])) b=some (.tup ys):=fun {b ys} e=>by
        rw [az (bh e Y4 (fun q=>nomatch q))]
        exact e
       refine Paired.AD (Paired.cN hP fun m v f=> ?_) ⟨p,rfl,kD hpp⟩
       obtain ⟨b,e,hb⟩:=f
       exact ⟨b,e,kD (Sp _ _ hb)⟩
     ·obtain ⟨as,zQ,hP,Sk⟩:=pd
      rw [List.take_length] at hP
      refine ⟨_,rfl,(by show 1≤sizeLine;decide),fun z1 PX=> ?_⟩
      have Sa:=aj.ao (o:=HO.tup [V.int 0]) PX
      have hza:L2.upd H' z1 (HO.tup [V.int 0]) z1=some (.tup [V.int 0]):=ab
      generalize L2.upd H' z1 (HO.tup [V.int 0])=H3 at *
      have S3:=Sk.trans Sa
      refine ⟨_,rfl,z1,z,_,_,rfl,rfl,bO.of hza,bO.of (S3 _ _ vM),(fun q=>nomatch q),(by show 3≤sizeLine;decide),(fun e=>nomatch e),fun _ z2 Y8=> ?_⟩
      have Sb:=aj.ao (o:=HO.tup ([V.int 0] ++ [nV r,nV c])) Y8
      have hzb:L2.upd H3 z2 (HO.tup ([V.int 0] ++ [nV r,nV c])) z2=some (.tup (dj (.up r c))):=ab
      generalize L2.upd H3 z2 (HO.tup ([V.int 0] ++ [nV r,nV c]))=H4 at *
      have S4:=S3.trans Sb
      have Si:=S4.seq E3
      have YM:=Sb _ _ (Sa _ _ zQ)
      refine ⟨_,rfl,nm,_,_,_,rfl,rfl,Si,at2,_,rfl,nm,_,_,_,rfl,rfl,Si,at3,_,rfl,nm,_,_,_,rfl,rfl,Si,at4,_,rfl,_,rfl,nm,_,_,_,rfl,rfl,Si,at6,_,rfl,nm,_,_,_,rfl,rfl,Si,at7,_,rfl,D,_,rfl,.inl ⟨cK.of YM,fun z3 Y9=> ?_⟩⟩
      have Sc:=aj.ao (o:=HO.tup (as.map V.ref)) Y9
      have hzc:L2.upd H4 z3 (HO.tup (as.map V.ref)) z3=some (.tup (as.map V.ref)):=ab
      generalize L2.upd H4 z3 (HO.tup (as.map V.ref))=H5 at *
      intro x dx nx OB ZC
      refine ⟨x,dx,_,_,_,_,_,_,_,_,_,rfl,ab,fun H6 h6 k6=>⟨rfl,?_⟩⟩
      have S6:=aj.made nx OB k6
      have S26:=(Sa.trans Sb).trans (Sc.trans S6)
      have Za:=(S1.trans Sk).trans S26
      refine ⟨A,cas,W,x,Np r c h n kd a hp sv ms,rfl,R.same Za,hb,⟨dx,z2,z3,as.map V.ref,(by show H6 x=some (HO.ins _ _ (mfs _ _ _ _ (oV sv) _ _ _ _));rw [hq];exact h6),S6 _ _ (Sc _ _ hzb),S6 _ _ hzc,bS (aj.keep (C:=cs t) S26) hP⟩,fun H7 R7 F7=> ?_⟩
      rw [sU,if_pos agO] at R7
      exact ⟨(by show 1≤sizeLine;decide),fun p hp=>k _ cas p (Rep.same R7 (aj.ao hp)) (((aj.ek Za).trans F7).trans (aj.ek (aj.ao hp))) (fun b h=> .inl h) ab (R7.lR ((aj.ek Za).trans F7) hp)⟩
end
end Rl
namespace Rl
open PySem PySem.Spec PyProof.Rows L2 PyProof.Rows.KTD
def mv:List (Str×Int×Int):= [("servers",1,4),("cap",1,10000),("time",0,1000000000000000),("circuit",0,4095),("limit",1,16),("host",0,281474976710655),("address",0,4294967295),("len",1,1000000000),("x",0,1),("t",0,20000),("m",0,1000),
 ("number",1,1000000000000000000),("kind",1,5),("hops",0,16),("of a pair",0,4095)]
def gh (k:Str):Bool:=decide (k=("server":Str))||decide (k=("server or none":Str))||decide (k=("relay":Str))||decide (k=("k":Str))
def nW (k:Str)(x:Int):Bool:=match mv.lookup k with
 |some (lo,hi)=>Vbcnag.within x lo hi
 |none=>false
def pk (s:Option VW)(k:Str)(x:Int):Bool:=
 match s with
 |some W=>if k=("server":Str) then Vbcnag.isServer W x else if k=("server or none":Str) then Vbcnag.within x (-1) ((W.servers:Int) - 1) else if k=("relay":Str) then Vbcnag.isRelay W x else if k=("k":Str) then Vbcnag.isPlace W x else nW k x
 |none=>nW k x
def wB (s:Option VW)(k:Str):Prop:=(gh k=true∧s.isSome=true)∨(gh k=false∧(mv.lookup k).isSome=true)
section
variable {P:Program}{w:World}{K:PySem.W.Frag}{mg:Str→Option Value}{base:Heap}{t:ke}
theorem Sj (T:Txt K mg t){k:Str}{lo hi:Int}(h:mv.lookup k=some (lo,hi)):∃kvs b,DMS K t.fh kvs∧datumAt k kvs=some (V.ref b)∧∀H,bO K H b [V.int lo,V.int hi] :=by
 unfold mv at h
 simp only [List.lookup] at h
 repeat' split at h
 all_goals first|cases h|skip
 all_goals (rename_i e;have e:=eq_of_beq e;subst e)
 ·exact ⟨_,_,T.dv,rfl,T.Ar⟩
 ·exact ⟨_,_,T.dv,rfl,T.As⟩
 ·exact ⟨_,_,T.dv,rfl,T.Au⟩
 ·exact ⟨_,_,T.dv,rfl,T.Av⟩
 ·exact ⟨_,_,T.dv,rfl,T.Aw⟩
 ·exact ⟨_,_,T.dv,rfl,T.Ax⟩
 ·exact ⟨_,_,T.dv,rfl,T.Ay⟩
 ·exact ⟨_,_,T.dv,rfl,T.Az⟩
 ·exact ⟨_,_,T.dv,rfl,T.AA⟩
 ·exact ⟨_,_,T.dv,rfl,T.xS⟩
 ·exact ⟨_,_,T.dv,rfl,T.xT⟩
 ·exact ⟨_,_,T.dv,rfl,T.xU⟩
 ·exact ⟨_,_,T.dv,rfl,T.xV⟩
 ·exact ⟨_,_,T.dv,rfl,T.xW⟩
 ·exact ⟨_,_,T.dv,rfl,T.xX⟩
theorem uT {x lo hi:Int}:Vbcnag.within x lo (hi - 1)=(decide (lo≤x) && decide (x < hi)):=by
 unfold Vbcnag.within
 rw [show decide (x≤hi - 1)=decide (x < hi) from decide_eq_decide.mpr (by omega)]
theorem yM {a b:Str}:decide (V.str a=V.str b)=decide (a=b):=by
 by_cases h:a=b
 ·rw [h,decide_eq_true rfl,decide_eq_true rfl]
 ·rw [decide_eq_false h,decide_eq_false (fun q=>h (by injection q))]
def OX (C:Cs):Sp:=fun vs H Q _=>∃ (s:Option VW)(A:Ad)(cas:List Addr)(wv:V)(k:Str)(x:Int),vs= [wv,.str k,.int x] ∧zR C H A cas s wv∧wB s k∧Q (.bl (pk s k x)) H
theorem vP (T:Txt K mg t):bH P w K mg base fg 1 t.dH t.kC ka (OX (cs t)):=by
 refine T.kG.ok Ed (fun vs H Q E h=> ?_) (fun dZ A0 outer s H vs Q E hr h=> ?_)
 ·obtain ⟨s,A,cas,wv,k,x,rfl,_⟩:=h
  rfl
 ·obtain ⟨st,A,cas,wv,ky,x,rfl,qW,hn,k⟩:=h
  refine ⟨_,ae (br (aM cU (pv 1) By (aS _)) (ak (aL (rC BE oM ah (pv 2) (ai (pv 0) rfl)))) aY)
   (ae (br (aM cU (pv 1) By (aS _)) (ak (aL (rC BE oM (d7 cG ah) (pv 2) (ai (pv 0) rfl)))) aY)
   (ae (br (aM cU (pv 1) By (aS _)) (ak (aL (rC BE oM ah (pv 2) (bc aW (by rfl) T.dN PySem.boot_len (aa (ai (pv 0) rfl) af))))) aY)
   (ae (br (aM cU (pv 1) By (aS _)) (ak (aL (rC BE oM ah (pv 2) (bc aW (by rfl) T.dN PySem.boot_len (aa (ai (pv 0) rfl) af))))) aY)
   (ak (aL (rC BE BE (aG bq (Jw (aE (v:= .ref t.fh) (by rfl) T.Cz rfl) (pv 1) (fun _ _=>rfl)) ah (fun _ _=>rfl)) (pv 2) (aG bq (Jw (aE (v:= .ref t.fh) (by rfl) T.Cz rfl) (pv 1) (fun _ _=>rfl)) ah (fun _ _=>rfl)))))))),?_⟩
  refine ⟨_,rfl,rfl,_,rfl,?_⟩
  rw [yM]
  by_cases h1:ky=("server":Str)
  ·rcases hn with ⟨_,hs⟩|⟨hs,_⟩
   ·obtain ⟨W,rfl⟩:=Option.isSome_iff_exists.mp hs
    obtain ⟨rfl,R⟩:=qW
    have e:pk (some W) ky x=(decide (0≤x) && decide (x < (W.servers:Int))):=(if_pos h1).trans uT
    rw [e] at k
    rw [decide_eq_true h1]
    refine bI ⟨_,rfl,_,_,rfl,rfl,_,rfl,?_⟩
    by_cases q:(0:Int)≤x
    ·rw [decide_eq_true q,Bool.true_and] at k
     rw [decide_eq_true q]
     exact bI ⟨_,rfl,A.w,_,_,_,_,rfl,R.cV,T.aw,T.bC,rfl,_,_,rfl,rfl,k⟩
    ·rw [decide_eq_false q,Bool.false_and] at k
     rw [decide_eq_false q]
     exact bQ k
   ·rw [h1] at hs
    exact absurd hs (by decide +kernel)
  rw [decide_eq_false h1]
  refine bQ ?_
  refine ⟨_,rfl,rfl,_,rfl,?_⟩
  rw [yM]
  by_cases h2:ky=("server or none":Str)
  ·rcases hn with ⟨_,hs⟩|⟨hs,_⟩
   ·obtain ⟨W,rfl⟩:=Option.isSome_iff_exists.mp hs
    obtain ⟨rfl,R⟩:=qW
    have e:pk (some W) ky x=(decide (-1≤x) && decide (x < (W.servers:Int))):=((if_neg h1).trans (if_pos h2)).trans uT
    rw [e] at k
    rw [decide_eq_true h2]
    refine bI ⟨_,rfl,_,rfl,_,_,rfl,rfl,_,rfl,?_⟩
    by_cases q:(-1:Int)≤x
    ·rw [decide_eq_true q,Bool.true_and] at k
     rw [decide_eq_true q]
     exact bI ⟨_,rfl,A.w,_,_,_,_,rfl,R.cV,T.aw,T.bC,rfl,_,_,rfl,rfl,k⟩
    ·rw [decide_eq_false q,Bool.false_and] at k
     rw [decide_eq_false q]
     exact bQ k
   ·rw [h2] at hs
    exact absurd hs (by decide +kernel)
  rw [decide_eq_false h2]
  refine bQ ?_
  refine ⟨_,rfl,rfl,_,rfl,?_⟩
  rw [yM]
  by_cases h3:ky=("relay":Str)
  ·rcases hn with ⟨_,hs⟩|⟨hs,_⟩
   ·obtain ⟨W,rfl⟩:=Option.isSome_iff_exists.mp hs
    obtain ⟨rfl,R⟩:=qW
    obtain ⟨ras,OS,YW⟩:=R.rl
    have el:(ras.map V.ref).length=W.relays.length:=by rw [List.length_map];exact Paired.length YW
    have e:pk (some W) ky x=(decide (0≤x) && decide (x < ((ras.map V.ref).length:Int))):=(((if_neg h1).trans (if_neg h2)).trans (if_pos h3)).trans (by rw [el];exact uT)
    rw [e] at k
    rw [decide_eq_true h3]
    refine bI ⟨_,rfl,_,_,rfl,rfl,_,rfl,?_⟩
    by_cases q:(0:Int)≤x
    ·rw [decide_eq_true q,Bool.true_and] at k
     rw [decide_eq_true q]
     exact bI ⟨_,rfl,A.w,_,_,_,_,rfl,R.cV,T.aw,T.bx,rfl,A.rl,_,rfl,.inl (cK.of OS),_,_,rfl,rfl,k⟩
    ·rw [decide_eq_false q,Bool.false_and] at k
     rw [decide_eq_false q]
     exact bQ k
   ·rw [h3] at hs
    exact absurd hs (by decide +kernel)
  rw [decide_eq_false h3]
  refine bQ ?_
  refine ⟨_,rfl,rfl,_,rfl,?_⟩
  rw [yM]
  by_cases h4:ky=("k":Str)
  ·rcases hn with ⟨_,hs⟩|⟨hs,_⟩
   ·obtain ⟨W,rfl⟩:=Option.isSome_iff_exists.mp hs
    obtain ⟨rfl,R⟩:=qW
    obtain ⟨bas,rm,yP⟩:=R.bg
    have el:=JY yP
    have e:pk (some W) ky x=(decide (0≤x) && decide (x < ((bas.map V.ref).length:Int))):=((((if_neg h1).trans (if_neg h2)).trans (if_neg h3)).trans (if_pos h4)).trans (by rw [el];exact uT)
    rw [e] at k
    rw [decide_eq_true h4]
    refine bI ⟨_,rfl,_,_,rfl,rfl,_,rfl,?_⟩
    by_cases q:(0:Int)≤x
    ·rw [decide_eq_true q,Bool.true_and] at k
     rw [decide_eq_true q]
     exact bI ⟨_,rfl,A.w,_,_,_,_,rfl,R.cV,T.aw,T.bo,rfl,A.bg,_,rfl,.inl (cK.of rm),_,_,rfl,rfl,k⟩
    ·rw [decide_eq_false q,Bool.false_and] at k
     rw [decide_eq_false q]
     exact bQ k
   ·rw [h4] at hs
    exact absurd hs (by decide +kernel)
  rw [decide_eq_false h4]
  refine bQ ?_
  have hof:gh ky=false:=by
   unfold gh
   rw [decide_eq_false h1,decide_eq_false h2,decide_eq_false h3,decide_eq_false h4]
   rfl
  rcases hn with ⟨hs,_⟩|⟨_,hs⟩
  ·rw [hof] at hs
   cases hs
  obtain ⟨⟨lo,hi⟩,hl⟩:=Option.isSome_iff_exists.mp hs
  obtain ⟨kvs,b,hD,hda,hT⟩:=Sj T hl
  have hir:nW ky x=(decide (lo≤x) && decide (x≤hi)):=by
   unfold nW
   rw [hl]
   rfl
  have e:pk st ky x=(decide (lo≤x) && decide (x≤hi)):=by
   cases st with
   |none=>exact hir
   |some W=>exact ((((if_neg h1).trans (if_neg h2)).trans (if_neg h3)).trans (if_neg h4)).trans hir
  rw [e] at k
  refine ⟨_,rfl,t.fh,kvs,ky,_,rfl,rfl,hD,hda,b,_,_,_,rfl,rfl,hT H,rfl,_,rfl,_,_,rfl,rfl,_,rfl,?_⟩
  by_cases q:lo≤x
  ·rw [decide_eq_true q,Bool.true_and] at k
   rw [decide_eq_true q]
   exact bI ⟨_,rfl,t.fh,kvs,ky,_,rfl,rfl,hD,hda,b,_,_,_,rfl,rfl,hT H,rfl,_,_,rfl,rfl,k⟩
  ·rw [decide_eq_false q,Bool.false_and] at k
   rw [decide_eq_false q]
   exact bQ k
end
end Rl
namespace Rl
open PySem PySem.Spec PyProof.Rows L2 PyProof.Rows.KTD
theorem zR.same {C:Cs}{H H':Hp}{A:Ad}{cas:List Addr}{s:Option VW}{v:V}(h:zR C H A cas s v)(S:aj H H'):zR C H' A cas s v:=by
 cases s with
 |none=>exact h
 |some W=>exact ⟨h.1,h.2.same S⟩
def pairsOk (ms:List Int):Bool:=decide (ms.length % 2=0) && (decide (ms.length≤32) && ms.all Vbcnag.isCircuit)
theorem yN (x:Int):nW ("of a pair":Str) x=Vbcnag.isCircuit x:=by
 unfold nW
 rw [show mv.lookup ("of a pair":Str)=some (0,4095) by decide +kernel]
 rfl
theorem Sl (s:Option VW)(x:Int):pk s ("of a pair":Str) x=Vbcnag.isCircuit x:=by
 cases s with
 |none=>exact yN x
 |some W=>
  unfold pk
  dsimp only
  rw [if_neg (by decide +kernel),if_neg (by decide +kernel),if_neg (by decide +kernel),if_neg (by decide +kernel)]
  exact yN x
theorem OY (s:Option VW):wB s ("of a pair":Str):= .inr ⟨by decide +kernel,by decide +kernel⟩
section
variable {P:Program}{w:World}{K:PySem.W.Frag}{mg:Str→Option Value}{base:Heap}{t:ke}
def LZ (K:PySem.W.Frag)(C:Cs):Sp:=fun vs H Q _=>∃ (s:Option VW)(A:Ad)(cas:List Addr)(wv:V)(p:Addr)(ms:List Int),vs= [wv,.ref p] ∧zR C H A cas s wv∧cK K H p (ms.map V.int)∧
 ∀H',aj H H'→Q (.bl (pairsOk ms)) H'
theorem IM (T:Txt K mg t):bH P w K mg base fg 2 t.eh t.mV mL (LZ K (cs t)):=by
 refine T.sE.ok pI (fun vs H Q E h=> ?_) (fun dZ A0 outer s H vs Q E hr h=> ?_)
 ·obtain ⟨s,A,cas,wv,p,ms,rfl,_⟩:=h
  rfl
 ·obtain ⟨st,A,cas,wv,p,ms,rfl,qW,hS,k⟩:=h
  obtain ⟨Sm,DN,DO⟩:=T.sI
  refine ⟨_,ae (br (PW.pt (wF (aM BD (cO Py (bc aW (by rfl) T.dN PySem.boot_len (aa (pv 1) af)) ah) ah (aS _)) (pq (aM wJ (bc aW (by rfl) T.dN PySem.boot_len (aa (pv 1) af)) (aE (by rfl) DN DO) (aS _))))) (ak (aL L9)) aY)
   (ak (aL (bc (Wa rfl) (by rfl) T.Fp PyProof.Rows.boot_all (aa (Mo (own:= [("number",2)]) rfl pI.nd (tG (pv 1)) (lU (show Gj Af (ay fC) _ _=true by decide +kernel)) (fun _ _ _ _ _=>eV (i:=2) pI.nd rfl (Or.inl rfl)) (fun _ _ _ _ _=>A1) (fun _ _ _ _ _=>(aB (vP T) (hr.mono (by decide)) (by rfl) T.qf T.kG.kp T.qg .nil aX (aa (pv 0) (aa By (aa (pv 2) af)))))) af)))),?_⟩
  refine ⟨_,rfl,p,_,rfl,.inl hS,_,_,rfl,rfl,(by show (0:Int) < 2;decide),rfl,_,rfl,?_⟩
  have hl:(ms.map V.int).length=ms.length:=List.length_map ..
  by_cases h1:ms.length % 2=0
  ·rw [show decide (V.int (((ms.map V.int).length:Int) % 2)=V.int 0)=true from decide_eq_true (by
    rw [hl]
    congr 1
    omega)]
   refine bQ ?_
   refine ⟨_,rfl,p,_,rfl,.inl hS,_,_,rfl,rfl,_,rfl,?_⟩
   rw [hl]
   by_cases h2:ms.length≤32
   ·rw [decide_eq_false (show ¬ (32:Int) < (ms.length:Int) by omega)]
    refine bQ ?_
    have e:pairsOk ms=(ms.map Vbcnag.isCircuit).all id:=by
     unfold pairsOk
     rw [decide_eq_true h1,decide_eq_true h2,Bool.true_and,Bool.true_and,List.all_map]
     rfl
    rw [e] at k
    refine ⟨_,rfl,p,rfl,⟨_,hS⟩,fun D hD=> ?_⟩
    refine Gi (K:=K) (a:=p) (xs:=ms.map V.int) (fun i H'=>H' D=some (.lst (((ms.take i).map Vbcnag.isCircuit).map V.bl))∧aj H H') ⟨ab,aj.ao hD⟩ (fun i H' _ pd=>pd.2.seq hS) (fun i x H' hx pd=> ?_) (fun H' pd=> ?_)
    ·obtain ⟨zQ,S⟩:=pd
     rw [List.getElem?_map] at hx
     obtain ⟨y,hy,rfl⟩:∃y,ms[i]?=some y∧x=V.int y:=by
      cases q:ms[i]? with
      |none=>rw [q] at hx;cases hx
      |some y=>rw [q] at hx;exact ⟨y,rfl,(Option.some.inj hx).symm⟩
     refine ⟨rfl,Dm ?_⟩
     refine ⟨_,rfl,_,rfl,st,A,cas,wv,("of a pair":Str),y,rfl,qW.same S,OY st,?_⟩
     refine ⟨_,zQ,?_,?_,aj.own S hD⟩
     ·rw [List.length_map,List.length_map,List.length_take]
      exact Nat.lt_of_le_of_lt (show _≤32 by omega) (by decide)
     ·rw [ab,List.take_add_one,hy,Sl,List.map_append,List.map_append]
      rfl
    ·obtain ⟨zQ,S⟩:=pd
     rw [hl,List.take_length] at zQ
     exact ⟨D,_,rfl,cK.of zQ,k H' S⟩
   ·rw [decide_eq_true (show (32:Int) < (ms.length:Int) by omega)]
    refine bI ?_
    have e:pairsOk ms=false:=by
     unfold pairsOk
     rw [decide_eq_false h2,Bool.false_and,Bool.and_false]
    rw [e] at k
    exact k H (aj.refl H)
  ·rw [show decide (V.int (((ms.map V.int).length:Int) % 2)=V.int 0)=false from decide_eq_false (fun z=>h1 (by
    injection z with z
    rw [hl] at z
    omega))]
   refine bI (bI ?_)
   have e:pairsOk ms=false:=by
    unfold pairsOk
    rw [decide_eq_false h1,Bool.false_and]
   rw [e] at k
   exact k H (aj.refl H)
def cD (s:Option VW):List Str→List Int→Bool
 |k::ks,x::xs=>pk s k x && cD s ks xs
 |_,_=>true
theorem DP {s:Option VW}:∀ {ks:List Str}{xs:List Int}{i:Nat}{k:Str}{x:Int},ks[i]?=some k→xs[i]?=some x→cD s (ks.take i) xs=true→pk s k x=true→cD s (ks.take (i + 1)) xs=true
 | [],_,_,_,_,h,_,_,_=>by simp at h
 |a::ks,[],_,_,_,_,h,_,_=>by simp at h
 |a::ks,b::xs,0,k,x,h1,h2,_,h4=>by
  have e1:a=k:=Option.some.inj h1
  have e2:b=x:=Option.some.inj h2
  subst e1 e2
  show (pk s a b && cD s [] xs)=true
  rw [h4]
  cases xs <;>rfl
 |a::ks,b::xs,i + 1,k,x,h1,h2,h3,h4=>by
  have h3':(pk s a b && cD s (ks.take i) xs)=true:=h3
  rw [Bool.and_eq_true] at h3'
  show (pk s a b && cD s (ks.take (i + 1)) xs)=true
  rw [h3'.1,DP (i:=i) h1 h2 h3'.2 h4]
  rfl
theorem DQ {s:Option VW}:∀ {ks:List Str}{xs:List Int}{i:Nat}{k:Str}{x:Int},ks[i]?=some k→xs[i]?=some x→pk s k x=false→cD s ks xs=false
 | [],_,_,_,_,h,_,_=>by simp at h
 |a::ks,[],_,_,_,_,h,_=>by simp at h
 |a::ks,b::xs,0,k,x,h1,h2,h4=>by
  have e1:a=k:=Option.some.inj h1
  have e2:b=x:=Option.some.inj h2
  subst e1 e2
  show (pk s a b && _)=false
  rw [h4,Bool.false_and]
 |a::ks,b::xs,i + 1,k,x,h1,h2,h4=>by
  show (pk s a b && cD s ks xs)=false
  rw [DQ (i:=i) (ks:=ks) (xs:=xs) h1 h2 h4,Bool.and_false]
def IP (K:PySem.W.Frag)(t:ke):Sp:=fun vs H Q _=>∃ (s:Option VW)(A:Ad)(cas:List Addr)(wv:V)(pl:Int)(nm:Addr)(ns:List Int)(kvs:List (Int×V))(b:Addr)(names:List Str),vs= [wv,.int pl,.ref nm] ∧zR (cs t) H A cas s wv∧cK K H nm (ns.map V.int)∧
 DM K t.dg kvs∧dz kvs pl=some (.ref b)∧(∀H,bO K H b (names.map V.str))∧names.length≤ns.length∧(∀k∈names,wB s k)∧
 ∀H',aj H H'→Q (.bl (cD s names ns && pairsOk (ns.drop names.length))) H'
theorem DR (T:Txt K mg t):bH P w K mg base fg 3 t.c7 t.i5 iW (IP K t):=by
 refine T.oj.ok lY (fun vs H Q E h=> ?_) (fun dZ A0 outer s H vs Q E hr h=> ?_)
 ·obtain ⟨s,A,cas,wv,pl,nm,ns,kvs,b,names,rfl,_⟩:=h
  rfl
 ·obtain ⟨st,A,cas,wv,pl,nm,ns,kvs,b,names,rfl,qW,hS,hD,hv,hb,hle,UY,k⟩:=h
  refine ⟨_,ae (BB PassesOwn.never rfl (TC (by rfl) T.Fs (aa (Gu (aE (v:= .ref t.dg) (by rfl) T.zo rfl) (pv 1) (fun _ _=>rfl)) (aa (pv 2) af))) (Kt rfl (oK (eV (i:=3) lY.nd rfl (Or.inl rfl)) (oK (eV (i:=4) lY.nd rfl (Or.inl rfl)) FR))) (ak (br (Pq (rq (aB (vP T) (hr.mono (by decide)) (by rfl) T.qf T.kG.kp T.qg .nil aX (aa (pv 0) (aa (pv 3) (aa (pv 4) af)))))) (ak (aL L9)) aY)))
   (ak (aL (aB (IM T) (hr.mono (by decide)) (by rfl) T.Ap T.sE.kp T.Aq .nil aX (aa (pv 0) (aa (wM FZ (pv 2) (wL (bc aW (by rfl) T.dN PySem.boot_len (aa (Gu (aE (v:= .ref t.dg) (by rfl) T.zo rfl) (pv 1) (fun _ _=>rfl)) af))) FU) af))))),?_⟩
  refine ⟨_,rfl,t.dg,kvs,pl,_,rfl,rfl,hD,hv,_,rfl,b,nm,_,_,rfl,hb H,hS,?_⟩
  refine Tz (n:=names.length) (fun i σ Hk=>∃v3 v4,σ= [some wv,some (V.int pl),some (V.ref nm),v3,v4] ∧cD st (names.take i) ns=true∧aj H Hk) ⟨none,none,rfl,by cases ns <;>rfl,aj.refl H⟩ (fun i σ Hk hi hk=> ?_) (fun σ Hk hk=> ?_) (fun i x σ Hk H2 hi hk hy=> ?_) (fun σ Hk hk=> ?_)
  ·obtain ⟨v3,v4,_,_,S⟩:=hk
   have h1:names[i]?=some names[i] :=List.getElem?_eq_getElem hi
   have h2:ns[i]?=some ns[i] :=List.getElem?_eq_getElem (by omega)
   exact ⟨_,_,_,_,hb Hk,S.seq hS,(by rw [List.getElem?_map,h1];rfl),(by rw [List.getElem?_map,h2];rfl)⟩
  ·obtain ⟨v3,v4,_,_,S⟩:=hk
   exact ⟨_,_,hb Hk,S.seq hS,.inl (by rw [List.length_map];exact Nat.le_refl _)⟩
  ·obtain ⟨v3,v4,rfl,gk,S⟩:=hk
   obtain ⟨T0,a,c,rfl,hT0,rfl,ha,hc⟩:=hy
   have h1:names[i]?=some names[i] :=List.getElem?_eq_getElem hi
   have h2:ns[i]?=some ns[i] :=List.getElem?_eq_getElem (by omega)
   have ha:=ha _ (hb Hk)
   have hc:=hc _ (S.seq hS)
   rw [List.getElem?_map,h1] at ha
   rw [List.getElem?_map,h2] at hc
   have ea:V.str names[i] =a:=Option.some.inj ha
   have ec:V.int ns[i] =c:=Option.some.inj hc
   subst ea ec
   have hnk:=UY _ (List.mem_of_getElem? h1)
   generalize names[i] =ky at *
   generalize ns[i] =y at *
   have S2:=S.trans (aj.ao (o:=HO.tup [V.str ky,V.int y]) hT0)
   refine ⟨T0,_,rfl,bO.of ab,rfl,_,_,rfl,_,_,rfl,rfl,?_⟩
   refine ⟨_,rfl,_,rfl,_,rfl,st,A,cas,wv,ky,y,rfl,qW.same S2,hnk,_,rfl,?_⟩
   cases cw:pk st ky y with
   |true=>
    refine bQ ⟨some (V.str ky),some (V.int y),rfl,DP h1 h2 gk cw,S2⟩
   |false=>
    refine bI ?_
    have e:=DQ (s:=st) h1 h2 cw
    rw [e,Bool.false_and] at k
    exact k _ S2
  ·obtain ⟨v3,v4,rfl,gk,S⟩:=hk
   rw [List.take_length] at gk
   rw [gk,Bool.true_and] at k
   refine ⟨_,rfl,_,rfl,_,rfl,t.dg,kvs,pl,_,rfl,rfl,hD,hv,b,_,rfl,.inr (hb Hk),_,rfl,nm,_,rfl,S.seq hS,fun p hp=> ?_⟩
   have ec:vS (ns.map V.int) (some (((names.map V.str).length:Nat):Int)) none=(ns.drop names.length).map V.int:=by
    rw [DD (by rw [List.length_map,List.length_map];exact hle),List.map_drop,List.length_map]
   rw [ec]
   have Sp:=aj.ao (o:=HO.lst ((ns.drop names.length).map V.int)) hp
   exact ⟨st,A,cas,wv,p,ns.drop names.length,rfl,(qW.same S).same Sp,cK.of ab,fun H' S'=>k H' ((S.trans Sp).trans S')⟩
end
end Rl
namespace Rl
open PySem PySem.Spec PyProof.Rows L2 PyProof.Rows.KTD
open Vbcnag (Mark Msg Under Offer Lease Client Relay Assigned Written)
section
variable {P:Program}{w:World}{K:PySem.W.Frag}{mg:Str→Option Value}{base:Heap}{t:ke}
def Nq (K:PySem.W.Frag)(t:ke):Addr→Sp→Prop:=fun a sp=>
 (a=t.cy∧sp=bz LN Dr K (cs t))∨(a=t.iI∧sp=bz Rw FC K (cs t))∨(a=t.eJ∧sp=bz g1 uM K (cs t))∨(a=t.dP∧sp=bz g1 YO K (cs t))∨(a=t.cR∧sp=bz g1 OH K (cs t))∨
 (a=t.eK∧sp=bz g1 uN K (cs t))∨(a=t.f_assign∧sp=bz Iw uP K (cs t))∨(a=t.cS∧sp=bz zO uQ K (cs t))∨(a=t.iJ∧sp=bz Rq M6 K (cs t))∨(a=t.iK∧sp=bz Rm M4 K (cs t))∨
 (a=t.dQ∧sp=bz DJ yL K (cs t))∨(a=t.iL∧sp=bz gK Nk K (cs t))∨(a=t.eM∧sp=bz gK Bt K (cs t))∨(a=t.iM∧sp=bz Sg Nn K (cs t))∨(a=t.f7∧sp=bz LY DL K (cs t))∨
 (a=t.bU∧sp=bz g1 yJ K (cs t))∨(a=t.bJ∧sp=bz DH yK K (cs t))∨(a=t.iN∧sp=bz gK Nl K (cs t))∨(a=t.cz∧sp=bz Se Nm K (cs t))∨(a=t.cA∧sp=bz g0 Sf K (cs t))∨
 (a=t.cf∧sp=bz g0 fState K (cs t))
theorem gok {X:Cx}(T:Txt K mg t)(hK:X.K=K)(hm:X.mg=mg):GOk X fg 12 (Nq K t):=by
 subst hK hm
 constructor
 intro f sp h
 rcases h with h|h|h|h|h|h|h|h|h|h|h|h|h|h|h|h|h|h|h|h|h <;>obtain ⟨rfl,rfl⟩:=h
 ·exact ⟨_,_,(IA T).mono (by decide),T.Am,T.sy.kp⟩
 ·exact ⟨_,_,(Uq T).mono (by decide),T.QD,T.Lf.kp⟩
 ·exact ⟨_,_,(OG T).mono (by decide),T.JK,T.Cj.kp⟩
 ·exact ⟨_,_,(LK T).mono (by decide),T.Fi,T.zh.kp⟩
 ·exact ⟨_,_,(J7 T).mono (by decide),T.Ck,T.vX.kp⟩
 ·exact ⟨_,_,(OI T).mono (by decide),T.JL,T.Cm.kp⟩
 ·exact ⟨_,_,(OJ T).mono (by decide),T.JM,T.Cn.kp⟩
 ·exact ⟨_,_,(Ka T).mono (by decide),T.Co,T.vY.kp⟩
 ·exact ⟨_,_,(Uo T).mono (by decide),T.QH,T.Li.kp⟩
 ·exact ⟨_,_,(Ul T).mono (by decide),T.QI,T.Lj.kp⟩
 ·exact ⟨_,_,(LX T).mono (by decide),T.Fj,T.zk.kp⟩
 ·exact ⟨_,_,(UH T).mono (by decide),T.QJ,T.Lk.kp⟩
 ·exact ⟨_,_,(OU T).mono (by decide),T.JN,T.Cp.kp⟩
 ·exact ⟨_,_,(UJ T).mono (by decide),T.QL,T.Ll.kp⟩
 ·exact ⟨_,_,(Sh T).mono (by decide),T.MJ,T.Hf.kp⟩
 ·exact ⟨_,_,(DF T).mono (by decide),T.vd,T.oh.kp⟩
 ·exact ⟨_,_,(AY T).mono (by decide),T.sA,T.l5.kp⟩
 ·exact ⟨_,_,(UI T).mono (by decide),T.QM,T.Lm.kp⟩
 ·exact ⟨_,_,(IK T).mono (by decide),T.An,T.sC.kp⟩
 ·exact ⟨_,_,(IL T).mono (by decide),T.Ao,T.sD.kp⟩
 ·exact ⟨_,_,(Ew T).mono (by decide),T.xQ,T.qe.kp⟩
def agS (K:PySem.W.Frag)(t:ke):Sp:=fun vs H Q E=>∃ (wv:V)(p:Int)(nm a:Addr)(kvs:List (Int×V))(g:VW→List Int→Prop)(f:VW→List Int→VW×List Int),vs= [wv,.int p,.ref nm] ∧DM K t.gy kvs∧dz kvs p=some (.ref a)∧Nq K t a (bz g f K (cs t))∧bz g f K (cs t) [wv,.ref nm] H Q E
theorem OZ (T:Txt K mg t):bH P w K mg base fg 13 t.hU t.xt xh (agS K t):=by
 refine T.Cr.ok Oh (fun vs H Q E h=> ?_) (fun dZ A0 outer s H vs Q E hr h=> ?_)
 ·obtain ⟨wv,p,nm,a,kvs,g,f,rfl,_⟩:=h
  rfl
 ·obtain ⟨wv,p,nm,a,kvs,g,f,rfl,hD,hv,hG,Pc⟩:=h
  refine ⟨_,ak (aL (Qb (gok T rfl rfl) (hr.mono (by decide)) aX (Gu (aE (v:= .ref t.gy) (by rfl) T.MN rfl) (pv 1) (fun _ _=>rfl)) (aa (pv 0) (aa (pv 2) af)))),?_⟩
  exact ⟨_,rfl,t.gy,kvs,p,_,rfl,rfl,hD,hv,a,_,rfl,hG,_,rfl,_,rfl,Pc⟩
end
end Rl
namespace Rl
open PySem PySem.Spec PyProof.Rows L2 PyProof.Rows.KTD
open Vbcnag (Mark Msg Under Offer Lease Client Relay Assigned Written)
theorem eu {s:Option VW}{k:Str}{lo hi:Int}(h:gh k=false)(hl:mv.lookup k=some (lo,hi))(x:Int):pk s k x=Vbcnag.within x lo hi:=by
 have hir:nW k x=Vbcnag.within x lo hi:=by
  unfold nW
  rw [hl]
 unfold gh at h
 simp only [Bool.or_eq_false_iff,decide_eq_false_iff_not] at h
 obtain ⟨⟨⟨h1,h2⟩,h3⟩,h4⟩:=h
 cases s with
 |none=>exact hir
 |some W=>exact ((((if_neg h1).trans (if_neg h2)).trans (if_neg h3)).trans (if_neg h4)).trans hir
section
variable {s:Option VW}{W:VW}(x:Int)
theorem O0:pk s ("servers":Str) x=Vbcnag.within x 1 4:=eu (by decide +kernel) (by decide +kernel) x
theorem agT:pk s ("cap":Str) x=Vbcnag.within x 1 10000:=eu (by decide +kernel) (by decide +kernel) x
theorem Zb:pk s ("time":Str) x=Vbcnag.within x 0 Vbcnag.TIMES:=eu (by decide +kernel) (by decide +kernel) x
theorem uV:pk s ("circuit":Str) x=Vbcnag.isCircuit x:=eu (by decide +kernel) (by decide +kernel) x
theorem UK:pk s ("limit":Str) x=Vbcnag.within x 1 16:=eu (by decide +kernel) (by decide +kernel) x
theorem oI:pk s ("host":Str) x=Vbcnag.isHost x:=eu (by decide +kernel) (by decide +kernel) x
theorem FL:pk s ("address":Str) x=Vbcnag.within x 0 (Vbcnag.ADDRS - 1):=eu (by decide +kernel) (by decide +kernel) x
theorem agU:pk s ("len":Str) x=Vbcnag.within x 1 1000000000:=eu (by decide +kernel) (by decide +kernel) x
theorem o_x:pk s ("x":Str) x=Vbcnag.within x 0 1:=eu (by decide +kernel) (by decide +kernel) x
theorem o_t:pk s ("t":Str) x=Vbcnag.within x 0 20000:=eu (by decide +kernel) (by decide +kernel) x
theorem o_m:pk s ("m":Str) x=Vbcnag.within x 0 1000:=eu (by decide +kernel) (by decide +kernel) x
theorem Sn:pk s ("number":Str) x=Vbcnag.within x 1 1000000000000000000:=eu (by decide +kernel) (by decide +kernel) x
theorem Zc:pk s ("kind":Str) x=Vbcnag.within x 1 5:=eu (by decide +kernel) (by decide +kernel) x
theorem Zd:pk s ("hops":Str) x=Vbcnag.within x 0 16:=eu (by decide +kernel) (by decide +kernel) x
theorem yO:pk (some W) ("server":Str) x=Vbcnag.isServer W x:=by
 unfold pk
 dsimp only
 rw [if_pos rfl]
theorem aqz:pk (some W) ("server or none":Str) x=Vbcnag.within x (-1) ((W.servers:Int) - 1):=by
 unfold pk
 dsimp only
 rw [if_neg (by decide +kernel),if_pos rfl]
theorem uW:pk (some W) ("relay":Str) x=Vbcnag.isRelay W x:=by
 unfold pk
 dsimp only
 rw [if_neg (by decide +kernel),if_neg (by decide +kernel),if_pos rfl]
theorem o_k:pk (some W) ("k":Str) x=Vbcnag.isPlace W x:=by
 unfold pk
 dsimp only
 rw [if_neg (by decide +kernel),if_neg (by decide +kernel),if_neg (by decide +kernel),if_pos rfl]
end
theorem DS (s:Option VW){k:Str}(h:(gh k=false∧(mv.lookup k).isSome=true)):wB s k:= .inr h
theorem nameOf (W:VW){k:Str}(h:gh k=true):wB (some W) k:= .inl ⟨h,rfl⟩
theorem Kk (W:VW){l:List Str}(h:(l.all fun k=>gh k||(mv.lookup k).isSome)=true):∀k∈l,wB (some W) k:=fun k hk=>by
 have:=List.all_eq_true.mp h k hk
 cases q:gh k with
 |true=>exact nameOf W q
 |false=>
  rw [q,Bool.false_or] at this
  exact DS _ ⟨q,this⟩
theorem bW {s:Option VW}(xs:List Int):cD s [] xs=true:=by cases xs <;>rfl
theorem aF {s:Option VW}(k:Str)(ks:List Str)(x:Int)(xs:List Int):cD s (k::ks) (x::xs)=(pk s k x && cD s ks xs):=rfl
theorem bE:pairsOk [] =true:=rfl
theorem aU {x lo hi:Int}(h:Vbcnag.within x lo hi=true)(h0:0≤lo):∃n:Nat,x=(n:Int):=⟨x.toNat,by have:=bR.mp h;omega⟩
theorem Kl:∀ (n:Nat)(l:List Int),l.length≤2 * n→l.length % 2=0→(∀x∈l,0≤x)→dy (Vbcnag.marksIn l)=l
 |_,[],_,_,_=>rfl
 |_,[x],_,h,_=>by simp at h
 |0,x::y::l,h,_,_=>by simp at h
 |n + 1,x::y::l,h,he,h0=>by
  have h1:=h0 x (List.mem_cons_self ..)
  have h2:=h0 y (List.mem_cons_of_mem _ (List.mem_cons_self ..))
  have ih:=Kl n l (by simp only [List.length_cons] at h;omega) (by simp only [List.length_cons] at he;omega) fun z hz=>h0 z (List.mem_cons_of_mem _ (List.mem_cons_of_mem _ hz))
  show ((x.toNat:Nat):Int)::((y.toNat:Nat):Int)::dy (Vbcnag.marksIn l)=_
  rw [ih,Int.toNat_of_nonneg h1,Int.toNat_of_nonneg h2]
section
variable {K:PySem.W.Frag}{mg:Str→Option Value}{t:ke}
structure Plan (K:PySem.W.Frag) (t:ke) (W:VW) (p:Int) (ns:List Int) (names:List Str) (b a:Addr) (g:VW→List Int→Prop) (f:VW→List Int→VW×List Int):Prop where
 num:∃kvs,DM K t.dg kvs∧dz kvs p=some (.ref b)
 at_:∀H,bO K H b (names.map V.str)
 call:∃kvs,DM K t.gy kvs∧dz kvs p=some (.ref a)
 g_:Nq K t a (bz g f K (cs t))
 len:names.length≤ns.length
 ok:∀k∈names,wB (some W) k
 no:(cD (some W) names ns && pairsOk (ns.drop names.length))=false→di (some W) (p,ns)=(some W,[-1])
 yes:(cD (some W) names ns && pairsOk (ns.drop names.length))=true→g W ns∧di (some W) (p,ns)=(some (f W ns).1,(f W ns).2)
theorem VB {W:VW}{c:Vbcnag.Call}{p:Int}{ns:List Int}(hs:di (some W) (p,ns)=(some (Vbcnag.inWorld W c).1,(Vbcnag.inWorld W c).2))(h:Vbcnag.inWorld W c=(W,[-1])):di (some W) (p,ns)=(some W,[-1]):=by
 rw [hs,h]
theorem uX {W:VW}{k:Int}(h:Vbcnag.isPlace W k=true):∃n:Nat,k=(n:Int)∧n < W.bag.length:=by
 obtain ⟨h1,h2⟩:=bR.mp h
 exact ⟨k.toNat,by omega,by omega⟩
theorem eQ {W:VW}{p:Int}{ns:List Int}{names:List Str}{b a:Addr}{g:VW→List Int→Prop}{f:VW→List Int→VW×List Int}(c:Vbcnag.Call)(gd:Bool)(T:Txt K mg t)(n_:∃kvs,DM K t.dg kvs∧dz kvs p=some (.ref b))(at_:∀H,bO K H b (names.map V.str))(c_:∃kvs,DM K t.gy kvs∧dz kvs p=some (.ref a))(g_:Nq K t a (bz g f K (cs t)))
  (l_:names.length≤ns.length)(o_:(names.all fun k=>gh k||(mv.lookup k).isSome)=true)(hk:(cD (some W) names ns && pairsOk (ns.drop names.length))=gd)(hs:di (some W) (p,ns)=(some (Vbcnag.inWorld W c).1,(Vbcnag.inWorld W c).2))
  (hn:gd=false→Vbcnag.inWorld W c=(W,[-1]))(hy:gd=true→g W ns∧Vbcnag.inWorld W c=f W ns):Plan K t W p ns names b a g f:=
 ⟨n_,at_,c_,g_,l_,Kk W o_,fun e=>VB hs (hn (hk.symm.trans e)),fun e=>⟨(hy (hk.symm.trans e)).1,by rw [hs,(hy (hk.symm.trans e)).2]⟩⟩
theorem L0 (T:Txt K mg t)(W:VW)(p c l:Int):Plan K t W 1 [p,c,l] ["relay","circuit","limit"] t.i7 t.cy LN Dr:=
 eQ (.relay p c l) (Vbcnag.isRelay W p && (Vbcnag.isCircuit c && (Vbcnag.within l 1 16))) T ⟨_,T.bF,rfl⟩ T.vm ⟨_,T.cM,rfl⟩ (.inl ⟨rfl,rfl⟩) (Nat.le_refl _) (by decide +kernel) (by
  show (cD _ _ _ && pairsOk [])=_
  rw [bE,aF,aF,aF,bW,uW,uV,UK,Bool.and_true,Bool.and_true]) rfl (fun e=>if_pos e) fun e=>by
  have q:=e
  rw [Bool.and_eq_true,Bool.and_eq_true] at q
  obtain ⟨q0,q1,q2⟩:=q
  obtain ⟨p',rfl⟩:=aU q0 (by decide)
  obtain ⟨c',rfl⟩:=aU q1 (by decide)
  obtain ⟨l',rfl⟩:=aU q2 (by decide)
  exact ⟨⟨p',c',l',rfl,e⟩,rfl⟩
theorem O1 (T:Txt K mg t)(W:VW)(h r c:Int):Plan K t W 2 [h,r,c] ["host","relay","circuit"] t.i8 t.iI Rw FC:=
 eQ (.plug h r c) (Vbcnag.isHost h && (Vbcnag.isRelay W r && (Vbcnag.isCircuit c))) T ⟨_,T.bF,rfl⟩ T.vn ⟨_,T.cM,rfl⟩ (.inr (.inl ⟨rfl,rfl⟩)) (Nat.le_refl _) (by decide +kernel) (by
  show (cD _ _ _ && pairsOk [])=_
  rw [bE,aF,aF,aF,bW,oI,uW,uV,Bool.and_true,Bool.and_true]) rfl (fun e=>if_pos e) fun e=>by
  have q:=e
  rw [Bool.and_eq_true,Bool.and_eq_true] at q
  obtain ⟨q0,q1,q2⟩:=q
  obtain ⟨h',rfl⟩:=aU q0 (by decide)
  obtain ⟨r',rfl⟩:=aU q1 (by decide)
  obtain ⟨c',rfl⟩:=aU q2 (by decide)
  exact ⟨⟨h',r',c',rfl,e⟩,rfl⟩
theorem Km (T:Txt K mg t)(W:VW)(h:Int):Plan K t W 3 [h] ["host"] t.i9 t.eJ g1 uM:=
 eQ (.unplug h) (Vbcnag.isHost h) T ⟨_,T.bF,rfl⟩ T.vo ⟨_,T.cM,rfl⟩ (.inr (.inr (.inl ⟨rfl,rfl⟩))) (Nat.le_refl _) (by decide +kernel) (by
  show (cD _ _ _ && pairsOk [])=_
  rw [bE,aF,bW,oI,Bool.and_true,Bool.and_true]) rfl (fun e=>if_pos e) fun e=>by
  exact ⟨⟨h,rfl,e⟩,rfl⟩
theorem UL (T:Txt K mg t)(W:VW)(h:Int):Plan K t W 4 [h] ["host"] t.ja t.dP g1 YO:=
 eQ (.on h) (Vbcnag.isHost h) T ⟨_,T.bF,rfl⟩ T.vp ⟨_,T.cM,rfl⟩ (.inr (.inr (.inr (.inl ⟨rfl,rfl⟩)))) (Nat.le_refl _) (by decide +kernel) (by
  show (cD _ _ _ && pairsOk [])=_
  rw [bE,aF,bW,oI,Bool.and_true,Bool.and_true]) rfl (fun e=>if_pos e) fun e=>by
  exact ⟨⟨h,rfl,e⟩,rfl⟩
theorem So (T:Txt K mg t)(W:VW)(h:Int):Plan K t W 5 [h] ["host"] t.jb t.cR g1 OH:=
 eQ (.off h) (Vbcnag.isHost h) T ⟨_,T.bF,rfl⟩ T.vq ⟨_,T.cM,rfl⟩ (.inr (.inr (.inr (.inr (.inl ⟨rfl,rfl⟩))))) (Nat.le_refl _) (by decide +kernel) (by
  show (cD _ _ _ && pairsOk [])=_
  rw [bE,aF,bW,oI,Bool.and_true,Bool.and_true]) rfl (fun e=>if_pos e) fun e=>by
  exact ⟨⟨h,rfl,e⟩,rfl⟩
theorem Kn (T:Txt K mg t)(W:VW)(h:Int):Plan K t W 6 [h] ["host"] t.jc t.eK g1 uN:=
 eQ (.forget h) (Vbcnag.isHost h) T ⟨_,T.bF,rfl⟩ T.vt ⟨_,T.cM,rfl⟩ (.inr (.inr (.inr (.inr (.inr (.inl ⟨rfl,rfl⟩)))))) (Nat.le_refl _) (by decide +kernel) (by
  show (cD _ _ _ && pairsOk [])=_
  rw [bE,aF,bW,oI,Bool.and_true,Bool.and_true]) rfl (fun e=>if_pos e) fun e=>by
  exact ⟨⟨h,rfl,e⟩,rfl⟩
theorem Ko (T:Txt K mg t)(W:VW)(s h r a l:Int):Plan K t W 7 [s,h,r,a,l] ["server","host","relay","address","len"] t.jd t.f_assign Iw uP:=
 eQ (.assign s h r a l) (Vbcnag.isServer W s && (Vbcnag.isHost h && (Vbcnag.isRelay W r && (Vbcnag.within a 0 (Vbcnag.ADDRS - 1) && (Vbcnag.within l 1 1000000000))))) T ⟨_,T.bF,rfl⟩ T.vv ⟨_,T.cM,rfl⟩ (.inr (.inr (.inr (.inr (.inr (.inr (.inl ⟨rfl,rfl⟩))))))) (Nat.le_refl _) (by decide +kernel) (by
  show (cD _ _ _ && pairsOk [])=_
  rw [bE,aF,aF,aF,aF,aF,bW,yO,oI,uW,FL,agU,Bool.and_true,Bool.and_true]) rfl (fun e=>if_pos e) fun e=>by
  have q:=e
  rw [Bool.and_eq_true,Bool.and_eq_true,Bool.and_eq_true,Bool.and_eq_true] at q
  obtain ⟨q0,q1,q2,q3,q4⟩:=q
  obtain ⟨s',rfl⟩:=aU q0 (by decide)
  obtain ⟨h',rfl⟩:=aU q1 (by decide)
  obtain ⟨r',rfl⟩:=aU q2 (by decide)
  obtain ⟨a',rfl⟩:=aU q3 (by decide)
  obtain ⟨l',rfl⟩:=aU q4 (by decide)
  exact ⟨⟨s',h',r',a',l',rfl,e⟩,rfl⟩
theorem Ey (T:Txt K mg t)(W:VW)(s h r:Int):Plan K t W 8 [s,h,r] ["server","host","relay"] t.je t.cS zO uQ:=
 eQ (.withdraw s h r) (Vbcnag.isServer W s && (Vbcnag.isHost h && (Vbcnag.isRelay W r))) T ⟨_,T.bF,rfl⟩ T.vw ⟨_,T.cM,rfl⟩ (.inr (.inr (.inr (.inr (.inr (.inr (.inr (.inl ⟨rfl,rfl⟩)))))))) (Nat.le_refl _) (by decide +kernel) (by
  show (cD _ _ _ && pairsOk [])=_
  rw [bE,aF,aF,aF,bW,yO,oI,uW,Bool.and_true,Bool.and_true]) rfl (fun e=>if_pos e) fun e=>by
  have q:=e
  rw [Bool.and_eq_true,Bool.and_eq_true] at q
  obtain ⟨q0,q1,q2⟩:=q
  obtain ⟨s',rfl⟩:=aU q0 (by decide)
  obtain ⟨h',rfl⟩:=aU q1 (by decide)
  obtain ⟨r',rfl⟩:=aU q2 (by decide)
  exact ⟨⟨s',h',r',rfl,e⟩,rfl⟩
theorem O2 (T:Txt K mg t)(W:VW)(s x:Int):Plan K t W 9 [s,x] ["server","x"] t.jf t.iJ Rq M6:=
 eQ (.rest s x) (Vbcnag.isServer W s && (Vbcnag.within x 0 1)) T ⟨_,T.bF,rfl⟩ T.vx ⟨_,T.cM,rfl⟩ (.inr (.inr (.inr (.inr (.inr (.inr (.inr (.inr (.inl ⟨rfl,rfl⟩))))))))) (Nat.le_refl _) (by decide +kernel) (by
  show (cD _ _ _ && pairsOk [])=_
  rw [bE,aF,aF,bW,yO,o_x,Bool.and_true,Bool.and_true]) rfl (fun e=>if_pos e) fun e=>by
  have q:=e
  rw [Bool.and_eq_true] at q
  obtain ⟨q0,q1⟩:=q
  obtain ⟨s',rfl⟩:=aU q0 (by decide)
  obtain ⟨x',rfl⟩:=aU q1 (by decide)
  exact ⟨⟨s',x',rfl,e⟩,rfl⟩
theorem O3 (T:Txt K mg t)(W:VW)(t0:Int):Plan K t W 10 [t0] ["t"] t.jg t.iK Rm M4:=
 eQ (.tick t0) (Vbcnag.within t0 0 20000) T ⟨_,T.bF,rfl⟩ T.vy ⟨_,T.cM,rfl⟩ (.inr (.inr (.inr (.inr (.inr (.inr (.inr (.inr (.inr (.inl ⟨rfl,rfl⟩)))))))))) (Nat.le_refl _) (by decide +kernel) (by
  show (cD _ _ _ && pairsOk [])=_
  rw [bE,aF,bW,o_t,Bool.and_true,Bool.and_true]) rfl (fun e=>if_pos e) fun e=>by
  exact ⟨⟨t0,rfl,e⟩,rfl⟩
theorem IQ (T:Txt K mg t)(W:VW)(hw:W.written.length≤500000)(k:Int):Plan K t W 11 [k] ["k"] t.jh t.dQ DJ yL:=
 eQ (.deliver k) (Vbcnag.isPlace W k) T ⟨_,T.bF,rfl⟩ T.vz ⟨_,T.cM,rfl⟩ (.inr (.inr (.inr (.inr (.inr (.inr (.inr (.inr (.inr (.inr (.inl ⟨rfl,rfl⟩))))))))))) (Nat.le_refl _) (by decide +kernel) (by
  show (cD _ _ _ && pairsOk [])=_
  rw [bE,aF,bW,o_k,Bool.and_true,Bool.and_true]) rfl (fun e=>if_pos e) fun e=>by
  obtain ⟨k',rfl,hk⟩:=uX e
  exact ⟨⟨hw,k',rfl,hk⟩,rfl⟩
theorem O4 (T:Txt K mg t)(W:VW)(k:Int):Plan K t W 12 [k] ["k"] t.ji t.iL gK Nk:=
 eQ (.lose k) (Vbcnag.isPlace W k) T ⟨_,T.bF,rfl⟩ T.vA ⟨_,T.cM,rfl⟩ (.inr (.inr (.inr (.inr (.inr (.inr (.inr (.inr (.inr (.inr (.inr (.inl ⟨rfl,rfl⟩)))))))))))) (Nat.le_refl _) (by decide +kernel) (by
  show (cD _ _ _ && pairsOk [])=_
  rw [bE,aF,bW,o_k,Bool.and_true,Bool.and_true]) rfl (fun e=>if_pos e) fun e=>by
  obtain ⟨k',rfl,hk⟩:=uX e
  exact ⟨⟨k',rfl,hk⟩,rfl⟩
theorem Kp (T:Txt K mg t)(W:VW)(k:Int):Plan K t W 13 [k] ["k"] t.jj t.eM gK Bt:=
 eQ (.double k) (Vbcnag.isPlace W k) T ⟨_,T.bF,rfl⟩ T.vB ⟨_,T.cM,rfl⟩ (.inr (.inr (.inr (.inr (.inr (.inr (.inr (.inr (.inr (.inr (.inr (.inr (.inl ⟨rfl,rfl⟩))))))))))))) (Nat.le_refl _) (by decide +kernel) (by
  show (cD _ _ _ && pairsOk [])=_
  rw [bE,aF,bW,o_k,Bool.and_true,Bool.and_true]) rfl (fun e=>if_pos e) fun e=>by
  obtain ⟨k',rfl,hk⟩:=uX e
  exact ⟨⟨k',rfl,hk⟩,rfl⟩
theorem O5 (T:Txt K mg t)(W:VW)(hw:W.written.length≤500000)(m:Int):Plan K t W 14 [m] ["m"] t.jk t.iM Sg Nn:=
 eQ (.flow m) (Vbcnag.within m 0 1000) T ⟨_,T.bF,rfl⟩ T.vC ⟨_,T.cM,rfl⟩ (.inr (.inr (.inr (.inr (.inr (.inr (.inr (.inr (.inr (.inr (.inr (.inr (.inr (.inl ⟨rfl,rfl⟩)))))))))))))) (Nat.le_refl _) (by decide +kernel) (by
  show (cD _ _ _ && pairsOk [])=_
  rw [bE,aF,bW,o_m,Bool.and_true,Bool.and_true]) rfl (fun e=>if_pos e) fun e=>by
  obtain ⟨h1,h2⟩:=bR.mp e
  obtain ⟨m',rfl⟩:∃m':Nat,m=(m':Int):=⟨m.toNat,by omega⟩
  exact ⟨⟨hw,m',rfl,by omega⟩,rfl⟩
theorem Kq (T:Txt K mg t)(W:VW)(h:Int):Plan K t W 16 [h] ["host"] t.jm t.bU g1 yJ:=
 eQ (.client h) (Vbcnag.isHost h) T ⟨_,T.bF,rfl⟩ T.vE ⟨_,T.cM,rfl⟩ (.inr (.inr (.inr (.inr (.inr (.inr (.inr (.inr (.inr (.inr (.inr (.inr (.inr (.inr (.inr (.inl ⟨rfl,rfl⟩)))))))))))))))) (Nat.le_refl _) (by decide +kernel) (by
  show (cD _ _ _ && pairsOk [])=_
  rw [bE,aF,bW,oI,Bool.and_true,Bool.and_true]) rfl (fun e=>if_pos e) fun e=>by
  exact ⟨⟨h,rfl,e⟩,rfl⟩
theorem IS (T:Txt K mg t)(W:VW)(hw:W.written.length≤500000)(s h:Int):Plan K t W 17 [s,h] ["server","host"] t.jn t.bJ DH yK:=
 eQ (.written s h) (Vbcnag.isServer W s && (Vbcnag.isHost h)) T ⟨_,T.bF,rfl⟩ T.vF ⟨_,T.cM,rfl⟩ (.inr (.inr (.inr (.inr (.inr (.inr (.inr (.inr (.inr (.inr (.inr (.inr (.inr (.inr (.inr (.inr (.inl ⟨rfl,rfl⟩))))))))))))))))) (Nat.le_refl _) (by decide +kernel) (by
  show (cD _ _ _ && pairsOk [])=_
  rw [bE,aF,aF,bW,yO,oI,Bool.and_true,Bool.and_true]) rfl (fun e=>if_pos e) fun e=>by
  have q:=e
  rw [Bool.and_eq_true] at q
  obtain ⟨q0,q1⟩:=q
  obtain ⟨s',rfl⟩:=aU q0 (by decide)
  obtain ⟨h',rfl⟩:=aU q1 (by decide)
  exact ⟨⟨hw,s',h',rfl,e⟩,rfl⟩
theorem O6 (T:Txt K mg t)(W:VW)(k:Int):Plan K t W 18 [k] ["k"] t.jo t.iN gK Nl:=
 eQ (.peek k) (Vbcnag.isPlace W k) T ⟨_,T.bF,rfl⟩ T.vG ⟨_,T.cM,rfl⟩ (.inr (.inr (.inr (.inr (.inr (.inr (.inr (.inr (.inr (.inr (.inr (.inr (.inr (.inr (.inr (.inr (.inr (.inl ⟨rfl,rfl⟩)))))))))))))))))) (Nat.le_refl _) (by decide +kernel) (by
  show (cD _ _ _ && pairsOk [])=_
  rw [bE,aF,bW,o_k,Bool.and_true,Bool.and_true]) rfl (fun e=>if_pos e) fun e=>by
  obtain ⟨k',rfl,hk⟩:=uX e
  exact ⟨⟨k',rfl,hk⟩,rfl⟩
theorem O7 (T:Txt K mg t)(W:VW)(r c:Int):Plan K t W 19 [r,c] ["relay","circuit"] t.jq t.cz Se Nm:=
 eQ (.path r c) (Vbcnag.isRelay W r && (Vbcnag.isCircuit c)) T ⟨_,T.bF,rfl⟩ T.vH ⟨_,T.cM,rfl⟩ (.inr (.inr (.inr (.inr (.inr (.inr (.inr (.inr (.inr (.inr (.inr (.inr (.inr (.inr (.inr (.inr (.inr (.inr (.inl ⟨rfl,rfl⟩))))))))))))))))))) (Nat.le_refl _) (by decide +kernel) (by
  show (cD _ _ _ && pairsOk [])=_
  rw [bE,aF,aF,bW,uW,uV,Bool.and_true,Bool.and_true]) rfl (fun e=>if_pos e) fun e=>by
  have q:=e
  rw [Bool.and_eq_true] at q
  obtain ⟨q0,q1⟩:=q
  have eA:=(qP q0).2
  obtain ⟨r',rfl⟩:=aU q0 (by decide)
  obtain ⟨c',rfl⟩:=aU q1 (by decide)
  exact ⟨⟨r',c',rfl,(by rw [Int.toNat_natCast] at eA;exact eA),e⟩,rfl⟩
theorem O8 (T:Txt K mg t)(W:VW):Plan K t W 20 [] [] t.jr t.cA g0 Sf:=
 eQ (.next) (true) T ⟨_,T.bF,rfl⟩ T.vI ⟨_,T.cM,rfl⟩ (.inr (.inr (.inr (.inr (.inr (.inr (.inr (.inr (.inr (.inr (.inr (.inr (.inr (.inr (.inr (.inr (.inr (.inr (.inr (.inl ⟨rfl,rfl⟩)))))))))))))))))))) (Nat.le_refl _) (by decide +kernel) rfl rfl (fun e=>nomatch e) fun _=>⟨rfl,rfl⟩
theorem L1 (T:Txt K mg t)(W:VW):Plan K t W 21 [] [] t.js t.cf g0 fState:=
 eQ (.state) (true) T ⟨_,T.bF,rfl⟩ T.vJ ⟨_,T.cM,rfl⟩ (.inr (.inr (.inr (.inr (.inr (.inr (.inr (.inr (.inr (.inr (.inr (.inr (.inr (.inr (.inr (.inr (.inr (.inr (.inr (.inr (⟨rfl,rfl⟩))))))))))))))))))))) (Nat.le_refl _) (by decide +kernel) rfl rfl (fun e=>nomatch e) fun _=>⟨rfl,rfl⟩
end
end Rl
namespace Rl
open PySem PySem.Spec PyProof.Rows L2 PyProof.Rows.KTD
open Vbcnag (Mark Msg Under Offer Lease Client Relay Assigned Written)
theorem FN {l:List Int}:pairsOk l=false ↔ (l.length % 2=1∨32 < l.length∨l.any (fun x=> !Vbcnag.isCircuit x)=true):=by
 unfold pairsOk
 simp only [Bool.and_eq_false_iff,decide_eq_false_iff_not,List.all_eq_false,List.any_eq_true,Bool.not_eq_true',Bool.not_eq_true]
 constructor
 ·rintro (h|h|h)
  ·exact .inl (by omega)
  ·exact .inr (.inl (by omega))
  ·exact .inr (.inr h)
 ·rintro (h|h|h)
  ·exact .inl (by omega)
  ·exact .inr (.inl (by omega))
  ·exact .inr (.inr h)
section
variable {K:PySem.W.Frag}{mg:Str→Option Value}{t:ke}
theorem L3 (T:Txt K mg t)(W:VW)(r c h n k s a p:Int)(marks:List Int)(hn:n≤1000000000000000000):
  Plan K t W 15 (r::c::h::n::k::s::a::p::marks) ["relay","circuit","host","number","kind","server or none","address","hops"] t.jl t.f7 LY DL:=by
 have key:∀b,(cD (some W) ["relay","circuit","host","number","kind","server or none","address","hops"] (r::c::h::n::k::s::a::p::marks) && pairsOk ((r::c::h::n::k::s::a::p::marks).drop (["relay","circuit","host","number","kind","server or none","address","hops"] :List Str).length))=b→
   ((Vbcnag.isRelay W r && (Vbcnag.isCircuit c && (Vbcnag.isHost h && (decide (1≤n) && (Vbcnag.within k 1 5 && (Vbcnag.within s (-1) ((W.servers:Int) - 1) && (Vbcnag.within a 0 (Vbcnag.ADDRS - 1) && Vbcnag.within p 0 16))))))) && pairsOk marks)=b:=fun b e=>by
  have e':(cD (some W) ["relay","circuit","host","number","kind","server or none","address","hops"] (r::c::h::n::k::s::a::p::marks) && pairsOk marks)=b:=e
  have hnn:Vbcnag.within n 1 1000000000000000000=decide (1≤n):=by
   unfold Vbcnag.within
   rw [decide_eq_true hn,Bool.and_true]
  rw [aF,aF,aF,aF,aF,aF,aF,aF,bW,uW,uV,oI,Sn,Zc,aqz,FL,Zd,hnn,Bool.and_true] at e'
  exact e'
 refine ⟨⟨_,T.bF,rfl⟩,T.vD,⟨_,T.cM,rfl⟩,.inr (.inr (.inr (.inr (.inr (.inr (.inr (.inr (.inr (.inr (.inr (.inr (.inr (.inr (.inl ⟨rfl,rfl⟩)))))))))))))),(by show 8≤marks.length + 8;omega),Kk W (by decide +kernel),fun e=> ?_,fun e=> ?_⟩
 ·have e:=key _ e
  refine VB (c:= .forge r c h n k s a p marks) rfl ?_
  rw [Bool.and_eq_false_iff] at e
  by_cases q:(Vbcnag.isRelay W r && (Vbcnag.isCircuit c && (Vbcnag.isHost h && (decide (1≤n) && (Vbcnag.within k 1 5 && (Vbcnag.within s (-1) ((W.servers:Int) - 1) && (Vbcnag.within a 0 (Vbcnag.ADDRS - 1) && Vbcnag.within p 0 16)))))))=false
  ·exact if_pos q
  ·rcases e with e|e
   ·exact absurd e q
   ·exact (if_neg q).trans (if_pos (FN.mp e))
 ·have e:=key _ e
  rw [Bool.and_eq_true] at e
  obtain ⟨e1,e2⟩:=e
  have UM:¬ (marks.length % 2=1∨32 < marks.length∨marks.any (fun x=> !Vbcnag.isCircuit x)=true):=fun z=>by
   rw [FN.mpr z] at e2
   cases e2
  have hev:marks.length % 2=0:=by
   have:=fun z=>UM (.inl z)
   omega
  have h32:marks.length≤32:=by
   have:=fun z=>UM (.inr (.inl z))
   omega
  have hci:∀x∈marks,0≤x:=fun x hx=>by
   have hx':Vbcnag.isCircuit x=true:=by
    cases q:Vbcnag.isCircuit x with
    |true=>rfl
    |false=>exact absurd (.inr (.inr (List.any_eq_true.mpr ⟨x,hx,by rw [q];rfl⟩))) UM
   exact (bR.mp hx').1
  have hfl:=Kl 16 marks (by omega) hev hci
  have q:=e1
  rw [Bool.and_eq_true,Bool.and_eq_true,Bool.and_eq_true,Bool.and_eq_true,Bool.and_eq_true,Bool.and_eq_true,Bool.and_eq_true] at q
  obtain ⟨q1,q2,q3,q4,q5,q6,q7,q8⟩:=q
  have q4:=of_decide_eq_true q4
  refine ⟨?_,rfl⟩
  obtain ⟨r',rfl⟩:=aU q1 (by decide)
  obtain ⟨c',rfl⟩:=aU q2 (by decide)
  obtain ⟨h',rfl⟩:=aU q3 (by decide)
  obtain ⟨n',rfl⟩:∃n':Nat,n=(n':Int):=⟨n.toNat,by omega⟩
  obtain ⟨k',rfl⟩:=aU q5 (by decide)
  obtain ⟨sv,rfl⟩:∃sv:Option Nat,s=Vbcnag.optional sv:=by
   obtain ⟨h1,_⟩:=bR.mp q6
   by_cases z:s= -1
   ·exact ⟨none,z⟩
   ·exact ⟨some s.toNat,by show s=((s.toNat:Nat):Int);omega⟩
  obtain ⟨a',rfl⟩:=aU q7 (by decide)
  obtain ⟨p',rfl⟩:=aU q8 (by decide)
  have EN:(Vbcnag.marksIn marks).length≤16:=sX 16 marks (by omega)
  refine ⟨r',c',h',n',k',a',p',sv,Vbcnag.marksIn marks,?_,EN,e1,?_⟩
  ·unfold DK
   rw [hfl]
  ·rw [hfl]
   exact UM
theorem Sr (T:Txt K mg t)(W:VW)(hw:W.written.length≤500000){p:Int}{ns:List Int}(h:VbcnagNeutral.asked1 (nQ (p,ns))=true)(hp:p≠0):∃names b a g f,Plan K t W p ns names b a g f:=by
 unfold VbcnagNeutral.asked1 at h
 split at h
 case h_1 e=>
  injection e with e _
  injection e with e _
  exact absurd e hp
 case h_16 e=>
  injection e with e _
  injection e with e1 e2
  have e1:p=15:=e1
  have e2:ns=_:=e2
  subst e1 e2
  simp only [Bool.and_eq_true] at h
  have hn:=h.1.1.1.1.1.2
  unfold VbcnagNeutral.whole60 at hn
  simp only [Bool.and_eq_true,decide_eq_true_eq] at hn
  exact ⟨_,_,_,_,_,L3 T W _ _ _ _ _ _ _ _ _ hn.2⟩
 all_goals first
  |exact absurd h Bool.false_ne_true
  |(rename_i e;injection e with e _;injection e with e1 e2;have e1:p=_:=e1;have e2:ns=_:=e2;subst e1 e2;first
    |exact ⟨_,_,_,_,_,L0 T W _ _ _⟩
    |exact ⟨_,_,_,_,_,O1 T W _ _ _⟩
    |exact ⟨_,_,_,_,_,Km T W _⟩
    |exact ⟨_,_,_,_,_,UL T W _⟩
    |exact ⟨_,_,_,_,_,So T W _⟩
    |exact ⟨_,_,_,_,_,Kn T W _⟩
    |exact ⟨_,_,_,_,_,Ko T W _ _ _ _ _⟩
    |exact ⟨_,_,_,_,_,Ey T W _ _ _⟩
    |exact ⟨_,_,_,_,_,O2 T W _ _⟩
    |exact ⟨_,_,_,_,_,O3 T W _⟩
    |exact ⟨_,_,_,_,_,IQ T W hw _⟩
    |exact ⟨_,_,_,_,_,O4 T W _⟩
    |exact ⟨_,_,_,_,_,Kp T W _⟩
    |exact ⟨_,_,_,_,_,O5 T W hw _⟩
    |exact ⟨_,_,_,_,_,Kq T W _⟩
    |exact ⟨_,_,_,_,_,IS T W hw _ _⟩
    |exact ⟨_,_,_,_,_,O6 T W _⟩
    |exact ⟨_,_,_,_,_,O7 T W _ _⟩
    |exact ⟨_,_,_,_,_,O8 T W⟩
    |exact ⟨_,_,_,_,_,L1 T W⟩)
theorem O9 {p:Int}{ns:List Int}(h:VbcnagNeutral.asked1 (nQ (p,ns))=true)(hp:p≠0):di none (p,ns)=(none,[-9]):=by
 unfold VbcnagNeutral.asked1 at h
 split at h
 case h_1 e=>
  injection e with e _
  injection e with e _
  exact absurd e hp
 all_goals first
  |exact absurd h Bool.false_ne_true
  |(rename_i e;injection e with e _;injection e with e1 e2;have e1:p=_:=e1;have e2:ns=_:=e2;subst e1 e2;rfl)
theorem Kr {ns:List Int}(h:VbcnagNeutral.asked1 (nQ (0,ns))=true):∃a b c,ns= [a,b,c] :=by
 unfold VbcnagNeutral.asked1 at h
 split at h
 case h_1 e=>
  injection e with e _
  injection e with _ e2
  exact ⟨_,_,_,e2⟩
 all_goals first
  |exact absurd h Bool.false_ne_true
  |(rename_i e;injection e with e _;injection e with e1 _;have e1:(0:Int)=_:=e1;exact absurd e1 (by decide))
end
end Rl
namespace Rl
open PySem PySem.Spec PyProof.Rows L2 PyProof.Rows.KTD
open Vbcnag (Mark Msg Under Offer Lease Client Relay Assigned Written)
theorem qV (s:Option VW)(a b c:Int):di s (0,[a,b,c])=if (Vbcnag.within a 1 4 && (Vbcnag.within b 1 10000 && Vbcnag.within c 0 Vbcnag.TIMES))=false then (s,[-1]) else (some (first a.toNat b.toNat c.toNat),[0]):=by
 cases s <;>rfl
section
variable {P:Program}{w:World}{K:PySem.W.Frag}{mg:Str→Option Value}{base:Heap}{t:ke}
theorem IC (T:Txt K mg t):bH P w K mg base fg 40 t.nY t.B2 B0 (RA K (cs t)):=by
 refine T.Ln.ok TU (fun vs H Q E h=> ?_) (fun dZ A0 outer s H vs Q E hr h=> ?_)
 ·obtain ⟨n,st,A,cas,wv,p,ns,nm,rfl,_⟩:=h
  rfl
 ·obtain ⟨n,st,A,cas,wv,p,ns,nm,rfl,hn,sg,qW,uZ,aqA,LP,k⟩:=h
  have S0:=aj.refl H
  have out:∀ (Hk:Hp)(e:Int),aj H Hk→di st (p,ns)=(st,[e])→∀ra,Hk ra=none→∀ta,L2.upd Hk ra (.lst [V.int e]) ta=none→Q (.ref ta) (L2.upd (L2.upd Hk ra (.lst [V.int e])) ta (.tup [wv,.ref ra])):=fun Hk e Sk he ra yQ ta IW=>by
   rw [he] at k
   have S1:=aj.ao (o:=HO.lst [V.int e]) yQ
   have S2:=aj.ao (o:=HO.tup [wv,.ref ra]) IW
   have S:=(Sk.trans S1).trans S2
   exact k _ ta ra wv A cas ab (S2 _ _ ab) (qW.same S) (fun b o e _=>S b o e) (fun b h=> .inl h) (Sk.free yQ)
  obtain ⟨ahG,Nr,Nt⟩:=T.MO
  refine ⟨_,ae (br (PW.pt (iB (cq (gQ (pv 0))) (fK (aM BD (pv 1) (aE (by rfl) Nr Nt) (aS _))))) (ak (aL (b0 (aa eU (aa (bb (aa (d7 cG ah) af)) af))))) aY)
   (ae (br (Pq (rq (aB (DR T) (hr.mono (by decide)) (by rfl) T.ve T.oj.kp T.vf .nil aX (aa (pv 0) (aa (pv 1) (aa (pv 2) af)))))) (ak (aL (b0 (aa (pv 0) (aa (bb (aa (d7 cG ah) af)) af))))) aY)
   (ae (br (aM cU (pv 1) (aE (by rfl) Nr Nt) (aS _)) (ak (aL (b0 (aa (mx T.o6 (Ry T) (hr.mono (by decide)) (by rfl) T.ME T.xx .nil aX (aa (aG aN (pv 2) ah (fun _ _=>rfl)) (aa (aG aN (pv 2) ah (fun _ _=>rfl)) (aa (aG aN (pv 2) ah (fun _ _=>rfl)) af)))) (aa (bb (aa ah af)) af))))) aY)
   (ak (aL (b0 (aa (pv 0) (aa (aB (OZ T) (hr.mono (by decide)) (by rfl) T.JQ T.Cr.kp T.JR .nil aX (aa (pv 0) (aa (pv 1) (aa (pv 2) af)))) af))))))),?_⟩
  by_cases hp:p=0
  ·subst hp
   obtain ⟨a,b,c,rfl⟩:=Kr LP
   have vR:∀q,(cD st ["servers","cap","time"] [a,b,c] && pairsOk ([a,b,c].drop (["servers","cap","time"] :List Str).length))=q→(Vbcnag.within a 1 4 && (Vbcnag.within b 1 10000 && Vbcnag.within c 0 Vbcnag.TIMES))=q:=fun q e=>by
    have e':(cD st ["servers","cap","time"] [a,b,c] && pairsOk [])=q:=e
    rw [bE,aF,aF,aF,bW,O0,agT,Zb,Bool.and_true,Bool.and_true] at e'
    exact e'
   cases st with
   |none=>
    have ev:wv= .bY:=qW
    subst ev
    refine ⟨_,rfl,_,rfl,bI ?_⟩
    refine ⟨_,rfl,rfl,_,rfl,P7 rfl ?_⟩
    refine ⟨_,rfl,_,rfl,_,rfl,none,A,cas,_,0,nm,[a,b,c],_,t.gm,["servers","cap","time"],rfl,qW,cK.of uZ,T.bF,rfl,T.oo,Nat.le_refl _,fun ky hky=>DS _ ?_,fun H1 S1=> ?_⟩
    ·have:=List.all_eq_true.mp (show ((["servers","cap","time"] :List Str).all fun k=> !gh k && (mv.lookup k).isSome)=true by decide +kernel) ky hky
     simpa using this
    refine ⟨_,rfl,?_⟩
    cases cw:(cD none ["servers","cap","time"] [a,b,c] && pairsOk ([a,b,c].drop (["servers","cap","time"] :List Str).length)) with
    |false=>
     have e:=vR _ cw
     refine bI ?_
     refine ⟨_,rfl,_,rfl,(by show 1≤sizeLine;decide),fun ra yQ=>⟨(by show 2≤sizeLine;decide),fun ta IW=> ?_⟩⟩
     exact out H1 (-1) S1 (by rw [qV,if_pos e]) ra yQ ta IW
    |true=>
     have e:=vR _ cw
     rw [qV,if_neg (by rw [e];decide)] at k
     rw [Bool.and_eq_true,Bool.and_eq_true] at e
     obtain ⟨e1,e2,e3⟩:=e
     have e4:=(bR.mp e1).2
     obtain ⟨a',rfl⟩:=aU e1 (by decide)
     obtain ⟨b',rfl⟩:=aU e2 (by decide)
     obtain ⟨c',rfl⟩:=aU e3 (by decide)
     rw [Int.toNat_natCast,Int.toNat_natCast,Int.toNat_natCast] at k
     refine bQ ?_
     refine ⟨_,rfl,rfl,_,rfl,bI ?_⟩
     have L4:=cK.of (K:=K) (S1 _ _ uZ)
     refine ⟨_,rfl,nm,_,_,_,rfl,rfl,L4,rfl,_,rfl,nm,_,_,_,rfl,rfl,L4,rfl,_,rfl,nm,_,_,_,rfl,rfl,L4,rfl,?_⟩
     intro x dx nx OB ZC
     refine ⟨x,dx,a',b',c',rfl,ab,(by omega),fun H5 A5 hA5 R5 k5 m5=>⟨rfl,?_⟩⟩
     subst hA5
     have S5:=aj.made nx OB k5
     refine ⟨(by show 1≤sizeLine;decide),fun ra yQ=>⟨(by show 2≤sizeLine;decide),fun ta IW=> ?_⟩⟩
     have S6:=aj.ao (o:=HO.lst [V.int 0]) yQ
     have S7:=aj.ao (o:=HO.tup [V.ref A5.w,.ref ra]) IW
     have S:=(S1.trans S5).trans (S6.trans S7)
     refine k _ ta ra (.ref A5.w) A5 [] ab (S7 _ _ ab) ⟨rfl,R5.same (S6.trans S7)⟩ (fun b o e _=>S b o e) (fun q hq=> .inr ?_) ((S1.trans S5).free yQ)
     rcases m5 q hq with z|z
     ·rw [z]
      exact S1.free nx
     ·exact S1.free (cP (cP z))
   |some W=>
    obtain ⟨ev,R⟩:=id qW
    subst ev
    refine ⟨_,rfl,_,rfl,bQ ?_⟩
    refine ⟨_,rfl,_,rfl,_,rfl,(some W),A,cas,_,0,nm,[a,b,c],_,t.gm,["servers","cap","time"],rfl,qW,cK.of uZ,T.bF,rfl,T.oo,Nat.le_refl _,fun ky hky=>DS _ ?_,fun H1 S1=> ?_⟩
    ·have:=List.all_eq_true.mp (show ((["servers","cap","time"] :List Str).all fun k=> !gh k && (mv.lookup k).isSome)=true by decide +kernel) ky hky
     simpa using this
    refine ⟨_,rfl,?_⟩
    cases cw:(cD (some W) ["servers","cap","time"] [a,b,c] && pairsOk ([a,b,c].drop (["servers","cap","time"] :List Str).length)) with
    |false=>
     have e:=vR _ cw
     refine bI ?_
     refine ⟨_,rfl,_,rfl,(by show 1≤sizeLine;decide),fun ra yQ=>⟨(by show 2≤sizeLine;decide),fun ta IW=> ?_⟩⟩
     exact out H1 (-1) S1 (by rw [qV,if_pos e]) ra yQ ta IW
    |true=>
     have e:=vR _ cw
     rw [qV,if_neg (by rw [e];decide)] at k
     rw [Bool.and_eq_true,Bool.and_eq_true] at e
     obtain ⟨e1,e2,e3⟩:=e
     have e4:=(bR.mp e1).2
     obtain ⟨a',rfl⟩:=aU e1 (by decide)
     obtain ⟨b',rfl⟩:=aU e2 (by decide)
     obtain ⟨c',rfl⟩:=aU e3 (by decide)
     rw [Int.toNat_natCast,Int.toNat_natCast,Int.toNat_natCast] at k
     refine bQ ?_
     refine ⟨_,rfl,rfl,_,rfl,bI ?_⟩
     have L4:=cK.of (K:=K) (S1 _ _ uZ)
     refine ⟨_,rfl,nm,_,_,_,rfl,rfl,L4,rfl,_,rfl,nm,_,_,_,rfl,rfl,L4,rfl,_,rfl,nm,_,_,_,rfl,rfl,L4,rfl,?_⟩
     intro x dx nx OB ZC
     refine ⟨x,dx,a',b',c',rfl,ab,(by omega),fun H5 A5 hA5 R5 k5 m5=>⟨rfl,?_⟩⟩
     subst hA5
     have S5:=aj.made nx OB k5
     refine ⟨(by show 1≤sizeLine;decide),fun ra yQ=>⟨(by show 2≤sizeLine;decide),fun ta IW=> ?_⟩⟩
     have S6:=aj.ao (o:=HO.lst [V.int 0]) yQ
     have S7:=aj.ao (o:=HO.tup [V.ref A5.w,.ref ra]) IW
     have S:=(S1.trans S5).trans (S6.trans S7)
     refine k _ ta ra (.ref A5.w) A5 [] ab (S7 _ _ ab) ⟨rfl,R5.same (S6.trans S7)⟩ (fun b o e _=>S b o e) (fun q hq=> .inr ?_) ((S1.trans S5).free yQ)
     rcases m5 q hq with z|z
     ·rw [z]
      exact S1.free nx
     ·exact S1.free (cP (cP z))
  ·cases st with
   |none=>
    have ev:wv= .bY:=qW
    subst ev
    refine ⟨_,rfl,_,rfl,bI ?_⟩
    refine ⟨_,rfl,rfl,_,rfl,?_⟩
    rw [show decide (V.int p=V.int 0)=false from decide_eq_false (fun z=>hp (by injection z))]
    refine bI ?_
    exact ⟨_,rfl,(by show 1≤sizeLine;decide),fun ra yQ=>⟨(by show 2≤sizeLine;decide),fun ta IW=>out H (-9) S0 (O9 LP hp) ra yQ ta IW⟩⟩
   |some W=>
    obtain ⟨ev,R⟩:=id qW
    subst ev
    obtain ⟨wg,OL⟩:=sg
    obtain ⟨names,b,a,g,f,PL⟩:=Sr T W (by omega) LP hp
    obtain ⟨kvs,hD,hv⟩:=PL.num
    refine ⟨_,rfl,_,rfl,bQ ?_⟩
    refine ⟨_,rfl,_,rfl,_,rfl,some W,A,cas,_,p,nm,ns,kvs,b,names,rfl,qW,cK.of uZ,hD,hv,PL.at_,PL.len,PL.ok,fun H1 S1=> ?_⟩
    refine ⟨_,rfl,?_⟩
    cases cw:(cD (some W) names ns && pairsOk (ns.drop names.length)) with
    |false=>
     refine bI ?_
     exact ⟨_,rfl,_,rfl,(by show 1≤sizeLine;decide),fun ra yQ=>⟨(by show 2≤sizeLine;decide),fun ta IW=>out H1 (-1) S1 (PL.no cw) ra yQ ta IW⟩⟩
    |true=>
     obtain ⟨hg,agV⟩:=PL.yes cw
     obtain ⟨aqD,hDC,hvC⟩:=PL.call
     rw [agV] at k
     refine bQ ?_
     refine ⟨_,rfl,rfl,_,rfl,?_⟩
     rw [show decide (V.int p=V.int 0)=false from decide_eq_false (fun z=>hp (by injection z))]
     refine bQ ?_
     refine ⟨_,rfl,_,rfl,_,rfl,_,rfl,_,p,nm,a,aqD,g,f,rfl,hDC,hvC,PL.g_,A,cas,W,nm,ns,rfl,R.same S1,wg,cK.of (S1 _ _ uZ),aqA,hg,fun H2 Ei q R2 F2 hc hq ZI=> ?_⟩
     refine ⟨(by show 2≤sizeLine;decide),fun ta IW=> ?_⟩
     have S3:=aj.ao (o:=HO.tup [V.ref A.w,.ref q]) IW
     refine k _ ta q (.ref A.w) A Ei ab (S3 _ _ hq) ⟨rfl,R2.same S3⟩ (fun b o e nb=>S3 _ _ (F2 _ _ (S1 _ _ e) nb)) (fun b hb=> ?_) (S1.free ZI)
     rcases hb with z|z|z|z|z|z|z|z|z
     ·exact .inl (.inl z)
     ·exact .inl (.inr (.inl z))
     ·exact .inl (.inr (.inr (.inl z)))
     ·exact .inl (.inr (.inr (.inr (.inl z))))
     ·exact .inl (.inr (.inr (.inr (.inr (.inl z)))))
     ·exact .inl (.inr (.inr (.inr (.inr (.inr (.inl z))))))
     ·exact .inl (.inr (.inr (.inr (.inr (.inr (.inr (.inl z)))))))
     ·exact .inl (.inr (.inr (.inr (.inr (.inr (.inr (.inr (.inl z))))))))
     ·rcases hc b z with y|y
      ·exact .inl (.inr (.inr (.inr (.inr (.inr (.inr (.inr (.inr y))))))))
      ·exact .inr (S1.free y)
end
end Rl
open PySem PySem.W PyProof.Rows
set_option Elab.async false
set_option maxRecDepth 100000 in
set_option maxHeartbeats 0 in
theorem PySem.Challenge.cw_relayleases_s01_answers_holds : PySem.Challenge.rw_relayleases_s01_answers.Holds := by
 w_on;k_headS;(case hw=>exact ⟨[.list [.int 0,.int 3,.int 1,.int 1,.int 0,.int 0]],by decide +kernel,by decide +kernel⟩)
 k_fillS
 refine L2.KR (r:=PySem.Challenge.rw_relayleases_s01_answers) (k:=41) (CX:=L2.fg) (ps:= ["calls"]) (sp:=Rl.Vt) (by decide +kernel) rfl rfl ⟨rfl,by decide,by decide⟩ (fun w h Y=>PySem.W.kIn_of Y) ?F ?S (fun _ _ _ _ z=>z)
 case F=>
  intro w mg fa h Y KX G hmg
  have T:∃t,Rl.Txt (L2.KOf KX) mg t:=by
   dsimp only [L2.KOf]
   refine' Rl.WY KX G ?Hj ?CC ?CD ?CF ?CG ?l3 ?CH ?a6 ?bK ?de ?zq ?vZ ?v7 ?v8 ?v9 ?fc ?wa ?aD ?bA ?bM ?bB ?a3 ?a4 ?a9 ?bu ?aR ?CI ?zr ?zt ?zu ?zw ?lN ?zx ?dS ?aP ?aH ?bw ?bD ?bT ?aV ?bp ?a7 ?aK ?Hl ?CJ ?CL ?CM ?CN ?o6 ?CO ?a8 ?bC ?ej ?bx ?bN ?aA ?cB ?ba ?cj ?bo ?qj ?qk ?kH ?kI ?kJ ?l7 ?l8 ?hX ?hZ ?ia ?oq ?ot ?ju ?jv ?jw ?ql ?qm ?kK ?kL ?kM ?QR ?MP ?MQ ?k_put ?Lo ?Hm ?Hn ?Ho ?zy ?uh ?ui ?uj ?Lp ?Hq ?Hr ?Hs ?QS ?MR ?MS ?MT ?sJ ?m3 ?m4 ?m6 ?CP ?xY ?xZ ?x3 ?Lq ?Ht ?Hu ?Hv ?Hw ?Bg ?Bh ?Bi ?QT ?MU ?MV ?MW ?ou ?jx ?jy ?jz ?qo ?kN ?kO ?kP ?sL ?m7 ?m8 ?m9 ?Lr ?Hy ?Hz ?HB ?qp ?kQ ?kR ?kS ?sM ?ng ?nh ?ni ?wb ?qr ?qt ?qu ?qv ?kT ?kU ?kX ?qw ?kY ?kZ ?k0 ?CQ ?x4 ?x5 ?x6 ?zz ?uk ?um ?uo ?HC ?Bj ?Bk ?Bl ?l9 ?ib ?ic ?ie ?qx ?k7 ?k8 ?k9 ?CS ?x8 ?x9 ?ya ?sN ?nj ?nk ?nq ?wd ?qy ?qz ?qA ?zA ?uq ?ur ?uu ?sO ?nt ?nv ?ny ?ow ?jA ?jB ?jC ?qB ?lg ?lh ?lj ?qC ?ll ?lp ?lq ?zB ?uv ?uw ?ux ?jS ?gz ?gA ?gB ?sP ?nB ?nE ?nF ?Ls ?HD ?HE ?HF ?CT ?yb ?yc ?yd ?zC ?uz ?uA ?uB ?we ?qD ?qE ?qF ?CU ?ye ?yf ?yg ?CV ?yh ?yi ?yj ?wj ?qG ?qH ?qI ?Lu ?HG ?HH ?HI ?Lv ?HJ ?HK ?HL ?zD ?uC ?uD ?uE ?zE ?uF ?uG ?uH ?Lw ?HM ?HN ?HP ?CW ?yk ?yl ?ym ?Lx ?HQ ?HR ?HS ?HU ?Bm ?Bn ?Bo ?ox ?jD ?jE ?jF ?md ?ig ?ij ?ik ?Ly ?HV ?HW ?HX ?sQ ?nG ?nH ?nI ?sR ?nJ ?nL ?nM ?qJ ?lr ?lu ?lx ?CY ?yn ?yo ?yp ?qK ?ly ?lA ?lB ?sS ?nN ?nO ?nP ?oy ?jG ?jH ?jI ?oz ?jJ ?jK ?jL ?Lz ?HY ?HZ ?Ia ?zF ?uI ?uJ ?uK ?oA ?X0 ?sT ?LA ?QU ?zG ?Ib ?CZ ?QV ?X1 ?QW ?Ic ?LB ?Ie ?C0 ?wk ?qL ?Ig ?lk1 ?fG ?il ?fH ?oB ?zH ?lk2 ?wo ?lk3 ?wq ?lk4 ?oC ?me ?jT ?C1 ?Ih ?lk5 ?C2 ?lk6 ?lk7 ?lk8 ?lk9 ?X2 ?X3 ?X4 ?X5 ?X6 ?X7 ?X8 ?X9 ?YaZ ?Yb ?Yc ?Yd ?mf ?zI ?Ye ?Yf ?Yg ?Yh ?Yi ?Yj ?Yk ?Yl ?Ym ?Yn ?Yo ?Yp ?Yq ?Yr ?Ys ?Yt ?Yu ?Yv ?Yw ?Yx ?Yy ?Yz ?YA ?Ii ?eN ?d3 ?eO ?dh ?dR ?d4 ?Fp ?Fq ?dN ?zp ?CB ?vK ?qi ?l6 ?ug ?Fs
   (case Hj=>k_is)
   (case CC=>k_is)
   (case CD=>k_is)
   (case CF=>k_is)
   (case CG=>k_is)
   (case l3=>k_is)
   (case CH=>k_is)
   (case a6=>k_is)
   (case bK=>k_is)
   (case de=>k_is)
   (case zq=>k_is)
   (case vZ=>k_is)
   (case v7=>k_is)
   (case v8=>k_is)
   (case v9=>k_is)
   (case fc=>k_is)
   (case wa=>k_is)
   (case aD=>k_is)
   (case bA=>k_is)
   (case bM=>k_is)
   (case bB=>k_is)
   (case a3=>k_is)
   (case a4=>k_is)
   (case a9=>k_is)
   (case bu=>k_is)
   (case aR=>k_is)
   (case CI=>k_is)
   (case zr=>k_is)
   (case zt=>k_is)
   (case zu=>k_is)
   (case zw=>k_is)
   (case lN=>k_is)
   (case zx=>k_is)
   (case dS=>k_is)
   (case aP=>k_is)
   (case aH=>k_is)
   (case bw=>k_is)
   (case bD=>k_is)
   (case bT=>k_is)
   (case aV=>k_is)
   (case bp=>k_is)
   (case a7=>k_is)
   (case aK=>k_is)
   (case Hl=>k_is)
   (case CJ=>k_is)
   (case CL=>k_is)
   (case CM=>k_is)
   (case CN=>k_is)
   (case o6=>k_is)
   (case CO=>k_is)
   (case a8=>k_is)
   (case bC=>k_is)
   (case ej=>k_is)
   (case bx=>k_is)
   (case bN=>k_is)
   (case aA=>k_is)
   (case cB=>k_is)
   (case ba=>k_is)
   (case cj=>k_is)
   (case bo=>k_is)
   (case qj=>k_is)
   (case qk=>k_is)
   (case kH=>k_is)
   (case kI=>k_is)
   (case kJ=>k_is)
   (case l7=>k_is)
   (case l8=>k_is)
   (case hX=>k_is)
   (case hZ=>k_is)
   (case ia=>k_is)
   (case oq=>k_is)
   (case ot=>k_is)
   (case ju=>k_is)
   (case jv=>k_is)
   (case jw=>k_is)
   (case ql=>k_is)
   (case qm=>k_is)
   (case kK=>k_is)
   (case kL=>k_is)
   (case kM=>k_is)
   (case QR=>k_is)
   (case MP=>k_is)
   (case MQ=>k_is)
   (case k_put=>k_is)
   (case Lo=>k_is)
   (case Hm=>k_is)
   (case Hn=>k_is)
   (case Ho=>k_is)
   (case zy=>k_is)
   (case uh=>k_is)
   (case ui=>k_is)
   (case uj=>k_is)
   (case Lp=>k_is)
   (case Hq=>k_is)
   (case Hr=>k_is)
   (case Hs=>k_is)
   (case QS=>k_is)
   (case MR=>k_is)
   (case MS=>k_is)
   (case MT=>k_is)
   (case sJ=>k_is)
   (case m3=>k_is)
   (case m4=>k_is)
   (case m6=>k_is)
   (case CP=>k_is)
   (case xY=>k_is)
   (case xZ=>k_is)
   (case x3=>k_is)
   (case Lq=>k_is)
   (case Ht=>k_is)
   (case Hu=>k_is)
   (case Hv=>k_is)
   (case Hw=>k_is)
   (case Bg=>k_is)
   (case Bh=>k_is)
   (case Bi=>k_is)
   (case QT=>k_is)
   (case MU=>k_is)
   (case MV=>k_is)
   (case MW=>k_is)
   (case ou=>k_is)
   (case jx=>k_is)
   (case jy=>k_is)
   (case jz=>k_is)
   (case qo=>k_is)
   (case kN=>k_is)
   (case kO=>k_is)
   (case kP=>k_is)
   (case sL=>k_is)
   (case m7=>k_is)
   (case m8=>k_is)
   (case m9=>k_is)
   (case Lr=>k_is)
   (case Hy=>k_is)
   (case Hz=>k_is)
   (case HB=>k_is)
   (case qp=>k_is)
   (case kQ=>k_is)
   (case kR=>k_is)
   (case kS=>k_is)
   (case sM=>k_is)
   (case ng=>k_is)
   (case nh=>k_is)
   (case ni=>k_is)
   (case wb=>k_is)
   (case qr=>k_is)
   (case qt=>k_is)
   (case qu=>k_is)
   (case qv=>k_is)
   (case kT=>k_is)
   (case kU=>k_is)
   (case kX=>k_is)
   (case qw=>k_is)
   (case kY=>k_is)
   (case kZ=>k_is)
   (case k0=>k_is)
   (case CQ=>k_is)
   (case x4=>k_is)
   (case x5=>k_is)
   (case x6=>k_is)
   (case zz=>k_is)
   (case uk=>k_is)
   (case um=>k_is)
   (case uo=>k_is)
   (case HC=>k_is)
   (case Bj=>k_is)
   (case Bk=>k_is)
   (case Bl=>k_is)
   (case l9=>k_is)
   (case ib=>k_is)
   (case ic=>k_is)
   (case ie=>k_is)
   (case qx=>k_is)
   (case k7=>k_is)
   (case k8=>k_is)
   (case k9=>k_is)
   (case CS=>k_is)
   (case x8=>k_is)
   (case x9=>k_is)
   (case ya=>k_is)
   (case sN=>k_is)
   (case nj=>k_is)
   (case nk=>k_is)
   (case nq=>k_is)
   (case wd=>k_is)
   (case qy=>k_is)
   (case qz=>k_is)
   (case qA=>k_is)
   (case zA=>k_is)
   (case uq=>k_is)
   (case ur=>k_is)
   (case uu=>k_is)
   (case sO=>k_is)
   (case nt=>k_is)
   (case nv=>k_is)
   (case ny=>k_is)
   (case ow=>k_is)
   (case jA=>k_is)
   (case jB=>k_is)
   (case jC=>k_is)
   (case qB=>k_is)
   (case lg=>k_is)
   (case lh=>k_is)
   (case lj=>k_is)
   (case qC=>k_is)
   (case ll=>k_is)
   (case lp=>k_is)
   (case lq=>k_is)
   (case zB=>k_is)
   (case uv=>k_is)
   (case uw=>k_is)
   (case ux=>k_is)
   (case jS=>k_is)
   (case gz=>k_is)
   (case gA=>k_is)
   (case gB=>k_is)
   (case sP=>k_is)
   (case nB=>k_is)
   (case nE=>k_is)
   (case nF=>k_is)
   (case Ls=>k_is)
   (case HD=>k_is)
   (case HE=>k_is)
   (case HF=>k_is)
   (case CT=>k_is)
   (case yb=>k_is)
   (case yc=>k_is)
   (case yd=>k_is)
   (case zC=>k_is)
   (case uz=>k_is)
   (case uA=>k_is)
   (case uB=>k_is)
   (case we=>k_is)
   (case qD=>k_is)
   (case qE=>k_is)
   (case qF=>k_is)
   (case CU=>k_is)
   (case ye=>k_is)
   (case yf=>k_is)
   (case yg=>k_is)
   (case CV=>k_is)
   (case yh=>k_is)
   (case yi=>k_is)
   (case yj=>k_is)
   (case wj=>k_is)
   (case qG=>k_is)
   (case qH=>k_is)
   (case qI=>k_is)
   (case Lu=>k_is)
   (case HG=>k_is)
   (case HH=>k_is)
   (case HI=>k_is)
   (case Lv=>k_is)
   (case HJ=>k_is)
   (case HK=>k_is)
   (case HL=>k_is)
   (case zD=>k_is)
   (case uC=>k_is)
   (case uD=>k_is)
   (case uE=>k_is)
   (case zE=>k_is)
   (case uF=>k_is)
   (case uG=>k_is)
   (case uH=>k_is)
   (case Lw=>k_is)
   (case HM=>k_is)
   (case HN=>k_is)
   (case HP=>k_is)
   (case CW=>k_is)
   (case yk=>k_is)
   (case yl=>k_is)
   (case ym=>k_is)
   (case Lx=>k_is)
   (case HQ=>k_is)
   (case HR=>k_is)
   (case HS=>k_is)
   (case HU=>k_is)
   (case Bm=>k_is)
   (case Bn=>k_is)
   (case Bo=>k_is)
   (case ox=>k_is)
   (case jD=>k_is)
   (case jE=>k_is)
   (case jF=>k_is)
   (case md=>k_is)
   (case ig=>k_is)
   (case ij=>k_is)
   (case ik=>k_is)
   (case Ly=>k_is)
   (case HV=>k_is)
   (case HW=>k_is)
   (case HX=>k_is)
   (case sQ=>k_is)
   (case nG=>k_is)
   (case nH=>k_is)
   (case nI=>k_is)
   (case sR=>k_is)
   (case nJ=>k_is)
   (case nL=>k_is)
   (case nM=>k_is)
   (case qJ=>k_is)
   (case lr=>k_is)
   (case lu=>k_is)
   (case lx=>k_is)
   (case CY=>k_is)
   (case yn=>k_is)
   (case yo=>k_is)
   (case yp=>k_is)
   (case qK=>k_is)
   (case ly=>k_is)
   (case lA=>k_is)
   (case lB=>k_is)
   (case sS=>k_is)
   (case nN=>k_is)
   (case nO=>k_is)
   (case nP=>k_is)
   (case oy=>k_is)
   (case jG=>k_is)
   (case jH=>k_is)
   (case jI=>k_is)
   (case oz=>k_is)
   (case jJ=>k_is)
   (case jK=>k_is)
   (case jL=>k_is)
   (case Lz=>k_is)
   (case HY=>k_is)
   (case HZ=>k_is)
   (case Ia=>k_is)
   (case zF=>k_is)
   (case uI=>k_is)
   (case uJ=>k_is)
   (case uK=>k_is)
   (case oA=>k_is)
   (case X0=>k_is)
   (case sT=>k_is)
   (case LA=>k_is)
   (case QU=>k_is)
   (case zG=>k_is)
   (case Ib=>k_is)
   (case CZ=>k_is)
   (case QV=>k_is)
   (case X1=>k_is)
   (case QW=>k_is)
   (case Ic=>k_is)
   (case LB=>k_is)
   (case Ie=>k_is)
   (case C0=>k_is)
   (case wk=>k_is)
   (case qL=>k_is)
   (case Ig=>k_is)
   (case lk1=>k_is)
   (case fG=>k_is)
   (case il=>k_is)
   (case fH=>k_is)
   (case oB=>k_is)
   (case zH=>k_is)
   (case lk2=>k_is)
   (case wo=>k_is)
   (case lk3=>k_is)
   (case wq=>k_is)
   (case lk4=>k_is)
   (case oC=>k_is)
   (case me=>k_is)
   (case jT=>k_is)
   (case C1=>k_is)
   (case Ih=>k_is)
   (case lk5=>k_is)
   (case C2=>k_is)
   (case lk6=>k_is)
   (case lk7=>k_is)
   (case lk8=>k_is)
   (case lk9=>k_is)
   (case X2=>k_is)
   (case X3=>k_is)
   (case X4=>k_is)
   (case X5=>k_is)
   (case X6=>k_is)
   (case X7=>k_is)
   (case X8=>k_is)
   (case X9=>k_is)
   (case YaZ=>k_is)
   (case Yb=>k_is)
   (case Yc=>k_is)
   (case Yd=>k_is)
   (case mf=>k_is)
   (case zI=>k_is)
   (case Ye=>k_is)
   (case Yf=>k_is)
   (case Yg=>k_is)
   (case Yh=>k_is)
   (case Yi=>k_is)
   (case Yj=>k_is)
   (case Yk=>k_is)
   (case Yl=>k_is)
   (case Ym=>k_is)
   (case Yn=>k_is)
   (case Yo=>k_is)
   (case Yp=>k_is)
   (case Yq=>k_is)
   (case Yr=>k_is)
   (case Ys=>k_is)
   (case Yt=>k_is)
   (case Yu=>k_is)
   (case Yv=>k_is)
   (case Yw=>k_is)
   (case Yx=>k_is)
   (case Yy=>k_is)
   (case Yz=>k_is)
   (case YA=>k_is)
   (case Ii=>k_is)
   (case eN=>decide)
   (case d3=>decide)
   (case eO=>decide)
   (case dh=>decide)
   (case dR=>decide)
   (case d4=>decide)
   (case Fp=>k_is)
   (case Fq=>k_is)
   (case dN=>k_is)
   (case zp=>k_is)
   (case CB=>k_is)
   (case vK=>k_is)
   (case qi=>k_is)
   (case l6=>k_is)
   (case ug=>k_is)
   (case Fs=>k_is)
  obtain ⟨t,T⟩:=T
  have e0:=hmg.symm.trans T.Fl
  cases e0
  exact ⟨t.lM,Rl.ID T,fun base kb nb=>Rl.LO Rl.IC T⟩
 case S=>
  intro K H xs a hO Zp LP hx
  cases hx with
  |cons h1 h2=>
   cases h2
   cases h1 with
   |lst hs ha=>
    have e:=L2.Mq a.1 _ ha
    subst e
    exact ⟨_,a.1,rfl,hs,LP,fun H' p _ hp _=> .lst (L2.cK.of hp) (L2.Mp _)⟩
