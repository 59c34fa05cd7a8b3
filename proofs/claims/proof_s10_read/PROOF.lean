import PyProof.Rows.All
import Wide.All
import OpenK.AllK
import Wide.FinOn
import PyProof.EqAt
import PyProof.EqKinds
import PyProof.TupleCall
import KE.BitLaws
import Open.SpecLaws
import KE.OsHead
import KE.OsGo
import PySem.Challenge.RW_soundkeeping_s10_read
set_option Elab.async false
set_option linter.all false
set_option maxRecDepth 100000
namespace L2
open PySem PySem.Spec PyProof.Rows
abbrev Key:=Sum Int Str
def vj:Key→Value→Bool
 | .inl k,v=>Value.isInt k v
 | .inr x,v=>Value.isStrOf x v
def D0 (w:World):Key→Int
 | .inl k=>hashInt k
 | .inr x=>hashStr w x
theorem fX: ∀{k:Key} {v:Value},vj k v=true→(∃i t,k=Sum.inl i∧v=Value.int i t)∨(∃x t,k=Sum.inr x∧v=Value.str x t)
 | .inl i,v,h=>by
  obtain ⟨t,e⟩:=Value.isInt_shape (k:=i) (v:=v) h
  exact .inl ⟨i,t,rfl,e⟩
 | .inr x,v,h=>by
  obtain ⟨t,e⟩:=Value.isStrOf_shape (x:=x) (v:=v) h
  exact .inr ⟨x,t,rfl,e⟩
theorem JN (a b:Int):decide ((Sum.inl a:Key)=Sum.inl b)=(a==b):=by
 by_cases e:a=b
 ·subst e;simp
 ·have h: ¬(Sum.inl a:Key)=Sum.inl b:=fun q=>e (Sum.inl.inj q)
  rw[decide_eq_false h]
  exact (beq_eq_false_iff_ne.mpr e).symm
theorem Fi (a b:Str):decide ((Sum.inr a:Key)=Sum.inr b)=decide (a=b):=by
 by_cases e:a=b
 ·subst e;simp
 ·have h: ¬(Sum.inr a:Key)=Sum.inr b:=fun q=>e (Sum.inr.inj q)
  rw[decide_eq_false h,decide_eq_false e]
theorem J9 (a:Int) (b:Str):decide ((Sum.inl a:Key)=Sum.inr b)=false:=decide_eq_false (fun q=>nomatch q)
theorem Jh (a:Str) (b:Int):decide ((Sum.inr a:Key)=Sum.inl b)=false:=decide_eq_false (fun q=>nomatch q)
def uG (prog:Program) (w:World):PySem.KeyKind prog w Key where
 is:=vj
 hash:=D0 w
 inj:=fun v a b ha hb=>by
  rcases fX ha with ⟨i,t,rfl,rfl⟩|⟨x,t,rfl,rfl⟩
  ·rcases fX hb with ⟨j,u,rfl,e⟩|⟨y,u,rfl,e⟩
   ·injection e with e1 _;rw[e1]
   ·exact nomatch e
  ·rcases fX hb with ⟨j,u,rfl,e⟩|⟨y,u,rfl,e⟩
   ·exact nomatch e
   ·injection e with e1 _;rw[e1]
 byValue:=fun k v h=>by
  rcases fX h with ⟨i,t,rfl,rfl⟩|⟨x,t,rfl,rfl⟩<;>rfl
 pyHash:=fun hv h=>by
  rcases fX hv with ⟨i,t,rfl,rfl⟩|⟨x,t,rfl,rfl⟩
  ·exact wpAny_pyHash_int h
  ·exact wpAny_pyHash_str h
 eqBool:=fun hu hv h=>by
  rcases fX hu with ⟨i,t,rfl,rfl⟩|⟨x,t,rfl,rfl⟩
  ·rcases fX hv with ⟨j,u,rfl,rfl⟩|⟨y,u,rfl,rfl⟩
   ·rw[JN] at h;exact wpAny_eqBool_int h
   ·rw[J9] at h;exact SeqAt.EqAt.int_str i t y u _ _ _ _ h
  ·rcases fX hv with ⟨j,u,rfl,rfl⟩|⟨y,u,rfl,rfl⟩
   ·rw[Jh] at h;exact SeqAt.EqAt.str_int x t j u _ _ _ _ h
   ·rw[Fi] at h;exact wpAny_eqBool_str h
 «strs»:=fun k x t v h=>by
  rcases fX h with ⟨i,u,rfl,e⟩|⟨y,u,rfl,e⟩
  ·exact nomatch e
  ·injection e with e1 _
   subst e1
   cases v<;>rfl
end L2
namespace L2
open PySem PySem.Spec PyProof.Rows
inductive V where
 |aq|bl (b:Bool)|int (i:Int)|str (x:Str)|cN (b:Array UInt8)|lg (b:UInt64)|ref (a:Addr)|ty (n:String)
 deriving DecidableEq
def RelV:V→Value→Prop
 | .aq,u=>u=Value.none
 | .bl b,u=>u=Value.bool b
 | .int i,u=> ∃t,u=Value.int i t
 | .str x,u=> ∃t,u=Value.str x t
 | .cN b,u=> ∃t,u=Value.bytes b t
 | .lg b,u=> ∃t,u=Value.float b t
 | .ref a,u=>u=Value.ref a
 | .ty n,u=>u=Value.type n
abbrev Vals:List V→List Value→Prop:=Paired RelV
theorem Vals.length {xs:List V} {us:List Value} (r:Vals xs us):xs.length=us.length:=Paired.length r
theorem Vals.get: ∀{xs:List V} {us:List Value} {i:Nat} {x:V},Vals xs us→xs[i]?=some x→ ∃u,us[i]?=some u∧RelV x u
 |_,_,_,_, .nil,e=>by simp at e
 |_,_,0,_, .cons r _,e=>by simp at e;subst e;exact ⟨_,rfl,r⟩
 |_,_,i+1,x, .cons _ t,e=>by
  obtain ⟨u,h1,h2⟩:=Vals.get (i:=i) (x:=x) t (by simpa using e)
  exact ⟨u,by simpa using h1,h2⟩
theorem Vals.append: ∀{xs ys:List V} {us ws:List Value},Vals xs us→Vals ys ws→Vals (xs++ys) (us++ws)
 |_,_,_,_, .nil,s=>s
 |_,_,_,_, .cons r t,s=> .cons r (Vals.append t s)
theorem Vals.take: ∀{xs:List V} {us:List Value} (n:Nat),Vals xs us→Vals (xs.take n) (us.take n)
 |_,_,0,_=> .nil
 |_,_,_+1, .nil=> .nil
 |_,_,n+1, .cons r t=> .cons r (Vals.take n t)
theorem Vals.drop: ∀{xs:List V} {us:List Value} (n:Nat),Vals xs us→Vals (xs.drop n) (us.drop n)
 |_,_,0,r=>r
 |_,_,_+1, .nil=> .nil
 |_,_,n+1, .cons _ t=>Vals.drop n t
def fu:Option V→Option Value→Prop
 |some v,some u=>RelV v u
 |none,none=>True
 |_,_=>False
def KV {κ:Type}:List (κ×V)→List (κ×Value)→Prop:=Paired fun (p:κ×V) (q:κ×Value)=>p.1=q.1∧RelV p.2 q.2
def kV:Key→V
 | .inl i=> .int i
 | .inr x=> .str x
inductive HO where
 |lst (xs:List V)
 |tup (xs:List V)
 |dK (kvs:List (Key×V))|dT (kvs:List (List Key×V))
 |set (S:Int→Bool) (n:Nat)
 |ins (C dx:Addr) (fs:List (Str×V))
 |own (x:Addr)
 |xd (fs:List (Str×V))
 |met (f x:Addr)
 |nV (lo hi:Int)
 |cg (o:Obj) (u:HO)
 |gw (ps:Array Value)
 |ext (φ:Heap→Prop)
abbrev Hp:=Addr→Option HO
def upd (H:Hp) (a:Addr) (o:HO):Hp:=fun b=>if b=a then some o else H b
theorem ao {H:Hp} {a:Addr} {o:HO}:upd H a o a=some o:=by unfold upd;rw[if_pos rfl]
theorem aB {H:Hp} {a b:Addr} {o:HO} (h:b≠a):upd H a o b=H b:=by unfold upd;rw[if_neg h]
theorem bV {H:Hp} {a:Addr} {o u:HO}:upd (upd H a o) a u=upd H a u:=by
 funext b;unfold upd;split<;>rfl
theorem oK {H:Hp} {a b:Addr} {o u:HO} (h:H a=some o) (h':H b=some u) (d:o≠u):a≠b:=by
 intro e;subst e;rw[h] at h';exact d (Option.some.inj h')
theorem b6 {H:Hp} {a b:Addr} {o:HO} (h:H a=some o) (h':H b=none):a≠b:=by
 intro e;subst e;rw[h] at h';cases h'
section
variable (P:Program) (w:World)
def cj (H:Hp) (h:Heap) (a:Addr):HO→Prop
 | .lst xs=>xs.length≤sizeLine∧ ∃(its:List Value) (n:Nat),Vals xs its∧h.get? a=some {cls:= .type "list",data:= .seq its.toArray n}
 | .tup xs=>xs.length≤sizeLine∧ ∃its:List Value,Vals xs its∧IsTup h a its.toArray
 | .dK kvs=>kvs.length≤sizeLine∧(a==sysModules)=false∧ ∃vs,KV kvs vs∧h.DictOf (uG P w) a vs
 | .dT kvs=>kvs.length≤sizeLine∧(a==sysModules)=false∧ ∃xs:List (List Key×Addr×Value),
   Paired (fun (p:List Key×V) (q:List Key×Addr×Value)=>p.1=q.1∧H q.2.1=some (.tup (p.1.map kV))∧RelV p.2 q.2.2) kvs xs∧
   ∃o es ep,h.get? a=some o∧o.ExactDict∧o.data= .dict es ep∧es.toList=xs.map (entryOfKey (tupleKind (uG P w)))∧(xs.map (·.1)).Nodup
 | .set S n=>h.SetOf (intKind P w) a S n
 | .ins C dx fs=>H dx=some (.own a)∧fs.length≤1000∧dx≠a∧h.get? a=some (PySem.W.instObj C dx)∧
   ∃mA,h.Ns1 dx mA∧(∀f,fu (fs.lookup f) (mA f))∧PySem.Within mA (fs.map (·.1))
 | .own _=> ∃o,h.get? a=some o
 | .xd fs=> ∃mA,h.Ns1 a mA∧ ∀f,fu (fs.lookup f) (mA f)
 | .nV lo hi=> ∃t u v,h.get? a=some {cls:= .type "range",data:= .fields #[.int lo t, .int hi u, .int 1 v]}
 | .cg o u=>h.get? a=some o∧cj H h a u
 | .gw ps=>h.get? a=some {cls:= .none,data:= .fields ps}
 | .met f x=>h.get? a=some (PySem.W.methodObj (.ref f) (.ref x))
 | .ext φ=>φ h∧(∃o,h.get? a=some o)∧ ∀h1 h2:Heap,φ h1→(∀o,h1.get? a=some o→h2.get? a=some o)→φ h2
def bE (H:Hp) (h:Heap):Prop:= ∀a o,H a=some o→cj P w H h a o
end
section
variable {P:Program} {w:World} {H H':Hp} {h h':Heap} {a:Addr} {o:HO}
theorem cj.lt (x:cj P w H h a o):a<h.objs.size:=by
 cases o with
 |lst xs=>obtain ⟨_,_,_,_,e⟩:=x;exact Heap.lt_size e
 |tup xs=>obtain ⟨_,_,_,p⟩:=x;exact p.lt
 |dK kvs=>obtain ⟨_,_,_,_,o,_,_,e,_⟩:=x;exact Heap.lt_size e
 |dT kvs=>obtain ⟨_,_,_,_,o,_,_,e,_⟩:=x;exact Heap.lt_size e
 |set S n=>obtain ⟨o,_,_,_,e,_⟩:=x;exact Heap.lt_size e
 |ins C dx fs=>obtain ⟨_,_,_,e,_⟩:=x;exact Heap.lt_size e
 |own y=>obtain ⟨_,e⟩:=x;exact Heap.lt_size e
 |xd fs=>obtain ⟨_,⟨_,_,_,e,_⟩,_⟩:=x;exact Heap.lt_size e
 |nV lo hi=>obtain ⟨_,_,_,e⟩:=x;exact Heap.lt_size e
 |cg ob u=>obtain ⟨e,_⟩:=x;exact Heap.lt_size e
 |gw ps=>exact Heap.lt_size (show h.get? a=some _ from x)
 |met f y=>exact Heap.lt_size (show h.get? a=some _ from x)
 |ext φ=>obtain ⟨_,⟨_,e⟩,_⟩:=x;exact Heap.lt_size e
theorem Paired.yA {α β:Type} {F G:α→β→Prop}: ∀{l₁:List α} {l₂:List β},Paired F l₁ l₂→(∀a b,F a b→G a b)→Paired G l₁ l₂
 |_,_, .nil,_=> .nil
 |_,_, .cons r t,f=> .cons (f _ _ r) (Paired.yA t f)
theorem cj.d4 (x:cj P w H h a o) (k: ∀b u,(b=a∨H b=some (.own a))→h.get? b=some u→h'.get? b=some u)
  (ho: ∀b,H b=some (.own a)→H' b=some (.own a)) (ht: ∀b xs,H b=some (.tup xs)→H' b=some (.tup xs)):cj P w H' h' a o:=by
 induction o with
 |lst xs=>obtain ⟨z,its,n,r,e⟩:=x;exact ⟨z,its,n,r,k _ _ (.inl rfl) e⟩
 |tup xs=>obtain ⟨z,its,r,ob,e,c⟩:=x;exact ⟨z,its,r,ob,k _ _ (.inl rfl) e,c⟩
 |dK kvs=>obtain ⟨z,y,vs,r,ob,es,ep,e,c⟩:=x;exact ⟨z,y,vs,r,ob,es,ep,k _ _ (.inl rfl) e,c⟩
 |dT kvs=>
  obtain ⟨z,y,xs,r,ob,es,ep,e,c⟩:=x
  exact ⟨z,y,xs,Paired.yA r fun p q z=>⟨z.1,ht _ _ z.2.1,z.2.2⟩,ob,es,ep,k _ _ (.inl rfl) e,c⟩
 |set S n=>obtain ⟨ob,es,ep,t,e,c⟩:=x;exact ⟨ob,es,ep,t,k _ _ (.inl rfl) e,c⟩
 |ins C dx fs=>
  obtain ⟨d,z,ne,e,mA,⟨od,es,ep,e2,c⟩,r⟩:=x
  exact ⟨ho _ d,z,ne,k _ _ (.inl rfl) e,mA,⟨od,es,ep,k _ _ (.inr d) e2,c⟩,r⟩
 |own y=>obtain ⟨ob,e⟩:=x;exact ⟨ob,k _ _ (.inl rfl) e⟩
 |xd fs=>obtain ⟨mA,⟨od,es,ep,e,c⟩,r⟩:=x;exact ⟨mA,⟨od,es,ep,k _ _ (.inl rfl) e,c⟩,r⟩
 |nV lo hi=>obtain ⟨t,u,v,e⟩:=x;exact ⟨t,u,v,k _ _ (.inl rfl) e⟩
 |cg ob u ih=>obtain ⟨e,q⟩:=x;exact ⟨k _ _ (.inl rfl) e,ih q⟩
 |gw ps=>
  have e:h.get? a=some {cls:= .none,data:= .fields ps}:=x
  show h'.get? a=some {cls:= .none,data:= .fields ps}
  exact k a _ (.inl rfl) e
 |met f y=>
  have e:h.get? a=some (PySem.W.methodObj (.ref f) (.ref y)):=x
  show h'.get? a=some (PySem.W.methodObj (.ref f) (.ref y))
  exact k a _ (.inl rfl) e
 |ext φ=>obtain ⟨p,⟨o,e⟩,st⟩:=x;exact ⟨st _ _ p fun o q=>k _ _ (.inl rfl) q,⟨o,k _ _ (.inl rfl) e⟩,st⟩
theorem bE.lt (x:bE P w H h) (e:H a=some o):a<h.objs.size:=(x a o e).lt
theorem bE.fresh (x:bE P w H h) (e:h.objs.size≤a):H a=none:=by
 cases q:H a with
 |none=>rfl
 |some u=>exact absurd (Nat.lt_of_lt_of_le (x.lt q) e) (Nat.lt_irrefl _)
theorem bE.kept (x:bE P w H h) (k: ∀b u,h.get? b=some u→h'.get? b=some u):bE P w H h':=fun a o e=>
 (x a o e).d4 (fun b u _ q=>k b u q) (fun _ q=>q) fun _ _ q=>q
theorem bE.laid (x:bE P w H h) (k: ∀b u,h.get? b=some u→h'.get? b=some u) (hp:h.objs.size≤a) (new:cj P w (upd H a o) h' a o):bE P w (upd H a o) h':=fun b u e=>by
 have hn:=x.fresh hp
 by_cases hb:b=a
 ·subst hb;rw[ao] at e;cases e;exact new
 ·rw[aB hb] at e
  exact (x b u e).d4 (fun c v _ q=>k c v q) (fun c q=>by rw[aB (b6 q hn)];exact q) fun c xs q=>by rw[aB (b6 q hn)];exact q
end
def Rd (H:Hp) (a:Addr) (u:HO):Prop:=H a=some u∨ ∃o,H a=some (.cg o u)
theorem Rd.ok {P:Program} {w:World} {H:Hp} {h:Heap} {a:Addr} {u:HO} (r:Rd H a u) (x:bE P w H h):cj P w H h a u:=by
 rcases r with r|⟨o,r⟩
 ·exact x a u r
 ·obtain ⟨_,q⟩:=x a _ r
  exact q
def oy:Option HO→Prop
 |some (.lst _)=>True
 |some (.dK _)=>True
 |some (.dT _)=>True
 |some (.set _ _)=>True
 |some (.ins _ _ _)=>True
 |some (.ext _)=>True
 |_=>False
section
variable {P:Program} {w:World} {H:Hp} {h h':Heap} {x e:Addr} {o':HO}
theorem bE.write (ok:bE P w H h) (mu:oy (H x)) (he:e=x∨H e=some (.own x)) (k: ∀b u,b≠e→h.get? b=some u→h'.get? b=some u) (heo: ∃u,h'.get? e=some u)
  (new:cj P w (upd H x o') h' x o'):bE P w (upd H x o') h':=fun b u q=>by
 have nown: ∀c y,H c=some (.own y)→c≠x:=fun c y r z=>by subst z;rw[r] at mu;exact mu
 have ntup: ∀c xs,H c=some (.tup xs)→c≠x:=fun c xs r z=>by subst z;rw[r] at mu;exact mu
 by_cases hb:b=x
 ·subst hb;rw[ao] at q;cases q;exact new
 ·rw[aB hb] at q
  by_cases hbe:b=e
  ·have q':H b=some (.own x):=by
    rcases he with z|z
    ·exact absurd (hbe.trans z) hb
    ·rw[hbe];exact z
   rw[q] at q';cases q'
   obtain ⟨v,hv⟩:=heo
   exact ⟨v,by rw[hbe];exact hv⟩
  ·refine (ok b u q).d4 (fun c v hc r=>k c v ?_ r) (fun c r=>by rw[aB (nown c b r)];exact r) fun c xs r=>by rw[aB (ntup c xs r)];exact r
   rcases hc with rfl|hc
   ·exact hbe
   ·rintro rfl
    rcases he with z|z
    ·exact nown c b hc z
    ·rw[hc] at z;cases z;exact hb rfl
end
structure Un (fs ex:List Addr) (H H':Hp) (h h':Heap):Prop where
 keep: ∀b o,h.get? b=some o→H b=none→b∉fs→b∉ex→h'.get? b=some o
 slot: ∀b o,h.get? b=some o→H b=none→b∈fs→b∉ex→ ∃sl,h'.get? b=some {o with slots:=sl}
 free: ∀b o,h.get? b=some o→H b=none→b∉ex→H' b=none
 there: ∀b o,h.get? b=some o→b∉ex→ ∃o',h'.get? b=some o'
 fw: ∀b xs,H b=some (.tup xs)→H' b=some (.tup xs)
 eJ: ∀b o u,H b=some (.cg o u)→H' b=some (.cg o u)
 ft: ∀b ps,H b=some (.gw ps)→ ∃more,H' b=some (.gw (ps++more))
section
variable {fs fs' ex ex':List Addr} {H H1 H2:Hp} {h h1 h2 h':Heap} {a x e:Addr} {o:HO}
theorem Un.any (u:Un fs ex H H1 h h1) {b:Addr} {ob:Obj} (q:h.get? b=some ob) (n:H b=none) (hx:b∉ex): ∃sl,h1.get? b=some {ob with slots:=sl}:=by
 by_cases hb:b∈fs
 ·exact u.slot b ob q n hb hx
 ·exact ⟨ob.slots,u.keep b ob q n hb hx⟩
theorem Un.kept (k: ∀b u,h.get? b=some u→h'.get? b=some u):Un fs ex H H h h':=
 ⟨fun b ob q _ _ _=>k b ob q,fun b ob q _ _ _=>⟨ob.slots,k b ob q⟩,fun _ _ _ n _=>n,fun b ob q _=>⟨ob,k b ob q⟩,fun _ _ q=>q,fun _ _ _ q=>q,fun _ ps q=>⟨#[],by rw[q];simp⟩⟩
theorem Un.refl:Un fs ex H H h h:=Un.kept fun _ _ q=>q
theorem Un.laid (k: ∀b u,h.get? b=some u→h'.get? b=some u) (hp:h.objs.size≤a) (hn:H a=none):Un fs ex H (upd H a o) h h' where
 keep:=fun b u q _ _ _=>k b u q
 slot:=fun b u q _ _ _=>⟨u.slots,k b u q⟩
 free:=fun b u q n _=>by rw[aB (Nat.ne_of_lt (Nat.lt_of_lt_of_le (Heap.lt_size q) hp))];exact n
 there:=fun b u q _=>⟨u,k b u q⟩
 fw:=fun b xs q=>by rw[aB (b6 q hn)];exact q
 eJ:=fun b u xs q=>by rw[aB (b6 q hn)];exact q
 ft:=fun b ps q=>⟨#[],by rw[aB (b6 q hn),q];simp⟩
theorem Un.write (mu:oy (H x)) (he:e=x∨H e=some (.own x)) (k: ∀b u,b≠e→h.get? b=some u→h'.get? b=some u) (heo: ∃u,h'.get? e=some u):Un fs ex H (upd H x o) h h':=by
 have hx: ∀b,H b=none→b≠x:=fun b n z=>by subst z;rw[n] at mu;exact mu
 have hb: ∀b,H b=none→b≠e:=fun b n z=>by
  subst z
  rcases he with r|r
  ·exact hx b n r
  ·rw[n] at r;cases r
 have hm: ∀b u,H b=some u→ ¬oy (some u)→b≠x:=fun b u q nm z=>by subst z;rw[q] at mu;exact nm mu
 refine ⟨fun b u q n _ _=>k b u (hb b n) q,fun b u q n _ _=>⟨u.slots,k b u (hb b n) q⟩,fun b u q n _=>by rw[aB (hx b n)];exact n,fun b u q _=>?_,
  fun b xs q=>by rw[aB (hm b _ q fun z=>z)];exact q,fun b u xs q=>by rw[aB (hm b _ q fun z=>z)];exact q,fun b ps q=>⟨#[],by rw[aB (hm b _ q fun z=>z),q];simp⟩⟩
 by_cases hbe:b=e
 ·subst hbe;exact heo
 ·exact ⟨u,k b u hbe q⟩
end
def p5 (h:Heap) (H:Hp):List Addr:=(List.range h.objs.size).filter fun a=>(H a).isSome
def fS (h:Heap) (H:Hp):Heap:=PySem.W.hideAll h (p5 h H)
theorem J2 (h:Heap) (H:Hp):(fS h H).objs.size=h.objs.size:=PySem.W.hideAll_size _ _
theorem FJ {h:Heap} {H:Hp} {b:Addr} {o:Obj} (e:h.get? b=some o) (n:H b=none):(fS h H).get? b=some o:=
 PySem.W.hideAll_get _ e fun hm=>by
  have q:(H b).isSome=true:=(List.mem_filter.mp hm).2
  rw[n] at q;simp at q
theorem GO {h:Heap} {H:Hp} {b:Addr} {o:Obj} (e:(fS h H).get? b=some o):h.get? b=some o∧H b=none:=by
 have e':h.get? b=some o:=PySem.W.of_hideAll (p5 h H) e
 refine ⟨e',?_⟩
 cases q:H b with
 |none=>rfl
 |some x=>
  have hm:b∈p5 h H:=List.mem_filter.mpr ⟨List.mem_range.mpr (Heap.lt_size e'),by simp [q]⟩
  have z:(fS h H).get? b=none:=PySem.W.hideAll_none (p5 h H) hm
  rw[z] at e;cases e
end L2
namespace L2
open PySem PySem.Spec PyProof.Rows
structure Mod (K:PySem.W.Frag) (mg:Str→Option Value) (base:Heap):Prop where
 g0:K.In base
 glob:base.Ns mainGlobals mg
 blt: ∃mb,base.Ns builtinsNs mb∧ ∀x:Str,x≠ "__name__" →mb x=bootBuiltins x
 nolimit:base.NoLimit
structure Cx where
 prog:Program
 w:World
 K:PySem.W.Frag
 mg:Str→Option Value
 base:Heap
 A:Around
 N:List Str
 ba:Shared
 jm:Hp
 env:Env
 outer:List Env
 stack:List Env
 ex:List Addr
 fn:Str→Bool
 calm:Bool
 pn:List (Addr×Obj)
 xe:Value→Shared→Prop
def aT (l:List Env):List Addr:=l.filterMap (·.frame)
abbrev Cx.fs (X:Cx):List Addr:=aT X.outer
def iS (sc:Scope) (x:Str):Prop:=sc.names.lookup x=some .local∨sc.names.lookup x=some .cell∨sc.names.lookup x=some .free
def Loc (sc:Scope) (x:Str):Prop:=sc.names.lookup x=some .local∨sc.names.lookup x=some .cell
def Look (env:Env) (h:Heap) (m:Str→Option Value) (x:Str) (u:Value):Prop:=
 (env.kindOf x=some .local∧m x=some u)∨((env.kindOf x=some .cell∨env.kindOf x=some .free)∧ ∃c,env.cells.lookup x=some c∧h.IsCell c (some u))
structure Cx.Ok (X:Cx):Prop where
 mod:Mod X.K X.mg X.base
 kind:X.env.scope.kind= .function
 glob:X.env.globals=mainGlobals
 blt:X.env.builtins=builtinsNs
 above:X.ba.heap.objs.size≤X.env.locals
 inj: ∀x y c,X.env.cells.lookup x=some c→X.env.cells.lookup y=some c→x=y
 has: ∀x,(X.env.kindOf x=some .cell∨X.env.kindOf x=some .free)→ ∃c,X.env.cells.lookup x=some c
 gn: ∀x c,X.fn x=true→X.env.cells.lookup x=some c→X.ba.heap.objs.size≤c
 hd:X.calm=true→X.A.handled=none
 frames:X.A.frames=some X.stack
 g9:X.stack=X.outer∨(X.stack=X.env::X.outer∧X.env.frame=some X.env.locals)
 fL: ∀b∈X.ex,b≠X.env.locals∧ ∀x c,X.env.cells.lookup x=some c→c≠b
 bs: ∀b o,X.base.get? b=some o→X.ba.heap.get? b=some o∧X.jm b=none
 dW:X.base.objs.size≤X.ba.heap.objs.size
 dC: ∀b o,X.base.get? b=some o→b∉X.ex
 fM: ∀b∈X.ex,b∉X.fs
 cQ:X.ba.heap.FunFrames X.base X.outer
 fj: ∀b∈X.fs,X.jm b=none
structure Inv (X:Cx) (pins:List (Addr×Obj)) (σ:List (Option V)) (H:Hp) (s:Shared):Prop where
 ok:X.Ok
 os:s.os=X.ba.os
 bare:AllBare s.gens
 base:Un X.fs X.ex X.jm H X.ba.heap s.heap
 loc: ∃m,s.heap.Ns X.env.locals m∧ ∀(i:Nat) (x:Str) (v:V),X.N[i]?=some x→σ[i]?=some (some v)→iS X.env.scope x→ ∃u,RelV v u∧Look X.env s.heap m x u
 cell: ∀x c,X.env.cells.lookup x=some c→ ∃v,s.heap.IsCell c v
 free:H X.env.locals=none
 cR: ∀x c,X.env.cells.lookup x=some c→H c=none
 pin: ∀p∈X.pn++pins,s.heap.get? p.1=some p.2∧H p.1=none∧p.1≠X.env.locals∧p.1∉X.fs∧ ∀v,p.2.data≠ .cell v
 aj:bE X.prog X.w H s.heap
 len:σ.length=X.N.length
section
variable {X:Cx} {pins:List (Addr×Obj)} {σ:List (Option V)} {H H':Hp} {s:Shared} {h':Heap}
theorem Cx.Ok.Ez (ok:X.Ok) {b:Addr} {o:Obj} (e:X.base.get? b=some o):b∉X.fs:=fun hb=>by
 have:=(ok.cQ.mem hb).1
 rw[e] at this;cases this
theorem Inv.bs (I:Inv X pins σ H s): ∀b o,X.base.get? b=some o→s.heap.get? b=some o∧H b=none:=fun b o e=>
 ⟨I.base.keep b o (I.ok.bs b o e).1 (I.ok.bs b o e).2 (I.ok.Ez e) (I.ok.dC b o e),I.base.free b o (I.ok.bs b o e).1 (I.ok.bs b o e).2 (I.ok.dC b o e)⟩
theorem Inv.bk (I:Inv X pins σ H s): ∀b o,X.base.get? b=some o→s.heap.get? b=some o:=fun b o e=>(I.bs b o e).1
theorem Inv.mod (I:Inv X pins σ H s):Mod X.K X.mg X.base:=I.ok.mod
theorem Inv.bT (I:Inv X pins σ H s):X.K.In s.heap:=I.ok.mod.g0.keeps I.bk
theorem Inv.lt (I:Inv X pins σ H s):X.env.locals<s.heap.objs.size:=let ⟨_,hn,_⟩:=I.loc;hn.lt
theorem Inv.sz (I:Inv X pins σ H s):X.ba.heap.objs.size≤s.heap.objs.size:=Nat.le_trans I.ok.above (Nat.le_of_lt I.lt)
theorem Inv.Ft (I:Inv X pins σ H s) {a:Addr} (h:s.heap.objs.size≤a):a∉X.fs:=fun hb=>by
 obtain ⟨_,o,ho,_⟩:=I.ok.cQ.mem hb
 exact absurd (Nat.lt_of_lt_of_le (Heap.lt_size ho) (Nat.le_trans I.sz h)) (Nat.lt_irrefl _)
theorem Inv.gK (I:Inv X pins σ H s): ∀x c,X.env.cells.lookup x=some c→c≠X.env.locals:=fun x c e z=>by
 obtain ⟨v,o,ho,hd⟩:=I.cell x c e
 obtain ⟨m,⟨o',es,ep,ho',hd',_⟩,_⟩:=I.loc
 rw[z,ho'] at ho;cases ho;rw[hd'] at hd;cases hd
theorem Inv.cQ (I:Inv X pins σ H s):s.heap.FunFrames X.base X.outer:=by
 have all: ∀(l:List Env),(∀b∈aT l,b∈X.fs)→X.ba.heap.FunFrames X.base l→s.heap.FunFrames X.base l:=by
  intro l
  induction l with
  |nil=>intro _ _;trivial
  |cons env r ih=>
   intro hs hl
   obtain ⟨hk,⟨L,o,hf,hn,ho,hd⟩,hr⟩:=hl
   have hL:L∈X.fs:=hs L (by unfold aT;rw[List.filterMap_cons,hf];exact List.mem_cons_self)
   obtain ⟨sl,e⟩:=I.base.slot L o ho (I.ok.fj L hL) hL fun z=>I.ok.fM L z hL
   exact ⟨hk,⟨L,_,hf,hn,e,hd⟩,ih (fun b hb=>hs b (by unfold aT;rw[List.filterMap_cons,hf];exact List.mem_cons_of_mem _ hb)) hr⟩
 exact all X.outer (fun _ hb=>hb) I.ok.cQ
theorem Inv.stack (I:Inv X pins σ H s):s.heap.FunFrames X.base X.stack:=by
 rcases I.ok.g9 with e|⟨e,hf⟩
 ·rw[e];exact I.cQ
 ·rw[e]
  obtain ⟨m,hn,_⟩:=I.loc
  refine .cons (by rw[I.ok.kind];decide) hf hn ?_ I.cQ
  exact Heap.get?_none_of_le (Nat.le_trans I.ok.dW I.ok.above)
theorem Inv.km (I:Inv X pins σ H s): ∀b∈aT X.stack,b∈X.env.locals::X.fs:=fun b hb=>by
 rcases I.ok.g9 with e|⟨e,hf⟩
 ·rw[e] at hb;exact List.mem_cons_of_mem _ hb
 ·rw[e] at hb
  unfold aT at hb
  rw[List.filterMap_cons,hf] at hb
  exact hb
theorem Inv.pO (I:Inv X pins σ H s): ∀b∈aT X.stack,H b=none:=fun b hb=>by
 rcases List.mem_cons.mp (I.km b hb) with e|hb
 ·rw[e];exact I.free
 ·obtain ⟨_,o,ho,_⟩:=I.ok.cQ.mem hb
  exact I.base.free b o ho (I.ok.fj b hb) fun z=>I.ok.fM b z hb
theorem Inv.step {g':Array GenState} {t':Nat} {d':Drawn} {ch:List Addr} (I:Inv X pins σ H s)
  (hch: ∀b∈ch,(b∈X.ex∨X.ba.heap.objs.size≤b)∧b≠X.env.locals∧(∀x c,X.env.cells.lookup x=some c→c≠b)∧ ∀p∈X.pn++pins,p.1≠b)
  (keep: ∀b o,b≠X.env.locals→b∉X.fs→b∉ch→s.heap.get? b=some o→H b=none→h'.get? b=some o)
  (slot: ∀b o,b≠X.env.locals→b∈X.fs→b∉ch→s.heap.get? b=some o→H b=none→ ∃sl,h'.get? b=some {o with slots:=sl}) (free: ∀b o,b∉ch→s.heap.get? b=some o→H b=none→H' b=none)
  (there: ∀b o,b∉ch→s.heap.get? b=some o→ ∃o',h'.get? b=some o')
  (fw: ∀b xs,H b=some (.tup xs)→H' b=some (.tup xs)) (eJ: ∀b o u,H b=some (.cg o u)→H' b=some (.cg o u)) (ft: ∀b ps,H b=some (.gw ps)→ ∃more,H' b=some (.gw (ps++more)))
  (ns: ∀m,s.heap.Ns X.env.locals m→h'.Ns X.env.locals m) (aj:bE X.prog X.w H' h') (hg:AllBare g'):
  Inv X pins σ H' {s with heap:=h',gens:=g',drawn:=d',toks:=t'}:=by
 have neL: ∀b o,X.ba.heap.get? b=some o→b≠X.env.locals:=fun b o e=>Nat.ne_of_lt (Nat.lt_of_lt_of_le (Heap.lt_size e) I.ok.above)
 have neC: ∀b o,X.ba.heap.get? b=some o→b∉X.ex→b∉ch:=fun b o e hx hb=>by
  rcases (hch b hb).1 with z|z
  ·exact hx z
  ·exact absurd (Nat.lt_of_lt_of_le (Heap.lt_size e) z) (Nat.lt_irrefl _)
 have cellK: ∀x c,X.env.cells.lookup x=some c→ ∀v,s.heap.IsCell c v→h'.IsCell c v:=fun x c e v ⟨o,ho,hd⟩=>by
  have nch:c∉ch:=fun z=>(hch c z).2.2.1 x c e rfl
  by_cases hc:c∈X.fs
  ·obtain ⟨sl,q⟩:=slot c o (I.gK x c e) hc nch ho (I.cR x c e)
   exact ⟨_,q,hd⟩
  ·exact ⟨o,keep c o (I.gK x c e) hc nch ho (I.cR x c e),hd⟩
 refine ⟨I.ok,I.os,hg,⟨fun b o e n hb hx=>?_,fun b o e n hb hx=>?_,fun b o e n hx=>?_,fun b o e hx=>?_,fun b xs e=>fw b xs (I.base.fw b xs e),fun b o xs e=>eJ b o xs (I.base.eJ b o xs e),fun b ps e=>?_⟩,?_,fun x c e=>?_,?_,fun x c e=>?_,fun p hp=>?_,aj,I.len⟩
 ·exact keep b o (neL b o e) hb (neC b o e hx) (I.base.keep b o e n hb hx) (I.base.free b o e n hx)
 ·obtain ⟨sl,e1⟩:=I.base.slot b o e n hb hx
  obtain ⟨sl',e2⟩:=slot b _ (neL b o e) hb (neC b o e hx) e1 (I.base.free b o e n hx)
  exact ⟨sl',e2⟩
 ·obtain ⟨o',e1⟩:=I.base.there b o e hx
  exact free b o' (neC b o e hx) e1 (I.base.free b o e n hx)
 ·obtain ⟨o',e1⟩:=I.base.there b o e hx
  exact there b o' (neC b o e hx) e1
 ·obtain ⟨m1,e1⟩:=I.base.ft b ps e
  obtain ⟨m2,e2⟩:=ft b _ e1
  exact ⟨m1++m2,by rw[e2,Array.append_assoc]⟩
 ·obtain ⟨m,hn,hl⟩:=I.loc
  refine ⟨m,ns m hn,fun i x v e1 e2 e3=>?_⟩
  obtain ⟨u,r,l⟩:=hl i x v e1 e2 e3
  refine ⟨u,r,?_⟩
  rcases l with l|⟨k,c,e,z⟩
  ·exact .inl l
  ·exact .inr ⟨k,c,e,cellK x c e _ z⟩
 ·obtain ⟨v,z⟩:=I.cell x c e
  exact ⟨v,cellK x c e v z⟩
 ·obtain ⟨m,⟨o,_,_,ho,_⟩,_⟩:=I.loc
  exact free _ o (fun z=>(hch _ z).2.1 rfl) ho I.free
 ·obtain ⟨v,o,ho,hd⟩:=I.cell x c e
  exact free c o (fun z=>(hch c z).2.2.1 x c e rfl) ho (I.cR x c e)
 ·obtain ⟨e,n,ne,nf,d⟩:=I.pin p hp
  have nch:p.1∉ch:=fun z=>(hch p.1 z).2.2.2 p hp rfl
  exact ⟨keep p.1 p.2 ne nf nch e n,free p.1 p.2 nch e n,ne,nf,d⟩
theorem Inv.un {t':Nat} (I:Inv X pins σ H s) (u:Un X.fs [] H H' s.heap h') (aj:bE X.prog X.w H' h'):Inv X pins σ H' {s with heap:=h',toks:=t'}:=by
 obtain ⟨m,⟨o,es,ep,ho,r⟩,_⟩:=id I.loc
 obtain ⟨sl,hL⟩:=u.any ho I.free (by simp)
 exact I.step (g':=s.gens) (d':=s.drawn) (ch:= []) (fun _ z=>nomatch z) (fun b o _ hb _ e n=>u.keep b o e n hb (by simp)) (fun b o _ hb _ e n=>u.slot b o e n hb (by simp)) (fun b o _ e n=>u.free b o e n (by simp)) (fun b o _ e=>u.there b o e (by simp)) u.fw u.eJ u.ft (fun m' hm=>by
  obtain ⟨o',es',ep',ho',r'⟩:=hm
  rw[ho] at ho';cases ho'
  exact ⟨_,es',ep',hL,r'⟩) aj I.bare
theorem Inv.call {g':Array GenState} {t':Nat} {d':Drawn} {ch:List Addr} (I:Inv X pins σ H s) (u:Un (aT X.stack) ch H H' s.heap h') (aj:bE X.prog X.w H' h') (hg:AllBare g')
  (hch: ∀b∈ch,(b∈X.ex∨X.ba.heap.objs.size≤b)∧b≠X.env.locals∧(∀x c,X.env.cells.lookup x=some c→c≠b)∧ ∀p∈X.pn++pins,p.1≠b):
  Inv X pins σ H' {s with heap:=h',gens:=g',drawn:=d',toks:=t'}:=by
 obtain ⟨m,⟨o,es,ep,ho,r⟩,_⟩:=id I.loc
 obtain ⟨sl,hL⟩:=u.any ho I.free fun z=>(hch _ z).2.1 rfl
 exact I.step (ch:=ch) hch (fun b o hL hb hc e n=>u.keep b o e n (fun z=>(List.mem_cons.mp (I.km b z)).elim hL hb) hc) (fun b o _ _ hc e n=>u.any e n hc) (fun b o hc e n=>u.free b o e n hc) (fun b o hc e=>u.there b o e hc) u.fw u.eJ u.ft (fun m' hm=>by
  obtain ⟨o',es',ep',ho',r'⟩:=hm
  rw[ho] at ho';cases ho'
  exact ⟨_,es',ep',hL,r'⟩) aj hg
theorem Inv.turned {t':Nat} {it:Addr} (I:Inv X pins σ H s) (k: ∀b o,b≠it→s.heap.get? b=some o→h'.get? b=some o) (hn:H it=none) (hL:it≠X.env.locals)
  (h1:it∈X.ex∨X.ba.heap.objs.size≤it) (h2: ∀x c,X.env.cells.lookup x=some c→c≠it) (h3: ∀p∈X.pn++pins,p.1≠it):Inv X pins σ H {s with heap:=h',toks:=t'}:=by
 have nit: ∀b u,H b=some u→b≠it:=fun b u e z=>by rw[z,hn] at e;cases e
 refine I.step (g':=s.gens) (d':=s.drawn) (ch:= [it]) (fun b hb=>?_) (fun b o _ _ hc e _=>k b o (fun z=>hc (by simp [z])) e) (fun b o _ _ hc e _=>⟨o.slots,k b o (fun z=>hc (by simp [z])) e⟩) (fun _ _ _ _ n=>n)
  (fun b o hc e=>⟨o,k b o (fun z=>hc (by simp [z])) e⟩) (fun _ _ e=>e) (fun _ _ _ e=>e) (fun b ps e=>⟨#[],by rw[e];simp⟩) (fun m hm=>?_) (fun b u e=>?_) I.bare
 ·have e:b=it:=by simpa using hb
  subst e
  exact ⟨h1,hL,h2,h3⟩
 ·obtain ⟨o,es,ep,ho,r⟩:=hm
  exact ⟨o,es,ep,k _ o (Ne.symm hL) ho,r⟩
 ·refine (I.aj b u e).d4 (fun c v hc q=>k c v ?_ q) (fun _ q=>q) fun _ _ q=>q
  rcases hc with z|z
  ·rw[z];exact nit b u e
  ·exact nit c _ z
theorem Inv.tok (I:Inv X pins σ H s) (t:Nat):Inv X pins σ H {s with toks:=t}:=I.un (h':=s.heap) (t':=t) Un.refl I.aj
theorem Inv.kept {t':Nat} (I:Inv X pins σ H s) (k: ∀b u,s.heap.get? b=some u→h'.get? b=some u):Inv X pins σ H {s with heap:=h',toks:=t'}:=I.un (Un.kept k) (I.aj.kept k)
theorem Inv.laid {a:Addr} {o:HO} {t':Nat} (I:Inv X pins σ H s) (k: ∀b u,s.heap.get? b=some u→h'.get? b=some u) (hp:s.heap.objs.size≤a) (new:cj X.prog X.w (upd H a o) h' a o):
  Inv X pins σ (upd H a o) {s with heap:=h',toks:=t'}:=I.un (Un.laid k hp (I.aj.fresh hp)) (I.aj.laid k hp new)
theorem Inv.write {x e:Addr} {o:HO} {t':Nat} (I:Inv X pins σ H s) (mu:oy (H x)) (he:e=x∨H e=some (.own x)) (k: ∀b u,b≠e→s.heap.get? b=some u→h'.get? b=some u) (heo: ∃u,h'.get? e=some u)
  (new:cj X.prog X.w (upd H x o) h' x o):Inv X pins σ (upd H x o) {s with heap:=h',toks:=t'}:=I.un (Un.write mu he k heo) (I.aj.write mu he k heo new)
theorem Inv.weak {σ':List (Option V)} (I:Inv X pins σ H s) (hl:σ'.length=σ.length) (w: ∀(i:Nat) v,σ'[i]?=some (some v)→σ[i]?=some (some v)):Inv X pins σ' H s:=
 ⟨I.ok,I.os,I.bare,I.base,let ⟨m,hn,hl'⟩:=I.loc;⟨m,hn,fun i x v e1 e2 e3=>hl' i x v e1 (w i v e2) e3⟩,I.cell,I.free,I.cR,I.pin,I.aj,hl.trans I.len⟩
theorem Inv.yG {pins':List (Addr×Obj)} (I:Inv X pins σ H s) (h: ∀p∈pins',s.heap.get? p.1=some p.2∧H p.1=none∧p.1≠X.env.locals∧p.1∉X.fs∧ ∀v,p.2.data≠ .cell v):Inv X pins' σ H s:=
 ⟨I.ok,I.os,I.bare,I.base,I.loc,I.cell,I.free,I.cR,fun p hp=>(List.mem_append.mp hp).elim (fun z=>I.pin p (List.mem_append_left _ z)) (h p),I.aj,I.len⟩
theorem qw {N:List Str} (hN:N.Nodup) {i j:Nat} {x:Str} (a:N[i]?=some x) (b:N[j]?=some x):i=j:=by
 obtain ⟨h1,e1⟩:=List.getElem?_eq_some_iff.mp a
 obtain ⟨h2,e2⟩:=List.getElem?_eq_some_iff.mp b
 exact (List.getElem_inj hN).mp (e1.trans e2.symm)
theorem so {M:Model} {A:Around} {E:Value→Shared→Prop} {i:Nat} {x:Str} {v:V} {u:Value} {Q:Unit→Shared→Prop} (I:Inv X pins σ H s) (hN:X.N.Nodup) (hi:X.N[i]?=some x) (hx:Loc X.env.scope x) (r:RelV v u)
  (h: ∀s',Inv X pins (σ.set i (some v)) H s'→(∃a,Heap.SameBut a s.heap s'.heap∧(a=X.env.locals∨X.env.cells.lookup x=some a))→Q () s') (hf:X.fn x=true∨X.env.scope.names.lookup x=some .local:=by first|exact .inl rfl|exact .inr rfl|assumption):wpAny M A (storeName X.env x u) Q E s:=by
 obtain ⟨m,hn,hl⟩:=id I.loc
 have hcls:(X.env.scope.kind== .class||(X.env.scope.kind== .module&&X.env.locals !=X.env.globals))=false:=by rw[I.ok.kind];rfl
 have hiσ:i<σ.length:=by rw[I.len];exact (List.getElem?_eq_some_iff.mp hi).1
 have gK:=I.gK
 have tracked: ∀{a:Addr} {h':Heap},(∃o,s.heap.get? a=some o∧H a=none)→Heap.SameBut a s.heap h'→bE X.prog X.w H h':=fun {a h'} ha hs b ob e=>by
  obtain ⟨_,_,hfree⟩:=ha
  refine (I.aj b ob e).d4 (fun c w' hc q=>(hs.2 c ?_).trans q) (fun _ q=>q) fun _ _ q=>q
  rintro rfl
  rcases hc with rfl|hc
  ·rw[hfree] at e;cases e
  ·rw[hfree] at hc;cases hc
 rcases hx with hk|hk
 ·refine wpAny_storeName_local hk hn (fun h' hn' hs=>?_) hcls
  obtain ⟨oL,_,_,hoL,_⟩:=id hn
  refine h _ ⟨I.ok,I.os,I.bare,⟨fun b o e n hb hx=>?_,fun b o e n hb hx=>?_,I.base.free,fun b o e hx=>?_,I.base.fw,I.base.eJ,I.base.ft⟩,⟨_,hn',fun j y v' e1 e2 e3=>?_⟩,fun y c e=>?_,I.free,I.cR,fun p hp=>?_,tracked ⟨oL,hoL,I.free⟩ hs,by simpa using I.len⟩ ⟨_,hs, .inl rfl⟩
  ·exact (hs.2 b (Nat.ne_of_lt (Nat.lt_of_lt_of_le (Heap.lt_size e) I.ok.above))).trans (I.base.keep b o e n hb hx)
  ·obtain ⟨sl,e1⟩:=I.base.slot b o e n hb hx
   exact ⟨sl,(hs.2 b (Nat.ne_of_lt (Nat.lt_of_lt_of_le (Heap.lt_size e) I.ok.above))).trans e1⟩
  ·obtain ⟨o',e1⟩:=I.base.there b o e hx
   exact ⟨o',(hs.2 b (Nat.ne_of_lt (Nat.lt_of_lt_of_le (Heap.lt_size e) I.ok.above))).trans e1⟩
  ·by_cases hj:j=i
   ·subst hj
    rw[hi] at e1;cases e1
    rw[List.getElem?_set_self hiσ] at e2
    cases e2
    exact ⟨u,r, .inl ⟨hk,by simp⟩⟩
   ·rw[List.getElem?_set_ne (Ne.symm hj)] at e2
    obtain ⟨u',r',q⟩:=hl j y v' e1 e2 e3
    refine ⟨u',r',?_⟩
    rcases q with ⟨k,e⟩|⟨k,c,e,z⟩
    ·refine .inl ⟨k,?_⟩
     have:y≠x:=fun e=>hj (qw hN e1 (e▸hi))
     simp [this,e]
    ·exact .inr ⟨k,c,e,z.sameBut hs (gK y c e)⟩
  ·obtain ⟨w',z⟩:=I.cell y c e
   exact ⟨w',z.sameBut hs (gK y c e)⟩
  ·obtain ⟨e,n,ne,nf,d⟩:=I.pin p hp
   exact ⟨(hs.2 p.1 ne).trans e,n,ne,nf,d⟩
 ·have hfn:X.fn x=true:=by
   rcases hf with z|z
   ·exact z
   ·rw[z] at hk;cases hk
  obtain ⟨c,hc⟩:=I.ok.has x (.inl hk)
  obtain ⟨w',z⟩:=I.cell x c hc
  refine wpAny_storeName_cell I.ok.kind hk hc z (fun h' hc' hs=>?_)
  obtain ⟨oc,hoc,hocd⟩:=id z
  refine h {s with heap:=h'} ⟨I.ok,I.os,I.bare,⟨fun b o e n hb hx=>?_,fun b o e n hb hx=>?_,I.base.free,fun b o e hx=>?_,I.base.fw,I.base.eJ,I.base.ft⟩,⟨m,hn.sameBut hs (Ne.symm (gK x c hc)),fun j y v' e1 e2 e3=>?_⟩,fun y c' e=>?_,I.free,I.cR,fun p hp=>?_,tracked ⟨oc,hoc,I.cR x c hc⟩ hs,by simpa using I.len⟩ ⟨c,hs, .inr hc⟩
  ·exact (hs.2 b (Nat.ne_of_lt (Nat.lt_of_lt_of_le (Heap.lt_size e) (I.ok.gn x c hfn hc)))).trans (I.base.keep b o e n hb hx)
  ·obtain ⟨sl,e1⟩:=I.base.slot b o e n hb hx
   exact ⟨sl,(hs.2 b (Nat.ne_of_lt (Nat.lt_of_lt_of_le (Heap.lt_size e) (I.ok.gn x c hfn hc)))).trans e1⟩
  ·obtain ⟨o',e1⟩:=I.base.there b o e hx
   exact ⟨o',(hs.2 b (Nat.ne_of_lt (Nat.lt_of_lt_of_le (Heap.lt_size e) (I.ok.gn x c hfn hc)))).trans e1⟩
  ·by_cases hj:j=i
   ·subst hj
    rw[hi] at e1;cases e1
    rw[List.getElem?_set_self hiσ] at e2
    cases e2
    exact ⟨u,r, .inr ⟨.inl hk,c,hc,hc'⟩⟩
   ·rw[List.getElem?_set_ne (Ne.symm hj)] at e2
    obtain ⟨u',r',q⟩:=hl j y v' e1 e2 e3
    refine ⟨u',r',?_⟩
    rcases q with q|⟨k,c',e,z'⟩
    ·exact .inl q
    ·refine .inr ⟨k,c',e,z'.sameBut hs ?_⟩
     rintro rfl
     exact hj (qw hN e1 (I.ok.inj _ _ _ e hc▸hi))
  ·by_cases hcc:c'=c
   ·subst hcc;exact ⟨_,hc'⟩
   ·obtain ⟨w2,z2⟩:=I.cell y c' e
    exact ⟨w2,z2.sameBut hs hcc⟩
  ·obtain ⟨e,n,ne,nf,d⟩:=I.pin p hp
   refine ⟨(hs.2 p.1 ?_).trans e,n,ne,nf,d⟩
   intro q
   rw[q,hoc] at e
   have q':oc=p.2:=Option.some.inj e
   exact d w' (by rw[←q'];exact hocd)
theorem qD {M:Model} {A:Around} {E:Value→Shared→Prop} {i:Nat} {x:Str} {v:V} {u:Value} {Q:Unit→Shared→Prop} (I:Inv X pins σ H s) (hN:X.N.Nodup) (hi:X.N[i]?=some x) (hx:Loc X.env.scope x) (r:RelV v u)
  (h: ∀s',Inv X pins (σ.set i (some v)) H s'→Q () s') (hf:X.fn x=true∨X.env.scope.names.lookup x=some .local:=by first|exact .inl rfl|exact .inr rfl|assumption):wpAny M A (storeName X.env x u) Q E s:=
 so I hN hi hx r (fun s' I' _=>h s' I') hf
theorem Inv.gS {s':Shared} {ch:List Addr} (I:Inv X pins σ H s) (ho:s'.os=s.os) (u:Un (aT X.stack) ch H H' s.heap s'.heap) (aj:bE X.prog X.w H' s'.heap) (hg:AllBare s'.gens)
  (hch: ∀b∈ch,(b∈X.ex∨X.ba.heap.objs.size≤b)∧b≠X.env.locals∧(∀x c,X.env.cells.lookup x=some c→c≠b)∧ ∀p∈X.pn++pins,p.1≠b):Inv X pins σ H' s':=by
 obtain ⟨h',g',d',t',o'⟩:=s'
 have e:o'=s.os:=ho
 subst e
 exact I.call (g':=g') (t':=t') (d':=d') u aj hg hch
end
abbrev XK:=Value→Option Addr→Hp→Prop
abbrev St:=List (Option V)
abbrev VK:=V→Hp→Prop
abbrev TE:=St→Hp→VK→Prop
abbrev TT:=St→Hp→(Bool→Hp→Prop)→Prop
abbrev TA:=St→Hp→(List V→Hp→Prop)→Prop
structure Ends where
 nx:St→Hp→Prop
 rt:VK
 bk:St→Hp→Prop:=fun _ _=>False
 ct:St→Hp→Prop:=fun _ _=>False
abbrev TS:=Ends→St→Hp→Prop
def EP (X:Cx) (pins:List (Addr×Obj)) (σ:St) (Q:VK) (u:Value) (s':Shared):Prop:= ∃v H',Inv X pins σ H' s'∧RelV v u∧Q v H'
def TP (X:Cx) (pins:List (Addr×Obj)) (σ:St) (Q:Bool→Hp→Prop) (b:Bool) (s':Shared):Prop:= ∃H',Inv X pins σ H' s'∧Q b H'
def AP (X:Cx) (pins:List (Addr×Obj)) (σ:St) (Q:List V→Hp→Prop) (us:List Value) (s':Shared):Prop:= ∃vs H',Inv X pins σ H' s'∧Vals vs us∧Q vs H'
def SP (X:Cx) (pins:List (Addr×Obj)) (D:Ends) (f:Flow) (s':Shared):Prop:=
 match f with
 | .next=> ∃σ' H',Inv X pins σ' H' s'∧D.nx σ' H'
 | .brk=> ∃σ' H',Inv X pins σ' H' s'∧D.bk σ' H'
 | .cont=> ∃σ' H',Inv X pins σ' H' s'∧D.ct σ' H'
 | .ret u=> ∃v σ' H',Inv X pins σ' H' s'∧RelV v u∧D.rt v H'
def PE (X:Cx) (e:Expr) (t:TE):Prop:=
 ∀(pins:List (Addr×Obj)) (s:Shared) (σ:St) (H:Hp) (Q:VK),Inv X pins σ H s→t σ H Q→wpAny (model X.prog X.w) X.A (eval e X.env) (EP X pins σ Q) X.xe s
def PT (X:Cx) (e:Expr) (t:TT):Prop:=
 ∀(pins:List (Addr×Obj)) (s:Shared) (σ:St) (H:Hp) (Q:Bool→Hp→Prop),Inv X pins σ H s→t σ H Q→wpAny (model X.prog X.w) X.A (isTrue e X.env (eval e X.env)) (TP X pins σ Q) X.xe s
def PW (X:Cx) (e:Expr) (t:TT):Prop:=
 ∀(whole:Sem Value) (pins:List (Addr×Obj)) (s:Shared) (σ:St) (H:Hp) (Q:Bool→Hp→Prop),Inv X pins σ H s→t σ H Q→wpAny (model X.prog X.w) X.A (isTrue e X.env whole) (TP X pins σ Q) X.xe s
theorem PW.pt {X:Cx} {e:Expr} {t:TT} (h:PW X e t):PT X e t:=h _
def PA (X:Cx) (es:List Expr) (t:TA):Prop:=
 ∀(pos:Pos) (pins:List (Addr×Obj)) (s:Shared) (σ:St) (H:Hp) (Q:List V→Hp→Prop),Inv X pins σ H s→t σ H Q→wpAny (model X.prog X.w) X.A (spliced (backTo pos (starEach es X.env))) (AP X pins σ Q) X.xe s
def PS (X:Cx) (st:Stmt) (t:TS):Prop:=
 ∀(pins:List (Addr×Obj)) (s:Shared) (σ:St) (H:Hp) (D:Ends),Inv X pins σ H s→t D σ H→wpAny (model X.prog X.w) X.A (exec st X.env) (SP X pins D) X.xe s
def cc (X:Cx) (st:List Stmt) (t:TS):Prop:=
 ∀(pins:List (Addr×Obj)) (s:Shared) (σ:St) (H:Hp) (D:Ends),Inv X pins σ H s→t D σ H→wpAny (model X.prog X.w) X.A (execs st X.env) (SP X pins D) X.xe s
theorem aA {α:Type} {t:Sem α} {Q Q':α→Shared→Prop} {M:Model} {A:Around} {E:Value→Shared→Prop} {s:Shared} (h:wpAny M A t Q E s) (hQ: ∀a s,Q a s→Q' a s):wpAny M A t Q' E s:=wpAny_mono h hQ fun _ _ x=>x
end L2
namespace L2
open PySem PySem.Spec PyProof.Rows
section
variable {X:Cx}
def eD (i:Nat):TE:=fun σ H Q=> ∃v,σ[i]?=some (some v)∧Q v H
def tC (v:V):TE:=fun _ H Q=>Q v H
theorem J7 {i:Nat} {x:Str} {pos:Pos} (hN:X.N[i]?=some x) (hv:iS X.env.scope x) (hd:(x==("__debug__" :Str))=false:=by decide) (hcd:(x==("__classdict__" :Str))=false:=by decide):PE X (.Name x pos) (eD i):=by
 intro pins s σ H Q I h
 obtain ⟨v,e,h⟩:=h
 obtain ⟨m,hn,hl⟩:=I.loc
 obtain ⟨u,r,l⟩:=hl i x v hN e hv
 have fin:EP X pins σ Q u s:=⟨v,H,I,r,h⟩
 rcases l with ⟨hk,hm⟩|⟨hk,c,hc,hcell⟩
 ·exact wpAny_Name (wpAny_loadName_local I.ok.kind hk hn hm fin) hd
 ·rcases hk with hk|hk
  ·exact wpAny_Name (wpAny_loadName_cell I.ok.kind hk hc hcell fin) hd
  ·exact wpAny_Name (wpAny_loadName_free I.ok.kind hk hc hcell fin hcd) hd
theorem ak {i j pos}:PE X (.Constant (.int i) j pos) (tC (.int i)):=fun _ _ _ H _ I h=>wpAny_Constant_int ⟨.int i,H,I.tok _,⟨_,rfl⟩,h⟩
theorem Bm {b j pos}:PE X (.Constant (.bool b) j pos) (tC (.bl b)):=fun _ _ _ H _ I h=>Constant_bool ⟨.bl b,H,I,rfl,h⟩
theorem eu {j pos}:PE X (.Constant .none j pos) (tC .aq):=fun _ _ _ H _ I h=>Constant_none ⟨.aq,H,I,rfl,h⟩
def Gl (X:Cx) (x:Str):Prop:=X.env.kindOf x=some .globalImplicit
theorem iA {E:Value→Shared→Prop} {pins:List (Addr×Obj)} {s:Shared} {σ:St} {H:Hp} {x:Str} {u:Value} {pos:Pos} {Q:Value→Shared→Prop} (I:Inv X pins σ H s) (hg:Gl X x) (hm:X.mg x=some u) (h:Q u s)
  (hd:(x==("__debug__" :Str))=false:=by decide):wpAny (model X.prog X.w) X.A (eval (.Name x pos) X.env) Q E s:=
 Calls.Name_function_global I.ok.kind hg (Calls.loadGlobal_global (by rw[I.ok.glob];exact I.mod.glob.keeps I.bk) hm h) hd
theorem jx {E:Value→Shared→Prop} {pins:List (Addr×Obj)} {s:Shared} {σ:St} {H:Hp} {x:Str} {u:Value} {pos:Pos} {Q:Value→Shared→Prop} (I:Inv X pins σ H s) (hg:Gl X x) (hm:X.mg x=none) (hv:bootBuiltins x=some u) (h:Q u s)
  (hn:x≠ "__name__" :=by decide) (hd:(x==("__debug__" :Str))=false:=by decide):wpAny (model X.prog X.w) X.A (eval (.Name x pos) X.env) Q E s:=by
 obtain ⟨mb,h1,h2⟩:=I.mod.blt
 exact Calls.Name_function_global I.ok.kind hg (Calls.loadGlobal_builtin (by rw[I.ok.glob];exact I.mod.glob.keeps I.bk) hm (by rw[I.ok.blt];exact h1.keeps I.bk) ((h2 x hn).trans hv) h) hd
theorem zZ {x:Str} {v:V} {u:Value} {pos:Pos} (hg:Gl X x) (hm:X.mg x=some u) (r:RelV v u) (hd:(x==("__debug__" :Str))=false:=by decide):PE X (.Name x pos) (tC v):=
 fun _ _ _ H _ I h=>iA I hg hm ⟨v,H,I,r,h⟩ hd
variable {a b:Expr} {ta tb:TE} {pos:Pos}
def PC (X:Cx) (op:CmpOp) (a b:Expr) (t:TE):Prop:=
 ∀(pins:List (Addr×Obj)) (s:Shared) (σ:St) (H:Hp) (Q:VK),Inv X pins σ H s→t σ H Q→
  wpAny (model X.prog X.w) X.A (eval a X.env) (fun v s₁=>wpAny (model X.prog X.w) X.A (eval b X.env) (fun u s₂=>wpAny (model X.prog X.w) X.A (compareOp op v u) (EP X pins σ Q) X.xe s₂) X.xe s₁) X.xe s
theorem Bk (b:Expr) {op:CmpOp} (h:op≠ .In) (h2:op≠ .NotIn):behindInMarks op b=false:=by
 have e1:(op==CmpOp.In)=false:=by cases op<;>first|rfl|exact absurd rfl h
 have e2:(op==CmpOp.NotIn)=false:=by cases op<;>first|rfl|exact absurd rfl h2
 cases b<;>simp [behindInMarks,e1,e2]
def xn (ta:TE):TE:=fun σ H Q=>ta σ H fun x H1=>Q (.bl (!decide (x= .aq))) H1
theorem RelV.El {x:V} {v:Value} (r:RelV x v):(v==Value.none)=decide (x= .aq):=by
 cases x with
 |aq=>cases r;rfl
 |bl _=>cases r;rfl
 |int _=>obtain ⟨t,rfl⟩:=r;rfl
 |str _=>obtain ⟨t,rfl⟩:=r;rfl
 |cN _=>obtain ⟨t,rfl⟩:=r;rfl
 |lg _=>obtain ⟨t,rfl⟩:=r;rfl
 |ref _=>cases r;rfl
 |ty _=>cases r;rfl
theorem Cg {j pos'} (ha:PE X a ta):PC X .IsNot a (.Constant .none j pos') (xn ta):=by
 intro pins s σ H Q I h
 refine aA (ha pins s σ H _ I h) fun v s1 ⟨x,H1,I1,r1,q1⟩=>?_
 exact Constant_none (isnot_none_gen ⟨.bl _,H1,I1,by rw[r1.El];rfl,q1⟩)
def tB (t:TE):TT:=fun σ H Q=>t σ H fun x H1=> ∃c,x= .bl c∧Q c H1
theorem Fv {op:CmpOp} {t:TE} (h:PC X op a b t) (h1:behindInMarks op b=false:=by first|exact Bk _ (by decide) (by decide)|rfl):PT X (.Compare a [op] [b] pos) (tB t):=by
 intro pins s σ H Q I hw
 refine wpAny_isTrue_Compare1 (aA (h pins s σ H _ I hw) fun v s1 h1=>aA h1 fun u s2 h2=>aA h2 fun c s3 ⟨x,H1,I1,r1,q1⟩=>?_) h1
 obtain ⟨d,rfl,q⟩:=q1
 cases r1
 exact wpAny_truthy_bool ⟨H1,I1,q⟩
theorem iO {e:Expr} {t:TE} (h:PE X e t) (he: ∀whole,isTrue e X.env whole=(do let v←whole;standAt e.pos;holding [v] (truthy v)):=by intro _;rfl):PT X e (tB t):=by
 intro pins s σ H Q I hw
 refine isTrue_plain (aA (h pins s σ H _ I hw) fun v s1 ⟨x,H1,I1,r1,q1⟩=>?_) (he _)
 obtain ⟨d,rfl,q⟩:=q1
 cases r1
 exact wpAny_truthy_bool ⟨H1,I1,q⟩
variable {tA tB':TT} {rest:List Expr}
def xA (t u:TT):TT:=fun σ H Q=>t σ H fun c H1=>if c=true then Q true H1 else u σ H1 Q
def ye (t:TT):TT:=fun σ H Q=>t σ H fun c H1=>Q (!c) H1
theorem lZ (ha:PT X a tA):PW X (.BoolOp .Or [a] pos) tA:=by
 intro wh pins s σ H Q I h
 refine isTrue_or (aA (ha pins s σ H Q I h) fun c s1 e=>?_)
 cases c with
 |false=>exact isTrue_or_nil e
 |true=>exact e
theorem lS (ha:PT X a tA) (hb:PW X (.BoolOp .Or (b::rest) pos) tB'):PW X (.BoolOp .Or (a::b::rest) pos) (xA tA tB'):=by
 intro wh pins s σ H Q I h
 refine isTrue_or (aA (ha pins s σ H _ I h) fun c s1 ⟨H1,I1,q1⟩=>?_)
 cases c with
 |true=>exact ⟨H1,I1,q1⟩
 |false=>exact hb wh pins s1 σ H1 Q I1 q1
theorem gk (ha:PT X a tA):PT X (.UnaryOp .Not a pos) (ye tA):=by
 intro pins s σ H Q I h
 exact isTrue_not (ha pins s σ H (fun c H1=>Q (!c) H1) I h)
def wX (ta tb:TE):TE:=fun σ H Q=>ta σ H fun x H1=> ∃c,x= .bl c∧if c=true then tb σ H1 Q else Q (.bl false) H1
theorem Ao {op} {t:TE} (h:PE X a t):PE X (.BoolOp op [a] pos) t:=fun pins s σ H Q I hw=>BoolOp_one (h pins s σ H Q I hw)
theorem tw (ha:PE X a ta) (hb:PE X (.BoolOp .And (b::rest) pos) tb):PE X (.BoolOp .And (a::b::rest) pos) (wX ta tb):=by
 intro pins s σ H Q I h
 refine BoolOp_and (aA (ha pins s σ H _ I h) fun v s1 ⟨x,H1,I1,r1,q1⟩=>?_)
 obtain ⟨c,rfl,q1⟩:=q1
 cases r1
 refine wpAny_truthy_bool ?_
 cases c with
 |true=>exact hb pins s1 σ H1 Q I1 q1
 |false=>exact ⟨.bl false,H1,I1,rfl,q1⟩
def zG (t:TT) (ta tb:TE):TE:=fun σ H Q=>t σ H fun c H1=>if c=true then ta σ H1 Q else tb σ H1 Q
theorem iB {c:Expr} (hc:PT X c tA) (ha:PE X a ta) (hb:PE X b tb):PE X (.IfExp c a b pos) (zG tA ta tb):=by
 intro pins s σ H Q I h
 refine wpAny_IfExp (aA (hc pins s σ H _ I h) fun d s1 ⟨H1,I1,q1⟩=>?_)
 cases d with
 |true=>exact ha pins s1 σ H1 Q I1 q1
 |false=>exact hb pins s1 σ H1 Q I1 q1
end
end L2
namespace L2
open PySem PySem.Spec PyProof.Rows
def ai (K:PySem.W.Frag) (H:Hp) (a:Addr) (xs:List V):Prop:=
 Rd H a (.lst xs)∨
  ∃(o:Obj) (its:Array Value) (n:Nat),K.lookup a=some o∧o.cls= .type "list" ∧o.dict=none∧o.data= .seq its n∧its.size≤sizeLine∧Vals xs its.toList
def aS (K:PySem.W.Frag) (H:Hp) (a:Addr) (xs:List V):Prop:=
 Rd H a (.tup xs)∨
  ∃(o:Obj) (its:Array Value) (n:Nat),K.lookup a=some o∧o.cls= .type "tuple" ∧o.data= .seq its n∧its.size≤sizeLine∧Vals xs its.toList
def Bx:Value→Option V
 | .none=>some .aq
 | .bool b=>some (.bl b)
 | .int i _=>some (.int i)
 | .str x _=>some (.str x)
 | .bytes b _=>some (.cN b)
 | .float b _=>some (.lg b)
 | .ref a=>some (.ref a)
 | .type n=>some (.ty n)
 |_=>none
theorem RelV.abs {x:V} {u:Value} (r:RelV x u):Bx u=some x:=by
 cases x with
 |aq=>cases r;rfl
 |bl _=>cases r;rfl
 |int _=>obtain ⟨t,rfl⟩:=r;rfl
 |str _=>obtain ⟨t,rfl⟩:=r;rfl
 |cN _=>obtain ⟨t,rfl⟩:=r;rfl
 |lg _=>obtain ⟨t,rfl⟩:=r;rfl
 |ref _=>cases r;rfl
 |ty _=>cases r;rfl
theorem RelV.inj {x y:V} {u:Value} (r:RelV x u) (q:RelV y u):x=y:=Option.some.inj (r.abs.symm.trans q.abs)
theorem Vals.inj: ∀{xs ys:List V} {us:List Value},Vals xs us→Vals ys us→xs=ys
 |_,_,_, .nil, .nil=>rfl
 |_,_,_, .cons r t, .cons r' t'=>by rw[r.inj r',Vals.inj t t']
section
variable {X:Cx} {pins:List (Addr×Obj)} {σ:St} {H:Hp} {s:Shared} {a:Addr} {xs ys:List V}
theorem ai.of {K:PySem.W.Frag} (h:H a=some (.lst xs)):ai K H a xs:= .inl (.inl h)
theorem aS.of {K:PySem.W.Frag} (h:H a=some (.tup xs)):aS K H a xs:= .inl (.inl h)
theorem Inv.list (I:Inv X pins σ H s) (h:ai X.K H a xs): ∃its:List Value,Vals xs its∧PlainL s.heap a its.toArray∧xs.length≤sizeLine:=by
 rcases h with h|⟨o,its,n,hk,hc,hd,hs,hz,r⟩
 ·obtain ⟨z,its,n,r,e⟩:=h.ok I.aj
  exact ⟨its,r,⟨_,n,e,rfl,rfl,rfl⟩,z⟩
 ·refine ⟨its.toList,r,⟨o,n,I.bT a o hk,hc,hd,by simpa using hs⟩,?_⟩
  have e:=r.length
  simp only [Array.length_toList] at e
  omega
theorem Inv.tuple (I:Inv X pins σ H s) (h:aS X.K H a xs): ∃its:List Value,Vals xs its∧IsTup s.heap a its.toArray∧xs.length≤sizeLine:=by
 rcases h with h|⟨o,its,n,hk,hc,hs,hz,r⟩
 ·obtain ⟨z,its,r,p⟩:=h.ok I.aj
  exact ⟨its,r,p,z⟩
 ·refine ⟨its.toList,r,⟨o,I.bT a o hk,hc,n,by simpa using hs⟩,?_⟩
  have e:=r.length
  simp only [Array.length_toList] at e
  omega
theorem Inv.p9 (I:Inv X pins σ H s) (h:ai X.K H a xs) (h':ai X.K H a ys):xs=ys:=by
 obtain ⟨its,r,⟨o,n,e,_,_,d⟩,_⟩:=I.list h
 obtain ⟨its',r',⟨o',n',e',_,_,d'⟩,_⟩:=I.list h'
 rw[e] at e';cases e'
 rw[d] at d'
 injection d' with d1 _
 have:its=its':=by simpa using congrArg Array.toList d1
 subst this
 exact r.inj r'
theorem Inv.yJ (I:Inv X pins σ H s) (h:aS X.K H a xs) (h':aS X.K H a ys):xs=ys:=by
 obtain ⟨its,r,⟨o,e,_,n,d⟩,_⟩:=I.tuple h
 obtain ⟨its',r',⟨o',e',_,n',d'⟩,_⟩:=I.tuple h'
 rw[e] at e';cases e'
 rw[d] at d'
 injection d' with d1 _
 have:its=its':=by simpa using congrArg Array.toList d1
 subst this
 exact r.inj r'
end
abbrev Cx.bC (X:Cx) (E:Value→Shared→Prop):Cx:={X with xe:=E}
abbrev Cx.p8 (X:Cx):Cx:=X.bC fun _ _=>False
theorem Cx.Ok.bC {X:Cx} (ok:X.Ok) (E:Value→Shared→Prop):(X.bC E).Ok:=
 ⟨ok.mod,ok.kind,ok.glob,ok.blt,ok.above,ok.inj,ok.has,ok.gn,ok.hd,ok.frames,ok.g9,ok.fL,ok.bs,ok.dW,ok.dC,ok.fM,ok.cQ,ok.fj⟩
theorem Cx.Ok.gh {X:Cx} {E:Value→Shared→Prop} (ok:(X.bC E).Ok):X.Ok:=
 ⟨ok.mod,ok.kind,ok.glob,ok.blt,ok.above,ok.inj,ok.has,ok.gn,ok.hd,ok.frames,ok.g9,ok.fL,ok.bs,ok.dW,ok.dC,ok.fM,ok.cQ,ok.fj⟩
section
variable {X:Cx} {pins:List (Addr×Obj)} {σ:St} {H:Hp} {s:Shared} {E:Value→Shared→Prop}
theorem Inv.bC (I:Inv X pins σ H s) (E:Value→Shared→Prop):Inv (X.bC E) pins σ H s:=⟨I.ok.bC E,I.os,I.bare,I.base,I.loc,I.cell,I.free,I.cR,I.pin,I.aj,I.len⟩
theorem Inv.gh (I:Inv (X.bC E) pins σ H s):Inv X pins σ H s:=⟨I.ok.gh,I.os,I.bare,I.base,I.loc,I.cell,I.free,I.cR,I.pin,I.aj,I.len⟩
theorem SP.gh {D:Ends} {f:Flow} {s':Shared} (h:SP (X.bC E) pins D f s'):SP X pins D f s':=by
 cases f with
 |next=>obtain ⟨σ',H',I,q⟩:=h;exact ⟨σ',H',I.gh,q⟩
 |brk=>obtain ⟨σ',H',I,q⟩:=h;exact ⟨σ',H',I.gh,q⟩
 |cont=>obtain ⟨σ',H',I,q⟩:=h;exact ⟨σ',H',I.gh,q⟩
 |ret u=>obtain ⟨v,σ',H',I,r,q⟩:=h;exact ⟨v,σ',H',I.gh,r,q⟩
theorem cc.p8 {st:List Stmt} {t:TS} (h:cc X.p8 st t):cc X st t:=fun pins s σ H D I hw=>
 wpAny_mono (h pins s σ H D (I.bC _) hw) (fun _ _ q=>q.gh) fun _ _ z=>False.elim z
end
section
variable {X:Cx} {st:Stmt} {rest:List Stmt} {t u:TS} {e:Expr} {te:TE} {pos:Pos}
def vZ:TS:=fun D σ H=>D.nx σ H
def yp (t u:TS):TS:=fun D σ H=>t {D with nx:=u D} σ H
theorem bh:cc X [] vZ:=fun _ _ σ H _ I h=>wpAny_execs_nil ⟨σ,H,I,h⟩
theorem ag (h1:PS X st t) (h2:cc X rest u):cc X (st::rest) (yp t u):=by
 intro pins s σ H D I h
 refine wpAny_execs_cons (aA (h1 pins s σ H {D with nx:=u D} I h) fun f s1 q=>?_)
 cases f with
 |next=>
  obtain ⟨σ',H',I',q⟩:=q
  exact h2 pins s1 σ' H' D I' q
 |ret v=>exact q
 |brk=>exact q
 |cont=>exact q
theorem ah (h1:PS X st t):cc X [st] t:=by
 intro pins s σ H D I h
 refine wpAny_execs_cons (aA (h1 pins s σ H D I h) fun f s1 q=>?_)
 cases f with
 |next=>exact wpAny_execs_nil q
 |ret v=>exact q
 |brk=>exact q
 |cont=>exact q
theorem Inv.quiet {pins:List (Addr×Obj)} {σ:St} {H:Hp} {s:Shared} (I:Inv X pins σ H s):interactive X.env=false:=by simp [interactive,I.ok.kind]
def rq (te:TE):TS:=fun D σ H=>te σ H fun _ H1=>D.nx σ H1
theorem bp (he:PE X e te) (hs:swapsWith e none pos.line X.env=pure false:=by rfl):PS X (.Expr e pos) (rq te):=by
 intro pins s σ H D I h
 exact wpAny_Expr_any (aA (he pins s σ H _ I h) fun v s1 ⟨x,H1,I1,r1,q1⟩=>⟨σ,H1,I1,q1⟩) I.quiet hs
def sr (te:TE):TS:=fun D σ H=>te σ H D.rt
theorem aR (he:PE X e te):PS X (.Return (some e) pos) (sr te):=by
 intro pins s σ H D I h
 exact wpAny_Return_some (aA (he pins s σ H _ I h) fun v s1 ⟨x,H1,I1,r1,q1⟩=>⟨x,σ,H1,I1,r1,q1⟩)
def Ap:TS:=fun D _ H=>D.rt .aq H
theorem KN:PS X (.Return none pos) Ap:=fun _ _ σ H _ I h=>wpAny_Return_none ⟨.aq,σ,H,I,rfl,h⟩
def xS (c:TT) (t u:TS):TS:=fun D σ H=>c σ H fun b H1=>if b=true then t D σ H1 else u D σ H1
theorem a9 {c:Expr} {a b:List Stmt} {tc:TT} (hc:PT X c tc) (ha:cc X a t) (hb:cc X b u):PS X (.If c a b pos) (xS tc t u):=by
 intro pins s σ H D I h
 refine wpAny_If (aA (hc pins s σ H _ I h) fun d s1 ⟨H1,I1,q1⟩=>?_)
 cases d with
 |true=>exact ha pins s1 σ H1 D I1 q1
 |false=>exact hb pins s1 σ H1 D I1 q1
end
abbrev TG:=V→St→Hp→(St→Hp→Prop)→Prop
abbrev gy:=List V→St→Hp→(St→Hp→Prop)→Prop
def PG (X:Cx) (target:Expr) (t:TG):Prop:=
 ∀(pins:List (Addr×Obj)) (s:Shared) (σ:St) (H:Hp) (v:V) (u:Value) (Q:St→Hp→Prop),Inv X pins σ H s→RelV v u→t v σ H Q→
  wpAny (model X.prog X.w) X.A (assign target X.env u) (fun _ s'=> ∃σ' H',Inv X pins σ' H' s'∧Q σ' H') X.xe s
def nk (X:Cx) (ts:List Expr) (t:gy):Prop:=
 ∀(pins:List (Addr×Obj)) (s:Shared) (σ:St) (H:Hp) (vs:List V) (us:List Value) (Q:St→Hp→Prop),Inv X pins σ H s→Vals vs us→t vs σ H Q→
  wpAny (model X.prog X.w) X.A (assignInOrder ((assignEach ts X.env).map (·.2)) us) (fun _ s'=> ∃σ' H',Inv X pins σ' H' s'∧Q σ' H') X.xe s
abbrev rM:=V→V→Hp→VK→Prop
def BL (X:Cx) (op:Operator) (t:rM):Prop:=
 ∀(pins:List (Addr×Obj)) (s:Shared) (σ:St) (H:Hp) (x y:V) (v u:Value) (Q:VK),Inv X pins σ H s→RelV x v→RelV y u→t x y H Q→
  wpAny (model X.prog X.w) X.A (inplaceOp op v u) (EP X pins σ Q) X.xe s
section
variable {X:Cx} {pos:Pos}
def gA (i:Nat):TG:=fun v σ H Q=>Q (σ.set i (some v)) H
theorem bH {i:Nat} {x:Str} (hN:X.N.Nodup) (hi:X.N[i]?=some x) (hx:Loc X.env.scope x) (hf:X.fn x=true∨X.env.scope.names.lookup x=some .local:=by first|exact .inl rfl|exact .inr rfl|assumption):PG X (.Name x pos) (gA i):=by
 intro pins s σ H v u Q I r h
 exact wpAny_assign_Name (qD I hN hi hx r (fun s' I'=>⟨_,H,I',h⟩) hf)
def vM:gy:=fun vs σ H Q=>vs= []∧Q σ H
def yQ (t:TG) (u:gy):gy:=fun vs σ H Q=> ∃v r,vs=v::r∧t v σ H fun σ' H'=>u r σ' H' Q
theorem xO:nk X [] vM:=by
 intro pins s σ H vs us Q I r h
 obtain ⟨e,h⟩:=h
 subst e
 cases r
 exact assignInOrder_nil ⟨σ,H,I,h⟩
theorem pC {e:Expr} {es:List Expr} {t:TG} {u:gy} (h1:PG X e t) (h2:nk X es u)
  (hs:(assignEach (e::es) X.env).map (·.2)=assign e X.env::(assignEach es X.env).map (·.2):=by rfl):nk X (e::es) (yQ t u):=by
 intro pins s σ H vs us Q I r h
 obtain ⟨v,vr,e1,h⟩:=h
 subst e1
 cases r with
 |cons r rr=>
  rw[hs]
  refine assignInOrder_cons (aA (h1 pins s σ H _ _ _ I r h) fun _ s1 ⟨σ1,H1,I1,q1⟩=>?_)
  exact h2 pins s1 σ1 H1 _ _ Q I1 rr q1
def su (K:PySem.W.Frag) (n:Nat) (t:gy):TG:=fun v σ H Q=> ∃a xs,v= .ref a∧aS K H a xs∧xs.length=n∧t xs σ H Q
theorem E3 {es:List Expr} {k:Nat} {t:gy} {n:Nat} (hc:X.calm=true) (h:nk X es t)
  (hn:(assignEach es X.env).length=n:=by rfl) (hst:(assignEach es X.env).findIdx? (·.1)=none:=by rfl):PG X (.Tuple es k pos) (su X.K n t):=by
 intro pins s σ H v u Q I r hw
 obtain ⟨a,xs,e1,hq,hl,hw⟩:=hw
 subst e1
 cases r
 obtain ⟨its,rv,ht,hz⟩:=I.tuple hq
 refine assign_Tuple_tuple (I.ok.hd hc) ht (by simp [hn,←hl,rv.length]) hst fun h' hx=>?_
 have I1:Inv X pins σ H {s with heap:=h'}:=I.kept (t':=s.toks) fun b o e=>hx b o (Nat.ne_of_lt (Heap.lt_size e)) e
 exact h pins _ σ H xs _ Q I1 (by simpa using rv) hw
def om (te:TE) (g:TG):TS:=fun D σ H=>te σ H fun x H1=>g x σ H1 D.nx
theorem aF {i:Nat} {x:Str} {e:Expr} {te:TE} {pos':Pos} (hN:X.N.Nodup) (hi:X.N[i]?=some x) (hx:Loc X.env.scope x) (he:PE X e te) (hs:swapsWith e (some (.Name x pos')) pos.line X.env=pure false:=by rfl) (hf:X.fn x=true∨X.env.scope.names.lookup x=some .local:=by first|exact .inl rfl|exact .inr rfl|assumption):
  PS X (.Assign [.Name x pos'] e pos) (om te (gA i)):=by
 intro pins s σ H D I h
 refine wpAny_Assign_Name (aA (he pins s σ H _ I h) fun v s1 ⟨y,H1,I1,r1,q1⟩=>?_) hs
 exact qD I1 hN hi hx r1 (fun s2 I2=>⟨_,H1,I2,q1⟩) hf
def uj (i:Nat) (te:TE) (ti:rM):TS:=fun D σ H=> ∃x,σ[i]?=some (some x)∧te σ H fun y H1=>ti x y H1 fun z H2=>D.nx (σ.set i (some z)) H2
theorem gL {i:Nat} {x:Str} {e:Expr} {te:TE} {op:Operator} {ti:rM} {pos':Pos} (hN:X.N.Nodup) (hi:X.N[i]?=some x) (hx:Loc X.env.scope x) (he:PE X e te) (ho:BL X op ti) (hf:X.fn x=true∨X.env.scope.names.lookup x=some .local:=by first|exact .inl rfl|exact .inr rfl|assumption):
  PS X (.AugAssign (.Name x pos') op e pos) (uj i te ti):=by
 intro pins s σ H D I h
 obtain ⟨v,e1,h⟩:=h
 obtain ⟨m,hn,hl⟩:=I.loc
 have vis:iS X.env.scope x:=by rcases hx with k|k;exact .inl k;exact .inr (.inl k)
 obtain ⟨u,r,l⟩:=hl i x v hi e1 vis
 refine wpAny_AugAssign_Name ?_
 have go:wpAny (model X.prog X.w) X.A (eval e X.env) (fun w s₂=>wpAny (model X.prog X.w) X.A (inplaceOp op u w) (fun r s₃=>wpAny (model X.prog X.w) X.A (storeName X.env x r) (fun _=>SP X pins D .next) X.xe s₃) X.xe s₂) X.xe s:=by
  refine aA (he pins s σ H _ I h) fun w s1 ⟨y,H1,I1,r1,q1⟩=>?_
  refine aA (ho pins s1 σ H1 v y u w _ I1 r r1 q1) fun z s2 ⟨zv,H2,I2,r2,q2⟩=>?_
  exact qD I2 hN hi hx r2 (fun s3 I3=>⟨_,H2,I3,q2⟩) hf
 rcases l with ⟨hk,hm⟩|⟨hk,c,hc,hcell⟩
 ·exact wpAny_loadName_local I.ok.kind hk hn hm go
 ·rcases hk with hk|hk
  ·exact wpAny_loadName_cell I.ok.kind hk hc hcell go
  ·rcases hx with k|k
   ·have:X.env.scope.names.lookup x=some .free:=hk
    rw[k] at this;cases this
   ·have:X.env.scope.names.lookup x=some .free:=hk
    rw[k] at this;cases this
end
section
variable {X:Cx} {pos:Pos}
def zC (c:TT) (tb:TS):TS:=fun D σ H=> ∃W:Nat→St→Hp→Prop,(∃m,W m σ H)∧ ∀m σ H,W m σ H→
 c σ H fun b H1=>if b=true then∃N:St→Hp→Prop,(∀σ' H',N σ' H'→ ∃m',m'<m∧W m' σ' H')∧tb {D with nx:=N,ct:=N,bk:=D.nx} σ H1 else D.nx σ H1
theorem J3 {c:Expr} {body:List Stmt} {tc:TT} {tb:TS} (hp:PassesOwn (model X.prog X.w) X.A X.env X.xe) (hc:PT X c tc) (hb:cc X body tb):PS X (.While c body [] pos) (zC tc tb):=by
 intro pins s σ H D I h
 obtain ⟨W,⟨m0,w0⟩,turn⟩:=h
 refine wpAny_While (codeAny_whileLoop (fun n s'=> ∃σ' H',Inv X pins σ' H' s'∧W n σ' H') ?_ m0 ⟨σ,H,I,w0⟩)
 rintro n s1 ⟨σ1,H1,I1,w1⟩
 refine wpAny_passesOwn hp (aA (hc pins s1 σ1 H1 _ I1 (turn n σ1 H1 w1)) fun b s2 ⟨H2,I2,q2⟩=>?_)
 cases b with
 |true=>
  obtain ⟨N,hN,q2⟩:=q2
  rw[if_pos rfl]
  refine wpAny_passesOwn hp (aA (hb pins s2 σ1 H2 _ I2 q2) fun f s3 q3=>?_)
  cases f with
  |next=>
   obtain ⟨σ3,H3,I3,n3⟩:=q3
   obtain ⟨m',hm,w3⟩:=hN σ3 H3 n3
   exact ⟨m',hm,σ3,H3,I3,w3⟩
  |cont=>
   obtain ⟨σ3,H3,I3,n3⟩:=q3
   obtain ⟨m',hm,w3⟩:=hN σ3 H3 n3
   exact ⟨m',hm,σ3,H3,I3,w3⟩
  |brk=>exact q3
  |ret v=>exact q3
 |false=>
  rw[if_neg Bool.false_ne_true]
  exact wpAny_execs_nil ⟨σ1,H2,I2,q2⟩
end
structure It where
 go:Nat→Hp→Prop
 dS:Nat→Hp→V→Hp→Prop
 stop:Nat→Hp→Prop
def cZ (X:Cx) (pins:List (Addr×Obj)) (H:Hp) (b:Addr):Prop:=
 H b=none∧b≠X.env.locals∧b∉X.fs∧(b∈X.ex∨X.ba.heap.objs.size≤b)∧(∀x c,X.env.cells.lookup x=some c→c≠b)∧ ∀p∈X.pn++pins,p.1≠b
theorem Inv.gB {X:Cx} {pins:List (Addr×Obj)} {σ:St} {H H':Hp} {s:Shared} {b:Addr} (I:Inv X pins σ H s) (hb:s.heap.objs.size≤b) (hn:H' b=none):cZ X pins H' b:=by
 refine ⟨hn,Nat.ne_of_gt (Nat.lt_of_lt_of_le I.lt hb),I.Ft hb, .inr (Nat.le_trans I.sz hb),fun x c e z=>?_,fun p hp z=>?_⟩
 ·obtain ⟨v,q⟩:=I.cell x c e
  exact absurd (Nat.lt_of_lt_of_le q.lt (by rw[z];exact hb)) (Nat.lt_irrefl _)
 ·exact absurd (Nat.lt_of_lt_of_le (Heap.lt_size (I.pin p hp).1) (by rw[z];exact hb)) (Nat.lt_irrefl _)
structure Turn (P:Program) (w:World) (K:PySem.W.Frag) (tg:Expr) (J:It) (fp:List Addr) (it:Addr) (tn:Nat→Heap→Prop):Prop where
 mem:it∈fp
 obj: ∀i h,tn i h→ ∀b∈fp,∃o,h.get? b=some o∧ ∀v,o.data≠ .cell v
 keep: ∀i h h',tn i h→(∀b∈fp,∀o,h.get? b=some o→h'.get? b=some o)→tn i h'
 item: ∀(X:Cx),X.prog=P→X.w=w→X.K=K→X.calm=true→ ∀(i:Nat) (pins:List (Addr×Obj)) (s:Shared) (σ:St) (H:Hp) (E:Value→Shared→Prop),Inv X pins σ H s→(∀b∈fp,cZ X pins H b)→tn i s.heap→J.go i H→
  wpAny (model P w) X.A (pyNext (.ref it)) (fun r s1=> ∃u,r=some u∧
   wpAny (model P w) X.A (letOwnedTupleGo tg (.ref it) u) (fun _ s2=> ∃x H',Inv X pins σ H' s2∧RelV x u∧J.dS i H x H'∧tn (i+1) s2.heap∧ ∀b∈fp,H' b=none) E s1) E s
 done: ∀(X:Cx),X.prog=P→X.w=w→X.K=K→X.calm=true→ ∀(i:Nat) (pins:List (Addr×Obj)) (s:Shared) (σ:St) (H:Hp) (E:Value→Shared→Prop),Inv X pins σ H s→(∀b∈fp,cZ X pins H b)→tn i s.heap→J.stop i H→
  wpAny (model P w) X.A (pyNext (.ref it)) (fun r s1=>r=none∧Inv X pins σ H s1) E s
 self: ∀(A:Around) (i:Nat) (s:Shared) (Q:Value→Shared→Prop) (E:Value→Shared→Prop),tn i s.heap→Q (.ref it) s→wpAny (model P w) A (pyIter (.ref it)) Q E s
abbrev TI:=St→Hp→(It→Hp→Prop)→Prop
def xF (X:Cx) (pins:List (Addr×Obj)) (σ:St) (tg:Expr) (R:It→Hp→Prop) (itv:Value) (s2:Shared):Prop:=
 ∃(it:Addr) (fp:List Addr) (tn:Nat→Heap→Prop) (J:It) (H':Hp),itv= .ref it∧Inv X pins σ H' s2∧Turn X.prog X.w X.K tg J fp it tn∧tn 0 s2.heap∧(∀b∈fp,cZ X pins H' b)∧R J H'
def PI (X:Cx) (tg iter:Expr) (wi:TI):Prop:=
 ∀(pins:List (Addr×Obj)) (s:Shared) (σ:St) (H:Hp) (R:It→Hp→Prop),Inv X pins σ H s→wi σ H R→
  wpAny (model X.prog X.w) X.A (eval iter X.env) (fun v s1=>wpAny (model X.prog X.w) X.A (pyIter v) (xF X pins σ tg R) X.xe s1) X.xe s
theorem rW {M:Model} {A:Around} {E:Value→Shared→Prop} {s:Shared} {tg:Expr} {it:Addr} {u:Value} {o:Obj} {n:String} {vs:Array Value} {Q:Unit→Shared→Prop} (ho:s.heap.get? it=some o) (hc:o.cls= .type n) (hd:o.data= .fields vs)
  (hn: ["enumerate", "zip", "dict_itemiterator", "dict_reverseitemiterator", "odict_iterator", "itertools.zip_longest", "itertools.pairwise"].contains n=false) (hQ:Q () s):wpAny M A (letOwnedTupleGo tg (.ref it) u) Q E s:=by
 unfold letOwnedTupleGo
 cases tg<;>first
  |exact wpAny_pure hQ
  |(cases u<;>first
    |exact wpAny_pure hQ
    |(refine wpAny_bind (wpAny_load ho ?_)
      rw[hc,hd]
      show wpAny M A (if (["enumerate", "zip", "dict_itemiterator", "dict_reverseitemiterator", "odict_iterator", "itertools.zip_longest", "itertools.pairwise"].contains n&&vs[0]?==some (rawInt _))=true then _ else _) Q E s
      rw[if_neg (by intro h;rw[hn,Bool.false_and] at h;cases h)]
      exact wpAny_pure hQ))
def eF (K:PySem.W.Frag) (a:Addr):It:=
 ⟨fun i H=> ∃xs x,ai K H a xs∧xs[i]?=some x,fun i H x H'=>H'=H∧ ∀xs,ai K H a xs→xs[i]?=some x,fun i H=> ∃xs,ai K H a xs∧xs.length≤i⟩
def kK (K:PySem.W.Frag) (a:Addr):It:=
 ⟨fun i H=> ∃xs x,aS K H a xs∧xs[i]?=some x,fun i H x H'=>H'=H∧ ∀xs,aS K H a xs→xs[i]?=some x,fun i H=> ∃xs,aS K H a xs∧xs.length≤i⟩
def iN (lo:Int) (n:Nat):It:=⟨fun i _=>i<n,fun i H x H'=>H'=H∧x= .int (lo+i),fun i _=>n≤i⟩
theorem G8 {P:Program} {w:World} {K:PySem.W.Frag} {tg:Expr} (a it:Addr):Turn P w K tg (eF K a) [it] it (fun i h=>h.IsListIter it a i) where
 mem:=by simp
 obj:=fun i h st b hb=>by
  have e:b=it:=by simpa using hb
  subst e
  obtain ⟨o,e,c,d⟩:=st
  exact ⟨o,e,fun v z=>by rw[d] at z;cases z⟩
 keep:=fun i h h' st k=>st.at fun o e=>k it (by simp) o e
 item:=by
  intro X hP hw hK hc i pins s σ H E I hf st hg
  subst hP hw hK
  obtain ⟨xs,x,hq,hx⟩:=hg
  obtain ⟨its,rv,p,hz⟩:=I.list hq
  obtain ⟨u,hu,ru⟩:=rv.get hx
  obtain ⟨f0,f1,f2,f3,f4,f5⟩:=hf it (by simp)
  refine wpAny_pyNext_list_item st p.isList (x:=u) (by simpa using hu) fun h' st' sb=>?_
  have I1:Inv X pins σ H {s with heap:=h'}:=I.turned (t':=s.toks) (fun b o hb e=>(sb.2 b hb).trans e) f0 f1 f3 f4 f5
  obtain ⟨o,e,c,d⟩:=id st'
  exact ⟨u,rfl,rW (s:={s with heap:=h'}) e c d (by decide) ⟨x,H,I1,ru,⟨rfl,fun ys hy=>by rw[I.p9 hy hq];exact hx⟩,st',fun b hb=>(hf b hb).1⟩⟩
 done:=by
  intro X hP hw hK hc i pins s σ H E I hf st hg
  subst hP hw hK
  obtain ⟨xs,hq,hx⟩:=hg
  obtain ⟨its,rv,p,hz⟩:=I.list hq
  obtain ⟨f0,f1,f2,f3,f4,f5⟩:=hf it (by simp)
  have hl:=rv.length
  exact wpAny_pyNext_list_end (I.ok.hd hc) st p.isList (by simp;omega) fun h' eb=>⟨rfl,I.turned (t':=s.toks) (fun b o hb e=>eb b o hb e) f0 f1 f3 f4 f5⟩
 self:=fun _ _ _ _ _ st h=>wpAny_pyIter_listiter st h
theorem Bq {P:Program} {w:World} {K:PySem.W.Frag} {tg:Expr} (a it:Addr):Turn P w K tg (kK K a) [it] it (fun i h=>h.IsTupleIter it a i) where
 mem:=by simp
 obj:=fun i h st b hb=>by
  have e:b=it:=by simpa using hb
  subst e
  obtain ⟨o,e,c,d⟩:=st
  exact ⟨o,e,fun v z=>by rw[d] at z;cases z⟩
 keep:=fun i h h' st k=>st.at fun o e=>k it (by simp) o e
 item:=by
  intro X hP hw hK hc i pins s σ H E I hf st hg
  subst hP hw hK
  obtain ⟨xs,x,hq,hx⟩:=hg
  obtain ⟨its,rv,p,hz⟩:=I.tuple hq
  obtain ⟨u,hu,ru⟩:=rv.get hx
  obtain ⟨f0,f1,f2,f3,f4,f5⟩:=hf it (by simp)
  refine wpAny_pyNext_tuple_item st (show s.heap.IsTuple a its.toArray from p) (x:=u) (by simpa using hu) fun h' st' sb=>?_
  have I1:Inv X pins σ H {s with heap:=h'}:=I.turned (t':=s.toks) (fun b o hb e=>(sb.2 b hb).trans e) f0 f1 f3 f4 f5
  obtain ⟨o,e,c,d⟩:=id st'
  exact ⟨u,rfl,rW (s:={s with heap:=h'}) e c d (by decide) ⟨x,H,I1,ru,⟨rfl,fun ys hy=>by rw[I.yJ hy hq];exact hx⟩,st',fun b hb=>(hf b hb).1⟩⟩
 done:=by
  intro X hP hw hK hc i pins s σ H E I hf st hg
  subst hP hw hK
  obtain ⟨xs,hq,hx⟩:=hg
  obtain ⟨its,rv,p,hz⟩:=I.tuple hq
  obtain ⟨f0,f1,f2,f3,f4,f5⟩:=hf it (by simp)
  have hl:=rv.length
  exact wpAny_pyNext_tuple_end (I.ok.hd hc) st (show s.heap.IsTuple a its.toArray from p) (by simp;omega) fun h' eb=>⟨rfl,I.turned (t':=s.toks) (fun b o hb e=>eb b o hb e) f0 f1 f3 f4 f5⟩
 self:=fun _ _ _ _ _ st h=>wpAny_pyIter_tupleiter st h
theorem Bw {P:Program} {w:World} {K:PySem.W.Frag} {tg:Expr} (it:Addr) (lo:Int) (n:Nat):Turn P w K tg (iN lo n) [it] it (fun i h=>IsRangeIter h it (lo+(i:Nat)*1) ((n:Int)-(i:Nat)) 1) where
 mem:=by simp
 obj:=fun i h st b hb=>by
  have e:b=it:=by simpa using hb
  subst e
  exact ⟨_,st,fun v z=>by
   have z':Data.fields _=Data.cell v:=z
   cases z'⟩
 keep:=fun i h h' st k=>k it (by simp) _ st
 item:=by
  intro X hP hw hK hc i pins s σ H E I hf st hg
  subst hP hw hK
  obtain ⟨f0,f1,f2,f3,f4,f5⟩:=hf it (by simp)
  have W:=Walks.range (prog:=X.prog) (w:=X.w) (I.ok.hd hc) it lo 1 n
  refine W.item i s _ _ hg st fun v h' tk hv st' kk=>?_
  obtain ⟨t,rfl⟩:=hv
  have I1:Inv X pins σ H {s with heap:=h',toks:=tk}:=I.turned (fun b o hb e=>kk b o (by simpa using hb) e) f0 f1 f3 f4 f5
  refine ⟨_,rfl,rW (s:={s with heap:=h',toks:=tk}) (n:= "range_iterator") st' rfl rfl (by decide) ⟨.int (lo+i),H,I1,⟨t,?_⟩,⟨rfl,rfl⟩,st',fun b hb=>(hf b hb).1⟩⟩
  rw[Int.mul_one]
 done:=by
  intro X hP hw hK hc i pins s σ H E I hf st hg
  subst hP hw hK
  obtain ⟨f0,f1,f2,f3,f4,f5⟩:=hf it (by simp)
  exact wpAny_pyNext_range_end (I.ok.hd hc) st (by have:n≤i:=hg;omega) fun h' eb=>⟨rfl,I.turned (t':=s.toks) (fun b o hb e=>eb b o hb e) f0 f1 f3 f4 f5⟩
 self:=fun _ _ _ _ _ st h=>wpAny_pyIter_rangeiter st h
end L2
namespace L2
open PySem PySem.Spec PyProof.Rows
section
variable {X:Cx} {tg:Expr}
def pk (K:PySem.W.Frag) (tl:TE):TI:=fun σ H R=>tl σ H fun x H1=> ∃a,x= .ref a∧(∃xs,ai K H1 a xs)∧R (eF K a) H1
def wb (K:PySem.W.Frag) (tl:TE):TI:=fun σ H R=>tl σ H fun x H1=> ∃a,x= .ref a∧(∃xs,aS K H1 a xs)∧R (kK K a) H1
theorem dI {l:Expr} {tl:TE} (hl:PE X l tl):PI X tg l (pk X.K tl):=by
 intro pins s σ H R I h
 refine aA (hl pins s σ H _ I h) fun v s1 ⟨x,H1,I1,r1,q1⟩=>?_
 obtain ⟨a,e,⟨xs,hq⟩,q⟩:=q1
 subst e
 cases r1
 obtain ⟨its,rv,p,hz⟩:=I1.list hq
 refine wpAny_pyIter_list p.isList ?_
 refine ⟨s1.heap.objs.size, [s1.heap.objs.size],_,_,H1,rfl,I1.kept (t':=s1.toks) fun b o e=>Heap.get?_push_of_some _ e,G8 a _,⟨_,Heap.get?_push_size _ rfl,rfl,rfl⟩,fun b hb=>?_,q⟩
 have e:b=s1.heap.objs.size:=by simpa using hb
 subst e
 exact I1.gB (Nat.le_refl _) (I1.aj.fresh (Nat.le_refl _))
theorem CU {l:Expr} {tl:TE} (hl:PE X l tl):PI X tg l (wb X.K tl):=by
 intro pins s σ H R I h
 refine aA (hl pins s σ H _ I h) fun v s1 ⟨x,H1,I1,r1,q1⟩=>?_
 obtain ⟨a,e,⟨xs,hq⟩,q⟩:=q1
 subst e
 cases r1
 obtain ⟨its,rv,p,hz⟩:=I1.tuple hq
 refine wpAny_pyIter_tuple (show s1.heap.IsTuple a its.toArray from p) ?_
 refine ⟨s1.heap.objs.size, [s1.heap.objs.size],_,_,H1,rfl,I1.kept (t':=s1.toks) fun b o e=>Heap.get?_push_of_some _ e,Bq a _,⟨_,Heap.get?_push_size _ rfl,rfl,rfl⟩,fun b hb=>?_,q⟩
 have e:b=s1.heap.objs.size:=by simpa using hb
 subst e
 exact I1.gB (Nat.le_refl _) (I1.aj.fresh (Nat.le_refl _))
theorem vb {pins:List (Addr×Obj)} {σ:St} {H:Hp} {s:Shared} {R:It→Hp→Prop} {E:Value→Shared→Prop} {lo hi:Int} {t u v:Tok} {tk:Nat} (I:Inv X pins σ H s) (h1: -(2^62)≤lo) (h2:lo<2^62) (h3: -(2^62)≤hi) (h4:hi<2^62)
  (q:R (iN lo (hi-lo).toNat) H):wpAny (model X.prog X.w) X.A (pyIter (.ref s.heap.objs.size)) (xF X pins σ tg R) E {s with heap:=s.heap.push {cls:= .type "range",data:= .fields #[.int lo t, .int hi u, .int 1 v]},toks:=tk}:=by
 refine wpAny_pyIter_range (IsRange.new ..) (small_one h1 h2 h3 h4) ?_
 have I1:Inv X pins σ H {s with heap:=s.heap.push {cls:= .type "range",data:= .fields #[.int lo t, .int hi u, .int 1 v]},toks:=tk}:=I.kept fun b o e=>Heap.get?_push_of_some _ e
 refine ⟨(s.heap.push {cls:= .type "range",data:= .fields #[.int lo t, .int hi u, .int 1 v]}).objs.size, [(s.heap.push {cls:= .type "range",data:= .fields #[.int lo t, .int hi u, .int 1 v]}).objs.size],_,_,H,rfl,
  I1.kept (t':=tk) fun b o e=>Heap.get?_push_of_some _ e,Bw _ lo (hi-lo).toNat,?_,fun b hb=>?_,q⟩
 ·have e1:lo+((0:Nat):Int)*1=lo:=by simp
  have e2:(((hi-lo).toNat:Nat):Int)-((0:Nat):Int)=Builtin.Range.rangeSize lo hi 1:=by rw[rangeSize_one];split<;>omega
  show IsRangeIter _ _ (lo+((0:Nat):Int)*1) ((((hi-lo).toNat:Nat):Int)-((0:Nat):Int)) 1
  rw[e1,e2]
  exact Heap.get?_push_size _ rfl
 ·have e:b=(s.heap.push {cls:= .type "range",data:= .fields #[.int lo t, .int hi u, .int 1 v]}).objs.size:=by simpa using hb
  subst e
  exact I1.gB (Nat.le_refl _) (I1.aj.fresh (Nat.le_refl _))
def zK (ta:TA):TI:=fun σ H R=>ta σ H fun vs H1=> ∃j:Int,vs= [.int j]∧ -(2^62)≤j∧j<2^62∧R (iN 0 j.toNat) H1
def vc (ta:TA):TI:=fun σ H R=>ta σ H fun vs H1=> ∃i j:Int,vs= [.int i, .int j]∧(-(2^62)≤i∧i<2^62∧ -(2^62)≤j∧j<2^62)∧R (iN i (j-i).toNat) H1
theorem d7 {a:Expr} {ta:TA} {p pos:Pos} (hg:Gl X "range") (hm:X.mg "range" =none) (ha:PA X [a] ta) (hs:starEach [a] X.env= [(false,eval a X.env)]:=by rfl):PI X tg (.Call (.Name "range" p) [a] [] pos) (zK ta):=by
 intro pins s σ H R I h
 refine Call_ (jx I hg hm boot_range (PyProof.Rows.callWith_type1 (aA (ha pos pins s σ H _ I h) fun us s1 ⟨vs,H1,I1,r1,q1⟩=>?_) hs rfl))
 obtain ⟨j,e,q1,q2,q⟩:=q1
 subst e
 cases r1 with
 |cons r rr=>
  cases rr
  obtain ⟨t,rfl⟩:=r
  exact call_range_1 (vb I1 (by omega) (by omega) q1 q2 (by simpa using q))
theorem AF {a b:Expr} {ta:TA} {p pos:Pos} (hg:Gl X "range") (hm:X.mg "range" =none) (ha:PA X [a,b] ta) (hs:starEach [a,b] X.env= [(false,eval a X.env),(false,eval b X.env)]:=by rfl) (hs2:starEach [b] X.env= [(false,eval b X.env)]:=by rfl):
  PI X tg (.Call (.Name "range" p) [a,b] [] pos) (vc ta):=by
 intro pins s σ H R I h
 refine Call_ (jx I hg hm boot_range (PyProof.Rows.callWith_type1 (aA (ha pos pins s σ H _ I h) fun us s1 ⟨vs,H1,I1,r1,q1⟩=>?_) (by rw[hs,hs2]) (by rw[hs2];rfl)))
 obtain ⟨i,j,e,⟨q1,q2,q3,q4⟩,q⟩:=q1
 subst e
 cases r1 with
 |cons r rr=>
  cases rr with
  |cons r' rr=>
   cases rr
   obtain ⟨t,rfl⟩:=r
   obtain ⟨t',rfl⟩:=r'
   exact call_range_2 (vb I1 q1 q2 q3 q4 q)
def GG (wi:TI) (g:TG) (tb:TS):TS:=fun D σ H=>wi σ H fun J H1=> ∃W:Nat→Nat→St→Hp→Prop,(∃m,W 0 m σ H1)∧ ∀i m σ H,W i m σ H→
 (J.stop i H∧D.nx σ H)∨(J.go i H∧ ∃N:St→Hp→Prop,(∀σ' H',N σ' H'→ ∃m',m'<m∧W (i+1) m' σ' H')∧ ∀x H',J.dS i H x H'→g x σ H' fun σ2 H2=>tb {D with nx:=N,ct:=N,bk:=D.nx} σ2 H2)
def jA (fp:List Addr) (h:Heap):List (Addr×Obj):=fp.filterMap fun b=>(h.get? b).map fun o=>(b,o)
theorem o8 {fp:List Addr} {h:Heap} {b:Addr} {o:Obj} (hb:b∈fp) (e:h.get? b=some o):(b,o)∈jA fp h:=List.mem_filterMap.mpr ⟨b,hb,by rw[e];rfl⟩
theorem Cf {fp:List Addr} {h:Heap} {p:Addr×Obj} (hp:p∈jA fp h):p.1∈fp∧h.get? p.1=some p.2:=by
 obtain ⟨b,hb,e⟩:=List.mem_filterMap.mp hp
 cases q:h.get? b with
 |none=>rw[q] at e;cases e
 |some o=>
  rw[q] at e
  have e':(b,o)=p:=Option.some.inj e
  subst e'
  exact ⟨hb,q⟩
theorem Inv.pinned {pins:List (Addr×Obj)} {σ:St} {H:Hp} {s:Shared} {fp:List Addr} (I:Inv X pins σ H s) (hf: ∀b∈fp,cZ X pins H b) (ho: ∀b∈fp,∃o,s.heap.get? b=some o∧ ∀v,o.data≠ .cell v):Inv X (pins++jA fp s.heap) σ H s:=
 I.yG fun p hp=>(List.mem_append.mp hp).elim (fun z=>I.pin p (List.mem_append_right _ z)) fun z=>by
  obtain ⟨hb,e⟩:=Cf z
  obtain ⟨f0,f1,f2,_⟩:=hf p.1 hb
  obtain ⟨o,e',d⟩:=ho p.1 hb
  rw[e] at e';cases e'
  exact ⟨e,f0,f1,f2,d⟩
theorem Inv.nj {pins pl:List (Addr×Obj)} {σ:St} {H:Hp} {s:Shared} (I:Inv X (pins++pl) σ H s):Inv X pins σ H s:=I.yG fun p hp=>I.pin p (List.mem_append_right _ (List.mem_append_left _ hp))
theorem cq {iter:Expr} {body:List Stmt} {wi:TI} {g:TG} {tb:TS} {pos:Pos} (hp:PassesOwn (model X.prog X.w) X.A X.env X.xe) (hc:X.calm=true) (hi:PI X tg iter wi) (hg:PG X tg g) (hb:cc X body tb)
  (hs: ∀x,foldedSetIterable iter X.env x=pure x:=by intro _;rfl):PS X (.For tg iter body [] pos) (GG wi g tb):=by
 intro pins s σ H D I h
 refine wpAny_For (aA (hi pins s σ H _ I h) fun v s1 h1=>aA h1 fun itv s2 h2=>?_) hs
 obtain ⟨it,fp,tn,J,H2,e,I2,T,st2,f2,W,⟨m0,w0⟩,turn⟩:=h2
 subst e
 have stat: ∀{H':Hp},(∀b∈fp,H' b=none)→ ∀b∈fp,cZ X pins H' b:=fun hn b hb=>⟨hn b hb,(f2 b hb).2⟩
 refine codeAny_forLoop_any (fun n s'=> ∃i σ' H',Inv X pins σ' H' s'∧tn i s'.heap∧(∀b∈fp,H' b=none)∧W i n σ' H') ?_ m0 ⟨0,σ,H2,I2,st2,fun b hb=>(f2 b hb).1,w0⟩
 rintro n s3 ⟨i,σ3,H3,I3,st3,fr3,w3⟩
 rcases turn i n σ3 H3 w3 with ⟨stop,qn⟩|⟨go,N,hN,step⟩
 ·refine wpAny_passesOwn hp (aA (T.done X rfl rfl rfl hc i pins s3 σ3 H3 X.xe I3 (stat fr3) st3 stop) fun r s4 ⟨hr,I4⟩=>?_)
  subst hr
  exact wpAny_execs_nil ⟨σ3,H3,I4,qn⟩
 ·refine wpAny_passesOwn hp (aA (T.item X rfl rfl rfl hc i pins s3 σ3 H3 X.xe I3 (stat fr3) st3 go) fun r s4 ⟨u,hr,h4⟩=>?_)
  subst hr
  refine wpAny_passesOwn hp (aA h4 fun _ s5 ⟨x,H5,I5,r5,y5,st5,fr5⟩=>?_)
  have I5':=I5.pinned (stat fr5) (T.obj _ _ st5)
  refine wpAny_passesOwn hp (aA (hg _ s5 σ3 H5 x u _ I5' r5 (step x H5 y5)) fun _ s6 ⟨σ6,H6,I6,q6⟩=>?_)
  refine wpAny_passesOwn hp (aA (hb _ s6 σ6 H6 _ I6 q6) fun f s7 q7=>?_)
  have again: ∀{σ7:St} {H7:Hp},Inv X (pins++jA fp s5.heap) σ7 H7 s7→N σ7 H7→ ∃m,m<n∧ ∃i σ' H',Inv X pins σ' H' s7∧tn i s7.heap∧(∀b∈fp,H' b=none)∧W i m σ' H':=fun {σ7 H7} I7 n7=>by
   obtain ⟨m',hm,w7⟩:=hN σ7 H7 n7
   refine ⟨m',hm,i+1,σ7,H7,I7.nj,T.keep _ _ _ st5 fun b hb o e=>(I7.pin (b,o) (List.mem_append_right _ (List.mem_append_right _ (o8 hb e)))).1,fun b hb=>?_,w7⟩
   obtain ⟨o,e,d⟩:=T.obj _ _ st5 b hb
   exact (I7.pin (b,o) (List.mem_append_right _ (List.mem_append_right _ (o8 hb e)))).2.1
  cases f with
  |next=>obtain ⟨σ7,H7,I7,n7⟩:=q7;exact again I7 n7
  |cont=>obtain ⟨σ7,H7,I7,n7⟩:=q7;exact again I7 n7
  |brk=>obtain ⟨σ7,H7,I7,q7⟩:=q7;exact ⟨σ7,H7,I7.nj,q7⟩
  |ret v=>obtain ⟨x7,σ7,H7,I7,r7,q7⟩:=q7;exact ⟨x7,σ7,H7,I7.nj,r7,q7⟩
end
theorem iQ {K:PySem.W.Frag} {a:Addr} {xs:List V} {g:TG} {tb:TS} {D:Ends} {σ:St} {H:Hp} (Pv:Nat→St→Hp→Prop) (h0:Pv 0 σ H) (hl: ∀i σ H,i≤xs.length→Pv i σ H→ai K H a xs)
  (hs: ∀i x σ H,xs[i]?=some x→Pv i σ H→g x σ H fun σ2 H2=>tb {D with nx:=Pv (i+1),ct:=Pv (i+1),bk:=D.nx} σ2 H2) (hd: ∀σ H,Pv xs.length σ H→D.nx σ H):
  ∃W:Nat→Nat→St→Hp→Prop,(∃m,W 0 m σ H)∧ ∀i m σ H,W i m σ H→
   ((eF K a).stop i H∧D.nx σ H)∨((eF K a).go i H∧ ∃N:St→Hp→Prop,(∀σ' H',N σ' H'→ ∃m',m'<m∧W (i+1) m' σ' H')∧ ∀x H',(eF K a).dS i H x H'→g x σ H' fun σ2 H2=>tb {D with nx:=N,ct:=N,bk:=D.nx} σ2 H2):=by
 refine ⟨fun i m σ H=>m=xs.length-i∧i≤xs.length∧Pv i σ H,⟨xs.length,by simp,Nat.zero_le _,h0⟩,?_⟩
 rintro i m σ H ⟨rfl,hi,p⟩
 have q:=hl i σ H hi p
 by_cases hlt:i<xs.length
 ·refine .inr ⟨⟨xs,xs[i],q,by simp [hlt]⟩,Pv (i+1),fun σ' H' p'=>⟨xs.length-(i+1),by omega,rfl,hlt,p'⟩,fun x H' y=>?_⟩
  obtain ⟨e,y⟩:=y
  subst e
  exact hs i x σ _ (y xs q) p
 ·have e:i=xs.length:=by omega
  subst e
  exact .inl ⟨⟨xs,q,Nat.le_refl _⟩,hd σ H p⟩
theorem Fo {K:PySem.W.Frag} {a:Addr} {xs:List V} {g:TG} {tb:TS} {D:Ends} {σ:St} {H:Hp} (Pv:Nat→St→Hp→Prop) (h0:Pv 0 σ H) (hl: ∀i σ H,i≤xs.length→Pv i σ H→aS K H a xs)
  (hs: ∀i x σ H,xs[i]?=some x→Pv i σ H→g x σ H fun σ2 H2=>tb {D with nx:=Pv (i+1),ct:=Pv (i+1),bk:=D.nx} σ2 H2) (hd: ∀σ H,Pv xs.length σ H→D.nx σ H):
  ∃W:Nat→Nat→St→Hp→Prop,(∃m,W 0 m σ H)∧ ∀i m σ H,W i m σ H→
   ((kK K a).stop i H∧D.nx σ H)∨((kK K a).go i H∧ ∃N:St→Hp→Prop,(∀σ' H',N σ' H'→ ∃m',m'<m∧W (i+1) m' σ' H')∧ ∀x H',(kK K a).dS i H x H'→g x σ H' fun σ2 H2=>tb {D with nx:=N,ct:=N,bk:=D.nx} σ2 H2):=by
 refine ⟨fun i m σ H=>m=xs.length-i∧i≤xs.length∧Pv i σ H,⟨xs.length,by simp,Nat.zero_le _,h0⟩,?_⟩
 rintro i m σ H ⟨rfl,hi,p⟩
 have q:=hl i σ H hi p
 by_cases hlt:i<xs.length
 ·refine .inr ⟨⟨xs,xs[i],q,by simp [hlt]⟩,Pv (i+1),fun σ' H' p'=>⟨xs.length-(i+1),by omega,rfl,hlt,p'⟩,fun x H' y=>?_⟩
  obtain ⟨e,y⟩:=y
  subst e
  exact hs i x σ _ (y xs q) p
 ·have e:i=xs.length:=by omega
  subst e
  exact .inl ⟨⟨xs,q,Nat.le_refl _⟩,hd σ H p⟩
theorem eR {lo:Int} {n:Nat} {g:TG} {tb:TS} {D:Ends} {σ:St} {H:Hp} (Pv:Nat→St→Hp→Prop) (h0:Pv 0 σ H)
  (hs: ∀i σ H,i<n→Pv i σ H→g (.int (lo+i)) σ H fun σ2 H2=>tb {D with nx:=Pv (i+1),ct:=Pv (i+1),bk:=D.nx} σ2 H2) (hd: ∀σ H,Pv n σ H→D.nx σ H):
  ∃W:Nat→Nat→St→Hp→Prop,(∃m,W 0 m σ H)∧ ∀i m σ H,W i m σ H→
   ((iN lo n).stop i H∧D.nx σ H)∨((iN lo n).go i H∧ ∃N:St→Hp→Prop,(∀σ' H',N σ' H'→ ∃m',m'<m∧W (i+1) m' σ' H')∧ ∀x H',(iN lo n).dS i H x H'→g x σ H' fun σ2 H2=>tb {D with nx:=N,ct:=N,bk:=D.nx} σ2 H2):=by
 refine ⟨fun i m σ H=>m=n-i∧i≤n∧Pv i σ H,⟨n,by simp,Nat.zero_le _,h0⟩,?_⟩
 rintro i m σ H ⟨rfl,hi,p⟩
 by_cases hlt:i<n
 ·refine .inr ⟨hlt,Pv (i+1),fun σ' H' p'=>⟨n-(i+1),by omega,rfl,hlt,p'⟩,fun x H' y=>?_⟩
  obtain ⟨e,y⟩:=y
  subst e y
  exact hs i σ _ hlt p
 ·have e:i=n:=by omega
  subst e
  exact .inl ⟨Nat.le_refl _,hd σ H p⟩
end L2
namespace L2
open PySem PySem.Spec PyProof.Rows
abbrev R2:=V→V→Hp→VK→Prop
def bj (X:Cx) (f:Value→Value→Sem Value) (r:R2):Prop:=
 ∀(pins:List (Addr×Obj)) (s:Shared) (σ:St) (H:Hp) (x y:V) (v u:Value) (Q:VK),Inv X pins σ H s→RelV x v→RelV y u→r x y H Q→
  wpAny (model X.prog X.w) X.A (f v u) (EP X pins σ Q) X.xe s
def rH (X:Cx) (f:Value→Sem Value) (r:V→Hp→VK→Prop):Prop:=
 ∀(pins:List (Addr×Obj)) (s:Shared) (σ:St) (H:Hp) (x:V) (v:Value) (Q:VK),Inv X pins σ H s→RelV x v→r x H Q→
  wpAny (model X.prog X.w) X.A (f v) (EP X pins σ Q) X.xe s
def gs (X:Cx) (f:Value) (r:List V→Hp→VK→Prop):Prop:=
 ∀(pins:List (Addr×Obj)) (s:Shared) (σ:St) (H:Hp) (xs:List V) (us:List Value) (Q:VK),Inv X pins σ H s→Vals xs us→r xs H Q→
  wpAny (model X.prog X.w) X.A (call f us) (EP X pins σ Q) X.xe s
def fg (r:R2) (ta tb:TE):TE:=fun σ H Q=>ta σ H fun x H1=>tb σ H1 fun y H2=>r x y H2 Q
def w4 (r:V→Hp→VK→Prop) (ta:TE):TE:=fun σ H Q=>ta σ H fun x H1=>r x H1 Q
def rI (C:Int→Int→Prop) (g:Int→Int→V):R2:=fun x y H Q=> ∃i j,x= .int i∧y= .int j∧C i j∧Q (g i j) H
def cM (g:Int→Int→V):R2:=fun x y H Q=> ∃i j,x= .int i∧y= .int j∧Q (g i j) H
def rU (g:Int→V):V→Hp→VK→Prop:=fun x H Q=> ∃i,x= .int i∧Q (g i) H
section
variable {X:Cx} {a b c:Expr} {ta tb tc:TE} {pos:Pos}
theorem qV (ha:PE X a ta) (hb:PE X b tb) {pins:List (Addr×Obj)} {s:Shared} {σ:St} {H:Hp} {R:V→V→Hp→Prop} (I:Inv X pins σ H s)
  (h:ta σ H fun x H1=>tb σ H1 fun y H2=>R x y H2) {Q:Value→Shared→Prop} {f:Value→Value→Sem Value}
  (hf: ∀v u s2 x y H2,Inv X pins σ H2 s2→RelV x v→RelV y u→R x y H2→wpAny (model X.prog X.w) X.A (f v u) Q X.xe s2):
  wpAny (model X.prog X.w) X.A (eval a X.env) (fun v s₁=>wpAny (model X.prog X.w) X.A (eval b X.env) (fun u s₂=>wpAny (model X.prog X.w) X.A (f v u) Q X.xe s₂) X.xe s₁) X.xe s:=by
 refine aA (ha pins s σ H _ I h) fun v s1 ⟨x,H1,I1,r1,q1⟩=>?_
 refine aA (hb pins s1 σ H1 _ I1 q1) fun u s2 ⟨y,H2,I2,r2,q2⟩=>?_
 exact hf v u s2 x y H2 I2 r1 r2 q2
theorem ax {op:Operator} {r:R2} (ho:bj X (binaryOp op) r) (ha:PE X a ta) (hb:PE X b tb):PE X (.BinOp a op b pos) (fg r ta tb):=by
 intro pins s σ H Q I h
 exact wpAny_BinOp (qV ha hb I h fun v u s2 x y H2 I2 rx ry q=>ho pins s2 σ H2 x y v u Q I2 rx ry q)
theorem fJ {op:UnaryOp} {r:V→Hp→VK→Prop} (ho:rH X (unaryOp op) r) (ha:PE X a ta):PE X (.UnaryOp op a pos) (w4 r ta):=by
 intro pins s σ H Q I h
 exact UnaryOp_ (aA (ha pins s σ H _ I h) fun v s1 ⟨x,H1,I1,r1,q1⟩=>ho pins s1 σ H1 x v Q I1 r1 q1)
theorem ia {f:Value→Value→Sem Value} {C:Int→Int→Prop} {g:Int→Int→Int}
  (rule: ∀(i j:Int) (t u:Tok) (s:Shared) (Q:Value→Shared→Prop) (E:Value→Shared→Prop),C i j→Q (.int (g i j) s.toks) {s with toks:=s.toks+1}→wpAny (model X.prog X.w) X.A (f (.int i t) (.int j u)) Q E s):
  bj X f (rI C fun i j=> .int (g i j)):=by
 intro pins s σ H x y v u Q I rx ry h
 obtain ⟨i,j,rfl,rfl,hc,q⟩:=h
 obtain ⟨t,rfl⟩:=rx
 obtain ⟨t',rfl⟩:=ry
 exact rule i j t t' s _ _ hc ⟨.int (g i j),H,I.tok _,⟨_,rfl⟩,q⟩
theorem gj {f:Value→Value→Sem Value} {g:Int→Int→Int}
  (rule: ∀(i j:Int) (t u:Tok) (s:Shared) (Q:Value→Shared→Prop) (E:Value→Shared→Prop),Q (.int (g i j) s.toks) {s with toks:=s.toks+1}→wpAny (model X.prog X.w) X.A (f (.int i t) (.int j u)) Q E s):
  bj X f (cM fun i j=> .int (g i j)):=by
 intro pins s σ H x y v u Q I rx ry h
 obtain ⟨i,j,rfl,rfl,q⟩:=h
 obtain ⟨t,rfl⟩:=rx
 obtain ⟨t',rfl⟩:=ry
 exact rule i j t t' s _ _ ⟨.int (g i j),H,I.tok _,⟨_,rfl⟩,q⟩
theorem oR {f:Value→Value→Sem Value} {g:Int→Int→Bool}
  (rule: ∀(i j:Int) (t u:Tok) (s:Shared) (Q:Value→Shared→Prop) (E:Value→Shared→Prop),Q (.bool (g i j)) s→wpAny (model X.prog X.w) X.A (f (.int i t) (.int j u)) Q E s):
  bj X f (cM fun i j=> .bl (g i j)):=by
 intro pins s σ H x y v u Q I rx ry h
 obtain ⟨i,j,rfl,rfl,q⟩:=h
 obtain ⟨t,rfl⟩:=rx
 obtain ⟨t',rfl⟩:=ry
 exact rule i j t t' s _ _ ⟨.bl (g i j),H,I,rfl,q⟩
def E9 (i j:Int):Prop:=0<j∧j<1073741824
def qd (i j:Int):Prop:=0≤j∧j≤1000000∧i.natAbs<2^64
def qi (i j:Int):Prop:=(-(2^64)<i∧i<2^64)∨(-(2^64)<j∧j<2^64)
theorem qi.ok {i j:Int} (h:qi i j):IntMulOk i j:=by
 rcases h with ⟨h1,h2⟩|⟨h1,h2⟩
 ·exact .of_left (intBits_le_64 h1 h2)
 ·exact .of_right (intBits_le_64 h1 h2)
theorem IX (k:Nat):(0:Int)≤2^k:=by
 rw[two_pow_cast]
 exact Int.natCast_nonneg _
theorem bS:bj X (binaryOp .Add) (cM fun i j=> .int (i+j)):=gj fun _ _ _ _ _ _ _ q=>add_int q
theorem cY:bj X (binaryOp .Sub) (cM fun i j=> .int (i-j)):=gj fun _ _ _ _ _ _ _ q=>sub_int q
theorem gE:bj X (binaryOp .Mult) (rI qi fun i j=> .int (i*j)):=ia fun _ _ _ _ _ _ _ hc q=>mul_int q hc.ok
theorem ic:bj X (binaryOp .FloorDiv) (rI E9 fun i j=> .int (i/j)):=ia fun i j _ _ _ _ _ hc q=>by
 have h1:(0:Int)<j:=hc.1
 have h2:j<1073741824:=hc.2
 exact floordiv_int (by omega) (by rw[Int.fdiv_eq_ediv_of_nonneg i (by omega)];exact q) (.inl (PyProof.noPylong_small (by omega)))
theorem ng:bj X (binaryOp .Mod) (rI (fun _ j=>0<j) fun i j=> .int (i%j)):=ia fun i j _ _ _ _ _ hc q=>by
 have h1:(0:Int)<j:=hc
 exact mod_int' (by omega) (by rw[Int.fmod_eq_emod_of_nonneg i (by omega)];exact q)
theorem ib:bj X (binaryOp .LShift) (rI qd fun i j=> .int (i*2^j.toNat)):=ia fun _ _ _ _ _ _ _ hc q=>lshift_int_small hc.1 hc.2.1 hc.2.2 q
theorem eO:bj X (binaryOp .RShift) (rI (fun _ j=>0≤j) fun i j=> .int (i/2^j.toNat)):=ia fun i j _ _ _ _ _ hc q=>
 rshift_int hc (by rw[Int.fdiv_eq_ediv_of_nonneg i (IX _)];exact q)
theorem oO:bj X (binaryOp .BitAnd) (cM fun i j=> .int (Builtin.bitAnd i j)):=gj fun _ _ _ _ _ _ _ q=>and_int q
theorem yC:bj X (binaryOp .BitOr) (cM fun i j=> .int (Builtin.bitOr i j)):=gj fun _ _ _ _ _ _ _ q=>or_int q
theorem sM:bj X (binaryOp .BitXor) (cM fun i j=> .int (Builtin.bitXor i j)):=gj fun _ _ _ _ _ _ _ q=>xor_int q
theorem x6:bj X (inplaceOp .Add) (cM fun i j=> .int (i+j)):=gj fun _ _ _ _ _ _ _ q=>iadd_int q
theorem Bf:bj X (inplaceOp .Sub) (cM fun i j=> .int (i-j)):=gj fun _ _ _ _ _ _ _ q=>isub_int q
theorem JC:bj X (inplaceOp .LShift) (rI qd fun i j=> .int (i*2^j.toNat)):=ia fun _ _ _ _ _ _ _ hc q=>ilshift_int_small hc.1 hc.2.1 hc.2.2 q
theorem sW:bj X (inplaceOp .BitXor) (cM fun i j=> .int (Builtin.bitXor i j)):=gj fun _ _ _ _ _ _ _ q=>ixor_int q
theorem ID {f:Value→Sem Value} {g:Int→Int}
  (rule: ∀(i:Int) (t:Tok) (s:Shared) (Q:Value→Shared→Prop) (E:Value→Shared→Prop),Q (.int (g i) s.toks) {s with toks:=s.toks+1}→wpAny (model X.prog X.w) X.A (f (.int i t)) Q E s):
  rH X f (rU fun i=> .int (g i)):=by
 intro pins s σ H x v Q I rx h
 obtain ⟨i,rfl,q⟩:=h
 obtain ⟨t,rfl⟩:=rx
 exact rule i t s _ _ ⟨.int (g i),H,I.tok _,⟨_,rfl⟩,q⟩
theorem fU:rH X (unaryOp .USub) (rU fun i=> .int (-i)):=ID fun _ _ _ _ _ q=>neg_int q
end
def rS:V→V→Bool
 | .aq, .aq=>true| .aq, .int _=>true| .int _, .aq=>true| .aq, .bl _=>true| .bl _, .aq=>true| .aq, .str _=>true| .str _, .aq=>true
 | .int _, .int _=>true| .bl _, .bl _=>true| .str _, .str _=>true| .cN _, .cN _=>true
 | .int _, .str _=>true| .str _, .int _=>true| .bl _, .str _=>true| .str _, .bl _=>true
 |_,_=>false
def Aj:R2:=fun x y H Q=>rS x y=true∧Q (.bl (decide (x=y))) H
def EU:R2:=fun x y H Q=>rS x y=true∧Q (.bl (!decide (x=y))) H
theorem wj {i j:Int}:decide (V.int i=V.int j)=(i==j):=by
 rw[Bool.eq_iff_iff]
 simp
theorem yM {i j:Bool}:decide (V.bl i=V.bl j)=(i==j):=by
 rw[Bool.eq_iff_iff]
 simp
theorem yS {i j:Str}:decide (V.str i=V.str j)=(i==j):=by
 rw[Bool.eq_iff_iff]
 simp
theorem ve {i j:Array UInt8}:decide (V.cN i=V.cN j)=(i.toList==j.toList):=by
 rw[Bool.eq_iff_iff]
 cases i
 cases j
 simp
section
variable {X:Cx} {a b c:Expr} {ta tb tc:TE} {pos:Pos}
theorem bI {pins:List (Addr×Obj)} {σ:St} {H:Hp} {s:Shared} {Q:VK} {k k':Bool} (I:Inv X pins σ H s) (q:Q (.bl k) H) (e:k=k'):EP X pins σ Q (.bool k') s:=by
 subst e
 exact ⟨.bl k,H,I,rfl,q⟩
theorem cI:bj X (compareOp .Eq) Aj:=by
 intro pins s σ H x y v u Q I rx ry h
 obtain ⟨hs,q⟩:=h
 cases x with
 |aq=>
  cases rx
  cases y with
  |aq=>cases ry;exact PySem.EqNone.eq_none_none (bI I q (by simp))
  |bl j=>cases ry;exact PySem.EqNone.eq_none_bool (bI I q (by simp))
  |int j=>obtain ⟨t',rfl⟩:=ry;exact PySem.EqNone.eq_none_int (bI I q (by simp))
  |str j=>obtain ⟨t',rfl⟩:=ry;exact PySem.EqNone.eq_none_str (bI I q (by simp))
  |_=>exact absurd (show false=true from hs) Bool.false_ne_true
 |bl i=>
  cases rx
  cases y with
  |aq=>cases ry;exact PySem.EqNone.eq_bool_none (bI I q (by simp))
  |bl j=>cases ry;exact eq_bool (bI I q yM)
  |str j=>obtain ⟨t',rfl⟩:=ry;exact PySem.EqMixed.eq_bool_str (bI I q (by simp))
  |_=>exact absurd (show false=true from hs) Bool.false_ne_true
 |int i=>
  obtain ⟨t,rfl⟩:=rx
  cases y with
  |aq=>cases ry;exact PySem.EqNone.eq_int_none (bI I q (by simp))
  |int j=>obtain ⟨t',rfl⟩:=ry;exact eq_int (bI I q wj)
  |str j=>obtain ⟨t',rfl⟩:=ry;exact PySem.EqMixed.eq_int_str (bI I q (by simp))
  |_=>exact absurd (show false=true from hs) Bool.false_ne_true
 |str i=>
  obtain ⟨t,rfl⟩:=rx
  cases y with
  |aq=>cases ry;exact PySem.EqNone.eq_str_none (bI I q (by simp))
  |bl j=>cases ry;exact PySem.EqMixed.eq_str_bool (bI I q (by simp))
  |int j=>obtain ⟨t',rfl⟩:=ry;exact PySem.EqMixed.eq_str_int (bI I q (by simp))
  |str j=>obtain ⟨t',rfl⟩:=ry;exact eq_str (bI I q yS)
  |_=>exact absurd (show false=true from hs) Bool.false_ne_true
 |cN i=>
  obtain ⟨t,rfl⟩:=rx
  cases y with
  |cN j=>obtain ⟨t',rfl⟩:=ry;exact PySem.W.eq_bytes (bI I q ve)
  |_=>exact absurd (show false=true from hs) Bool.false_ne_true
 |_=>cases y<;>exact absurd (show false=true from hs) Bool.false_ne_true
theorem fQ:bj X (compareOp .NotEq) EU:=by
 intro pins s σ H x y v u Q I rx ry h
 obtain ⟨hs,q⟩:=h
 cases x with
 |aq=>
  cases rx
  cases y with
  |aq=>cases ry;exact PySem.EqNone.ne_none_none (bI I q (by simp))
  |bl j=>cases ry;exact PySem.EqNone.ne_none_bool (bI I q (by simp))
  |int j=>obtain ⟨t',rfl⟩:=ry;exact PySem.EqNone.ne_none_int (bI I q (by simp))
  |str j=>obtain ⟨t',rfl⟩:=ry;exact PySem.EqNone.ne_none_str (bI I q (by simp))
  |_=>exact absurd (show false=true from hs) Bool.false_ne_true
 |bl i=>
  cases rx
  cases y with
  |aq=>cases ry;exact PySem.EqNone.ne_bool_none (bI I q (by simp))
  |bl j=>cases ry;exact ne_bool (bI I q (congrArg not yM))
  |str j=>obtain ⟨t',rfl⟩:=ry;exact PySem.EqMixed.ne_bool_str (bI I q (by simp))
  |_=>exact absurd (show false=true from hs) Bool.false_ne_true
 |int i=>
  obtain ⟨t,rfl⟩:=rx
  cases y with
  |aq=>cases ry;exact PySem.EqNone.ne_int_none (bI I q (by simp))
  |int j=>obtain ⟨t',rfl⟩:=ry;exact ne_int (bI I q (congrArg not wj))
  |str j=>obtain ⟨t',rfl⟩:=ry;exact PySem.EqMixed.ne_int_str (bI I q (by simp))
  |_=>exact absurd (show false=true from hs) Bool.false_ne_true
 |str i=>
  obtain ⟨t,rfl⟩:=rx
  cases y with
  |aq=>cases ry;exact PySem.EqNone.ne_str_none (bI I q (by simp))
  |bl j=>cases ry;exact PySem.EqMixed.ne_str_bool (bI I q (by simp))
  |int j=>obtain ⟨t',rfl⟩:=ry;exact PySem.EqMixed.ne_str_int (bI I q (by simp))
  |str j=>obtain ⟨t',rfl⟩:=ry;exact ne_str (bI I q (congrArg not yS))
  |_=>exact absurd (show false=true from hs) Bool.false_ne_true
 |cN i=>
  obtain ⟨t,rfl⟩:=rx
  cases y with
  |cN j=>obtain ⟨t',rfl⟩:=ry;exact PySem.W.ne_bytes (bI I q (congrArg not ve))
  |_=>exact absurd (show false=true from hs) Bool.false_ne_true
 |_=>cases y<;>exact absurd (show false=true from hs) Bool.false_ne_true
theorem rF:bj X (compareOp .Lt) (cM fun i j=> .bl (decide (i<j))):=oR fun _ _ _ _ _ _ _ q=>lt_int q
theorem fy:bj X (compareOp .LtE) (cM fun i j=> .bl (decide (i≤j))):=oR fun _ _ _ _ _ _ _ q=>le_int q
theorem cO:bj X (compareOp .Gt) (cM fun i j=> .bl (decide (j<i))):=oR fun _ _ _ _ _ _ _ q=>gt_int q
theorem vR:bj X (compareOp .GtE) (cM fun i j=> .bl (decide (j≤i))):=oR fun _ _ _ _ _ _ _ q=>ge_int q
theorem yL:bj X (compareOp .Is) (fun x y H Q=>y= .aq∧Q (.bl (decide (x= .aq))) H):=by
 intro pins s σ H x y v u Q I rx ry h
 obtain ⟨rfl,q⟩:=h
 cases ry
 refine is_none_gen (bI I q ?_)
 cases x<;>first
  |(cases rx;rfl)
  |(obtain ⟨t,rfl⟩:=rx;rfl)
theorem aP (b:Expr) {op:CmpOp} (h:op≠ .In:=by decide) (h2:op≠ .NotIn:=by decide):behindInMarks op b=false:=by
 have e1:(op==CmpOp.In)=false:=by cases op<;>first|rfl|exact absurd rfl h
 have e2:(op==CmpOp.NotIn)=false:=by cases op<;>first|rfl|exact absurd rfl h2
 cases b<;>simp [behindInMarks,e1,e2]
theorem iM {op:CmpOp} {r:R2} (ho:bj X (compareOp op) r) (ha:PE X a ta) (hb:PE X b tb) (hm:behindInMarks op b=false):PE X (.Compare a [op] [b] pos) (fg r ta tb):=by
 intro pins s σ H Q I h
 exact wpAny_Compare1 (qV ha hb I h fun v u s2 x y H2 I2 rx ry q=>ho pins s2 σ H2 x y v u Q I2 rx ry q) hm
def qG (t:TE):TT:=fun σ H Q=>t σ H fun x H'=> ∃k,x= .bl k∧Q k H'
theorem aY {op:CmpOp} {r:R2} (ho:bj X (compareOp op) r) (ha:PE X a ta) (hb:PE X b tb) (hm:behindInMarks op b=false):PT X (.Compare a [op] [b] pos) (qG (fg r ta tb)):=by
 intro pins s σ H Q I h
 refine wpAny_isTrue_Compare1 (aA (ha pins s σ H _ I h) fun v s1 ⟨x,H1,I1,r1,q1⟩=>aA (hb pins s1 σ H1 _ I1 q1) fun u s2 ⟨y,H2,I2,r2,q2⟩=>
  aA (ho pins s2 σ H2 x y v u _ I2 r1 r2 q2) fun c s3 ⟨z,H3,I3,r3,k,e,q3⟩=>?_) hm
 subst e
 cases r3
 exact wpAny_truthy_bool ⟨H3,I3,q3⟩
def sy (r r':R2) (ta tb tc:TE):TE:=fun σ H Q=>ta σ H fun x H1=>tb σ H1 fun y H2=>r x y H2 fun z H3=> ∃k,z= .bl k∧
 (if k=true then tc σ H3 fun w' H4=>r' y w' H4 Q else Q (.bl false) H3)
theorem tM {op op':CmpOp} {r r':R2} (ho:bj X (compareOp op) r) (ho':bj X (compareOp op') r') (ha:PE X a ta) (hb:PE X b tb) (hc:PE X c tc)
  (hm:lastMarks [op,op'] [b,c]=false:=by with_unfolding_all rfl):PE X (.Compare a [op,op'] [b,c] pos) (sy r r' ta tb tc):=by
 intro pins s σ H Q I h
 refine Compare_chain (aA (ha pins s σ H _ I h) fun v s1 ⟨x,H1,I1,r1,q1⟩=>chain_link (aA (hb pins s1 σ H1 _ I1 q1) fun u s2 ⟨y,H2,I2,r2,q2⟩=>
  aA (ho pins s2 σ H2 x y v u _ I2 r1 r2 q2) fun d s3 ⟨z,H3,I3,r3,k,e,q3⟩=>?_)) hm
 subst e
 cases r3
 refine wpAny_truthy_bool ?_
 cases k with
 |false=>exact ite_ff ⟨.bl false,H3,I3,rfl,q3⟩
 |true=>exact ite_tt (chain_last (aA (hc pins s3 σ H3 _ I3 q3) fun w' s4 ⟨z',H4,I4,r4,q4⟩=>ho' pins s4 σ H4 y z' u w' Q I4 r2 r4 q4))
theorem xq {op op':CmpOp} {r r':R2} (ho:bj X (compareOp op) r) (ho':bj X (compareOp op') r') (ha:PE X a ta) (hb:PE X b tb) (hc:PE X c tc)
  (hm:lastMarks [op,op'] [b,c]=false:=by with_unfolding_all rfl):PT X (.Compare a [op,op'] [b,c] pos) (qG (sy r r' ta tb tc)):=by
 intro pins s σ H Q I h
 refine isTrue_chain (aA (ha pins s σ H _ I h) fun v s1 ⟨x,H1,I1,r1,q1⟩=>test_link (aA (hb pins s1 σ H1 _ I1 q1) fun u s2 ⟨y,H2,I2,r2,q2⟩=>
  aA (ho pins s2 σ H2 x y v u _ I2 r1 r2 q2) fun d s3 ⟨z,H3,I3,r3,k,e,q3⟩=>?_)) hm
 subst e
 cases r3
 refine wpAny_truthy_bool ?_
 cases k with
 |false=>
  obtain ⟨k',e',q'⟩:=q3
  cases e'
  exact ite_ff ⟨H3,I3,q'⟩
 |true=>
  refine ite_tt (test_last (aA (hc pins s3 σ H3 _ I3 q3) fun w' s4 ⟨z',H4,I4,r4,q4⟩=>aA (ho' pins s4 σ H4 y z' u w' _ I4 r2 r4 q4) fun d' s5 ⟨z2,H5,I5,r5,k2,e2,q5⟩=>?_))
  subst e2
  cases r5
  exact wpAny_truthy_bool ⟨H5,I5,q5⟩
theorem sQ:(sizeLine:Nat)<2^63:=by rw[sizeLine_eq];decide
theorem vals1 {x:V} {us:List Value} (r:Vals [x] us): ∃u,us= [u]∧RelV x u:=by
 cases r with
 |cons r1 r2=>cases r2;exact ⟨_,rfl,r1⟩
theorem vals2 {x y:V} {us:List Value} (r:Vals [x,y] us): ∃u w',us= [u,w']∧RelV x u∧RelV y w':=by
 cases r with
 |cons r1 r2=>
  cases r2 with
  |cons r3 r4=>cases r4;exact ⟨_,_,rfl,r1,r3⟩
theorem FU (hc:X.calm=true):gs X (.builtin "min") (fun xs H Q=> ∃i j,xs= [.int i, .int j]∧Q (.int (if j<i then j else i)) H):=by
 intro pins s σ H xs us Q I r h
 obtain ⟨i,j,rfl,q⟩:=h
 obtain ⟨u,w',rfl,⟨t,rfl⟩,⟨t',rfl⟩⟩:=vals2 r
 refine min_two_ints (I.ok.hd hc) fun h' tk k=>⟨_,H,I.kept k,?_,q⟩
 by_cases hj:j<i
 ·rw[if_pos hj,if_pos hj];exact ⟨_,rfl⟩
 ·rw[if_neg hj,if_neg hj];exact ⟨_,rfl⟩
end
end L2
namespace L2
open PySem PySem.Spec PyProof.Rows
structure gQ (h:Heap) (x dx C:Addr) (mA:Str→Option Value):Prop where
 obj:h.get? x=some (PySem.W.instObj C dx)
 ns:h.Ns1 dx mA
 ne:dx≠x
theorem Lw {h:Heap} {dx:Addr} {mA:Str→Option Value} (n:h.Ns1 dx mA): ∃od,h.get? dx=some od∧ ∀name,PySem.W.lookIn name od=some (mA name):=by
 obtain ⟨o,es,ep,ho,hd,hk,_,hm⟩:=n
 refine ⟨o,ho,fun name=>?_⟩
 have e:=hm name
 unfold nsFind findBy at e
 rw[←Array.find?_toList] at e
 unfold PySem.W.lookIn
 rw[hd]
 dsimp only
 split
 ·rename_i y q
  rw[q] at e
  exact congrArg some e
 ·rename_i q
  rw[q] at e
  have a:es.toList.any (·.refKey)=false:=by
   rw[List.any_eq_false]
   intro y hy
   obtain ⟨z,t,hkey⟩:=hk y (Array.mem_toList_iff.mp hy)
   simp [DictEntry.refKey,hkey]
  have a': ¬es.toList.any (·.refKey)=true:=by rw[a];exact Bool.false_ne_true
  rw[if_neg a']
  exact congrArg some e
theorem gQ.look {h:Heap} {x dx C:Addr} {mA:Str→Option Value} (I:gQ h x dx C mA): ∃od,PySem.W.InstAt h x (PySem.W.instObj C dx) C (some od)∧ ∀name,PySem.W.lookIn name od=some (mA name):=
 let ⟨od,ho,hl⟩:=Lw I.ns
 ⟨od,⟨I.obj,rfl,rfl,ho⟩,hl⟩
section
variable {prog:Program} {w:World} {A:Around} {E:Value→Shared→Prop} {s:Shared} {K:PySem.W.Frag} {x dx C f:Addr} {mA:Str→Option Value} {name:Str} {v:Value}
theorem get_map {expr:Bool} {Q:Value→Shared→Prop} (X:K.In s.heap) (I:gQ s.heap x dx C mA) (hg:PySem.W.plainGet K C name=true) (hh:PySem.W.hasDictIn K C=true)
  (ha:PySem.W.findIn K (.ref C) name=some none) (hv:mA name=some v) (hv':PySem.W.handedIn v=true) (h:Q v {s with toks:=s.toks+1}):
  wpAny (model prog w) A (getAttr (.ref x) name expr) Q E s:=by
 obtain ⟨od,J,hl⟩:=I.look
 exact PySem.W.get_value X J (PySem.W.plainGet_of hg).1 (PySem.W.findObj_own hh ha rfl (by rw[hl,hv])) hv' h
theorem CK {pl:Sem Bool} {Q:Value×List Value→Shared→Prop} (X:K.In s.heap) (I:gQ s.heap x dx C mA) (hg:PySem.W.plainGet K C name=true)
  (hf:PySem.W.findIn K (.ref C) name=some (some (.ref f))) (ht:PySem.W.isFn K (.ref f)=true) (hv:mA name=none) (h:Q (.ref f, [.ref x]) s):
  wpAny (model prog w) A (getMethod (.ref x) name pl) Q E s:=by
 obtain ⟨od,J,hl⟩:=I.look
 exact PySem.W.method_fn X J (PySem.W.plainGet_of hg).1 (PySem.W.plainGet_of hg).2 hf (beq_iff_eq.mp ht) (by show (PySem.W.lookIn name od).map (·.isSome)=some false;rw[hl,hv];rfl) h
theorem Gz {ns:List Str} {Q:Unit→Shared→Prop} (X:K.In s.heap) (I:gQ s.heap x dx C mA)
  (hs:PySem.W.findIn K (.ref C) "__setattr__" =some (some (.builtin "object.__setattr__"))) (hp:PySem.W.plainOver K C=true) (ht:PySem.W.takerIn K C name=some none) (hh:PySem.W.hasDictIn K C=true)
  (hw:PySem.Within mA ns) (hsz:ns.length≤sizeLine)
  (h: ∀h',gQ h' x dx C (fun y=>if y=name then some v else mA y)→Heap.SameBut dx s.heap h'→Q () {s with heap:=h',toks:=s.toks+2}):
  wpAny (model prog w) A (setAttr (.ref x) name v) Q E s:=by
 obtain ⟨od,J,hl⟩:=I.look
 refine PySem.W.set_plain X J hs (PySem.W.osa_open (s:={s with toks:=s.toks+1}) (r:=none) X J hp ht fun b=>?_)
 obtain ⟨cd,hc,hd'⟩:=PySem.W.any_some hh
 have hx:s.heap.get? x=some ⟨.ref C,some dx, .plain, #[]⟩:=I.obj
 refine wpAny_bind (wpAny_pure (wpAny_bind (wpAny_bind (wpAny_loadPart hx (wpAny_bind (PySem.W.Looks.here (s:={s with toks:=s.toks+1}) (PySem.W.looks_clsIn X hc) ?_))))))
 rw[hd']
 refine wpAny_pure (a:=some dx) (wpAny_bind (wpAny_pure (wpAny_bind ?_)))
 refine wpAny_nsSet1 (s:={s with toks:=s.toks+1}) I.ns fun h' hn2 hs2=>?_
 obtain ⟨oD,esD,epD,hoD,hdD,hcD⟩:=hn2.count (PySem.Within.cons name v hw)
 refine wpAny_bind (wpAny_lookBehind hoD (by rw[hdD];exact pastItsLine_dict (Nat.le_trans hcD (by rw[List.length_cons];omega))) ?_)
 exact wpAny_pure (h _ ⟨(hs2.2 _ (Ne.symm I.ne)).trans I.obj,hn2,I.ne⟩ hs2)
theorem KY {R:Result→Shared→Prop} {vs:List Value} {kw:List (Str×Value)} (X:K.In s.heap) (hm:PySem.W.makesIn K C=true)
  (hi:PySem.W.findIn K (.ref C) "__init__" =some (some (.ref f))) (hf:PySem.W.typeIn K (.ref f)=some (.type "function"))
  (h:codeAny (model prog w) (A.under (.builtin "type.__call__" ⟨.ref C::vs,kw⟩)) (.call (.ref f) ⟨.ref (s.heap.objs.size+1)::vs,kw⟩) (PySem.W.InitBack (s.heap.objs.size+1) R)
   {s with heap:=(s.heap.push PySem.W.emptyDict).push (PySem.W.instObj C s.heap.objs.size)}):
  codeAny (model prog w) A (.call (.ref C) ⟨vs,kw⟩) R s:=by
 obtain ⟨hh,g,d,t,os⟩:=s
 exact PySem.W.make_core (PySem.W.makes_of X hm) (PySem.W.looks_findIn X hi) (fun self=>PySem.W.bind_fn X self hf) (.inl rfl) h
end
def br (f:Str) (v:V):List (Str×V)→List (Str×V)
 | []=> [(f,v)]
 |(g,x)::r=>if g=f then (g,v)::r else (g,x)::br f v r
theorem vB (f g:Str) (v:V): ∀fs:List (Str×V),(br f v fs).lookup g=if g=f then some v else fs.lookup g
 | []=>by
  show List.lookup g [(f,v)]=_
  by_cases h:g=f
  ·have hb:(g==f)=true:=beq_iff_eq.mpr h
   simp only [List.lookup,hb,if_pos h]
  ·have hb:(g==f)=false:=beq_eq_false_iff_ne.mpr h
   simp only [List.lookup,hb,if_neg h]
 |(k,x)::r=>by
  have ih:=vB f g v r
  rw[show br f v ((k,x)::r)=(if k=f then (k,v)::r else (k,x)::br f v r) from rfl]
  by_cases hk:k=f
  ·rw[if_pos hk]
   by_cases h:g=k
   ·have hb:(g==k)=true:=beq_iff_eq.mpr h
    simp only [List.lookup,hb,if_pos (h.trans hk)]
   ·have hb:(g==k)=false:=beq_eq_false_iff_ne.mpr h
    simp only [List.lookup,hb,if_neg (fun e:g=f=>h (e.trans hk.symm))]
  ·rw[if_neg hk]
   by_cases h:g=k
   ·have hb:(g==k)=true:=beq_iff_eq.mpr h
    simp only [List.lookup,hb,if_neg (fun e:g=f=>hk (h.symm.trans e))]
   ·have hb:(g==k)=false:=beq_eq_false_iff_ne.mpr h
    simp only [List.lookup,hb]
    exact ih
theorem tX (f:Str) (v:V): ∀fs:List (Str×V),f∈(br f v fs).map (·.1)∧ ∀g,g∈fs.map (·.1)→g∈(br f v fs).map (·.1)
 | []=>⟨by simp [br],fun g h=>by simp at h⟩
 |(k,x)::r=>by
  obtain ⟨i1,i2⟩:=tX f v r
  rw[show br f v ((k,x)::r)=(if k=f then (k,v)::r else (k,x)::br f v r) from rfl]
  by_cases hk:k=f
  ·rw[if_pos hk]
   subst hk
   exact ⟨by simp,fun g h=>by simpa using h⟩
  ·rw[if_neg hk]
   refine ⟨?_,fun g h=>?_⟩
   ·rw[List.map_cons]
    exact List.mem_cons_of_mem _ i1
   ·rw[List.map_cons] at h⊢
    rcases List.mem_cons.mp h with e|e
    ·exact List.mem_cons.mpr (.inl e)
    ·exact List.mem_cons_of_mem _ (i2 g e)
theorem xH (f:Str) (v:V): ∀fs:List (Str×V),(br f v fs).length≤fs.length+1
 | []=>by simp [br]
 |(k,x)::r=>by
  have ih:=xH f v r
  rw[show br f v ((k,x)::r)=(if k=f then (k,v)::r else (k,x)::br f v r) from rfl]
  by_cases hk:k=f
  ·rw[if_pos hk,List.length_cons,List.length_cons];omega
  ·rw[if_neg hk,List.length_cons,List.length_cons];omega
theorem fu.some_of {v:V} {o:Option Value} (r:fu (some v) o): ∃u,o=some u∧RelV v u:=by
 cases o with
 |none=>exact (show False from r).elim
 |some u=>exact ⟨u,rfl,r⟩
theorem fu.none_of {o:Option Value} (r:fu none o):o=none:=by
 cases o with
 |none=>rfl
 |some u=>exact (show False from r).elim
theorem F7 {v:V} {u:Value} (r:RelV v u):PySem.W.handedIn u=true:=by
 cases v with
 |aq=>cases (show u=Value.none from r);rfl
 |bl b=>cases (show u=Value.bool b from r);rfl
 |int i=>obtain ⟨t,e⟩:=(show∃t,u=Value.int i t from r);cases e;rfl
 |str x=>obtain ⟨t,e⟩:=(show∃t,u=Value.str x t from r);cases e;rfl
 |cN b=>obtain ⟨t,e⟩:=(show∃t,u=Value.bytes b t from r);cases e;rfl
 |lg b=>obtain ⟨t,e⟩:=(show∃t,u=Value.float b t from r);cases e;rfl
 |ref a=>cases (show u=Value.ref a from r);rfl
 |ty n=>cases (show u=Value.type n from r);rfl
section
variable {P:Program} {w:World} {H H':Hp} {h h':Heap} {a C dx:Addr} {fs fs':List (Str×V)}
theorem tO (aj:bE P w H h) (e:H a=some (.ins C dx fs)): ∃mA,gQ h a dx C mA∧(∀f,fu (fs.lookup f) (mA f))∧PySem.Within mA (fs.map (·.1))∧fs.length≤1000∧H dx=some (.own a):=by
 obtain ⟨d,z,ne,ob,mA,n,r,q⟩:=(show cj P w H h a (.ins C dx fs) from aj a _ e)
 exact ⟨mA,⟨ob,n,ne⟩,r,q,z,d⟩
end
structure cf (K:PySem.W.Frag) (C:Addr):Prop where
 pg:PySem.W.plainGet K C Str.empty=true
 hd:PySem.W.hasDictIn K C=true
 po:PySem.W.plainOver K C=true
 sa:PySem.W.findIn K (.ref C) "__setattr__" =some (some (.builtin "object.__setattr__"))
theorem cf.get {K:PySem.W.Frag} {C:Addr} (c:cf K C) (f:Str):PySem.W.plainGet K C f=true:=c.pg
def aZ (K:PySem.W.Frag) (C:Addr) (f:Str):Prop:=PySem.W.findIn K (.ref C) f=some none
theorem aZ.BR {K:PySem.W.Frag} {C:Addr} {f:Str} (n:aZ K C f):PySem.W.takerIn K C f=some none:=by
 unfold PySem.W.takerIn
 rw[show PySem.W.findIn K (.ref C) f=some none from n]
 rfl
structure Meth (K:PySem.W.Frag) (C:Addr) (m:Str) (f:Addr):Prop where
 at_:PySem.W.findIn K (.ref C) m=some (some (.ref f))
 fn:PySem.W.isFn K (.ref f)=true
 kp:PySem.W.keepIn K (.ref f)=true
section
variable {X:Cx} {pins:List (Addr×Obj)} {σ:St} {H:Hp} {s:Shared} {a C dx:Addr} {fs:List (Str×V)} {f:Str} {v:V} {A:Around} {E:Value→Shared→Prop}
theorem IS {b:Bool} {Q:Value→Shared→Prop} (I:Inv X pins σ H s) (e:H a=some (.ins C dx fs)) (c:cf X.K C) (n:aZ X.K C f) (l:fs.lookup f=some v)
  (h: ∀u s',Inv X pins σ H s'→RelV v u→Q u s'):wpAny (model X.prog X.w) A (getAttr (.ref a) f b) Q E s:=by
 obtain ⟨mA,O,r,_,_,_⟩:=tO I.aj e
 obtain ⟨u,hu,ru⟩:=fu.some_of (v:=v) (o:=mA f) (by rw[←l];exact r f)
 exact get_map I.bT O (c.get f) c.hd n hu (F7 ru) (h u _ (I.tok _) ru)
theorem zc {m:Str} {g:Addr} {pl:Sem Bool} {Q:Value×List Value→Shared→Prop} (I:Inv X pins σ H s) (e:H a=some (.ins C dx fs)) (c:cf X.K C) (k:Meth X.K C m g) (l:fs.lookup m=none)
  (h:Q (.ref g, [.ref a]) s):wpAny (model X.prog X.w) A (getMethod (.ref a) m pl) Q E s:=by
 obtain ⟨mA,O,r,_,_,_⟩:=tO I.aj e
 have hn:mA m=none:=fu.none_of (by rw[←l];exact r m)
 exact CK I.bT O (c.get m) k.at_ k.fn hn h
theorem Cs {y:V} {u:Value} {Q:Unit→Shared→Prop} (I:Inv X pins σ H s) (e:H a=some (.ins C dx fs)) (c:cf X.K C) (n:aZ X.K C f) (hl:fs.length<1000) (ry:RelV y u)
  (h: ∀s',Inv X pins σ (upd H a (.ins C dx (br f y fs))) s'→Q () s'):wpAny (model X.prog X.w) A (setAttr (.ref a) f u) Q E s:=by
 obtain ⟨mA,O,r,wi,_,ho⟩:=tO I.aj e
 have hz:(fs.map (·.1)).length≤sizeLine:=by rw[List.length_map,sizeLine_eq];omega
 refine Gz I.bT O c.sa c.po n.BR c.hd wi hz fun h' O' sb=>h _ ?_
 have hd: ∃o,h'.get? dx=some o:=let ⟨o,_,_,e',_⟩:=O'.ns;⟨o,e'⟩
 refine I.write (x:=a) (e:=dx) (by rw[e];exact True.intro) (.inr ho) (fun b q hb z=>(sb.2 b hb).trans z) hd ?_
 refine ⟨by rw[aB O.ne];exact ho,?_,O.ne,O'.obj,_,O'.ns,fun g=>?_,fun g hg=>?_⟩
 ·have:=xH f y fs;omega
 ·show fu ((br f y fs).lookup g) (if g=f then some u else mA g)
  rw[vB]
  by_cases q:g=f
  ·rw[if_pos q,if_pos q];exact ry
  ·rw[if_neg q,if_neg q];exact r g
 ·by_cases q:g=f
  ·rw[q];exact (tX f y fs).1
  ·refine (tX f y fs).2 g (wi g fun z=>hg ?_)
   show (if g=f then some u else mA g)=none
   rw[if_neg q];exact z
theorem Inv.made (I:Inv X pins σ H s):Inv X pins σ (upd (upd H s.heap.objs.size (.own (s.heap.objs.size+1))) (s.heap.objs.size+1) (.ins C s.heap.objs.size []))
  {s with heap:=(s.heap.push PySem.W.emptyDict).push (PySem.W.instObj C s.heap.objs.size)}:=by
 have e1:(s.heap.push PySem.W.emptyDict).get? s.heap.objs.size=some PySem.W.emptyDict:=Heap.get?_push_size s.heap rfl
 have e2:((s.heap.push PySem.W.emptyDict).push (PySem.W.instObj C s.heap.objs.size)).get? (s.heap.objs.size+1)=some (PySem.W.instObj C s.heap.objs.size):=by
  have:=Heap.get?_push_size (s.heap.push PySem.W.emptyDict) (o:=PySem.W.instObj C s.heap.objs.size) rfl
  rwa [Heap.size_push] at this
 have e3:(s.heap.push PySem.W.emptyDict).Ns s.heap.objs.size (fun _=>none):=⟨PySem.W.emptyDict, #[],_,e1,rfl,(fun e he=>absurd he (by simp)),fun _=>rfl⟩
 have I1:=I.laid (a:=s.heap.objs.size) (o:= .own (s.heap.objs.size+1)) (h':=s.heap.push PySem.W.emptyDict) (t':=s.toks) (fun b u q=>Heap.get?_push_of_some _ q) (Nat.le_refl _) ⟨_,e1⟩
 refine I1.laid (a:=s.heap.objs.size+1) (o:= .ins C s.heap.objs.size []) (t':=s.toks) (fun b u q=>Heap.get?_push_of_some _ q) (Nat.le_of_eq (Heap.size_push _ _)) ?_
 have ne:s.heap.objs.size≠s.heap.objs.size+1:=Nat.ne_of_lt (Nat.lt_succ_self _)
 refine ⟨by rw[aB ne,ao],Nat.zero_le _,ne,e2,fun _=>none,(Heap.Ns1.of_empty e3).at fun o q=>Heap.get?_push_of_some _ q,fun _=>True.intro,fun y hy=>absurd rfl hy⟩
theorem Ec {prog:Program} {w:World} {env:Env} {e:Expr} {f:Str} {pos:Pos} {s:Shared} {Q:Value→Shared→Prop} (hb:attributeBase e f env (eval e env)=eval e env)
  (h:wpAny (model prog w) A (eval e env) (fun o s₁=>wpAny (model prog w) A (getAttr o f true) Q E s₁) E s):wpAny (model prog w) A (eval (.Attribute e f pos) env) Q E s:=
 Attribute_any_ h (by rw[arm_eval_Attribute,hb])
end
def ja (K:PySem.W.Frag) (ta:TE) (f:Str):TE:=fun σ H Q=>ta σ H fun x H1=> ∃a C dx fs v,x= .ref a∧H1 a=some (.ins C dx fs)∧cf K C∧aZ K C f∧fs.lookup f=some v∧Q v H1
def tY (K:PySem.W.Frag) (ta tv:TE) (f:Str):TS:=fun D σ H=>tv σ H fun y H1=>ta σ H1 fun x H2=> ∃a C dx fs,x= .ref a∧H2 a=some (.ins C dx fs)∧cf K C∧aZ K C f∧fs.length<1000∧
 D.nx σ (upd H2 a (.ins C dx (br f y fs)))
section
variable {X:Cx} {o e value:Expr} {f:Str} {pos pos' tpos:Pos} {ta tv:TE}
theorem ay (he:PE X e ta) (hb:attributeBase e f X.env (eval e X.env)=eval e X.env):PE X (.Attribute e f pos) (ja X.K ta f):=by
 intro pins s σ H Q I h
 refine Ec hb (aA (he pins s σ H _ I h) fun u s1 ⟨x,H1,I1,rx,a,C,dx,fs,v,ex,ea,c,n,l,q⟩=>?_)
 subst ex
 obtain rfl:u=Value.ref a:=rx
 exact IS I1 ea c n l fun u' s2 I2 ru=>⟨v,H1,I2,ru,q⟩
theorem aX (ha:PE X o ta) (hv:PE X value tv) (hs:swapsWith value (some (.Attribute o f pos')) pos.line X.env=pure false):PS X (.Assign [.Attribute o f pos'] value pos) (tY X.K ta tv f):=by
 intro pins s σ H D I h
 refine plainObj_wpAny_Assign_Attribute (aA (hv pins s σ H _ I h) fun u s1 ⟨y,H1,I1,ry,q⟩=>aA (ha pins s1 σ H1 _ I1 q) fun ov s2 ⟨x,H2,I2,rx,a,C,dx,fs,ex,ea,c,n,l,q2⟩=>?_) hs
 subst ex
 obtain rfl:ov=Value.ref a:=rx
 exact Cs I2 ea c n l ry fun s3 I3=>⟨σ,_,I3,q2⟩
end
section
variable {X:Cx} {pins:List (Addr×Obj)} {σ:St} {H:Hp} {s:Shared} {A:Around} {E:Value→Shared→Prop} {Q:Value→Shared→Prop} {c:Value} {b:Bool}
end
end L2
namespace L2
open PySem PySem.Spec PyProof.Rows
structure aC (k:Nat) (A:Around):Prop where
 hd:A.handled=none
 dp:A.depth+3*k+5<recursionLimit
 un:A.units+16*k+200<cLine
theorem aC.mono {j k:Nat} {A:Around} (r:aC k A) (h:j≤k):aC j A:=⟨r.hd,by have:=r.dp;omega,by have:=r.un;omega⟩
theorem aC.deeper {k:Nat} {A:Around} (r:aC (k+1) A) (env:Env):aC k (A.deeper env):=
 ⟨r.hd,by have:=r.dp;show A.depth+1+3*k+5<_;omega,by have:=r.un;show A.units+3+16*k+200<_;omega⟩
theorem BQ {A:Around} {C:Addr} {us:List Value} {kw:List (Str×Value)}:(A.under (.builtin "type.__call__" ⟨.ref C::us,kw⟩)).depth=A.depth+1:=by
 first|rfl|simp [Around.under,Code.weight,Code.isCreation,Code.isGuard,Code.isCaller,Code.frames,Code.isFrame,guardIds]
theorem Ld {A:Around} {C:Addr} {us:List Value} {kw:List (Str×Value)}:(A.under (.builtin "type.__call__" ⟨.ref C::us,kw⟩)).units=A.units+1:=by
 first|rfl|simp [Around.under,Code.cUnits,Code.frames,Code.isFrame]
theorem aC.make {k:Nat} {A:Around} (r:aC (k+1) A) (C:Addr) (us:List Value) (kw:List (Str×Value)):aC k (A.under (.builtin "type.__call__" ⟨.ref C::us,kw⟩)):=
 ⟨r.hd,by have:=r.dp;rw[BQ];omega,by have:=r.un;rw[Ld];omega⟩
theorem aC.depth {k:Nat} {A:Around} (r:aC k A):A.depth<recursionLimit:=by have:=r.dp;omega
theorem aC.units {k:Nat} {A:Around} (r:aC k A):A.units+64<cLine:=by have:=r.un;omega
def nZ:TA:=fun _ H Q=>Q [] H
def tf (ta:TE) (tr:TA):TA:=fun σ H Q=>ta σ H fun x H1=>tr σ H1 fun xs H2=>Q (x::xs) H2
section
variable {X:Cx} {e:Expr} {es:List Expr} {te:TE} {t:TA} {pos:Pos}
theorem af:PA X [] nZ:=fun _ _ _ _ H Q I h=>Calls.spliced_nil ⟨[],H,I, .nil,h⟩
theorem aa (ha:PE X e te) (hr:PA X es t) (hs:starEach (e::es) X.env=(false,eval e X.env)::starEach es X.env:=by rfl):PA X (e::es) (tf te t):=by
 intro pos pins s σ H Q I h
 rw[hs]
 show wpAny _ _ (spliced ((false,eval e X.env)::backTo pos (starEach es X.env))) _ _ s
 refine Calls.spliced_cons (aA (ha pins s σ H _ I h) fun u s1 ⟨x,H1,I1,r1,q1⟩=>?_)
 exact aA (hr pos pins s1 σ H1 _ I1 q1) fun us s2 ⟨xs,H2,I2,r2,q2⟩=>⟨x::xs,H2,I2, .cons r1 r2,q2⟩
def zi (t:TA):TE:=fun σ H Q=>t σ H fun xs H1=>xs.length≤sizeLine∧ ∀p,H1 p=none→Q (.ref p) (upd H1 p (.tup xs))
def wB (t:TA):TE:=fun σ H Q=>t σ H fun xs H1=>xs.length≤sizeLine∧ ∀p,H1 p=none→Q (.ref p) (upd H1 p (.lst xs))
theorem pf {x1} (h:PA X es t):PE X (.Tuple es x1 pos) (zi t):=by
 intro pins s σ H Q I hq
 refine wpAny_Tuple_spliced (aA (h pos pins s σ H _ I hq) fun us s1 ⟨xs,H1,I1,r,z,q⟩=>⟨by rw[←r.length];exact z,?_⟩)
 have hf:H1 s1.heap.objs.size=none:=I1.aj.fresh (Nat.le_refl _)
 refine ⟨.ref s1.heap.objs.size,upd H1 s1.heap.objs.size (.tup xs),I1.laid (t':=s1.toks) (fun b u e=>Heap.get?_push_of_some _ e) (Nat.le_refl _) ?_,rfl,q _ hf⟩
 exact ⟨z,us,r,⟨_,Heap.get?_push_size _ rfl,rfl,_,rfl⟩⟩
theorem cJ (h:PA X es t):PE X (.List es pos) (wB t):=by
 intro pins s σ H Q I hq
 refine wpAny_List_spliced (aA (h pos pins s σ H _ I hq) fun us s1 ⟨xs,H1,I1,r,z,q⟩=>⟨by rw[←r.length];exact z,?_⟩)
 have hf:H1 s1.heap.objs.size=none:=I1.aj.fresh (Nat.le_refl _)
 refine ⟨.ref s1.heap.objs.size,upd H1 s1.heap.objs.size (.lst xs),I1.laid (t':=s1.toks) (fun b u e=>Heap.get?_push_of_some _ e) (Nat.le_refl _) ?_,rfl,q _ hf⟩
 exact ⟨z,us,0,r,Heap.get?_push_size _ rfl⟩
end
abbrev Sp:=List V→Hp→VK→XK→Prop
abbrev di:=List Env→Hp→Shared→XK→Value→Shared→Prop
structure ik (P:Program) (w:World) (K:PySem.W.Frag) (mg:Str→Option Value) (base:Heap) (A:Around) (outer:List Env) (s:Shared) (H:Hp):Prop where
 frames:A.frames=some outer
 mod:Mod K mg base
 bs: ∀b o,base.get? b=some o→s.heap.get? b=some o∧H b=none
 dW:base.objs.size≤s.heap.objs.size
 cQ:s.heap.FunFrames base outer
 fj: ∀b∈aT outer,H b=none
 aj:bE P w H s.heap
 bare:AllBare s.gens
def CE (outer:List Env) (P:Program) (w:World) (H:Hp) (s:Shared) (Q:VK) (u:Value) (s':Shared):Prop:=
 ∃v H',s'.os=s.os∧AllBare s'.gens∧Un (aT outer) [] H H' s.heap s'.heap∧bE P w H' s'.heap∧RelV v u∧Q v H'
def CR (CX:di) (outer:List Env) (P:Program) (w:World) (H:Hp) (s:Shared) (Q:VK) (E:XK) (r:Result) (s':Shared):Prop:=
 match r with
 | .ok (.ret u)=>CE outer P w H s Q u s'
 | .ok _=>False
 | .error e=>CX outer H s E e s'
structure az (P:Program) (w:World) (K:PySem.W.Frag) (mg:Str→Option Value) (base:Heap) (CX:di) (k:Nat) (f:Addr) (fd:FuncData) (ps:List Str) (sp:Sp):Prop where
 len: ∀vs H Q E,sp vs H Q E→vs.length=ps.length
 run: ∀(A:Around) (outer:List Env) (s:Shared) (H:Hp) (args:Args) (us:List Value) (vs:List V) (Q:VK) (E:XK),aC k A→ik P w K mg base A outer s H→BindsTo s fd args (ps.zip us)→Vals vs us→sp vs H Q E→
  codeAny (model P w) A (.call (.ref f) args) (CR CX outer P w H s Q E) s
theorem az.mono {P:Program} {w:World} {K:PySem.W.Frag} {mg:Str→Option Value} {base:Heap} {CX:di} {j k:Nat} {f:Addr} {fd:FuncData} {ps:List Str} {sp:Sp} (F:az P w K mg base CX j f fd ps sp) (h:j≤k):
  az P w K mg base CX k f fd ps sp:=⟨F.len,fun A outer s H args us vs Q E hr=>F.run A outer s H args us vs Q E (hr.mono h)⟩
theorem az.imp {P:Program} {w:World} {K:PySem.W.Frag} {mg:Str→Option Value} {base:Heap} {CX:di} {k:Nat} {f:Addr} {fd:FuncData} {ps:List Str} {sp sp':Sp} (F:az P w K mg base CX k f fd ps sp)
  (h: ∀vs H Q E,sp' vs H Q E→sp vs H Q E):az P w K mg base CX k f fd ps sp':=
 ⟨fun vs H Q E q=>F.len vs H Q E (h _ _ _ _ q),fun A outer s H args us vs Q E hr he hb hv hs=>F.run A outer s H args us vs Q E hr he hb hv (h _ _ _ _ hs)⟩
theorem ik.make {P:Program} {w:World} {K:PySem.W.Frag} {mg:Str→Option Value} {base:Heap} {A:Around} {outer:List Env} {s:Shared} {H:Hp} (e:ik P w K mg base A outer s H) (C:Addr) (us:List Value) (kw:List (Str×Value)):
  ik P w K mg base (A.under (.builtin "type.__call__" ⟨.ref C::us,kw⟩)) outer s H:=⟨by first|exact e.frames|(simpa [Around.under,Code.envs,Code.isFrame,pushEnvs] using e.frames),e.mod,e.bs,e.dW,e.cQ,e.fj,e.aj,e.bare⟩
section
variable {X:Cx} {pins:List (Addr×Obj)} {σ:St} {H:Hp} {s s':Shared}
theorem Inv.rZ (I:Inv X pins σ H s):ik X.prog X.w X.K X.mg X.base X.A X.stack s H:=
 ⟨I.ok.frames,I.ok.mod,I.bs,Nat.le_trans I.ok.dW I.sz,I.stack,I.pO,I.aj,I.bare⟩
theorem Inv.after {Q:VK} {u:Value} (I:Inv X pins σ H s) (h:CE X.stack X.prog X.w H s Q u s'):EP X pins σ Q u s':=by
 obtain ⟨v,H',os,bare,un,aj,r,q⟩:=h
 obtain ⟨hh,g,d,t,os'⟩:=s'
 obtain rfl:os'=s.os:=os
 exact ⟨v,H',I.call (h':=hh) (g':=g) (d':=d) (t':=t) (ch:= []) un aj bare (fun b z=>absurd z (by simp)),r,q⟩
end
def AK (sp:Sp) (dvs:List V) (E:XK) (t:TA):TE:=fun σ H Q=>t σ H fun vs H1=>sp (vs++dvs) H1 Q E
def rY (C:Addr) (m:Str) (sp:Sp) (dvs:List V) (E:XK) (ta:TE) (t:TA):TE:=fun σ H Q=>ta σ H fun x H1=> ∃a dx fs,x= .ref a∧H1 a=some (.ins C dx fs)∧fs.lookup m=none∧
 t σ H1 fun vs H2=>sp (x::(vs++dvs)) H2 Q E
def CH (C:Addr) (sp:Sp) (dvs:List V) (E:XK) (t:TA):TE:=fun σ H Q=>t σ H fun vs H1=> ∀x dx,H1 x=none→H1 dx=none→dx≠x→
 sp (.ref x::(vs++dvs)) (upd (upd H1 dx (.own x)) x (.ins C dx [])) (fun v H2=>v= .aq∧Q (.ref x) H2) E
def Binds (K:PySem.W.Frag) (fd:FuncData) (ps:List Str) (ds:List Value):Prop:=
 ∀(s:Shared) (us:List Value),K.In s.heap→(us++ds).length=ps.length→BindsTo s fd ⟨us, []⟩ (ps.zip (us++ds))
theorem Binds.all {K:PySem.W.Frag} {fd:FuncData} {ps:List Str} (h: ∀us:List Value,us.length=ps.length→bindArgs fd ⟨us, []⟩=pure (ps.zip us)):Binds K fd ps []:=fun s us _ hl=>by
 rw[List.append_nil] at hl⊢
 exact .of_eq (h us hl)
def Passes (CX:di) (X:Cx) (E:XK):Prop:= ∀(pins:List (Addr×Obj)) (σ:St) (H:Hp) (s:Shared) (e:Value) (s':Shared),Inv X pins σ H s→CX X.stack H s E e s'→X.xe e s'
section
variable {X:Cx} {CX:di} {k:Nat} {f C:Addr} {fd:FuncData} {ps:List Str} {sp:Sp} {dvs:List V} {ds:List Value} {E:XK} {x m:Str} {p pos apos:Pos} {e o:Expr} {es:List Expr} {ta:TE} {t:TA}
theorem qZ {pins:List (Addr×Obj)} {σ:St} {H:Hp} {s:Shared} {Q:VK} {us:List Value} {vs:List V} (F:az X.prog X.w X.K X.mg X.base CX k f fd ps sp) (hr:aC k X.A) (hb:Binds X.K fd ps ds) (hd:Vals dvs ds) (hx:Passes CX X E)
  (I:Inv X pins σ H s) (r:Vals vs us) (h:sp (vs++dvs) H Q E):wpAny (model X.prog X.w) X.A (call (.ref f) us) (EP X pins σ Q) X.xe s:=by
 have r2:Vals (vs++dvs) (us++ds):=r.append hd
 have hl:(us++ds).length=ps.length:=by rw[←r2.length];exact F.len _ _ _ _ h
 refine wpAny_call (codeAny_mono (F.run X.A X.stack s H ⟨us, []⟩ (us++ds) (vs++dvs) Q E hr I.rZ (hb s us I.bT hl) r2 h) fun r s' hq=>?_)
 cases r with
 |error e=>exact hx pins σ H s e s' I hq
 |ok fl=>
  cases fl with
  |ret u=>exact I.after hq
  |next=>exact False.elim hq
  |brk=>exact False.elim hq
  |cont=>exact False.elim hq
theorem bc (F:az X.prog X.w X.K X.mg X.base CX k f fd ps sp) (hr:aC k X.A) (hg:Gl X x) (hm:X.mg x=some (.ref f)) (hk:PySem.W.keepIn X.K (.ref f)=true) (hb:Binds X.K fd ps ds) (hd:Vals dvs ds) (hx:Passes CX X E)
  (ha:PA X (e::es) t) (hdb:(x==("__debug__" :Str))=false:=by decide) (he:starEach (e::es) X.env=(false,eval e X.env)::starEach es X.env:=by rfl) (hpl:(backTo pos (starEach es X.env)).any (·.1)=false:=by rfl):
  PE X (.Call (.Name x p) (e::es) [] pos) (AK sp dvs E t):=by
 intro pins s σ H Q I h
 refine wpAny_Call_Name_kw (iA I hg hm ?_ hdb)
 refine PySem.W.callWith_K (h₀:=X.base) I.ok.mod.g0 hk (aA (ha pos pins s σ H _ I h) fun us s1 ⟨vs,H1,I1,r,q⟩=>⟨I1.bT,?_⟩) he hpl
 exact qZ F hr hb hd hx I1 r q
theorem aL {pl:Sem Bool} (he:PE X o ta) (c:cf X.K C) (hm:Meth X.K C m f) (F:az X.prog X.w X.K X.mg X.base CX k f fd ps sp) (hr:aC k X.A) (hb:Binds X.K fd ps ds) (hd:Vals dvs ds) (hx:Passes CX X E) (ha:PA X (e::es) t)
  (hst:starEach (e::es) X.env=(false,eval e X.env)::starEach es X.env:=by rfl) (hpl:(backTo pos (starEach es X.env)).any (·.1)=false:=by rfl)
  (ht:eval (.Call (.Attribute o m apos) (e::es) [] pos) X.env=(do
   let ov←eval o X.env
   standAt apos.atName
   let (f,first)←holding [ov] (getMethod ov m pl)
   callWith pos f first (backTo pos (starEach (e::es) X.env)) (backToKw pos (keywordEach [] X.env))):=by rfl):
  PE X (.Call (.Attribute o m apos) (e::es) [] pos) (rY C m sp dvs E ta t):=by
 intro pins s σ H Q I h
 refine PySem.W.methodCall_KW (pl:=pl) (aA (he pins s σ H _ I h) fun u s1 ⟨x,H1,I1,rx,a,dx,fs,ex,ea,l,q⟩=>?_) ht
 subst ex
 obtain rfl:u=Value.ref a:=rx
 refine zc I1 ea c hm l ?_
 refine PySem.W.callWith_K (first:= [.ref a]) (h₀:=X.base) I.ok.mod.g0 hm.kp (aA (ha pos pins s1 σ H1 _ I1 q) fun us s2 ⟨vs,H2,I2,r,q2⟩=>⟨I2.bT,?_⟩) hst hpl
 exact qZ (us:= .ref a::us) (vs:= .ref a::vs) F hr hb hd hx I2 (.cons rfl r) q2
theorem K6 {pl:Sem Bool} (he:PE X o ta) (c:cf X.K C) (hm:Meth X.K C m f) (F:az X.prog X.w X.K X.mg X.base CX k f fd ps sp) (hr:aC k X.A) (hb:Binds X.K fd ps ds) (hd:Vals dvs ds) (hx:Passes CX X E)
  (ht:eval (.Call (.Attribute o m apos) [] [] pos) X.env=(do
   let ov←eval o X.env
   standAt apos.atName
   let (f,first)←holding [ov] (getMethod ov m pl)
   callWith pos f first (backTo pos (starEach [] X.env)) (backToKw pos (keywordEach [] X.env))):=by rfl):
  PE X (.Call (.Attribute o m apos) [] [] pos) (rY C m sp dvs E ta nZ):=by
 intro pins s σ H Q I h
 refine PySem.W.methodCall_KW (pl:=pl) (aA (he pins s σ H _ I h) fun u s1 ⟨x,H1,I1,rx,a,dx,fs,ex,ea,l,q⟩=>?_) ht
 subst ex
 obtain rfl:u=Value.ref a:=rx
 refine zc I1 ea c hm l ?_
 exact PySem.W.callWith_K0 (first:= [.ref a]) I1.bT hm.kp (qZ (us:= [.ref a]) (vs:= [.ref a]) F hr hb hd hx I1 (.cons rfl .nil) q)
structure Mk (K:PySem.W.Frag) (C f:Addr):Prop where
 makes:PySem.W.makesIn K C=true
 init:PySem.W.findIn K (.ref C) "__init__" =some (some (.ref f))
 fn:PySem.W.isFn K (.ref f)=true
 kp:PySem.W.keepIn K (.ref C)=true
theorem DP {pins:List (Addr×Obj)} {σ:St} {H:Hp} {s:Shared} {Q:VK} {us:List Value} {vs:List V} (M:Mk X.K C f) (F:az X.prog X.w X.K X.mg X.base CX k f fd ps sp) (hr:aC (k+1) X.A) (hb:Binds X.K fd ps ds) (hd:Vals dvs ds)
  (hx:Passes CX X E) (I:Inv X pins σ H s) (r:Vals vs us)
  (h: ∀x dx,H x=none→H dx=none→dx≠x→sp (.ref x::(vs++dvs)) (upd (upd H dx (.own x)) x (.ins C dx [])) (fun v H2=>v= .aq∧Q (.ref x) H2) E):
  wpAny (model X.prog X.w) X.A (call (.ref C) us) (EP X pins σ Q) X.xe s:=by
 have hq:=h (s.heap.objs.size+1) s.heap.objs.size (I.aj.fresh (Nat.le_succ _)) (I.aj.fresh (Nat.le_refl _)) (Nat.ne_of_lt (Nat.lt_succ_self _))
 have I2:=Inv.made (C:=C) I
 have r2:Vals (V.ref (s.heap.objs.size+1)::(vs++dvs)) (Value.ref (s.heap.objs.size+1)::(us++ds)):= .cons rfl (r.append hd)
 have hl:(Value.ref (s.heap.objs.size+1)::us++ds).length=ps.length:=by
  have e:=r2.length
  rw[F.len _ _ _ _ hq] at e
  exact e.symm
 refine wpAny_call (KY (f:=f) I.bT M.makes M.init (beq_iff_eq.mp M.fn) (codeAny_mono (F.run _ X.stack _ _ ⟨Value.ref (s.heap.objs.size+1)::us, []⟩ (Value.ref (s.heap.objs.size+1)::(us++ds)) _ _ E (hr.make C us [])
  (I2.rZ.make C us []) (hb _ (Value.ref (s.heap.objs.size+1)::us) I2.bT hl) r2 hq) fun r s' hq'=>?_))
 cases r with
 |error e=>exact hx pins σ _ _ e s' I2 hq'
 |ok fl=>
  cases fl with
  |ret u=>
   obtain ⟨v,H',I3,rv,ev,q3⟩:=I2.after hq'
   subst ev
   exact ⟨rv,⟨V.ref (s.heap.objs.size+1),H',I3,rfl,q3⟩⟩
  |next=>exact False.elim hq'
  |brk=>exact False.elim hq'
  |cont=>exact False.elim hq'
theorem eS (M:Mk X.K C f) (F:az X.prog X.w X.K X.mg X.base CX k f fd ps sp) (hr:aC (k+1) X.A) (hg:Gl X x) (hm:X.mg x=some (.ref C)) (hb:Binds X.K fd ps ds) (hd:Vals dvs ds) (hx:Passes CX X E)
  (ha:PA X (e::es) t) (hdb:(x==("__debug__" :Str))=false:=by decide) (he:starEach (e::es) X.env=(false,eval e X.env)::starEach es X.env:=by rfl) (hpl:(backTo pos (starEach es X.env)).any (·.1)=false:=by rfl):
  PE X (.Call (.Name x p) (e::es) [] pos) (CH C sp dvs E t):=by
 intro pins s σ H Q I h
 refine wpAny_Call_Name_kw (iA I hg hm ?_ hdb)
 refine PySem.W.callWith_K (h₀:=X.base) I.ok.mod.g0 M.kp (aA (ha pos pins s σ H _ I h) fun us s1 ⟨vs,H1,I1,r,q⟩=>⟨I1.bT,?_⟩) he hpl
 exact DP M F hr hb hd hx I1 r q
end
section
variable {X:Cx} {CX:di} {k:Nat} {f C:Addr} {fd:FuncData} {ps ks:List Str} {sp:Sp} {E:XK} {x m:Str} {p pos apos kpos:Pos} {e o:Expr} {es:List Expr} {kws:List Keyword} {te ta:TE} {t tk:TA} {nm:Option Str}
variable {g:List Value→List Value→List Value} {gV:List V→List V→List V}
end
structure aI (N P:List Str) (sc:Scope):Prop where
 kind:sc.kind= .function
 co:sc.isCoroutine=false
 gen:sc.isGenerator=false
 nd:N.Nodup
 pre:N.take P.length=P
 par: ∀x∈P,sc.names.lookup x=some .local∨sc.names.lookup x=some .cell
 GB: ∀y∈sc.names,y.2≠ .free
theorem yV {kindOf:Str→Option NameKind} {x:Str}: ∀{binds:List (Str×Value)} {m:Str→Option Value},(∀v,(x,v)∉binds)→bindL kindOf binds m x=m x
 | [],_,_=>rfl
 |(n,v)::r,m,h=>by
  unfold bindL
  rw[yV fun w hw=>h w (List.mem_cons_of_mem _ hw)]
  split
  ·have:x≠n:=by rintro rfl;exact h v List.mem_cons_self
   simp [this]
  ·rfl
theorem zk {kindOf:Str→Option NameKind} {x:Str}: ∀{binds:List (Str×Value)} {m:Str→Option Value},(∀v,(x,v)∉binds)→bindC kindOf binds m x=m x
 | [],_,_=>rfl
 |(n,v)::r,m,h=>by
  unfold bindC
  rw[zk fun w hw=>h w (List.mem_cons_of_mem _ hw)]
  split
  ·rfl
  ·have:x≠n:=by rintro rfl;exact h v List.mem_cons_self
   simp [this]
theorem zp {kindOf:Str→Option NameKind} {x:Str} {v:Value}: ∀{P:List Str} {vs:List Value} {i:Nat} {m:Str→Option Value},P.Nodup→P[i]?=some x→vs[i]?=some v→kindOf x=some .local→
  bindL kindOf (P.zip vs) m x=some v
 | [],_,_,_,_,h,_,_=>by simp at h
 |_::_, [],_,_,_,_,h,_=>by simp at h
 |p::P,w::vs,0,m,nd,h1,h2,hk=>by
  simp at h1 h2;subst h1;subst h2
  show bindL kindOf ((p,w)::P.zip vs) m p=_
  unfold bindL
  rw[yV fun v hv=>(List.nodup_cons.mp nd).1 (List.of_mem_zip hv).1,if_pos hk]
  simp
 |p::P,w::vs,i+1,m,nd,h1,h2,hk=>by
  show bindL kindOf ((p,w)::P.zip vs) m x=_
  unfold bindL
  exact zp (i:=i) (List.nodup_cons.mp nd).2 (by simpa using h1) (by simpa using h2) hk
theorem AQ {kindOf:Str→Option NameKind} {x:Str} {v:Value}: ∀{P:List Str} {vs:List Value} {i:Nat} {m:Str→Option Value},P.Nodup→P[i]?=some x→vs[i]?=some v→kindOf x≠some .local→
  bindC kindOf (P.zip vs) m x=some v
 | [],_,_,_,_,h,_,_=>by simp at h
 |_::_, [],_,_,_,_,h,_=>by simp at h
 |p::P,w::vs,0,m,nd,h1,h2,hk=>by
  simp at h1 h2;subst h1;subst h2
  show bindC kindOf ((p,w)::P.zip vs) m p=_
  unfold bindC
  rw[zk fun v hv=>(List.nodup_cons.mp nd).1 (List.of_mem_zip hv).1,if_neg hk]
  simp
 |p::P,w::vs,i+1,m,nd,h1,h2,hk=>by
  show bindC kindOf ((p,w)::P.zip vs) m x=_
  unfold bindC
  exact AQ (i:=i) (List.nodup_cons.mp nd).2 (by simpa using h1) (by simpa using h2) hk
def start (N:List Str) (vs:List V):St:=vs.map some++List.replicate (N.length-vs.length) none
def eA (CX:di) (P:Program) (w:World) (K:PySem.W.Frag) (mg:Str→Option Value) (base:Heap) (N:List Str) (qual:Str) (scope:Scope) (f:Addr) (cd:Value) (A:Around) (outer:List Env) (s:Shared) (H:Hp) (E:XK):Cx where
 prog:=P
 w:=w
 K:=K
 mg:=mg
 base:=base
 A:=A.deeper (envOfC qual scope s.heap.objs.size f cd)
 N:=N
 ba:=s
 jm:=H
 env:=envOfC qual scope s.heap.objs.size f cd
 outer:=outer
 stack:=envOfC qual scope s.heap.objs.size f cd::outer
 ex:= []
 calm:=true
 fn:=fun _=>true
 pn:= []
 xe:=fun e s'=>wpAny (model P w) (A.deeper (envOfC qual scope s.heap.objs.size f cd)) (leaving (envOfC qual scope s.heap.objs.size f cd) e) (fun _ s''=>CX outer H s E e s'') (fun e' s''=>CX outer H s E e' s'') s'
theorem zE {sc:Scope} {n:Nat} {x:Str} (h:sc.names.lookup x=some .cell): ∃c,(cellsFrom n sc.names []).lookup x=some c:=by
 have q:=PySem.W.cellsFrom_some sc.names n [] (.inl h)
 exact Option.isSome_iff_exists.mp q
theorem LM {CX:di} {P:Program} {w:World} {K:PySem.W.Frag} {mg:Str→Option Value} {base:Heap} {N ps:List Str} {qual:Str} {scope:Scope} {f:Addr} {cd:Value} {A:Around} {outer:List Env} {s s1:Shared} {H:Hp} {E:XK} {us:List Value} {vs:List V}
  (S:aI N ps scope) (hd:A.handled=none) (e0:ik P w K mg base A outer s H) (hl:vs.length=ps.length) (r:Vals vs us)
  (x:InCallC s s.heap.objs.size (bindL (envOfC qual scope s.heap.objs.size f cd).kindOf (ps.zip us) fun _=>none) (cellsFrom (s.heap.objs.size+1) scope.names []) (bindC (envOfC qual scope s.heap.objs.size f cd).kindOf (ps.zip us) fun _=>none) s1):
  Inv (eA CX P w K mg base N qual scope f cd A outer s H E) [] (start N vs) H s1:=by
 have hpl:ps.length≤N.length:=by have:=congrArg List.length S.pre;rw[List.length_take] at this;omega
 obtain ⟨h1,tk,rfl,hk⟩:=x.done
 have noA: ∀b:Addr,b∉(eA CX P w K mg base N qual scope f cd A outer s H E).ex:=fun b z=>absurd (show b∈([]:List Addr) from z) (by simp)
 refine ⟨⟨e0.mod,S.kind,rfl,rfl,Nat.le_refl _,fun y z c h1 h2=>?_,fun y hy=>?_,fun y c _ h=>?_,fun _=>hd,Around.frames_deeper e0.frames, .inr ⟨rfl,rfl⟩,fun b z=>absurd z (noA b),e0.bs,e0.dW,fun b _ _=>noA b,fun b z=>absurd z (noA b),e0.cQ,e0.fj⟩,
  rfl,e0.bare,Un.kept hk,⟨_,x.toInCall.ns,fun i y v h1 h2 h3=>?_⟩,fun y c h=>⟨_,x.cell y c h⟩,e0.aj.fresh (Nat.le_refl _),fun y c h=>?_,fun p hp=>absurd (show p∈([]:List (Addr×Obj)) from hp) (by simp),e0.aj.kept hk,?_⟩
 ·exact name_of_addr x.apart (PySem.mem_of_lookup h1) (PySem.mem_of_lookup h2)
 ·have hy:scope.names.lookup y=some .cell∨scope.names.lookup y=some .free:=hy
  rcases hy with hy|hy
  ·exact zE hy
  ·exact absurd rfl (S.GB _ (PySem.mem_of_lookup hy))
 ·exact Nat.le_of_lt (x.above y c (PySem.mem_of_lookup h))
 ·have hi:i<vs.length:=by
   unfold start at h2
   by_cases hi:i<vs.length
   ·exact hi
   ·rw[List.getElem?_append_right (by simpa using hi)] at h2
    rw[List.getElem?_replicate] at h2
    split at h2<;>cases h2
  have ha:vs[i]?=some v:=by
   unfold start at h2
   rw[List.getElem?_append_left (by simpa using hi),List.getElem?_map] at h2
   cases e:vs[i]? with
   |none=>rw[e] at h2;cases h2
   |some a=>rw[e] at h2;cases h2;rfl
  obtain ⟨u,hu,rv⟩:=r.get ha
  have hp:ps[i]?=some y:=by
   rw[←S.pre,List.getElem?_take_of_lt (by omega)];exact h1
  have ndP:ps.Nodup:=by rw[←S.pre];exact S.nd.sublist (List.take_sublist _ _)
  refine ⟨u,rv,?_⟩
  rcases S.par y (List.mem_of_getElem? hp) with k|k
  ·exact .inl ⟨k,zp ndP hp hu k⟩
  ·obtain ⟨c,e⟩:=zE (n:=s.heap.objs.size+1) k
   refine .inr ⟨.inl k,c,e,?_⟩
   have q:=x.cell y c e
   rw[AQ ndP hp hu (by show scope.names.lookup y≠_;rw[k];decide)] at q
   exact q
 ·exact e0.aj.fresh (Nat.le_of_lt (x.above y c (PySem.mem_of_lookup h)))
 ·unfold start
  show _=N.length
  rw[List.length_append,List.length_map,List.length_replicate]
  omega
theorem zB {CX:di} {P:Program} {w:World} {K:PySem.W.Frag} {mg:Str→Option Value} {base:Heap} {k:Nat} {f:Addr} {name qual:Str} {params:Arguments} {body:List Stmt} {scope:Scope} {dV kV doc pm cdv ct oc:Value} {an od:Option Addr}
  {osl:Array (Option Value)} {N ps:List Str} {sp:Sp} (lk:K.lookup f=some ⟨oc,od, .func (PySem.W.fnOf name qual params body scope dV kV doc pm an cdv ct),osl⟩) (hcd:PySem.W.codeIn K cdv qual=true) (S:aI N ps scope)
  (len: ∀vs H Q E,sp vs H Q E→vs.length=ps.length)
  (hbody: ∀(A:Around) (outer:List Env) (s:Shared) (H:Hp) (vs:List V) (Q:VK) (E:XK),aC k (A.deeper (envOfC qual scope s.heap.objs.size f cdv))→sp vs H Q E→
   ∃t,cc (eA CX P w K mg base N qual scope f cdv A outer s H E) body t∧t {nx:=fun _ H'=>Q .aq H',rt:=Q} (start N vs) H):
  az P w K mg base CX (k+1) f (PySem.W.fnOf name qual params body scope dV kV doc pm an cdv ct) ps sp:=by
 refine ⟨len,fun A outer s H args us vs Q E hr e0 hb r hsp=>?_⟩
 have hl:=len _ _ _ _ hsp
 have KX:K.In s.heap:=e0.mod.g0.keeps fun b o e=>(e0.bs b o e).1
 have lim:s.heap.NoLimit:=e0.mod.nolimit.keeps fun b o e=>(e0.bs b o e).1
 have hkind: ∀y∈ps.zip us,scope.names.lookup y.1=some .local∨(scope.names.lookup y.1=some .cell∧((cellsFrom (s.heap.objs.size+1) scope.names []).lookup y.1).isSome=true):=fun ⟨n,v⟩ hy=>by
  rcases S.par n (List.of_mem_zip hy).1 with q|q
  ·exact .inl q
  ·exact .inr ⟨q,PySem.W.cellsFrom_some _ _ _ (.inl q)⟩
 refine codeAny_call_function hr.depth (KX _ _ lk) rfl S.co S.gen rfl (PySem.W.codeRec_of KX hcd) (hb _ _ _ _ ?_)
 refine wpAny_newFunctionEnv_cells S.kind hkind fun env he s1 x=>?_
 subst he
 refine ⟨lim.keeps x.toInCall.keep,codeAny_func ?_⟩
 obtain ⟨t,ht,hq⟩:=hbody A outer s H vs Q E (hr.deeper _) hsp
 have I:Inv (eA CX P w K mg base N qual scope f cdv A outer s H E) [] (start N vs) H s1:=LM S hr.hd e0 hl r x
 refine wpAny_mono (ht [] s1 (start N vs) H _ I hq) (fun fl s' hs=>?_) fun e s' hs=>hs
 have fin: ∀{σ':St} {H':Hp} {v:V} {u:Value},Inv (eA CX P w K mg base N qual scope f cdv A outer s H E) [] σ' H' s'→RelV v u→Q v H'→CE outer P w H s Q u s':=
  fun {σ' H' v u} J rv q=>⟨v,H',J.os,J.bare,J.base,J.aj,rv,q⟩
 cases fl with
 |ret u=>
  obtain ⟨v,σ',H',J,rv,q⟩:=hs
  exact fin J rv q
 |next=>
  obtain ⟨σ',H',J,q⟩:=hs
  exact fin (v:=V.aq) (u:=Value.none) J rfl q
 |brk=>
  obtain ⟨_,_,_,q⟩:=hs
  exact False.elim q
 |cont=>
  obtain ⟨_,_,_,q⟩:=hs
  exact False.elim q
end L2
namespace L2
open PySem PySem.Spec PyProof.Rows
section
variable {X:Cx} {x:Str} {p pos:Pos} {e:Expr} {es:List Expr} {t:TA} {id T:String} {r:List V→Hp→VK→Prop}
def rd (r:List V→Hp→VK→Prop) (t:TA):TE:=fun σ H Q=>t σ H fun vs H1=>r vs H1 Q
theorem dj (hc:gs X (.builtin id) r) (hg:Gl X x) (hm:X.mg x=none) (hv:bootBuiltins x=some (.builtin id)) (ha:PA X (e::es) t) (hn:x≠ "__name__" :=by decide) (hdb:(x==("__debug__" :Str))=false:=by decide)
  (he:starEach (e::es) X.env=(false,eval e X.env)::starEach es X.env:=by rfl) (hpl:(backTo pos (starEach es X.env)).any (·.1)=false:=by rfl):PE X (.Call (.Name x p) (e::es) [] pos) (rd r t):=by
 intro pins s σ H Q I h
 refine wpAny_Call_Name_kw (jx I hg hm hv ?_ hn hdb)
 exact PyProof.Rows.callWith_builtin1 (aA (ha pos pins s σ H _ I h) fun us s1 ⟨vs,H1,I1,r1,q1⟩=>hc pins s1 σ H1 vs us Q I1 r1 q1) he hpl
theorem wG (hc:gs X (.type T) r) (hg:Gl X x) (hm:X.mg x=none) (hv:bootBuiltins x=some (.type T)) (ha:PA X (e::es) t) (hn:x≠ "__name__" :=by decide) (hdb:(x==("__debug__" :Str))=false:=by decide)
  (he:starEach (e::es) X.env=(false,eval e X.env)::starEach es X.env:=by rfl) (hpl:(backTo pos (starEach es X.env)).any (·.1)=false:=by rfl):PE X (.Call (.Name x p) (e::es) [] pos) (rd r t):=by
 intro pins s σ H Q I h
 refine wpAny_Call_Name_kw (jx I hg hm hv ?_ hn hdb)
 exact PyProof.Rows.callWith_type1 (aA (ha pos pins s σ H _ I h) fun us s1 ⟨vs,H1,I1,r1,q1⟩=>hc pins s1 σ H1 vs us Q I1 r1 q1) he hpl
end
end L2
namespace HT
open PySem PyProof.Rows
section
open PySem.SeqAt
open PySem.AutoSeq1 (wpAny_loadPart')
open PySem.MeetsSeq PySem.MeetsSeq2 PySem.MeetsSeq3
end
section
variable {prog:Program} {w:World} {A:Around} {E:Value→Shared→Prop} {s:Shared}
def cy (n d:Nat):Option Int→Nat
 |none=>d
 |some v=>if v<0 then (v+(n:Int)).toNat else min v.toNat n
end
end HT
namespace L2
open PySem PySem.Spec PyProof.Rows
abbrev TO:=St→Hp→(Option Int→Hp→Prop)→Prop
def PO (X:Cx) (e:Option Expr) (t:TO):Prop:=
 ∀(pins:List (Addr×Obj)) (s:Shared) (σ:St) (H:Hp) (Q:Option Int→Hp→Prop),Inv X pins σ H s→t σ H Q→
  wpAny (model X.prog X.w) X.A (evalPart e X.env) (fun u s'=> ∃o H',Inv X pins σ H' s'∧IsPart u o∧Q o H') X.xe s
def zO:TO:=fun _ H Q=>Q none H
def vJ (t:TE):TO:=fun σ H Q=>t σ H fun x H1=> ∃i,x= .int i∧Q (some i) H1
section
variable {X:Cx} {e:Expr} {te:TE} {lo hi:Option Expr} {tl th:TO} {pos p2:Pos}
theorem rB:PO X none zO:=by
 intro pins s σ H Q I h
 rw[evalPart_none]
 exact wpAny_pure ⟨none,H,I, .none,h⟩
theorem cv (h:PE X e te):PO X (some e) (vJ te):=by
 intro pins s σ H Q I hw
 rw[evalPart_some]
 refine aA (h pins s σ H _ I hw) fun u s1 ⟨x,H1,I1,r1,q1⟩=>?_
 obtain ⟨i,rfl,q⟩:=q1
 obtain ⟨t,rfl⟩:=r1
 exact ⟨some i,H1,I1, .int i t,q⟩
def qW (X:Cx) (r:V→Option Int→Option Int→Hp→VK→Prop):Prop:=
 ∀(pins:List (Addr×Obj)) (s:Shared) (σ:St) (H:Hp) (x:V) (v vl vu:Value) (lo hi:Option Int) (sl:Addr) (Q:VK),Inv X pins σ H s→RelV x v→s.heap.IsSliceOf sl vl vu .none→IsPart vl lo→IsPart vu hi→r x lo hi H Q→
  ∃T id,typeLookup (.type T) "__getitem__" =pure (some (.builtin id))∧s.TypeIs v T∧wpAny (model X.prog X.w) X.A (getItem v (.ref sl)) (EP X pins σ Q) X.xe s
def vo (r:V→Option Int→Option Int→Hp→VK→Prop) (te:TE) (tl th:TO):TE:=fun σ H Q=>te σ H fun x H1=>tl σ H1 fun l H2=>th σ H2 fun u H3=>r x l u H3 Q
theorem eC {r:V→Option Int→Option Int→Hp→VK→Prop} (hr:qW X r) (he:PE X e te) (hl:PO X lo tl) (hu:PO X hi th):PE X (.Subscript e (.Slice lo hi none p2) pos) (vo r te tl th):=by
 intro pins s σ H Q I h
 refine Subscript_ (aA (he pins s σ H _ I h) fun v s1 ⟨x,H1,I1,r1,q1⟩=>?_)
 refine wpAny_Slice (aA (hl pins s1 σ H1 _ I1 q1) fun vl s2 ⟨l,H2,I2,pl,q2⟩=>aA (hu pins s2 σ H2 _ I2 q2) fun vu s3 ⟨u,H3,I3,pu,q3⟩=>?_)
 rw[evalPart_none]
 refine wpAny_pure ?_
 have I4:Inv X pins σ H3 {s3 with heap:=s3.heap.push {cls:= .type "slice",data:= .fields #[vl,vu, .none]}}:=I3.kept (t':=s3.toks) fun b ob q=>Heap.get?_push_of_some _ q
 obtain ⟨T,id,hT,ht,hg⟩:=hr pins {s3 with heap:=s3.heap.push {cls:= .type "slice",data:= .fields #[vl,vu, .none]}} σ H3 x v vl vu l u s3.heap.objs.size Q I4 r1 (Heap.IsSliceOf.new ..) pl pu q3
 show wpAny (model X.prog X.w) X.A (subscriptTail e (.Slice lo hi none p2) v (.ref s3.heap.objs.size)) (EP X pins σ Q) X.xe {s3 with heap:=s3.heap.push {cls:= .type "slice",data:= .fields #[vl,vu, .none]}}
 exact tail_any (ops:= [.ref s3.heap.objs.size,v]) ht hT hg (by with_unfolding_all rfl)
def cx (xs:List V) (lo hi:Option Int):List V:=(xs.drop (HT.cy xs.length 0 lo)).take (HT.cy xs.length xs.length hi-HT.cy xs.length 0 lo)
theorem DF (xs:List V) (lo hi:Option Int):(cx xs lo hi).length≤xs.length:=by
 unfold cx
 rw[List.length_take,List.length_drop]
 omega
end
end L2
namespace L2
open PySem PySem.Spec PyProof.Rows
def gm (n:Nat) (i:Int):Option Nat:=if 0≤i then (if i<n then some i.toNat else none) else if-(n:Int)≤i then some (i+n).toNat else none
def eH {α:Type} (xs:List α) (i:Int):Option α:=(gm xs.length i).bind fun j=>xs[j]?
theorem EI {n:Nat} {i:Int} {j:Nat} (h:gm n i=some j):seqIndex? i n=some j∧j<n∧ -(n:Int)≤i∧i<n:=by
 unfold gm at h
 by_cases h0:0≤i
 ·rw[if_pos h0] at h
  by_cases h1:i<n
  ·rw[if_pos h1] at h
   have e:i.toNat=j:=Option.some.inj h
   exact ⟨by rw[seqIndex_of h0 h1,e],by omega,by omega,h1⟩
  ·rw[if_neg h1] at h;cases h
 ·rw[if_neg h0] at h
  by_cases h1: -(n:Int)≤i
  ·rw[if_pos h1] at h
   have e:(i+n).toNat=j:=Option.some.inj h
   exact ⟨by rw[seqIndex_neg (by omega) h1,e],by omega,h1,by omega⟩
  ·rw[if_neg h1] at h;cases h
theorem wJ {α:Type} {xs:List α} {i:Int} {v:α} (h:eH xs i=some v): ∃j,seqIndex? i xs.length=some j∧xs[j]?=some v∧j<xs.length∧ -(xs.length:Int)≤i∧i<xs.length:=by
 unfold eH at h
 cases e:gm xs.length i with
 |none=>rw[e] at h;cases h
 |some j=>
  rw[e] at h
  obtain ⟨h1,h2,h3,h4⟩:=EI e
  exact ⟨j,h1,h,h2,h3,h4⟩
theorem bQ {α:Type} {xs:List α} {j:Nat} {v:α} (h:xs[j]?=some v):eH xs (j:Int)=some v:=by
 have hj:j<xs.length:=(List.getElem?_eq_some_iff.mp h).1
 have e:gm xs.length (j:Int)=some j:=by
  unfold gm
  rw[if_pos (by omega),if_pos (by omega)];simp
 unfold eH;rw[e];exact h
theorem KL {α:Type} (xs:List α) (v:α):eH (xs++ [v]) (-1)=some v:=by
 have hl:(xs++ [v]).length=xs.length+1:=by simp
 have e:gm (xs++ [v]).length (-1)=some xs.length:=by
  unfold gm
  rw[hl,if_neg (by decide),if_pos (by omega)]
  congr 1
  omega
 unfold eH
 rw[e]
 show (xs++ [v])[xs.length]?=some v
 simp
def Ju (b:Expr):Prop:= ∀o i,subscripted b false o i=operate [o,i] (getItem o i)
def lP (X:Cx) (r:R2):Prop:=
 ∀(value slice:Expr) (pins:List (Addr×Obj)) (s:Shared) (σ:St) (H:Hp) (x y:V) (v u:Value) (Q:VK),Inv X pins σ H s→RelV x v→RelV y u→r x y H Q→
  subscripted slice false v u=operate [v,u] (getItem v u)→wpAny (model X.prog X.w) X.A (subscriptTail value slice v u) (EP X pins σ Q) X.xe s
def Gg (X:Cx) (id:String) (r:V→List V→Hp→VK→Prop):Prop:=
 ∀(pins:List (Addr×Obj)) (s:Shared) (σ:St) (H:Hp) (x:V) (xs:List V) (v:Value) (us:List Value) (Q:VK),Inv X pins σ H s→RelV x v→Vals xs us→r x xs H Q→
  wpAny (model X.prog X.w) X.A (call (.builtin id) (v::us)) (EP X pins σ Q) X.xe s
section
variable {X:Cx} {a b:Expr} {ta tb:TE} {pos:Pos}
theorem bZ {r:R2} (hr:lP X r) (ha:PE X a ta) (hb:PE X b tb) (hs:Ju b):PE X (.Subscript a b pos) (fg r ta tb):=by
 intro pins s σ H Q I h
 exact Subscript_ (qV ha hb I h fun v u s2 x y H2 I2 rx ry q=>hr a b pins s2 σ H2 x y v u Q I2 rx ry q (hs _ _))
def tK (K:PySem.W.Frag):R2:=fun x y H Q=> ∃p xs i v,x= .ref p∧y= .int i∧ai K H p xs∧eH xs i=some v∧Q v H
def pQ (K:PySem.W.Frag):R2:=fun x y H Q=> ∃p xs i v,x= .ref p∧y= .int i∧aS K H p xs∧eH xs i=some v∧Q v H
theorem cU:lP X (tK X.K):=by
 intro value slice pins s σ H x y v u Q I rx ry h hs
 obtain ⟨p,xs,i,z,rfl,rfl,hq,he,q⟩:=h
 cases rx
 obtain ⟨t,rfl⟩:=ry
 obtain ⟨its,r,pl,hz⟩:=I.list hq
 obtain ⟨j,h1,h2,h3,h4,h5⟩:=wJ he
 obtain ⟨w,ew,rw'⟩:=r.get h2
 have hl:=r.length
 have hn:=sQ
 have fin:EP X pins σ Q w s:=⟨z,H,I,rw',q⟩
 by_cases h0:0≤i
 ·have hj:i.toNat=j:=by
   rw[seqIndex_of h0 h5] at h1
   exact Option.some.inj h1
  exact item_listR pl.isList h0 (by omega) (by rw[hj];simpa using ew) fin hs
 ·have hj:(i+(its.toArray.size:Int)).toNat=j:=by
   rw[seqIndex_neg (by omega) h4] at h1
   rw[List.size_toArray,←hl]
   exact Option.some.inj h1
  exact subscriptTail_builtinR (x:=w) pl.isList.typeIs slot_list_getitem.lookup
   (wpAny_getItem_list_neg (Q:=fun r s'=>r=w∧EP X pins σ Q r s') pl.isList (by omega) (by rw[List.size_toArray]<;>omega) (by omega) (by rw[hj];simpa using ew) ⟨rfl,fin⟩) hs
theorem pG:lP X (pQ X.K):=by
 intro value slice pins s σ H x y v u Q I rx ry h hs
 obtain ⟨p,xs,i,z,rfl,rfl,hq,he,q⟩:=h
 cases rx
 obtain ⟨t,rfl⟩:=ry
 obtain ⟨its,r,pl,hz⟩:=I.tuple hq
 obtain ⟨j,h1,h2,h3,h4,h5⟩:=wJ he
 obtain ⟨w,ew,rw'⟩:=r.get h2
 have hl:=r.length
 have hn:=sQ
 have fin:EP X pins σ Q w s:=⟨z,H,I,rw',q⟩
 exact subscriptTail_builtinR (x:=w) pl.typeIs slot_tuple_getitem.lookup
  (getItem_tuple (j:=j) (Q:=fun r s'=>r=w∧EP X pins σ Q r s') pl (by omega) (by omega) (by rw[List.size_toArray,←hl];exact h1) (by simpa using ew) ⟨rfl,fin⟩) hs
theorem Ba (lo hi:Option Int) (n:Nat):(sliceBounds lo hi none n).1=((HT.cy n 0 lo:Nat):Int)∧(sliceBounds lo hi none n).2.1=((HT.cy n n hi:Nat):Int)∧(sliceBounds lo hi none n).2.2=1:=by
 refine ⟨?_,?_,rfl⟩
 ·cases lo with
  |none=>simp [sliceBounds,HT.cy]
  |some i=>
   simp only [sliceBounds,HT.cy,Option.getD_none,show (1:Int)>0 by decide,if_true]
   by_cases h:i<0
   ·simp only [h,if_true]<;>omega
   ·simp only [h,if_false]<;>omega
 ·cases hi with
  |none=>simp [sliceBounds,HT.cy]
  |some i=>
   simp only [sliceBounds,HT.cy,Option.getD_none,show (1:Int)>0 by decide,if_true]
   by_cases h:i<0
   ·simp only [h,if_true]<;>omega
   ·simp only [h,if_false]<;>omega
theorem LK (its:List Value) (lo hi:Option Int):slicePick its.toArray lo hi none=((its.drop (HT.cy its.length 0 lo)).take (HT.cy its.length its.length hi-HT.cy its.length 0 lo)).toArray:=by
 obtain ⟨h1,h2,h3⟩:=Ba lo hi its.toArray.size
 unfold slicePick
 rw[h1,h2,h3]
 simp only [sliceRange_one,pick_run,List.size_toArray]<;>rfl
def qC (K:PySem.W.Frag):V→Option Int→Option Int→Hp→VK→Prop:=fun x lo hi H Q=> ∃a xs,x= .ref a∧ai K H a xs∧ ∀p,H p=none→Q (.ref p) (upd H p (.lst (cx xs lo hi)))
theorem ek:qW X (qC X.K):=by
 intro pins s σ H x v vl vu lo hi sl Q I rx hs pl pu h
 obtain ⟨a,xs,rfl,hx,q⟩:=h
 cases rx
 obtain ⟨its,r,ht,hz⟩:=I.list hx
 have hlen:=r.length
 refine ⟨"list",_,slot_list_getitem.lookup,ht.isList.typeIs,?_⟩
 refine wpAny_getItem_list_slice ht.isList hs pl pu .none (by simp) ?_ (by rw[List.size_toArray]<;>omega)
 rw[LK,←hlen]
 refine ⟨.ref s.heap.objs.size,_,I.laid (t':=s.toks) (o:= .lst (cx xs lo hi)) (fun b ob q=>Heap.get?_push_of_some _ q) (Nat.le_refl _) ?_,rfl,q _ (I.aj.fresh (Nat.le_refl _))⟩
 exact ⟨Nat.le_trans (DF xs lo hi) hz,_,0,(r.drop (HT.cy xs.length 0 lo)).take (HT.cy xs.length xs.length hi-HT.cy xs.length 0 lo),Heap.get?_push_size _ rfl⟩
theorem eM:gs X (.builtin "len") (fun xs H Q=> ∃p ys,xs= [.ref p]∧(ai X.K H p ys∨aS X.K H p ys)∧Q (.int ys.length) H):=by
 intro pins s σ H xs us Q I r h
 obtain ⟨p,ys,rfl,hq,q⟩:=h
 obtain ⟨u,rfl,rx⟩:=vals1 r
 cases rx
 have hn:=sQ
 rcases hq with hq|hq
 ·obtain ⟨its,r',pl,hz⟩:=I.list hq
  have hlen:=r'.length
  exact Calls.call_len_list pl.isList (by simp only [List.size_toArray]<;>omega) ⟨.int ys.length,H,I.tok _,⟨s.toks+1,by rw[List.size_toArray,hlen]⟩,q⟩
 ·obtain ⟨its,r',pl,hz⟩:=I.tuple hq
  have hlen:=r'.length
  exact len_tuple pl (by simp only [List.size_toArray]<;>omega) ⟨.int ys.length,H,I.tok _,⟨s.toks+1,by rw[List.size_toArray,hlen]⟩,q⟩
theorem Ac:gs X (.type "list") (fun xs H Q=> ∃p ys,xs= [.ref p]∧(ai X.K H p ys∨aS X.K H p ys)∧ ∀l,H l=none→Q (.ref l) (upd H l (.lst ys))):=by
 intro pins s σ H xs us Q I r h
 obtain ⟨p,ys,rfl,hq,q⟩:=h
 obtain ⟨u,rfl,rx⟩:=vals1 r
 cases rx
 have fin: ∀(its:List Value),Vals ys its→ys.length≤sizeLine→ ∀(h':Heap) (c':Nat),(∀b o',s.heap.get? b=some o'→h'.get? b=some o')→
   h'.get? s.heap.objs.size=some {cls:= .type "list",dict:=none,data:= .seq its.toArray c',slots:= #[]}→EP X pins σ Q (.ref s.heap.objs.size) {s with heap:=h'}:=fun its r' hz h' c' kp e=>
  ⟨.ref s.heap.objs.size,_,I.laid (t':=s.toks) kp (Nat.le_refl _) (show cj X.prog X.w _ h' _ (.lst ys) from ⟨hz,its,c',r',e⟩),rfl,q _ (I.aj.fresh (Nat.le_refl _))⟩
 rcases hq with hq|hq
 ·obtain ⟨its,r',pl,hz⟩:=I.list hq
  have hlen:=r'.length
  obtain ⟨o,ho,hc,n,hd⟩:=pl.isList
  exact call_list_seq p (.inl rfl) ho hc hd (fun h' c' kp e=>fin its r' hz h' c' kp e) (by simp only [List.size_toArray]<;>omega)
 ·obtain ⟨its,r',pl,hz⟩:=I.tuple hq
  have hlen:=r'.length
  obtain ⟨o,ho,hc,n,hd⟩:=pl
  exact call_list_seq p (.inr rfl) ho hc hd (fun h' c' kp e=>fin its r' hz h' c' kp e) (by simp only [List.size_toArray]<;>omega)
def uA (K:PySem.W.Frag) (T:String) (x:V) (H:Hp):Prop:=match x with
 | .str _=>T= "str"
 | .int _=>T= "int"
 | .ref p=>(T= "list" ∧ ∃xs,ai K H p xs)∨(T= "tuple" ∧ ∃o,K.lookup p=some o∧o.cls= .type "tuple" ∧o.dict=none)∨
   (T= "dict" ∧((∃kvs,H p=some (.dK kvs))∨ ∃kvs,H p=some (.dT kvs)))∨(T= "set" ∧ ∃S n,H p=some (.set S n))
 |_=>False
theorem G0 {pins:List (Addr×Obj)} {σ:St} {H:Hp} {s:Shared} {T:String} {x:V} {v:Value} (I:Inv X pins σ H s) (r:RelV x v) (ty:uA X.K T x H):
  s.TypeIs v T∧ ∀a,v= .ref a→ ∃ob,s.heap.get? a=some ob∧ob.dict=none:=by
 cases x with
 |str z=>
  obtain ⟨t,rfl⟩:=r
  cases (show T= "str" from ty)
  exact ⟨typeIs_str s z t,fun _ e=>nomatch e⟩
 |int i=>
  obtain ⟨t,rfl⟩:=r
  cases (show T= "int" from ty)
  exact ⟨typeIs_int s i t,fun _ e=>nomatch e⟩
 |ref p=>
  cases r
  rcases ty with ⟨rfl,xs,hq⟩|⟨rfl,o,hk,hc,hd⟩|⟨rfl,hk⟩|⟨rfl,S,n,hk⟩
  ·obtain ⟨its,_,pl,_⟩:=I.list hq
   refine ⟨pl.isList.typeIs,fun a e=>?_⟩
   cases e
   obtain ⟨o,n,e,c,hd,_⟩:=pl
   exact ⟨o,e,hd⟩
  ·refine ⟨⟨o,I.bT p o hk,hc⟩,fun a e=>?_⟩
   cases e
   exact ⟨o,I.bT _ o hk,hd⟩
  ·have z: ∃o,s.heap.get? p=some o∧o.ExactDict:=by
    rcases hk with ⟨kvs,hk⟩|⟨kvs,hk⟩
    ·obtain ⟨_,_,_,_,o,_,_,e,ex,_⟩:=I.aj p _ hk
     exact ⟨o,e,ex⟩
    ·obtain ⟨_,_,_,_,o,_,_,e,ex,_⟩:=I.aj p _ hk
     exact ⟨o,e,ex⟩
   obtain ⟨o,e,ex⟩:=z
   refine ⟨⟨o,e,ex.1⟩,fun a e2=>?_⟩
   cases e2
   exact ⟨o,e,ex.2.1⟩
  ·obtain ⟨o,_,_,_,e,ex,_⟩:=I.aj p _ hk
   refine ⟨⟨o,e,ex.1⟩,fun a e2=>?_⟩
   cases e2
   exact ⟨o,e,ex.2.1⟩
 |_=>exact False.elim ty
def rn (K:PySem.W.Frag) (T:String) (r:V→List V→Hp→VK→Prop) (to:TE) (t:TA):TE:=fun σ H Q=>to σ H fun x H1=>uA K T x H1∧t σ H1 fun xs H2=>r x xs H2 Q
variable {o e:Expr} {es:List Expr} {to:TE} {t:TA} {name:Str} {apos cpos:Pos} {T id:String} {r:V→List V→Hp→VK→Prop}
theorem gU (pa:PlainAttrs T) (slot:Slot T name id) (hty:typeOf (.builtin id)=pure (.type "method_descriptor")) (hm:Gg X id r) (ho:PE X o to) (ha:PA X (e::es) t)
  (hbase:attributeBase o name X.env (eval o X.env)=eval o X.env:=by rfl)
  (hfew:((backTo cpos (starEach (e::es) X.env)).all (fun x=>!x.1)&&(backToKw cpos (keywordEach [] X.env)).all (fun x=>x.1.isSome)
   &&decide ((e::es).length+([]:List Keyword).length+(if ([]:List Keyword).isEmpty then 0 else 1)<30))=true:=by rfl)
  (hline:(apos.endLine==cpos.line)=true:=by rfl) (hs:starEach (e::es) X.env=(false,eval e X.env)::starEach es X.env:=by rfl) (hplain:(backTo cpos (starEach es X.env)).any (·.1)=false:=by rfl):
  PE X (.Call (.Attribute o name apos) (e::es) [] cpos) (rn X.K T r to t):=by
 intro pins s σ H Q I h
 refine wpAny_Call_method_late hbase hfew hline rfl (aA (ho pins s σ H _ I h) fun v s1 ⟨x,H1,I1,r1,ty,q1⟩=>?_)
 obtain ⟨h1,h2⟩:=G0 I1 r1 ty
 refine ⟨T,id,pa,slot,hty,h1,h2,?_⟩
 have hA:=ha cpos pins s1 σ H1 _ I1 q1
 rw[hs] at hA⊢
 refine Calls.callWith_builtin (by show (false||(backTo cpos (starEach es X.env)).any (·.1))=false;rw[hplain]<;>rfl) (Calls.evalArgs_plain ?_)
 exact aA hA fun us s2 ⟨vs,H2,I2,r2,q2⟩=>hm pins s2 σ H2 x vs v us Q I2 r1 r2 q2
end
end L2
namespace L2
open PySem PySem.Spec PyProof.Rows
def ub (X:Cx) (id:String) (r:V→List V→Hp→VK→Prop):Prop:=
 ∀(pins:List (Addr×Obj)) (s:Shared) (σ:St) (H:Hp) (x:V) (xs:List V) (v:Value) (us:List Value) (Q:VK),Inv X pins σ H s→RelV x v→Vals xs us→r x xs H Q→
  wpAny (model X.prog X.w) X.A (call (.builtin id) (v::us)) (EP X pins σ Q) X.xe s
theorem Vals.one: ∀{x:V} {us:List Value},Vals [x] us→ ∃u,us= [u]∧RelV x u
 |_,_, .cons r .nil=>⟨_,rfl,r⟩
section
variable {X:Cx} {pins:List (Addr×Obj)} {σ:St} {H:Hp} {s:Shared} {l b:Addr} {xs ys zs:List V}
theorem Inv.vS {its its':List Value} {n:Nat} {f:Array Value→Array Value} {t':Nat} (I:Inv X pins σ H s) (hH:H l=some (.lst xs))
  (e:s.heap.get? l=some {cls:= .type "list",data:= .seq its.toArray n}) (hf:f its.toArray=its'.toArray) (hv:Vals ys its') (hz:ys.length≤sizeLine):
  Inv X pins σ (upd H l (.lst ys)) {s with heap:=s.heap.update l (Obj.mapSeq f),toks:=t'}:=by
 have q:=PySem.IsL.update e f
 rw[hf] at q
 refine I.write (x:=l) (e:=l) (by rw[hH];exact trivial) (.inl rfl) (fun b' u hb hu=>(Heap.get?_update_other s.heap (Obj.mapSeq f) (Ne.symm hb)).trans hu) ⟨_,q⟩ ?_
 exact ⟨hz,its',_,hv,q⟩
theorem Inv.Eg {its:List Value} {t':Nat} (I:Inv X pins σ H s) (hv:Vals ys its) (hz:ys.length≤sizeLine):
  Inv X pins σ (upd H s.heap.objs.size (.lst ys)) {s with heap:=s.heap.push {cls:= .type "list",data:= .seq its.toArray},toks:=t'}:=
 I.laid (fun _ _ q=>Heap.get?_push_of_some _ q) (Nat.le_refl _) ⟨hz,its,0,hv,Heap.get?_push_size _ rfl⟩
theorem Inv.fresh (I:Inv X pins σ H s):H s.heap.objs.size=none:=I.aj.fresh (Nat.le_refl _)
theorem Inv.sU (I:Inv X pins σ H s) (hH:H l=some (.lst xs)):xs.length≤sizeLine∧ ∃(its:List Value) (n:Nat),Vals xs its∧xs.length=its.length∧s.heap.get? l=some {cls:= .type "list",data:= .seq its.toArray n}:=by
 obtain ⟨z,its,n,r,e⟩:=I.aj l _ hH
 exact ⟨z,its,n,r,r.length,e⟩
theorem F4 {n:Nat} (h:n≤sizeLine):Builtin.List.listTooLong n=false:=by
 unfold Builtin.List.listTooLong
 exact decide_eq_false (by omega)
end
section
variable {X:Cx}
def rK:V→List V→Hp→VK→Prop:=fun x vs H Q=> ∃l xs y,x= .ref l∧vs= [y]∧H l=some (.lst xs)∧xs.length<sizeLine∧Q .aq (upd H l (.lst (xs++ [y])))
theorem oq:ub X "list.append" rK:=by
 intro pins s σ H x vs v us Q I rx rv h
 obtain ⟨l,xs,y,rfl,rfl,hH,hz,q⟩:=h
 cases rx
 obtain ⟨u,rfl,ru⟩:=rv.one
 obtain ⟨z,its,n,r,hl,e⟩:=I.sU hH
 refine call_meets F.slot_list_append ⟨_,e,rfl⟩ F.entry_list_append (F.args_list_append_2 _ _) (PySem.list_append l its.toArray n u (by rw[List.size_toArray];omega)) ⟨e,?_⟩
 refine ⟨.aq,_,I.vS (its':=its++ [u]) hH e (by simp) (r.append (.cons ru .nil)) ?_,rfl,q⟩
 rw[List.length_append,List.length_singleton]
 omega
def B7:V→List V→Hp→VK→Prop:=fun x vs H Q=> ∃l b xs zs,x= .ref l∧vs= [.ref b]∧H l=some (.lst xs)∧H b=some (.lst zs)∧xs.length+zs.length≤sizeLine∧Q .aq (upd H l (.lst (xs++zs)))
theorem qv:ub X "list.extend" B7:=by
 intro pins s σ H x vs v us Q I rx rv h
 obtain ⟨l,b,xs,zs,rfl,rfl,hH,hB,hz,q⟩:=h
 cases rx
 obtain ⟨u,rfl,ru⟩:=rv.one
 cases ru
 obtain ⟨z,its,n,r,hl,e⟩:=I.sU hH
 obtain ⟨z2,its2,n2,r2,hl2,e2⟩:=I.sU hB
 have hsz:its.toArray.size+its2.toArray.size≤sizeLine:=by rw[List.size_toArray,List.size_toArray];omega
 have hlong: ¬(!its.toArray.isEmpty&&Builtin.List.listTooLong (its.toArray.size+its2.toArray.size))=true:=by
  rw[F4 hsz,Bool.and_false]
  exact Bool.false_ne_true
 refine call_meets F.slot_list_extend ⟨_,e,rfl⟩ F.entry_list_extend (F.args_list_extend_2 _ _)
  (AutoSeq1.list_extend_list_list_0 l its.toArray n b its2.toArray n2 hlong (by rw[List.size_toArray];omega) (by omega)) ⟨e,e2,?_⟩
 refine ⟨.aq,_,I.vS (its':=its++its2) hH e (by simp) (r.append r2) ?_,rfl,q⟩
 rw[List.length_append]
 omega
end
section
variable {prog:Program} {w:World} {A:Around} {E:Value→Shared→Prop} {s:Shared}
end
section
variable {X:Cx}
end
end L2
namespace L2
open PySem PySem.Spec PyProof.Rows
theorem Vals.sA: ∀{bs:List Bool} {us:List Value},Vals (bs.map V.bl) us→us=bs.map Value.bool
 | [],us,h=>by
  rw[List.map_nil] at h
  cases h
  rfl
 |b::bs,us,h=>by
  rw[List.map_cons] at h
  cases h with
  |cons r t=>
   cases r
   rw[Vals.sA t,List.map_cons]
theorem Vals.zA {a:Addr} {us:List Value} (r:Vals [V.ref a] us):us= [Value.ref a]:=by
 cases r with
 |cons r t=>
  cases t
  cases r
  rfl
section
variable {prog:Program} {w:World} {A:Around} {E:Value→Shared→Prop} {s:Shared} {l:Addr} {its:List Value} {ns:List Int} {Q:Value→Shared→Prop}
end
section
variable {X:Cx}
end
section
variable {X:Cx}
end
section
variable {X:Cx}
end
theorem Ah {prog:Program} {w:World} {A:Around} {E:Value→Shared→Prop} {s:Shared} {l:Addr} {items:Array Value} {Q:Value→Shared→Prop} (hl:s.heap.IsList l items)
  (h: ∀s₂:Shared,s₂={s with heap:=s.heap.push {cls:= .type "list_iterator",data:= .fields #[.ref l, .int 0 0]}}→
   (s₂.heap.IsListIter s.heap.objs.size l 0∧s₂.heap.IsList l items)→l≠s.heap.objs.size→Q (.ref s.heap.objs.size) s₂):wpAny (model prog w) A (pyIter (.ref l)) Q E s:=by
 have hlt:l<s.heap.objs.size:=by obtain ⟨_,e,_⟩:=hl;exact Heap.lt_size e
 exact wpAny_pyIter_list hl (h _ rfl ⟨⟨_,Heap.get?_push_size _ rfl,rfl,rfl⟩,hl.push _⟩ (Nat.ne_of_lt hlt))
theorem Aa {prog:Program} {w:World} {A:Around} {bs:List Bool} {its:List Value} (e:its=bs.map Value.bool):
  TruthOf prog w A (fun i v=>its.toArray[i]?=some v) (fun i=>bs.getD i false):=fun i v s Q E hv hq=>by
 have hv':its[i]?=some v:=by simpa using hv
 rw[e,List.getElem?_map] at hv'
 obtain ⟨b,hb,rfl⟩:=Option.map_eq_some_iff.mp hv'
 have hg:bs.getD i false=b:=by rw[List.getD_eq_getElem?_getD,hb]<;>rfl
 have hq':Q (bs.getD i false) s:=hq
 rw[hg] at hq'
 exact wpAny_truthy_bool hq'
theorem any_range: ∀bs:List Bool,(List.range bs.length).any (fun i=>bs.getD i false)=bs.any id
 | []=>rfl
 |b::bs=>by
  rw[List.length_cons,List.range_succ_eq_map,List.any_cons,List.any_map,List.any_cons,←any_range bs]
  all_goals rfl
theorem all_range: ∀bs:List Bool,(List.range bs.length).all (fun i=>bs.getD i false)=bs.all id
 | []=>rfl
 |b::bs=>by
  rw[List.length_cons,List.range_succ_eq_map,List.all_cons,List.all_map,List.all_cons,←all_range bs]
  all_goals rfl
section
variable {X:Cx}
def LC (K:PySem.W.Frag):List V→Hp→VK→Prop:=fun vs H Q=> ∃(a:Addr) (bs:List Bool),vs= [V.ref a]∧ai K H a (bs.map V.bl)∧Q (.bl (bs.any id)) H
def zr (K:PySem.W.Frag):List V→Hp→VK→Prop:=fun vs H Q=> ∃(a:Addr) (bs:List Bool),vs= [V.ref a]∧ai K H a (bs.map V.bl)∧Q (.bl (bs.all id)) H
theorem Iq (hc:X.calm=true):gs X (.builtin "any") (LC X.K):=by
 intro pins s σ H vs us Q I r h
 obtain ⟨a,bs,rfl,hs,q⟩:=h
 obtain ⟨its,rv,hl,_⟩:=I.list hs
 rw[Vals.zA r]
 have hb:=rv.sA
 refine call_any_walk (Ah hl.isList fun s₂ e2 st hne=>?_)
 subst e2
 refine ⟨_,_,_,_,_,_,_,rfl,Walks.list (A:=X.A.in1) (I.ok.hd hc) _ a hne its.toArray,st,Aa hb,fun h' tk hk=>?_⟩
 refine ⟨.bl _,H,I.kept fun b o eo=>hk b o (fun hmem=>?_) (Heap.get?_push_of_some _ eo),?_,q⟩
 ·rcases List.mem_cons.mp hmem with e1|hmem
  ·exact absurd (e1▸Heap.lt_size eo) (Nat.lt_irrefl _)
  ·cases hmem
 ·show Value.bool _=Value.bool _
  rw[←any_range,hb,List.size_toArray,List.length_map]
theorem u4 (hc:X.calm=true):gs X (.builtin "all") (zr X.K):=by
 intro pins s σ H vs us Q I r h
 obtain ⟨a,bs,rfl,hs,q⟩:=h
 obtain ⟨its,rv,hl,_⟩:=I.list hs
 rw[Vals.zA r]
 have hb:=rv.sA
 refine call_all_walk (Ah hl.isList fun s₂ e2 st hne=>?_)
 subst e2
 refine ⟨_,_,_,_,_,_,_,rfl,Walks.list (A:=X.A.in1) (I.ok.hd hc) _ a hne its.toArray,st,Aa hb,fun h' tk hk=>?_⟩
 refine ⟨.bl _,H,I.kept fun b o eo=>hk b o (fun hmem=>?_) (Heap.get?_push_of_some _ eo),?_,q⟩
 ·rcases List.mem_cons.mp hmem with e1|hmem
  ·exact absurd (e1▸Heap.lt_size eo) (Nat.lt_irrefl _)
  ·cases hmem
 ·show Value.bool _=Value.bool _
  rw[←all_range,hb,List.size_toArray,List.length_map]
end
mutual
inductive Dp (K:PySem.W.Frag) (H:Hp):V→PyData→Prop
 |aq:Dp K H .aq .none
 |bl (b:Bool):Dp K H (.bl b) (.bool b)
 |int (i:Int):Dp K H (.int i) (.int i)
 |str (x:Str):Dp K H (.str x) (.str x)
 |lst {a:Addr} {xs:List V} {ds:List PyData}:ai K H a xs→iy K H xs ds→Dp K H (.ref a) (.list ds)
 |tup {a:Addr} {xs:List V} {ds:List PyData}:aS K H a xs→iy K H xs ds→Dp K H (.ref a) (.tuple ds)
inductive iy (K:PySem.W.Frag) (H:Hp):List V→List PyData→Prop
 |nil:iy K H [] []
 |cons {v:V} {vs:List V} {d:PyData} {ds:List PyData}:Dp K H v d→iy K H vs ds→iy K H (v::vs) (d::ds)
end
section
variable {X:Cx} {pins:List (Addr×Obj)} {σ:St} {H:Hp} {s:Shared}
mutual
theorem Dp.reads (I:Inv X pins σ H s): ∀(d:PyData) (v:V) (u:Value),Dp X.K H v d→RelV v u→ ∃as,Reads s.heap u d as
 | .none,_,_,h,r=>by
  cases h
  cases r
  exact ⟨_,Reads.none⟩
 | .bool b,_,_,h,r=>by
  cases h
  cases r
  exact ⟨_,Reads.bool b⟩
 | .int i,_,_,h,r=>by
  cases h
  obtain ⟨t,rfl⟩:=r
  exact ⟨_,Reads.int i t⟩
 | .str x,_,_,h,r=>by
  cases h
  obtain ⟨t,rfl⟩:=r
  exact ⟨_,Reads.str x t⟩
 | .list ds,_,_,h,r=>by
  cases h with
  |lst hs ha=>
   cases r
   obtain ⟨its,rv,⟨o,n,ho,hc,_,hd⟩,_⟩:=I.list hs
   obtain ⟨as,hr⟩:=Dp.readsAll I ds _ its ha rv
   exact ⟨_,Reads.list ho hc hd hr⟩
 | .tuple ds,_,_,h,r=>by
  cases h with
  |tup hs ha=>
   cases r
   obtain ⟨its,rv,⟨o,ho,hc,n,hd⟩,_⟩:=I.tuple hs
   obtain ⟨as,hr⟩:=Dp.readsAll I ds _ its ha rv
   exact ⟨_,Reads.tuple ho hc hd hr⟩
 | .dict _,_,_,h,_=>by cases h
theorem Dp.readsAll (I:Inv X pins σ H s): ∀(ds:List PyData) (vs:List V) (us:List Value),iy X.K H vs ds→Vals vs us→ ∃as,ReadsAll s.heap us ds as
 | [],_,_,h,r=>by
  cases h
  cases r
  exact ⟨_,ReadsAll.nil⟩
 |d::ds,_,_,h,r=>by
  cases h with
  |cons h1 h2=>
   cases r with
   |cons r1 r2=>
    obtain ⟨as,q1⟩:=Dp.reads I d _ _ h1 r1
    obtain ⟨bs,q2⟩:=Dp.readsAll I ds _ _ h2 r2
    exact ⟨_,ReadsAll.cons q1 q2⟩
end
end
section
variable {X:Cx}
def ES (K:PySem.W.Frag):R2:=fun x y H Q=> ∃d e,Dp K H x d∧Dp K H y e∧SeqAt.shaped d=true∧SeqAt.shaped e=true∧Q (.bl (PyData.eqv d e)) H
def K4 (K:PySem.W.Frag):R2:=fun x y H Q=> ∃d e,Dp K H x d∧Dp K H y e∧SeqAt.shaped d=true∧SeqAt.shaped e=true∧Q (.bl (!PyData.eqv d e)) H
theorem Cv (hu:X.A.units+64<cLine):bj X (compareOp .Eq) (ES X.K):=by
 intro pins s σ H x y v u Q I rx ry h
 obtain ⟨d,e,hd,he,sd,se,q⟩:=h
 obtain ⟨as,r1⟩:=Dp.reads I d x v hd rx
 obtain ⟨bs,r2⟩:=Dp.reads I e y u he ry
 exact SeqAt.compareEq_shaped r1 r2 sd se hu ⟨.bl _,H,I,rfl,q⟩
theorem FL (hu:X.A.units+64<cLine):bj X (compareOp .NotEq) (K4 X.K):=by
 intro pins s σ H x y v u Q I rx ry h
 obtain ⟨d,e,hd,he,sd,se,q⟩:=h
 obtain ⟨as,r1⟩:=Dp.reads I d x v hd rx
 obtain ⟨bs,r2⟩:=Dp.reads I e y u he ry
 exact SeqAt.compareNe_shaped r1 r2 sd se hu ⟨.bl _,H,I,rfl,q⟩
end
end L2
namespace L2
open PySem PySem.Spec PyProof.Rows
abbrev vL (h:Heap) (c:Addr) (v:Option Value):Prop:=h.IsCell c v
def Df (scope sc:Scope):Scope:=
 {scope with names:=scope.names.map fun (n,k)=>if (k== .free&&sc.kind== .function&&sc.names.lookup n==some .cell) then (n, .cell) else (n,k)}
def bJ (cells:List (Str×Addr)):List (Str×NameKind)→List (Str×Addr)→List (Str×Addr)
 | [],acc=>acc
 |(n,k)::r,acc=>if k== .free then bJ cells r ((n,(cells.lookup n).getD 0)::acc) else bJ cells r acc
theorem xG (env:Env) (f:Str×NameKind→List (Str×Addr)→Sem (ForInStep (List (Str×Addr))))
  (hf: ∀n k c,f (n,k) c=if k== .free then (do let a←cellOf env n;pure (.yield ((n,a)::c))) else pure (.yield c)):
  ∀(names:List (Str×NameKind)) (acc:List (Str×Addr)),(∀y∈names,y.2= .free→ ∃c,env.cells.lookup y.1=some c)→forIn names acc f=pure (bJ env.cells names acc)
 | [],acc,_=>by rw[List.forIn_nil];rfl
 |(n,k)::r,acc,h=>by
  rw[List.forIn_cons,hf]
  have ih:=fun acc=>xG env f hf r acc fun y hy=>h y (List.mem_cons_of_mem _ hy)
  unfold bJ
  by_cases hk:(k==NameKind.free)=true
  ·rw[if_pos hk,if_pos hk]
   obtain ⟨c,hc⟩:=h (n,k) List.mem_cons_self (by simpa using hk)
   have e:cellOf env n=pure c:=by unfold cellOf;rw[hc]
   rw[e]
   have e2:(env.cells.lookup n).getD 0=c:=by rw[hc];rfl
   rw[e2]
   exact ih _
  ·rw[if_neg hk,if_neg hk]
   exact ih _
theorem yZ {scope:Scope} {env:Env} (h: ∀y∈scope.names,y.2= .free→ ∃c,env.cells.lookup y.1=some c):closureFor scope env=pure (bJ env.cells scope.names []):=by
 simp only [closureFor]
 rw[xG env _ (fun n k c=>rfl) scope.names [] h]
 rfl
theorem mem_lookup {α:Type}: ∀{l:List (Str×α)} {n:Str} {c:α},(n,c)∈l→ ∃c',l.lookup n=some c'
 |(k,v)::r,n,c,h=>by
  rw[List.lookup_cons]
  cases hb:n==k with
  |true=>exact ⟨_,rfl⟩
  |false=>
   rcases List.mem_cons.mp h with e|h
   ·cases e;simp at hb
   ·exact mem_lookup h
theorem ow {cells:List (Str×Addr)}: ∀{names:List (Str×NameKind)} {acc:List (Str×Addr)} {n:Str} {c:Addr},(n,c)∈bJ cells names acc→(n,c)∈acc∨((n, .free)∈names∧c=(cells.lookup n).getD 0)
 | [],_,_,_,h=> .inl h
 |(m,k)::r,acc,n,c,h=>by
  unfold bJ at h
  split at h
  ·rename_i hk
   have hk:k= .free:=by simpa using hk
   rcases ow h with h|⟨h1,h2⟩
   ·rcases List.mem_cons.mp h with e|h
    ·cases e;exact .inr ⟨hk▸List.mem_cons_self,rfl⟩
    ·exact .inl h
   ·exact .inr ⟨List.mem_cons_of_mem _ h1,h2⟩
  ·rcases ow h with h|⟨h1,h2⟩
   ·exact .inl h
   ·exact .inr ⟨List.mem_cons_of_mem _ h1,h2⟩
theorem rL {cells:List (Str×Addr)}: ∀{names:List (Str×NameKind)} {acc:List (Str×Addr)} {p:Str×Addr},p∈acc→p∈bJ cells names acc
 | [],_,_,h=>h
 |(m,k)::r,acc,p,h=>by
  unfold bJ
  split
  ·exact rL (List.mem_cons_of_mem _ h)
  ·exact rL h
theorem sX {cells:List (Str×Addr)}: ∀{names:List (Str×NameKind)} {acc:List (Str×Addr)} {n:Str},(n, .free)∈names→(n,(cells.lookup n).getD 0)∈bJ cells names acc
 |(m,k)::r,acc,n,h=>by
  unfold bJ
  rcases List.mem_cons.mp h with e|h
  ·cases e
   exact rL List.mem_cons_self
  ·split
   ·exact sX h
   ·exact sX h
theorem kD: ∀{names:List (Str×NameKind)} {h:Heap} {acc:List (Str×Addr)} {x:Str} {c:Addr},(x,c)∈cellsFrom h.objs.size names acc→
  (x,c)∈acc∨((x, .cell)∈names∧h.objs.size≤c∧vL (pushCells h names) c none)
 | [],_,_,_,_,h=> .inl h
 |(n,k)::r,h,acc,x,c,hm=>by
  unfold cellsFrom at hm
  unfold pushCells
  split at hm
  ·rename_i hk
   rw[if_pos hk]
   have hk:k= .cell:=by simpa using hk
   rw[←Heap.size_push h {cls:= .type "cell",data:= .cell none}] at hm
   rcases kD hm with hm|⟨h1,h2,h3⟩
   ·rcases List.mem_cons.mp hm with e|hm
    ·cases e
     exact .inr ⟨hk▸List.mem_cons_self,Nat.le_refl _,_,pushCells_keeps r _ _ _ (Heap.get?_push_size _ rfl),rfl⟩
    ·exact .inl hm
   ·rw[Heap.size_push] at h2
    exact .inr ⟨List.mem_cons_of_mem _ h1,Nat.le_of_succ_le h2,h3⟩
  ·rename_i hk
   rw[if_neg hk]
   rcases kD hm with hm|⟨h1,h2,h3⟩
   ·exact .inl hm
   ·exact .inr ⟨List.mem_cons_of_mem _ h1,h2,h3⟩
theorem oH: ∀{names:List (Str×NameKind)} {n:Nat} {acc:List (Str×Addr)} {p:Str×Addr},p∈acc→p∈cellsFrom n names acc
 | [],_,_,_,h=>h
 |(m,k)::r,n,acc,p,h=>by
  unfold cellsFrom
  split
  ·exact oH (List.mem_cons_of_mem _ h)
  ·exact oH h
theorem ra: ∀{names:List (Str×NameKind)} {n:Nat} {acc:List (Str×Addr)} {x:Str},(x, .cell)∈names→ ∃c,(x,c)∈cellsFrom n names acc
 |(m,k)::r,n,acc,x,h=>by
  unfold cellsFrom
  rcases List.mem_cons.mp h with e|h
  ·cases e
   exact ⟨n,oH List.mem_cons_self⟩
  ·split
   ·exact ra h
   ·exact ra h
theorem rT: ∀{names:List (Str×NameKind)} {h:Heap} {acc:List (Str×Addr)} {x y:Str} {c:Addr},(∀p∈acc,p.2<h.objs.size)→(∀x y c,(x,c)∈acc→(y,c)∈acc→x=y)→
  (x,c)∈cellsFrom h.objs.size names acc→(y,c)∈cellsFrom h.objs.size names acc→x=y
 | [],_,_,_,_,_,_,hi,h1,h2=>hi _ _ _ h1 h2
 |(n,k)::r,h,acc,x,y,c,hl,hi,h1,h2=>by
  unfold cellsFrom at h1 h2
  split at h1
  ·rename_i hk
   rw[if_pos hk] at h2
   rw[←Heap.size_push h {cls:= .type "cell",data:= .cell none}] at h1 h2
   refine rT (h:=h.push _) (fun p hp=>?_) (fun x y c a b=>?_) h1 h2
   ·rw[Heap.size_push]
    rcases List.mem_cons.mp hp with rfl|hp
    ·exact Nat.lt_succ_self _
    ·exact Nat.lt_succ_of_lt (hl p hp)
   ·rcases List.mem_cons.mp a with e|a<;>rcases List.mem_cons.mp b with e'|b
    ·cases e;cases e';rfl
    ·cases e;exact absurd (hl _ b) (Nat.lt_irrefl _)
    ·cases e';exact absurd (hl _ a) (Nat.lt_irrefl _)
    ·exact hi _ _ _ a b
  ·rename_i hk
   rw[if_neg hk] at h2
   exact rT hl hi h1 h2
theorem xw {M:Model} {A:Around} {E:Value→Shared→Prop} {s:Shared} {scope:Scope} {globals:Addr} {closure:List (Str×Addr)} {qual:Str} {func:Option Addr} {code:Value} {around:Env} {builtins:Addr} {Q:Env→Shared→Prop}
  (h:Q (newEnv scope s.heap.objs.size globals (cellsFrom (s.heap.objs.size+1) scope.names closure) qual func code (some around) builtins)
   {s with heap:=pushCells (s.heap.push {cls:= .type "dict",data:= .dict #[]}) scope.names}):
  wpAny M A (newFunctionEnv scope globals closure [] qual func code (some around) builtins) Q E s:=by
 simp only [newFunctionEnv,Option.isSome_some,if_true]
 refine wpAny_bind (wpAny_alloc ?_)
 refine wpAny_bind (wpAny_layCells _ (fun n k c=>rfl) scope.names closure _ _ ?_)
 rw[show ({s with heap:=s.heap.push {cls:= .type "dict",data:= .dict #[]}}:Shared).heap.objs.size=s.heap.objs.size+1 from Heap.size_push ..]
 rw[List.forIn_nil]
 exact wpAny_bind (wpAny_pure (wpAny_pure h))
theorem tU {sc:Scope}: ∀{names:List (Str×NameKind)} {x:Str} {k:NameKind},
  (names.map fun (n,k)=>if (k==NameKind.free&&sc.kind== .function&&sc.names.lookup n==some .cell) then (n,NameKind.cell) else (n,k)).lookup x=some k→
  ∃k',names.lookup x=some k'∧(k=k'∨(k'= .free∧k= .cell))
 | [],_,_,h=>by simp at h
 |(n,k₀)::r,x,k,h=>by
  have ih:= @tU sc r x k
  have h':List.lookup x ((if (k₀==NameKind.free&&sc.kind== .function&&sc.names.lookup n==some .cell)=true then (n,NameKind.cell) else (n,k₀))::(r.map _))=some k:=h
  cases hx:x==n with
  |true=>
   simp only [List.lookup_cons,hx]
   by_cases hc:(k₀==NameKind.free&&sc.kind== .function&&sc.names.lookup n==some .cell)=true
   ·rw[if_pos hc] at h'
    simp only [List.lookup_cons,hx] at h'
    cases h'
    simp only [Bool.and_eq_true,beq_iff_eq] at hc
    exact ⟨k₀,rfl, .inr ⟨hc.1.1,rfl⟩⟩
   ·rw[if_neg hc] at h'
    simp only [List.lookup_cons,hx] at h'
    cases h'
    exact ⟨_,rfl, .inl rfl⟩
  |false=>
   simp only [List.lookup_cons,hx]
   by_cases hc:(k₀==NameKind.free&&sc.kind== .function&&sc.names.lookup n==some .cell)=true
   ·rw[if_pos hc] at h'
    simp only [List.lookup_cons,hx] at h'
    exact ih h'
   ·rw[if_neg hc] at h'
    simp only [List.lookup_cons,hx] at h'
    exact ih h'
structure gz (N:List Str) (sc scope:Scope) (own:List (Str×Nat)):Prop where
 kind:scope.kind= .function
 uniq: ∀y∈scope.names,scope.names.lookup y.1=some y.2
 ix: ∀p∈own,N[p.2]?=some p.1
 free: ∀y∈scope.names,y.2= .free→sc.names.lookup y.1=some .cell∨sc.names.lookup y.1=some .free
 own: ∀y∈scope.names,y.2= .local∨y.2= .cell→y.1∈own.map (·.1)∨y.1∉N
def wipe (σ:St):List Nat→St
 | []=>σ
 |v::vs=>(wipe σ vs).set v none
theorem oh (σ:St): ∀vs:List Nat,(wipe σ vs).length=σ.length
 | []=>rfl
 |v::vs=>by unfold wipe;rw[List.length_set,oh σ vs]
theorem oW {σ:St} {i:Nat} {x:V}: ∀{vs:List Nat},(wipe σ vs)[i]?=some (some x)→σ[i]?=some (some x)∧i∉vs
 | [],h=>⟨h,by simp⟩
 |v::vs,h=>by
  unfold wipe at h
  by_cases hi:v=i
  ·subst hi
   by_cases hv:v<(wipe σ vs).length
   ·rw[List.getElem?_set_self hv] at h;cases h
   ·rw[List.getElem?_eq_none (by simpa using hv)] at h;cases h
  ·rw[List.getElem?_set_ne hi] at h
   obtain ⟨h1,h2⟩:=oW h
   exact ⟨h1,by simp only [List.mem_cons,not_or];exact ⟨fun e=>hi e.symm,h2⟩⟩
abbrev Cx.bb (X:Cx) (s:Shared) (H:Hp) (scope:Scope) (cenv:Env) (fp:List Addr):Cx:={X with ba:=s,jm:=H,env:=cenv,outer:=X.stack,ex:=fp,fn:=fun x=>scope.names.lookup x==some .cell,pn:= [],xe:=fun _ _=>False}
section
variable {X:Cx} {pins:List (Addr×Obj)} {σ:St} {H:Hp} {s:Shared}
theorem wW {scope:Scope} {own:List (Str×Nat)} {fp:List Addr} (I:Inv X pins σ H s) (ok:gz X.N X.env.scope scope own) (hN:X.N.Nodup) (hfp: ∀b∈fp,cZ X pins H b∧b<s.heap.objs.size):
  Inv (X.bb s H scope (compEnvC scope (cellsFrom (s.heap.objs.size+1) scope.names (bJ X.env.cells scope.names [])) s.heap.objs.size X.env) fp) [] (wipe σ (own.map (·.2))) H {s with heap:=pushCells (s.heap.push {cls:= .type "dict",data:= .dict #[]}) scope.names}:=by
 have hfree: ∀y∈scope.names,y.2= .free→ ∃c,X.env.cells.lookup y.1=some c:=fun y hy e=>by
  rcases ok.free y hy e with k|k
  ·exact I.ok.has _ (.inl k)
  ·exact I.ok.has _ (.inr k)
 generalize hcenv:compEnvC scope (cellsFrom (s.heap.objs.size+1) scope.names (bJ X.env.cells scope.names [])) s.heap.objs.size X.env=cenv
 have kp: ∀b o,s.heap.get? b=some o→(pushCells (s.heap.push {cls:= .type "dict",data:= .dict #[]}) scope.names).get? b=some o:=fun b o e=>pushCells_keeps _ _ _ _ (Heap.get?_push_of_some _ e)
 have hL:cenv.locals=s.heap.objs.size:=by rw[←hcenv];rfl
 have hcl:cenv.cells=cellsFrom (s.heap.objs.size+1) scope.names (bJ X.env.cells scope.names []):=by rw[←hcenv];rfl
 have hsc:cenv.scope=Df scope X.env.scope:=by rw[←hcenv];rfl
 rw[←Heap.size_push s.heap {cls:= .type "dict",data:= .dict #[]}] at hcl
 have cm: ∀{y c},(y,c)∈bJ X.env.cells scope.names []→X.env.cells.lookup y=some c∧c<s.heap.objs.size:=fun {y c} hm=>by
  rcases ow hm with hm|⟨h1,rfl⟩
  ·cases hm
  ·obtain ⟨c,hc⟩:=hfree _ h1 rfl
   rw[hc]
   obtain ⟨w,z⟩:=I.cell _ _ hc
   exact ⟨rfl,z.lt⟩
 have mem: ∀{y c},cenv.cells.lookup y=some c→(X.env.cells.lookup y=some c∧c<s.heap.objs.size)∨(s.heap.objs.size+1≤c∧vL (pushCells (s.heap.push {cls:= .type "dict",data:= .dict #[]}) scope.names) c none):=fun {y c} e=>by
  rw[hcl] at e
  rcases kD (PySem.mem_of_lookup e) with hm|⟨_,h2,h3⟩
  ·exact .inl (cm hm)
  ·rw[Heap.size_push] at h2;exact .inr ⟨h2,h3⟩
 have look: ∀{y},scope.names.lookup y=some .free→ ∃c,cenv.cells.lookup y=some c∧X.env.cells.lookup y=some c:=fun {y} hl=>by
  have hy:(y,NameKind.free)∈scope.names:=PySem.mem_of_lookup hl
  obtain ⟨c',e'⟩:=mem_lookup (oH (names:=scope.names) (n:=(s.heap.push {cls:= .type "dict",data:= .dict #[]}).objs.size) (sX (cells:=X.env.cells) (acc:= []) hy))
  rw[←hcl] at e'
  refine ⟨c',e',?_⟩
  rw[hcl] at e'
  rcases kD (PySem.mem_of_lookup e') with hm|⟨h1,_,_⟩
  ·exact (cm hm).1
  ·have:=ok.uniq _ h1
   rw[hl] at this;cases this
 have okB:(X.bb s H scope cenv fp).Ok:=by
  refine ⟨I.ok.mod,by show cenv.scope.kind=_;rw[hsc];exact ok.kind,by show cenv.globals=_;rw[←hcenv];exact I.ok.glob,by show cenv.builtins=_;rw[←hcenv];exact I.ok.blt,by show s.heap.objs.size≤cenv.locals;rw[hL];exact Nat.le_refl _,
   fun y z c e1 e2=>?_,fun y hy=>?_,fun y c z e=>?_,I.ok.hd,I.ok.frames, .inl rfl,fun b hb=>⟨?_,fun y c e z=>?_⟩,I.bs,Nat.le_trans I.ok.dW I.sz,fun b o e hb=>?_,fun b hb z=>?_,I.stack,I.pO⟩
  ·have e1:cenv.cells.lookup y=some c:=e1
   have e2:cenv.cells.lookup z=some c:=e2
   rw[hcl] at e1 e2
   refine rT (fun p hp=>?_) (fun y z c a b=>I.ok.inj y z c (cm a).1 (cm b).1) (PySem.mem_of_lookup e1) (PySem.mem_of_lookup e2)
   rw[Heap.size_push]
   exact Nat.lt_succ_of_lt (cm (y:=p.1) (c:=p.2) hp).2
  ·show∃c,cenv.cells.lookup y=some c
   have key: ∀k,cenv.kindOf y=some k→(k= .cell∨k= .free)→ ∃c,cenv.cells.lookup y=some c:=fun k hk hk'=>by
    unfold Env.kindOf at hk
    rw[hsc] at hk
    obtain ⟨k',e,r⟩:=tU hk
    have:k'= .cell∨k'= .free:=by
     rcases r with rfl|⟨rfl,_⟩
     ·exact hk'
     ·exact .inr rfl
    rcases this with rfl|rfl
    ·obtain ⟨c,hm⟩:=ra (n:=(s.heap.push {cls:= .type "dict",data:= .dict #[]}).objs.size) (acc:=bJ X.env.cells scope.names []) (PySem.mem_of_lookup e)
     obtain ⟨c',e'⟩:=mem_lookup hm
     exact ⟨c',by rw[hcl];exact e'⟩
    ·obtain ⟨c,h1,_⟩:=look e
     exact ⟨c,h1⟩
   rcases hy with hy|hy
   ·exact key _ hy (.inl rfl)
   ·exact key _ hy (.inr rfl)
  ·have z:(scope.names.lookup y==some NameKind.cell)=true:=z
   have z:scope.names.lookup y=some .cell:=by simpa using z
   have e:cenv.cells.lookup y=some c:=e
   rw[hcl] at e
   rcases kD (PySem.mem_of_lookup e) with hm|⟨_,h2,_⟩
   ·rcases ow hm with hm|⟨h1,_⟩
    ·cases hm
    ·have q:=ok.uniq _ h1
     rw[z] at q;cases q
   ·rw[Heap.size_push] at h2
    exact Nat.le_of_succ_le h2
  ·show b≠cenv.locals
   rw[hL];exact Nat.ne_of_lt (hfp b hb).2
  ·have e:cenv.cells.lookup y=some c:=e
   rcases mem e with ⟨h1,_⟩|⟨h1,_⟩
   ·exact (hfp b hb).1.2.2.2.2.1 y c h1 z
   ·have h2:s.heap.objs.size+1≤b:=by rw[←z];exact h1
    exact absurd (Nat.lt_of_lt_of_le (hfp b hb).2 (Nat.le_of_succ_le h2)) (Nat.lt_irrefl _)
  ·rcases (hfp b hb).1.2.2.2.1 with z|z
   ·exact I.ok.dC b o e z
   ·exact absurd (Nat.lt_of_lt_of_le (Heap.lt_size e) (Nat.le_trans I.ok.dW z)) (Nat.lt_irrefl _)
  ·rcases List.mem_cons.mp (I.km b z) with z|z
   ·exact (hfp b hb).1.2.1 z
   ·exact (hfp b hb).1.2.2.1 z
 refine ⟨okB,rfl,I.bare,Un.kept kp,⟨fun _=>none,?_,fun i y av e1 e2 e3=>?_⟩,fun y c e=>?_,?_,fun y c e=>?_,fun p hp=>?_,I.aj.kept kp,by rw[oh];exact I.len⟩
 ·show Heap.Ns _ cenv.locals _
  rw[hL]
  exact Heap.Ns.keeps (Heap.Ns.new ..) fun b o e=>pushCells_keeps _ _ _ _ e
 ·obtain ⟨e2,hne⟩:=oW e2
  have hfr:scope.names.lookup y=some .free∧(cenv.kindOf y=some .cell∨cenv.kindOf y=some .free):=by
   have key: ∀k,cenv.scope.names.lookup y=some k→k= .local∨k= .cell∨k= .free→scope.names.lookup y=some .free∧(cenv.kindOf y=some .cell∨cenv.kindOf y=some .free):=fun k hk hk'=>by
    have hk0:=hk
    rw[hsc] at hk
    obtain ⟨k',e,r⟩:=tU hk
    have no: ¬(k'= .local∨k'= .cell):=fun hh=>by
     rcases ok.own _ (PySem.mem_of_lookup e) hh with e'|e'
     ·obtain ⟨p,hp,hpy⟩:=List.mem_map.mp e'
      have e3:=ok.ix p hp
      have:p.1=y:=hpy
      rw[this] at e3
      exact hne (List.mem_map.mpr ⟨p,hp,qw hN e3 e1⟩)
     ·exact e' (List.mem_of_getElem? e1)
    rcases r with rfl|⟨rfl,rfl⟩
    ·rcases hk' with rfl|rfl|rfl
     ·exact absurd (.inl rfl) no
     ·exact absurd (.inr rfl) no
     ·exact ⟨e, .inr hk0⟩
    ·exact ⟨e, .inl hk0⟩
   have e3:iS cenv.scope y:=e3
   rcases e3 with e3|e3|e3
   ·exact key _ e3 (.inl rfl)
   ·exact key _ e3 (.inr (.inl rfl))
   ·exact key _ e3 (.inr (.inr rfl))
  obtain ⟨m,hn,hl⟩:=I.loc
  have hvis:iS X.env.scope y:=(ok.free _ (PySem.mem_of_lookup hfr.1) rfl).elim (fun k=> .inr (.inl k)) (fun k=> .inr (.inr k))
  obtain ⟨w,r,q⟩:=hl i y av e1 e2 hvis
  refine ⟨w,r, .inr ⟨hfr.2,?_⟩⟩
  obtain ⟨c,h1,h2⟩:=look hfr.1
  rcases q with ⟨k,_⟩|⟨_,c',e',z⟩
  ·have k:X.env.scope.names.lookup y=some .local:=k
   rcases ok.free _ (PySem.mem_of_lookup hfr.1) rfl with k'|k'<;>rw[show X.env.scope.names.lookup y=_ from k'] at k<;>cases k
  ·rw[h2] at e';cases e'
   exact ⟨c,h1,z.keeps kp⟩
 ·have e:cenv.cells.lookup y=some c:=e
  rcases mem e with ⟨h1,_⟩|⟨_,z⟩
  ·obtain ⟨w,z⟩:=I.cell y c h1
   exact ⟨w,z.keeps kp⟩
  ·exact ⟨_,z⟩
 ·show H cenv.locals=none
  rw[hL];exact I.aj.fresh (Nat.le_refl _)
 ·have e:cenv.cells.lookup y=some c:=e
  rcases mem e with ⟨h1,_⟩|⟨h1,_⟩
  ·exact I.cR y c h1
  ·exact I.aj.fresh (Nat.le_of_succ_le h1)
 ·exact absurd (show p∈([]:List (Addr×Obj))++ [] from hp) (by simp)
theorem Am {E:Value→Shared→Prop} {D:Addr} {xs:List V} {y:V} {v:Value} {Q:Value→Shared→Prop} (I:Inv X pins σ H s) (hD:H D=some (.lst xs)) (hz:xs.length<sizeLine) (r:RelV y v)
  (h: ∀s',Inv X pins σ (upd H D (.lst (xs++ [y]))) s'→Q .none s'):wpAny (model X.prog X.w) X.A (call (.builtin "list.append") [.ref D,v]) Q E s:=by
 obtain ⟨hz',its,n,ri,e⟩:=I.aj D _ hD
 have hl:=ri.length
 refine append_at (hsz:=by rw[List.size_toArray];omega) e fun h' sb ho'=>?_
 refine h {s with heap:=h'} (I.write (t':=s.toks) (by rw[hD];trivial) (.inl rfl) (fun b u hb q=>(sb.2 b hb).trans q) ⟨_,ho'⟩ ⟨by rw[List.length_append];exact hz,its++ [v],n+1,ri.append (.cons r .nil),?_⟩)
 rw[ho']
 simp
def gZ (X:Cx) (ifs:List Expr) (t:TT):Prop:=
 ∀(pins:List (Addr×Obj)) (s:Shared) (σ:St) (H:Hp) (Q:Bool→Hp→Prop),Inv X pins σ H s→t σ H Q→
  wpAny (model X.prog X.w) X.A (forIn ifs true fun c r=>if r=true then do let ok←isTrue c X.env (eval c X.env);pure (ForInStep.yield ok) else pure (ForInStep.yield r)) (TP X pins σ Q) X.xe s
def jk:TT:=fun _ H Q=>Q true H
theorem e9:gZ X [] jk:=fun _ _ _ H _ I h=>wpAny_tests_nil ⟨H,I,h⟩
end
theorem fT {α:Type} {t:Sem α} {Q Q':α→Shared→Prop} {M:Model} {A:Around} {E:Value→Shared→Prop} {s:Shared} (h:wpAny M A t Q (fun _ _=>False) s) (hQ: ∀a s,Q a s→Q' a s):wpAny M A t Q' E s:=wpAny_mono h hQ fun _ _ z=>False.elim z
theorem xp {prog:Program} {w:World} {A:Around} {R:Result→Shared→Prop} {s:Shared} {elt target iter:Expr} {ifs:List Expr} {scope:Scope} {pos:Pos} {it acc:Value} {env:Env} (I:Nat→Shared→Prop)
  (turn: ∀n s,I n s→wpAny (model prog w) A (pyNext it) (fun r s₁=>match r with
   |none=>R (.ok .next) s₁
   |some v=>wpAny (model prog w) A (letOwnedTupleGo target it v) (fun _ s₁'=>wpAny (model prog w) A (assign target env v) (fun _ s₂=>
     wpAny (model prog w) A (forIn ifs true fun c r=>if r=true then do let ok←isTrue c env (eval c env);pure (ForInStep.yield ok) else pure (ForInStep.yield r)) (fun ok s₃=>
      if ok=true then wpAny (model prog w) A (eval elt env) (fun x s₄=>
       wpAny (model prog w) A (call (.builtin "list.append") [acc,x]) (fun _ s₅=> ∃m,m<n∧I m s₅) (notedBy (model prog w) A env fun e s'=>R (.error e) s') s₄) (notedBy (model prog w) A env fun e s'=>R (.error e) s') s₃
      else∃m,m<n∧I m s₃) (notedBy (model prog w) A env fun e s'=>R (.error e) s') s₂) (notedBy (model prog w) A env fun e s'=>R (.error e) s') s₁') (notedBy (model prog w) A env fun e s'=>R (.error e) s') s₁) (notedBy (model prog w) A env fun e s'=>R (.error e) s') s)
  (n:Nat) (h:I n s):
  codeAny (model prog w) A (.compLoop (.ListComp elt [⟨target,iter,ifs,0⟩] scope pos) 0 it acc env) R s:=by
 refine codeAny_loop rfl I (fun n s hI=>?_) n h
 show wpAny _ A ((compTurn (.ListComp elt [⟨target,iter,ifs,0⟩] scope pos) 0 it acc env).onRaise (fun x=>do noteFrame x env;theTreesLotGoes x)) _ _ s
 refine wpAny_noted ?_
 rw[compTurn_list]
 refine wpAny_bind (wpAny_standAt (wpAny_bind (wpAny_mono (turn n s hI) (fun r s₁ h₁=>?_) fun _ _ h'=>h')))
 cases r with
 |none=>exact wpAny_pure h₁
 |some v=>
  refine wpAny_bind (wpAny_mono h₁ (fun _ s₁' h₁'=>?_) fun _ _ h'=>h')
  refine wpAny_bind (wpAny_mono h₁' (fun _ s₂ h₂=>wpAny_bind (wpAny_mono h₂ (fun ok s₃ h₃=>?_) fun _ _ h'=>h')) fun _ _ h'=>h')
  cases ok with
  |false=>exact wpAny_pure ⟨rfl,h₃⟩
  |true=>
   exact wpAny_bind (wpAny_bind (wpAny_mono h₃ (fun x s₄ h₄=>wpAny_bind (wpAny_mono h₄ (fun _ s₅ h₅=>wpAny_pure (wpAny_pure ⟨rfl,h₅⟩)) fun _ _ h'=>h')) fun _ _ h'=>h'))
section
variable {X:Cx}
def fV (wi:TI) (g:TG) (tt:TT) (te:TE) (vs:List Nat):TE:=fun σ H Q=>wi σ H fun J H1=> ∀D,H1 D=none→ ∃W:Nat→Nat→Hp→Prop,(∃m,W 0 m (upd H1 D (.lst [])))∧ ∀i m H,W i m H→
 (J.stop i H∧Q (.ref D) H)∨(J.go i H∧ ∃Nx:Hp→Prop,(∀H',Nx H'→ ∃m',m'<m∧W (i+1) m' H')∧ ∀x H',J.dS i H x H'→g x (wipe σ vs) H' fun σ2 H2=>wipe σ2 vs=wipe σ vs∧tt σ2 H2 fun b H3=>
  if b=true then te σ2 H3 fun y H4=> ∃acc,H4 D=some (.lst acc)∧acc.length<sizeLine∧Nx (upd H4 D (.lst (acc++ [y]))) else Nx H3)
theorem yf {pins:List (Addr×Obj)} {s:Shared} {σ:St} {H:Hp} {Q:VK} {elt tg iter:Expr} {ifs:List Expr} {scope:Scope} {own:List (Str×Nat)} {pos pos':Pos} {wi:TI} {g:TG} {tt:TT} {te:TE} {use:Option (Value→Sem Unit)} {Qf:Value→Shared→Prop}
  (hc:X.calm=true) (hN:X.N.Nodup) (I:Inv X pins σ H s) (hi:PI X tg iter wi) (ok:gz X.N X.env.scope scope own)
  (hg: ∀(s:Shared) (H:Hp) (C:Addr) (cl:List (Str×Addr)) (fp:List Addr),PG (X.bb s H scope (compEnvC scope cl C X.env) fp) tg g) (ht: ∀(s:Shared) (H:Hp) (C:Addr) (cl:List (Str×Addr)) (fp:List Addr),gZ (X.bb s H scope (compEnvC scope cl C X.env) fp) ifs tt)
  (he: ∀(s:Shared) (H:Hp) (C:Addr) (cl:List (Str×Addr)) (fp:List Addr),PE (X.bb s H scope (compEnvC scope cl C X.env) fp) elt te) (hs: ∀x,foldedSetIterable iter X.env x=pure x)
  (h:fV wi g tt te (own.map (·.2)) σ H Q)
  (hRR: ∀D C s' m H',Inv X pins σ H' s'→Q (.ref D) H'→s'.heap.Ns C m→cZ X pins H' C→compPost (model X.prog X.w) X.A X.xe use Qf (.ref D) C (.ok .next) s'):
  wpAny (model X.prog X.w) X.A (comprehension (.ListComp elt [⟨tg,iter,ifs,0⟩] scope pos) scope X.env pos' (newList []) false (eval iter X.env) use) Qf X.xe s:=by
 have hfree: ∀y∈scope.names,y.2= .free→ ∃c,X.env.cells.lookup y.1=some c:=fun y hy e=>by
  rcases ok.free y hy e with k|k
  ·exact I.ok.has _ (.inl k)
  ·exact I.ok.has _ (.inr k)
 refine wpAny_comprehension_free (use:=use) rfl hs (yZ hfree) ok.kind (fun y hy e=>by rw[ok.uniq y hy,e])
  (aA (hi pins s σ H _ I h) fun xv s1 hx=>aA hx fun itv s2 h2=>?_)
 obtain ⟨it,fp,tn,J,H2,e,I2,T,st2,f2,q⟩:=h2
 subst e
 refine wpAny_newObj_type (xw ?_) (by show 0≤sizeLine;decide)
 generalize hD:s2.heap.objs.size=D
 have hDn:H2 D=none:=I2.aj.fresh (Nat.le_of_eq hD)
 obtain ⟨W,⟨m0,w0⟩,turn⟩:=q D hDn
 generalize hs3:({s2 with heap:=s2.heap.push {cls:= .type "list",data:= .seq ([]:List Value).toArray}}:Shared)=s3
 have I3:Inv X pins σ (upd H2 D (.lst [])) s3:=by
  rw[←hs3]
  refine I2.laid (t':=s2.toks) (fun b o e=>Heap.get?_push_of_some _ e) (Nat.le_of_eq hD) ⟨Nat.zero_le _, [],0, .nil,?_⟩
  rw[←hD]
  exact Heap.get?_push_size _ rfl
 have h3:s3.heap=s2.heap.push {cls:= .type "list",data:= .seq ([]:List Value).toArray}:=by rw[←hs3]
 have sz: ∀b∈fp,b<s2.heap.objs.size:=fun b hb=>by
  obtain ⟨o,e,_⟩:=T.obj _ _ st2 b hb
  exact Heap.lt_size e
 have f3: ∀b∈fp,cZ X pins (upd H2 D (.lst [])) b∧b<s3.heap.objs.size:=fun b hb=>by
  have hlt:=sz b hb
  refine ⟨⟨?_,(f2 b hb).2⟩,by rw[h3,Heap.size_push];exact Nat.lt_succ_of_lt hlt⟩
  rw[aB (by rw[←hD];exact Nat.ne_of_lt hlt)]
  exact (f2 b hb).1
 have st3:tn 0 s3.heap:=T.keep _ _ _ st2 fun b _ o e=>by rw[h3];exact Heap.get?_push_of_some _ e
 have I4:=wW I3 ok hN f3
 have pg:=hg s3 (upd H2 D (.lst [])) s3.heap.objs.size (cellsFrom (s3.heap.objs.size+1) scope.names (bJ X.env.cells scope.names [])) fp
 have pt:=ht s3 (upd H2 D (.lst [])) s3.heap.objs.size (cellsFrom (s3.heap.objs.size+1) scope.names (bJ X.env.cells scope.names [])) fp
 have pe:=he s3 (upd H2 D (.lst [])) s3.heap.objs.size (cellsFrom (s3.heap.objs.size+1) scope.names (bJ X.env.cells scope.names [])) fp
 show codeAny _ _ (.compStart (.ListComp elt [⟨tg,iter,ifs,0⟩] scope pos) 0 (.ref it) (.ref D) (compEnvC scope (cellsFrom (s3.heap.objs.size+1) scope.names (bJ X.env.cells scope.names [])) s3.heap.objs.size X.env)) (compPost (model X.prog X.w) X.A X.xe use Qf (.ref D) s3.heap.objs.size) {s3 with heap:=pushCells (s3.heap.push {cls:= .type "dict",data:= .dict #[]}) scope.names}
 have nfp: ∀b∈fp,(upd H2 D (.lst [])) b=none:=fun b hb=>(f3 b hb).1.1
 generalize hce:compEnvC scope (cellsFrom (s3.heap.objs.size+1) scope.names (bJ X.env.cells scope.names [])) s3.heap.objs.size X.env=ce at I4 pg pt pe⊢
 have cL:ce.locals=s3.heap.objs.size:=by subst hce;rfl
 generalize hH3:upd H2 D (.lst [])=H3 at I3 I4 pg pt pe w0 nfp f3
 generalize hs4:({s3 with heap:=pushCells (s3.heap.push {cls:= .type "dict",data:= .dict #[]}) scope.names}:Shared)=s4 at I4⊢
 have st4:tn 0 s4.heap:=T.keep _ _ _ st3 fun b _ o e=>by rw[←hs4];exact pushCells_keeps _ _ _ _ (Heap.get?_push_of_some _ e)
 have stat: ∀{σ':St} {H':Hp} {s':Shared},Inv (X.bb s3 H3 scope ce fp) [] σ' H' s'→(∀b∈fp,H' b=none)→ ∀b∈fp,cZ (X.bb s3 H3 scope ce fp) [] H' b:=fun {σ' H' s'} I' hn b hb=>
  ⟨hn b hb,(I'.ok.fL b hb).1,I'.ok.fM b hb, .inl hb,fun x c e=>(I'.ok.fL b hb).2 x c e,fun p hp=>absurd (show p∈([]:List (Addr×Obj))++ [] from hp) (by simp)⟩
 have loop:codeAny (model X.prog X.w) X.A (.compLoop (.ListComp elt [⟨tg,iter,ifs,0⟩] scope pos) 0 (.ref it) (.ref D) ce) (compPost (model X.prog X.w) X.A X.xe use Qf (.ref D) s3.heap.objs.size) s4:=by
  refine xp (fun n s'=> ∃i H',Inv (X.bb s3 H3 scope ce fp) [] (wipe σ (own.map (·.2))) H' s'∧tn i s'.heap∧(∀b∈fp,H' b=none)∧W i n H') ?_ m0 ⟨0,H3,I4,st4,nfp,w0⟩
  rintro n s5 ⟨i,H5,I5,st5,n5,w5⟩
  rcases turn i n H5 w5 with ⟨stop,qq⟩|⟨go,Nx,hNx,step⟩
  ·have td:=T.done (X.bb s3 H3 scope ce fp) rfl rfl rfl hc i [] s5 _ H5 (fun _ _=>False) I5 (stat I5 n5) st5 stop
   refine fT td fun r s6 ⟨hr,I6⟩=>?_
   subst hr
   have I7:Inv X pins σ H5 s6:=I3.gS (ch:=fp) I6.os I6.base I6.aj I6.bare fun b hb=>⟨(f3 b hb).1.2.2.2.1,(f3 b hb).1.2.1,(f3 b hb).1.2.2.2.2.1,(f3 b hb).1.2.2.2.2.2⟩
   have nC:H5 s3.heap.objs.size=none:=by
    have z:H5 ce.locals=none:=I6.free
    rw[cL] at z
    exact z
   obtain ⟨m,hn,_⟩:=I6.loc
   have hn:s6.heap.Ns ce.locals m:=hn
   rw[cL] at hn
   exact hRR D s3.heap.objs.size s6 m H5 I7 qq hn (I3.gB (Nat.le_refl _) nC)
  ·have ti:=T.item (X.bb s3 H3 scope ce fp) rfl rfl rfl hc i [] s5 _ H5 (fun _ _=>False) I5 (stat I5 n5) st5 go
   refine fT ti fun r s6 ⟨u,hr,h6⟩=>?_
   subst hr
   refine fT h6 fun _ s7 ⟨x,H7,I7,r7,y7,st7,n7⟩=>?_
   have I7':=I7.pinned (stat I7 n7) (T.obj _ _ st7)
   refine fT (pg _ s7 _ H7 x u _ I7' r7 (step x H7 y7)) fun _ s8 ⟨σ8,H8,I8,hw8,q8⟩=>?_
   refine fT (pt _ s8 σ8 H8 _ I8 q8) fun b s9 ⟨H9,I9,q9⟩=>?_
   have fin: ∀{s':Shared} {H':Hp},Inv (X.bb s3 H3 scope ce fp) ([]++jA fp s7.heap) σ8 H' s'→Nx H'→ ∃m,m<n∧ ∃i H',Inv (X.bb s3 H3 scope ce fp) [] (wipe σ (own.map (·.2))) H' s'∧tn i s'.heap∧(∀b∈fp,H' b=none)∧W i m H':=fun {s' H'} I' nx=>by
    obtain ⟨m',hm,w'⟩:=hNx H' nx
    have pin': ∀b∈fp,∀o,s7.heap.get? b=some o→s'.heap.get? b=some o∧H' b=none:=fun b hb o e=>
     let z:=I'.pin (b,o) (List.mem_append_right _ (List.mem_append_right _ (o8 hb e)))
     ⟨z.1,z.2.1⟩
    have hl:(wipe σ (own.map (·.2))).length=σ8.length:=by rw[←hw8,oh]
    refine ⟨m',hm,i+1,H',(I'.nj (pins:= [])).weak hl (fun j v e=>?_),T.keep _ _ _ st7 fun b hb o e=>(pin' b hb o e).1,fun b hb=>?_,w'⟩
    ·rw[←hw8] at e
     exact (oW e).1
    ·obtain ⟨o,e,_⟩:=T.obj _ _ st7 b hb
     exact (pin' b hb o e).2
   cases b with
   |false=>
    simp only [Bool.false_eq_true,if_false] at q9⊢
    exact fin I9 q9
   |true=>
    simp only [if_true] at q9⊢
    refine fT (pe _ s9 σ8 H9 _ I9 q9) fun z s10 ⟨yv,H10,I10,r10,acc,hD10,hz10,nx⟩=>?_
    exact Am (X:=X.bb s3 H3 scope ce fp) I10 hD10 hz10 r10 fun s11 I11=>fin I11 nx
 exact codeAny_compStart_list loop (T.self X.A 0 _ _ _ st4 loop)
theorem iz {elt tg iter:Expr} {ifs:List Expr} {scope:Scope} {own:List (Str×Nat)} {pos:Pos} {wi:TI} {g:TG} {tt:TT} {te:TE} (hc:X.calm=true) (hN:X.N.Nodup) (hi:PI X tg iter wi) (ok:gz X.N X.env.scope scope own)
  (hg: ∀(s:Shared) (H:Hp) (C:Addr) (cl:List (Str×Addr)) (fp:List Addr),PG (X.bb s H scope (compEnvC scope cl C X.env) fp) tg g) (ht: ∀(s:Shared) (H:Hp) (C:Addr) (cl:List (Str×Addr)) (fp:List Addr),gZ (X.bb s H scope (compEnvC scope cl C X.env) fp) ifs tt)
  (he: ∀(s:Shared) (H:Hp) (C:Addr) (cl:List (Str×Addr)) (fp:List Addr),PE (X.bb s H scope (compEnvC scope cl C X.env) fp) elt te) (hs: ∀x,foldedSetIterable iter X.env x=pure x:=by intro _;rfl):
  PE X (.ListComp elt [⟨tg,iter,ifs,0⟩] scope pos) (fV wi g tt te (own.map (·.2))):=by
 intro pins s σ H Q I h
 rw[eval_ListComp]
 refine yf hc hN I hi ok hg ht he hs h fun D C s' m H' I' q hn f=>⟨m,hn,fun h'' sb=>?_⟩
 obtain ⟨f0,f1,f2,f3,f4,f5⟩:=f
 exact ⟨.ref D,H',I'.turned (t':=s'.toks) (fun b o hb e=>(sb.2 b hb).trans e) f0 f1 f3 f4 f5,rfl,q⟩
theorem Gx {i:Nat} {y:Str} {py:Pos} {elt tg iter:Expr} {ifs:List Expr} {scope:Scope} {own:List (Str×Nat)} {pos spos:Pos} {wi:TI} {g:TG} {tt:TT} {te:TE} (hc:X.calm=true) (hN:X.N.Nodup) (hy:X.N[i]?=some y) (hyl:X.env.scope.names.lookup y=some .local)
  (hsw:swapsWith (.ListComp elt [⟨tg,iter,ifs,0⟩] scope pos) (some (.Name y py)) spos.line X.env=pure true) (hi:PI X tg iter wi) (ok:gz X.N X.env.scope scope own)
  (hg: ∀(s:Shared) (H:Hp) (C:Addr) (cl:List (Str×Addr)) (fp:List Addr),PG (X.bb s H scope (compEnvC scope cl C X.env) fp) tg g) (ht: ∀(s:Shared) (H:Hp) (C:Addr) (cl:List (Str×Addr)) (fp:List Addr),gZ (X.bb s H scope (compEnvC scope cl C X.env) fp) ifs tt)
  (he: ∀(s:Shared) (H:Hp) (C:Addr) (cl:List (Str×Addr)) (fp:List Addr),PE (X.bb s H scope (compEnvC scope cl C X.env) fp) elt te) (hs: ∀x,foldedSetIterable iter X.env x=pure x:=by intro _;rfl):
  PS X (.Assign [.Name y py] (.ListComp elt [⟨tg,iter,ifs,0⟩] scope pos) spos) (om (fV wi g tt te (own.map (·.2))) (gA i)):=by
 intro pins s σ H D I h
 rw[exec_Assign_Name_used _ _ _ _ hsw]
 refine wpAny_bind (wpAny_standAt (wpAny_bind ?_))
 show wpAny _ X.A (do let _←comprehension (.ListComp elt [⟨tg,iter,ifs,0⟩] scope pos) scope X.env (firstIterPos [⟨tg,iter,ifs,0⟩] pos) (newList []) false (eval iter X.env) (some (assign (.Name y py) X.env))) _ _ s
 have h:fV wi g tt te (own.map (·.2)) σ H (fun x H1=>gA i x σ H1 D.nx):=h
 refine wpAny_bind (aA (yf (Qf:=fun _ s'=>SP X pins D .next s') hc hN I hi ok hg ht he hs h fun L C s' m H' I' q hn f=>?_) fun _ s' hq=>wpAny_pure (wpAny_pure hq))
 show wpAny _ _ (assign (.Name y py) X.env (.ref L)) _ _ _
 refine wpAny_assign_Name (so (v:=V.ref L) I' hN hy (.inl hyl) rfl (fun s2 I2 ⟨a,sb,ha⟩=>?_) (.inr hyl))
 obtain ⟨f0,f1,f2,f3,f4,f5⟩:=f
 have haC:C≠a:=by
  rcases ha with z|z
  ·rw[z];exact f1
  ·exact fun e=>f4 y a z e.symm
 refine ⟨m,hn.sameBut sb haC,fun h3 sb3=>?_⟩
 exact ⟨_,H',I2.turned (t':=s2.toks) (fun b o hb e=>(sb3.2 b hb).trans e) f0 f1 f3 f4 f5,q⟩
end
def vn (N:List Str) (sc scope:Scope) (own:List (Str×Nat)):Bool:=
 (match scope.kind with| .function=>true|_=>false)&&(scope.names.all fun y=>decide (scope.names.lookup y.1=some y.2))&&(own.all fun p=>decide (N[p.2]?=some p.1))&&
  (scope.names.all fun y=>match y.2 with
   | .free=>(match sc.names.lookup y.1 with|some .cell=>true|some .free=>true|_=>false)
   | .local=>decide (y.1∈own.map (·.1))||decide (y.1∉N)
   | .cell=>decide (y.1∈own.map (·.1))||decide (y.1∉N)
   |_=>true)
theorem fc {N:List Str} {sc scope:Scope} {own:List (Str×Nat)} (h:vn N sc scope own=true):gz N sc scope own:=by
 unfold vn at h
 simp only [Bool.and_eq_true,List.all_eq_true,decide_eq_true_eq] at h
 obtain ⟨⟨⟨h1,h2⟩,h3⟩,h4⟩:=h
 refine ⟨?_,h2,h3,fun y hy e=>?_,fun y hy e=>?_⟩
 ·split at h1
  ·assumption
  ·cases h1
 ·have q:=h4 y hy
  simp only [e] at q
  split at q<;>first|exact .inl (by assumption)|exact .inr (by assumption)|cases q
 ·have q:=h4 y hy
  rcases e with e|e<;>(simp only [e,Bool.or_eq_true,decide_eq_true_eq] at q;exact q)
end L2
namespace L2
open PySem PySem.Spec PyProof.Rows
section
variable {prog:Program} {w:World} {A:Around} {R:Result→Shared→Prop} {s:Shared} {elt t0 i0 t1 i1:Expr} {ifs0 ifs1:List Expr} {scope:Scope} {pos:Pos} {it acc:Value} {env:Env}
end
section
variable {X:Cx}
end
end L2
namespace L2
open PySem PySem.Spec PyProof.Rows
section
variable {κ:Type} [DecidableEq κ]
end
section
variable {P:Program} {w:World} {H:Hp} {h:Heap} {a:Addr}
end
section
variable {X:Cx} {pins:List (Addr×Obj)} {σ:St} {H:Hp} {s:Shared} {a:Addr} {y v:V} {u r:Value} {o:Option V} {A:Around} {E:Value→Shared→Prop}
end
section
variable {X:Cx} {pins:List (Addr×Obj)} {σ:St} {H:Hp} {s:Shared} {a:Addr} {kvs:List (Key×V)} {k:Key} {u:Value} {A:Around} {E:Value→Shared→Prop}
end
section
variable {X:Cx} {o i e value:Expr} {pos pos' tpos:Pos} {td ty tv:TE}
end
section
variable {X:Cx} {pos:Pos}
end
section
variable {X:Cx} {pins:List (Addr×Obj)} {σ:St} {H:Hp} {s:Shared} {a:Addr} {y d:V} {u r:Value} {o:Option V} {A:Around} {E:Value→Shared→Prop}
end
section
variable {X:Cx} {o e f:Expr} {apos cpos:Pos} {td ty tx:TE}
end
section
variable {X:Cx} {pins:List (Addr×Obj)} {σ:St} {H:Hp} {s:Shared} {a:Addr} {kvs:List (Key×V)} {A:Around} {E:Value→Shared→Prop}
end
section
variable {X:Cx} {pins:List (Addr×Obj)} {σ:St} {H:Hp} {s:Shared} {a:Addr} {y:V} {u:Value} {A:Around} {E:Value→Shared→Prop}
end
end L2
namespace L2
open PySem PySem.Spec PyProof.Rows
section
variable {prog:Program} {w:World} {A:Around} {E:Value→Shared→Prop}
end
section
variable {X:Cx}
end
end L2
namespace L2
open PySem PySem.Spec PyProof.Rows
section
variable {X:Cx} {pins:List (Addr×Obj)} {σ:St} {H:Hp} {s:Shared} {h':Heap}
theorem Inv.xC {t':Nat} {ch:List Addr} (I:Inv X pins σ H s) (k: ∀b o,b∉ch→s.heap.get? b=some o→h'.get? b=some o) (hf: ∀b∈ch,cZ X pins H b):Inv X pins σ H {s with heap:=h',toks:=t'}:=by
 have nit: ∀b u,H b=some u→b∉ch:=fun b u e z=>by
  have q:=(hf b z).1
  rw[q] at e;cases e
 refine I.step (g':=s.gens) (d':=s.drawn) (ch:=ch) (fun b hb=>⟨(hf b hb).2.2.2.1,(hf b hb).2.1,(hf b hb).2.2.2.2.1,(hf b hb).2.2.2.2.2⟩) (fun b o _ _ hc e _=>k b o hc e) (fun b o _ _ hc e _=>⟨o.slots,k b o hc e⟩)
  (fun _ _ _ _ n=>n) (fun b o hc e=>⟨o,k b o hc e⟩) (fun _ _ e=>e) (fun _ _ _ e=>e) (fun b ps e=>⟨#[],by rw[e];simp⟩) (fun m hm=>?_) (fun b u e=>?_) I.bare
 ·obtain ⟨o,es,ep,ho,r⟩:=hm
  exact ⟨o,es,ep,k _ o (fun z=>(hf _ z).2.1 rfl) ho,r⟩
 ·refine (I.aj b u e).d4 (fun c v hc q=>k c v ?_ q) (fun _ q=>q) fun _ _ q=>q
  rcases hc with z|z
  ·rw[z];exact nit b u e
  ·exact nit c _ z
theorem Inv.xP {t':Nat} {ch:List Addr} {T:Addr} {ob:HO} (I:Inv X pins σ H s) (k: ∀b o,b∉ch→s.heap.get? b=some o→h'.get? b=some o) (hf: ∀b∈ch,cZ X pins H b) (hT:s.heap.objs.size≤T)
  (new:cj X.prog X.w (upd H T ob) h' T ob):Inv X pins σ (upd H T ob) {s with heap:=h',toks:=t'}:=by
 have hn:H T=none:=I.aj.fresh hT
 have nit: ∀b u,H b=some u→b∉ch:=fun b u e z=>by
  have q:=(hf b z).1
  rw[q] at e;cases e
 refine I.step (g':=s.gens) (d':=s.drawn) (ch:=ch) (fun b hb=>⟨(hf b hb).2.2.2.1,(hf b hb).2.1,(hf b hb).2.2.2.2.1,(hf b hb).2.2.2.2.2⟩) (fun b o _ _ hc e _=>k b o hc e) (fun b o _ _ hc e _=>⟨o.slots,k b o hc e⟩)
  (fun b o _ e n=>?_) (fun b o hc e=>⟨o,k b o hc e⟩) (fun b xs e=>?_) (fun b o u e=>?_) (fun b ps e=>⟨#[],?_⟩) (fun m hm=>?_) (fun b u e=>?_) I.bare
 ·rw[aB (Nat.ne_of_lt (Nat.lt_of_lt_of_le (Heap.lt_size e) hT))];exact n
 ·rw[aB (b6 e hn)];exact e
 ·rw[aB (b6 e hn)];exact e
 ·rw[aB (b6 e hn),e];simp
 ·obtain ⟨o,es,ep,ho,r⟩:=hm
  exact ⟨o,es,ep,k _ o (fun z=>(hf _ z).2.1 rfl) ho,r⟩
 ·by_cases hb:b=T
  ·subst hb
   rw[ao] at e
   cases e
   exact new
  ·rw[aB hb] at e
   refine (I.aj b u e).d4 (fun c v hc q=>k c v ?_ q) (fun c q=>by rw[aB (b6 q hn)];exact q) fun c xs q=>by rw[aB (b6 q hn)];exact q
   rcases hc with z|z
   ·rw[z];exact nit b u e
   ·exact nit c _ z
end
section
variable {X:Cx}
end
section
variable {X:Cx} {tg:Expr}
end
section
variable {X:Cx} {tg:Expr}
end
section
variable {prog:Program} {w:World} {A:Around} {E:Value→Shared→Prop} {s:Shared}
end
section
variable {X:Cx} {pins:List (Addr×Obj)} {σ:St} {H:Hp} {s:Shared} {d:Addr} {o:Obj}
end
section
variable {P:Program} {w:World} {K:PySem.W.Frag} {tg:Expr} {d:Addr} {o:Obj} {es:Array DictEntry} {ep:Nat}
end
section
variable {X:Cx} {tg e:Expr} {td:TE} {apos cpos:Pos}
end
theorem x5:bootBuiltins "zip" =some (.type "zip"):=by decide+kernel
def tG (K:PySem.W.Frag) (a b:Addr):It:=
 ⟨fun i H=> ∃(xs ys:List V) (x y:V),ai K H a xs∧ai K H b ys∧xs[i]?=some x∧ys[i]?=some y,
  fun i H v H'=> ∃T x y,v= .ref T∧H T=none∧H'=upd H T (.tup [x,y])∧(∀xs,ai K H a xs→xs[i]?=some x)∧ ∀ys,ai K H b ys→ys[i]?=some y,
  fun i H=> ∃xs ys:List V,ai K H a xs∧ai K H b ys∧(xs.length≤i∨ys.length≤i)⟩
theorem Jd {P:Program} {w:World} {K:PySem.W.Frag} {elts:List Expr} {kk:Nat} {tpos:Pos} {a b z TI TO i1 i2:Addr} (D:ZipApart z TI TO i1 i2 a b):
  Turn P w K (.Tuple elts kk tpos) (tG K a b) [z,TI,TO,i1,i2] z (fun i h=>IsZip h z TI TO .none∧IsPair h TI (.ref i1) (.ref i2)∧(∃x y,IsPair h TO x y)∧h.IsListIter i1 a i∧h.IsListIter i2 b i) where
 mem:=by simp
 obj:=fun i h st c hc=>by
  obtain ⟨hz,hTI,⟨x,y,hTO⟩,⟨o1,e1,_,d1⟩,⟨o2,e2,_,d2⟩⟩:=st
  have e':c=z∨c=TI∨c=TO∨c=i1∨c=i2:=by simpa using hc
  rcases e' with q|q|q|q|q
  ·rw[q];exact ⟨_,hz,fun v q=>nomatch q⟩
  ·rw[q];exact ⟨_,hTI,fun v q=>nomatch q⟩
  ·rw[q];exact ⟨_,hTO,fun v q=>nomatch q⟩
  ·rw[q];exact ⟨o1,e1,fun v q=>by rw[d1] at q;cases q⟩
  ·rw[q];exact ⟨o2,e2,fun v q=>by rw[d2] at q;cases q⟩
 keep:=fun i h h' st k=>by
  obtain ⟨hz,hTI,⟨x,y,hTO⟩,h1,h2⟩:=st
  exact ⟨k z (by simp) _ hz,k TI (by simp) _ hTI,⟨x,y,k TO (by simp) _ hTO⟩,h1.at fun o q=>k i1 (by simp) o q,h2.at fun o q=>k i2 (by simp) o q⟩
 item:=by
  intro X hP hw hK hc i pins s σ H E I hf st hg
  subst hP hw hK
  obtain ⟨hz,hTI,⟨x0,y0,hTO⟩,h1,h2⟩:=st
  obtain ⟨xs,ys,x,y,hqx,hqy,hx,hy⟩:=hg
  obtain ⟨its,rv,p,_⟩:=I.list hqx
  obtain ⟨its2,rv2,p2,_⟩:=I.list hqy
  obtain ⟨u,hu,ru⟩:=rv.get hx
  obtain ⟨u2,hu2,ru2⟩:=rv2.get hy
  have hzl:z<s.heap.objs.size:=Heap.lt_size hz
  refine wpAny_pyNext_zip_item D hz hTI hTO h1 h2 p.isList p2.isList (x:=u) (y:=u2) (by simpa using hu) (by simpa using hu2) fun h' z' TO' h1' h2' hT hsz hk=>?_
  refine ⟨_,rfl,wpAny_letOwnedTupleGo_zip (s:={s with heap:=h'}) z' fun h'' z'' sb=>?_⟩
  have hT2:h''.get? s.heap.objs.size=some {cls:= .type "tuple",data:= .seq #[u,u2]}:=(sb.2 _ (Nat.ne_of_gt hzl)).trans hT
  have new:cj X.prog X.w (upd H s.heap.objs.size (.tup [x,y])) h'' s.heap.objs.size (.tup [x,y]):=
   ⟨by show 2≤sizeLine;decide, [u,u2], .cons ru (.cons ru2 .nil),⟨_,hT2,rfl,_,rfl⟩⟩
  have I1:Inv X pins σ (upd H s.heap.objs.size (.tup [x,y])) {s with heap:=h''}:=
   I.xP (t':=s.toks) (ch:= [z,TI,TO,i1,i2]) (fun c o hb q=>(sb.2 c (fun q'=>hb (by simp [q']))).trans (hk c o (fun q'=>hb (by simp [q'])) (fun q'=>hb (by simp [q'])) (fun q'=>hb (by simp [q'])) (fun q'=>hb (by simp [q'])) q)) hf (Nat.le_refl _) new
  refine ⟨.ref s.heap.objs.size,_,I1,rfl,⟨_,x,y,rfl,I.aj.fresh (Nat.le_refl _),rfl,fun l hl=>by rw[I.p9 hl hqx];exact hx,fun l hl=>by rw[I.p9 hl hqy];exact hy⟩,⟨z'',?_,⟨u,u2,?_⟩,?_,?_⟩,fun c hcm=>?_⟩
  ·exact (sb.2 _ D.TIz).trans (hk _ _ D.TIz D.TITO D.TIi1 D.TIi2 hTI)
  ·exact (sb.2 _ D.TOz).trans TO'
  ·exact h1'.at fun o q=>(sb.2 _ D.i1z).trans q
  ·exact h2'.at fun o q=>(sb.2 _ D.i2z).trans q
  ·have hlt:c<s.heap.objs.size:=by
    have e':c=z∨c=TI∨c=TO∨c=i1∨c=i2:=by simpa using hcm
    rcases e' with q|q|q|q|q
    ·rw[q];exact hzl
    ·rw[q];exact Heap.lt_size hTI
    ·rw[q];exact Heap.lt_size hTO
    ·rw[q];obtain ⟨_,e1,_⟩:=h1;exact Heap.lt_size e1
    ·rw[q];obtain ⟨_,e2,_⟩:=h2;exact Heap.lt_size e2
   rw[aB (Nat.ne_of_lt hlt)]
   exact (hf c hcm).1
 done:=by
  intro X hP hw hK hc i pins s σ H E I hf st hg
  subst hP hw hK
  obtain ⟨hz,hTI,⟨x0,y0,hTO⟩,h1,h2⟩:=st
  obtain ⟨xs,ys,hqx,hqy,hend⟩:=hg
  obtain ⟨its,rv,p,_⟩:=I.list hqx
  obtain ⟨its2,rv2,p2,_⟩:=I.list hqy
  have l1:=rv.length
  have l2:=rv2.length
  have he:its.toArray[i]?=none∨its2.toArray[i]?=none:=by
   rcases hend with q|q
   ·exact .inl (by simp;omega)
   ·exact .inr (by simp;omega)
  exact wpAny_pyNext_zip_end (I.ok.hd hc) D hz hTI hTO h1 h2 p.isList p2.isList he fun h' hk=>⟨rfl,I.xC (t':=s.toks) (ch:= [z,TI,TO,i1,i2]) (fun c o hb q=>
   hk c o (fun q'=>hb (by simp [q'])) (fun q'=>hb (by simp [q'])) (fun q'=>hb (by simp [q'])) (fun q'=>hb (by simp [q'])) q) hf⟩
 self:=fun A i s Q E st h=>wpAny_pyIter_zip st.1 h
def uV (K:PySem.W.Frag) (ta:TA):TI:=fun σ H R=>ta σ H fun vs H1=> ∃a b xs ys,vs= [.ref a, .ref b]∧ai K H1 a xs∧ai K H1 b ys∧R (tG K a b) H1
theorem JA {X:Cx} {e e2:Expr} {ta:TA} {p pos tpos:Pos} {elts:List Expr} {kk:Nat} (hg:Gl X "zip") (hm:X.mg "zip" =none) (ha:PA X [e,e2] ta)
  (hs:starEach [e,e2] X.env=(false,eval e X.env)::starEach [e2] X.env:=by rfl) (hpl:(backTo pos (starEach [e2] X.env)).any (·.1)=false:=by rfl):
  PI X (.Tuple elts kk tpos) (.Call (.Name "zip" p) [e,e2] [] pos) (uV X.K ta):=by
 intro pins s σ H R I h
 refine Call_ (jx I hg hm x5 (PyProof.Rows.callWith_type1 (aA (ha pos pins s σ H _ I h) fun us s1 ⟨vs,H1,I1,r1,q1⟩=>?_) hs hpl))
 obtain ⟨a,b,xs,ys,ex,hqx,hqy,q⟩:=q1
 subst ex
 cases r1 with
 |cons r rr=>
  cases rr with
  |cons r' rr=>
   cases rr
   cases r
   cases r'
   obtain ⟨its,rv,p1,_⟩:=I1.list hqx
   obtain ⟨its2,rv2,p2,_⟩:=I1.list hqy
   have la:a<s1.heap.objs.size:=p1.lt
   have lb:b<s1.heap.objs.size:=p2.lt
   refine call_zip_2 p1.isList p2.isList fun h' hz hTI hTO h1 h2 hsz hk=>wpAny_pyIter_zip hz ?_
   have I2:Inv X pins σ H1 {s1 with heap:=h'}:=I1.kept (t':=s1.toks) hk
   refine ⟨s1.heap.objs.size+4, [s1.heap.objs.size+4,s1.heap.objs.size+2,s1.heap.objs.size+3,s1.heap.objs.size,s1.heap.objs.size+1],_,_,H1,rfl,I2,Jd (PySem.W.ktu_apart s1.heap.objs.size a b la lb),⟨hz,hTI,⟨_,_,hTO⟩,h1,h2⟩,fun c hcm=>?_,q⟩
   have e':c=s1.heap.objs.size+4∨c=s1.heap.objs.size+2∨c=s1.heap.objs.size+3∨c=s1.heap.objs.size∨c=s1.heap.objs.size+1:=by simpa using hcm
   have hle:s1.heap.objs.size≤c:=by
    rcases e' with z|z|z|z|z
    ·rw[z];exact Nat.le_add_right _ _
    ·rw[z];exact Nat.le_add_right _ _
    ·rw[z];exact Nat.le_add_right _ _
    ·rw[z];exact Nat.le_refl _
    ·rw[z];exact Nat.le_add_right _ _
   exact I1.gB hle (I1.aj.fresh hle)
end L2
section
namespace Bits
open PySem PyProof.Rows
end Bits
end
section
namespace TL
open PySem PySem.Builtin PySem.Builtin.Str PySem.StrLaws
end TL
end
namespace L2
open PySem PySem.Spec PyProof.Rows
section
variable {X:Cx} {pins:List (Addr×Obj)} {σ:St} {H:Hp} {s:Shared} {Q:VK}
end
section
variable {X:Cx}
end
section
variable {X:Cx} {o e:Expr} {to te:TE}
end
end L2
namespace L2
open PySem PySem.Spec PyProof.Rows
section
variable {X:Cx}
end
end L2
namespace Att
open PySem PySem.W PySem.Calls PyProof.Rows
section
variable {prog:Program} {w:World} {A:Around} {E:Value→Shared→Prop} {s:Shared} {K:Frag}
end
end Att
namespace L2
open PySem PySem.Spec PyProof.Rows
end L2
namespace L2
open PySem PySem.Spec PyProof.Rows
abbrev vk {K:PySem.W.Frag} {h:Heap} (_:K.In h):PySem.W.Frag:=K
end L2
namespace L2
open PySem PySem.Spec PyProof.Rows
def inClass (s:Stmt) (j:Nat):Stmt:=match s with
 | .ClassDef _ _ _ body _ _ _ _ _ _ _=>body.getD j (.Pass ⟨0,0,0,0⟩)
 |_=> .Pass ⟨0,0,0,0⟩
def tD (s:Stmt):Arguments:=match s with
 | .FunctionDef _ a _ _ _ _ _ _ _ _=>a
 |_=>{posonlyargs:= [],args:= [],vararg:=none,kwonlyargs:= [],kw_defaults:= [],kwarg:=none,defaults:= []}
def lB (s:Stmt):List Stmt:=match s with
 | .FunctionDef _ _ b _ _ _ _ _ _ _=>b
 |_=> []
def aD (s:Stmt):Scope:=match s with
 | .FunctionDef _ _ _ _ _ _ sc _ _ _=>sc
 |_=>{kind:= .function,names:= [],isGenerator:=false,isCoroutine:=false}
abbrev bx:di:=fun _ _ _ _ _ _=>False
abbrev E0:XK:=fun _ _ _=>False
theorem bo {X:Cx}:Passes bx X E0:=fun _ _ _ _ _ _ _ h=>h.elim
structure aG (K:PySem.W.Frag) (x qual:Str) (st:Stmt) (f:Addr) (fd:FuncData):Prop where
 ex: ∃(oc:Value) (od:Option Addr) (kV doc pm:Value) (an:Option Addr) (cdv ct:Value) (osl:Array (Option Value)),
  fd=PySem.W.fnOf x qual (tD st) (lB st) (aD st) .none kV doc pm an cdv ct∧K.lookup f=some ⟨oc,od, .func fd,osl⟩∧PySem.W.codeIn K cdv qual=true
 kp:PySem.W.keepIn K (.ref f)=true
section
variable {P:Program} {w:World} {K:PySem.W.Frag} {mg:Str→Option Value} {base:Heap}
theorem aG.ok {x qual:Str} {st:Stmt} {f:Addr} {fd:FuncData} {N ps:List Str} {k:Nat} {sp:Sp} (F:aG K x qual st f fd) (S:aI N ps (aD st)) (len: ∀vs H Q E,sp vs H Q E→vs.length=ps.length)
  (hbody: ∀(cdv:Value) (A:Around) (outer:List Env) (s:Shared) (H:Hp) (vs:List V) (Q:VK) (E:XK),aC k (A.deeper (envOfC qual (aD st) s.heap.objs.size f cdv))→sp vs H Q E→
   ∃t,cc (eA bx P w K mg base N qual (aD st) f cdv A outer s H E).p8 (lB st) t∧t {nx:=fun _ H'=>Q .aq H',rt:=Q} (start N vs) H):az P w K mg base bx (k+1) f fd ps sp:=by
 obtain ⟨oc,od,kV,doc,pm,an,cdv,ct,osl,rfl,lk,hcd⟩:=F.ex
 refine zB lk hcd S len fun A outer s H vs Q E hr hsp=>?_
 obtain ⟨t,h,q⟩:=hbody cdv A outer s H vs Q E hr hsp
 exact ⟨t,h.p8,q⟩
theorem CG {x qual:Str} {st:Stmt} {f:Addr} {oc:Value} {od an:Option Addr} {osl:Array (Option Value)} {kV doc pm cdv ct:Value} (l:K.lookup f=some ⟨oc,od, .func (PySem.W.fnOf x qual (tD st) (lB st) (aD st) .none kV doc pm an cdv ct),osl⟩)
  (c:PySem.W.codeIn K cdv qual=true) (k:PySem.W.keepIn K (.ref f)=true):aG K x qual st f (PySem.W.fnOf x qual (tD st) (lB st) (aD st) .none kV doc pm an cdv ct):=⟨⟨oc,od,kV,doc,pm,an,cdv,ct,osl,rfl,l,c⟩,k⟩
end
section
variable {X:Cx}
theorem pv (i:Nat) {x:Str} {pos:Pos} (hN:X.N[i]?=some x:=by rfl) (hv:iS X.env.scope x:=by first|exact Or.inl rfl|exact Or.inr (Or.inl rfl)|exact Or.inr (Or.inr rfl)) (hd:(x==("__debug__" :Str))=false:=by decide)
  (hcd:(x==("__classdict__" :Str))=false:=by decide):PE X (.Name x pos) (eD i):=J7 hN hv hd hcd
end
theorem bw {A B:Prop} (h:B):if false=true then A else B:=by
 rw[if_neg Bool.false_ne_true]
 exact h
theorem bf {A B:Prop} (h:A):if true=true then A else B:=by
 rw[if_pos rfl]
 exact h
theorem bL {c A B:Prop} [Decidable c] (h1:c→A) (h2: ¬c→B):if c then A else B:=by
 by_cases h:c
 ·rw[if_pos h]
  exact h1 h
 ·rw[if_neg h]
  exact h2 h
def ae (H H':Hp):Prop:= ∀b o,H b=some o→H' b=some o
theorem ae.refl (H:Hp):ae H H:=fun _ _ h=>h
theorem ae.trans {H H1 H2:Hp} (a:ae H H1) (b:ae H1 H2):ae H H2:=fun c o h=>b c o (a c o h)
theorem ae.seq {K:PySem.W.Frag} {H H':Hp} {a:Addr} {xs:List V} (e:ae H H') (h:ai K H a xs):ai K H' a xs:=by
 rcases h with (h|⟨o,h⟩)|h
 ·exact .inl (.inl (e _ _ h))
 ·exact .inl (.inr ⟨o,e _ _ h⟩)
 ·exact .inr h
section
variable {κ:Type} [DecidableEq κ]
end
theorem at_of {xs:List V} {z:Int} {j:Nat} {v:V} (e:z=(j:Int)) (h:xs[j]?=some v):eH xs z=some v:=by
 rw[e]
 exact bQ h
end L2
set_option maxHeartbeats 2000000
namespace L2
open PySem PySem.Spec PyProof.Rows
open PySem.W (WData Codec OpenSpec Well WellAll ReadsW ReadsAllW)
mutual
inductive Dw (K:PySem.W.Frag) (H:Hp):V→WData→Prop
 |aq:Dw K H .aq .none
 |bl (b:Bool):Dw K H (.bl b) (.bool b)
 |int (i:Int):Dw K H (.int i) (.int i)
 |str (x:Str):Dw K H (.str x) (.str x)
 |cN (b:Array UInt8):Dw K H (.cN b) (.bytes b.toList)
 |lst {a:Addr} {xs:List V} {ds:List WData}:ai K H a xs→dR K H xs ds→Dw K H (.ref a) (.list ds)
 |tup {a:Addr} {xs:List V} {ds:List WData}:aS K H a xs→dR K H xs ds→Dw K H (.ref a) (.tuple ds)
inductive dR (K:PySem.W.Frag) (H:Hp):List V→List WData→Prop
 |nil:dR K H [] []
 |cons {v:V} {vs:List V} {d:WData} {ds:List WData}:Dw K H v d→dR K H vs ds→dR K H (v::vs) (d::ds)
end
theorem Ay {K:PySem.W.Frag} {H:Hp}: ∀ns:List Int,dR K H (ns.map V.int) (ns.map WData.int)
 | []=> .nil
 |n::r=> .cons (.int n) (Ay r)
theorem wt {K:PySem.W.Frag} {H:Hp}: ∀(ns:List Int) (xs:List V),dR K H xs (ns.map WData.int)→xs=ns.map V.int
 | [],xs,h=>by
  cases h
  rfl
 |n::r,xs,h=>by
  cases h with
  |cons h1 h2=>
   cases h1
   rw[wt r _ h2]<;>rfl
section
variable {P:Program} {w:World} {K:PySem.W.Frag} {H:Hp} {h:Heap} {R:PySem.W.WRecords} {cl:Str→Option Addr}
theorem Ij {a:Addr} {xs:List V} (aj:bE P w H h) (KX:K.In h) (q:ai K H a xs): ∃(its:List Value) (o:Obj) (n:Nat),Vals xs its∧h.get? a=some o∧o.cls= .type "list" ∧o.data= .seq its.toArray n:=by
 rcases q with q|⟨o,its,n,e,hc,_,hd,_,hv⟩
 ·obtain ⟨_,its,n,hv,e⟩:=(show cj P w H h a (.lst xs) from q.ok aj)
  exact ⟨its,_,n,hv,e,rfl,rfl⟩
 ·exact ⟨its.toList,o,n,hv,KX _ _ e,hc,by simp [hd]⟩
theorem Jy {a:Addr} {xs:List V} (aj:bE P w H h) (KX:K.In h) (q:aS K H a xs): ∃(its:List Value) (o:Obj) (n:Nat),Vals xs its∧h.get? a=some o∧o.cls= .type "tuple" ∧o.data= .seq its.toArray n:=by
 rcases q with q|⟨o,its,n,e,hc,hd,_,hv⟩
 ·obtain ⟨_,its,hv,o,e,hc,n,hd⟩:=(show cj P w H h a (.tup xs) from q.ok aj)
  exact ⟨its,o,n,hv,e,hc,hd⟩
 ·exact ⟨its.toList,o,n,hv,KX _ _ e,hc,by simp [hd]⟩
mutual
theorem Dw.reads (aj:bE P w H h) (KX:K.In h): ∀(d:WData) (v:V) (u:Value),Dw K H v d→RelV v u→ ∃as,ReadsW R cl h u d as
 | .none,_,_,x,r=>by
  cases x
  cases r
  exact ⟨_,ReadsW.none⟩
 | .bool b,_,_,x,r=>by
  cases x
  cases r
  exact ⟨_,ReadsW.bool b⟩
 | .int i,_,_,x,r=>by
  cases x
  obtain ⟨t,rfl⟩:=r
  exact ⟨_,ReadsW.int i t⟩
 | .str s,_,_,x,r=>by
  cases x
  obtain ⟨t,rfl⟩:=r
  exact ⟨_,ReadsW.str s t⟩
 | .bytes b,_,_,x,r=>by
  cases x
  obtain ⟨t,rfl⟩:=r
  exact ⟨_,ReadsW.bytes _ t⟩
 | .list ds,_,_,x,r=>by
  cases x with
  |lst hs ha=>
   cases r
   obtain ⟨its,o,n,rv,ho,hc,hd⟩:=Ij aj KX hs
   obtain ⟨as,hr⟩:=Dw.readsAll aj KX ds _ its ha rv
   exact ⟨_,ReadsW.list ho hc hd hr⟩
 | .tuple ds,_,_,x,r=>by
  cases x with
  |tup hs ha=>
   cases r
   obtain ⟨its,o,n,rv,ho,hc,hd⟩:=Jy aj KX hs
   obtain ⟨as,hr⟩:=Dw.readsAll aj KX ds _ its ha rv
   exact ⟨_,ReadsW.tuple ho hc hd hr⟩
 | .float _,_,_,x,_=>by cases x
 | .dict _,_,_,x,_=>by cases x
 | .bytearray _,_,_,x,_=>by cases x
 | .set _,_,_,x,_=>by cases x
 | .frozenset _,_,_,x,_=>by cases x
 | .obj _ _,_,_,x,_=>by cases x
theorem Dw.readsAll (aj:bE P w H h) (KX:K.In h): ∀(ds:List WData) (vs:List V) (us:List Value),dR K H vs ds→Vals vs us→ ∃as,ReadsAllW R cl h us ds as
 | [],_,_,x,r=>by
  cases x
  cases r
  exact ⟨_,ReadsAllW.nil⟩
 |d::ds,_,_,x,r=>by
  cases x with
  |cons h1 h2=>
   cases r with
   |cons r1 r2=>
    obtain ⟨as,q1⟩:=Dw.reads aj KX d _ _ h1 r1
    obtain ⟨bs,q2⟩:=Dw.readsAll aj KX ds _ _ h2 r2
    exact ⟨_,ReadsAllW.cons q1 q2⟩
end
end
mutual
def dm:WData→Bool
 | .none=>true
 | .bool _=>true
 | .int _=>true
 | .str _=>true
 | .bytes _=>true
 | .list xs=>dP xs
 | .tuple xs=>dP xs
 |_=>false
def dP:List WData→Bool
 | []=>true
 |x::r=>dm x&&dP r
end
theorem x9 {α:Type} {f:α→WData} (h: ∀a,dm (f a)=true): ∀l:List α,dP (l.map f)=true
 | []=>rfl
 |x::r=>by
  show (dm (f x)&&dP (r.map f))=true
  rw[h x,x9 h r]<;>rfl
theorem gi: ∀(c:Codec) (a:c.denote),dm (c.enc a)=true
 | .unit,_=>rfl
 | .bool,_=>rfl
 | .int _ _,_=>rfl
 | .nat _ _,_=>rfl
 | .u8,_=>rfl
 | .bytes _ _,_=>rfl
 | .text _ _ _ _,_=>rfl
 | .list _ _ c,a=>x9 (fun x=>gi c x) a
 | .pair c d,a=>by
  show (dm (c.enc a.1)&&(dm (d.enc a.2)&&true))=true
  rw[gi c a.1,gi d a.2]<;>rfl
 | .triple c d e,a=>by
  show (dm (c.enc a.1)&&(dm (d.enc a.2.1)&&(dm (e.enc a.2.2)&&true)))=true
  rw[gi c a.1,gi d a.2.1,gi e a.2.2]<;>rfl
 | .option c,none=>rfl
 | .option c,some x=>gi c x
theorem Ak: ∀(cs:List Codec) (a:Codec.denoteAll cs),dP (Codec.encAll cs a)=true
 | [],_=>rfl
 |c::cs,a=>by
  show (dm (c.enc a.1)&&dP (Codec.encAll cs a.2))=true
  rw[gi c a.1,Ak cs a.2]<;>rfl
theorem qp: ∀{xs:List WData} {d:WData},d∈xs→d.weight≤WData.weightAll xs
 | [],d,h=>absurd h (by simp)
 |x::r,d,h=>by
  show d.weight≤x.weight+1+WData.weightAll r
  rcases List.mem_cons.mp h with e|m
  ·rw[e]
   omega
  ·have z:=qp m
   omega
def toV:Value→V
 | .none=> .aq
 | .bool b=> .bl b
 | .int i _=> .int i
 | .str x _=> .str x
 | .bytes b _=> .cN b
 | .ref a=> .ref a
 |_=> .aq
def dM (A:List Addr):Value→Prop
 | .none=>True
 | .bool _=>True
 | .int _ _=>True
 | .str _ _=>True
 | .bytes _ _=>True
 | .ref a=>a∈A
 |_=>False
theorem dM.mono {A B:List Addr} (h: ∀a∈A,a∈B): ∀{u:Value},dM A u→dM B u:=fun {u} x=>by
 cases u with
 |ref a=>exact h a x
 |none=>trivial
 |bool b=>trivial
 |int i t=>trivial
 |str s t=>trivial
 |bytes b t=>trivial
 |_=>exact False.elim x
theorem Iu {A:List Addr} {u:Value} (x:dM A u):RelV (toV u) u:=by
 cases u with
 |ref a=>rfl
 |none=>rfl
 |bool b=>rfl
 |int i t=>exact ⟨t,rfl⟩
 |str s t=>exact ⟨t,rfl⟩
 |bytes b t=>exact ⟨t,rfl⟩
 |_=>exact False.elim x
theorem jb {A:List Addr}: ∀{vs:List Value},(∀u∈vs,dM A u)→Vals (vs.map toV) vs
 | [],_=> .nil
 |u::r,h=> .cons (Iu (h u (List.mem_cons_self ..))) (jb fun x hx=>h x (List.mem_cons_of_mem _ hx))
def d5 (h:Heap) (A:List Addr) (a:Addr):Prop:= ∃vs:List Value,vs.length≤sizeLine∧(∀u∈vs,dM A u)∧
 (h.get? a=some {cls:= .type "list",data:= .seq vs.toArray}∨h.get? a=some {cls:= .type "tuple",data:= .seq vs.toArray})
theorem d5.mono {h:Heap} {A B:List Addr} {a:Addr} (k: ∀a∈A,a∈B) (x:d5 h A a):d5 h B a:=by
 obtain ⟨vs,h1,h2,h3⟩:=x
 exact ⟨vs,h1,fun u hu=>(h2 u hu).mono k,h3⟩
theorem ox {P:Params} {h:Heap}: ∀{vs:List Value} {ds:List WData},WellAll P h vs ds→vs.length=ds.length
 |_,_, .nil=>rfl
 |_,_, .cons _ b=>by
  show _+1=_+1
  rw[ox b]
theorem vz {P:Params} {h:Heap} {v:Value} {ds:List WData} (x:Well P h v (.list ds)): ∃(a:Addr) (vs:List Value),v= .ref a∧h.get? a=some {cls:= .type "list",data:= .seq vs.toArray}∧WellAll P h vs ds:=by
 cases x with
 |list ho hall=>exact ⟨_,_,rfl,ho,hall⟩
theorem v9 {P:Params} {h:Heap} {v:Value} {ds:List WData} (x:Well P h v (.tuple ds)): ∃(a:Addr) (vs:List Value),v= .ref a∧h.get? a=some {cls:= .type "tuple",data:= .seq vs.toArray}∧WellAll P h vs ds:=by
 cases x with
 |tuple ho hall=>exact ⟨_,_,rfl,ho,hall⟩
theorem zt {P:Params} {h:Heap} {us:List Value} {d:WData} {ds:List WData} (x:WellAll P h us (d::ds)): ∃(v:Value) (vs:List Value),us=v::vs∧Well P h v d∧WellAll P h vs ds:=by
 cases x with
 |cons a b=>exact ⟨_,_,rfl,a,b⟩
theorem yI {n:Nat} (h:n≤1048576):n≤sizeLine:=Nat.le_trans h (by decide)
section
variable {P:Params} {h:Heap}
mutual
theorem Jf: ∀(d:WData) (v:Value),Well P h v d→dm d=true→d.weight≤1048576→ ∃A:List Addr,dM A v∧ ∀a∈A,d5 h A a
 | .none,_,x,_,_=>by
  cases x
  exact ⟨[],trivial,fun a m=>absurd m (by simp)⟩
 | .bool b,_,x,_,_=>by
  cases x
  exact ⟨[],trivial,fun a m=>absurd m (by simp)⟩
 | .int i,_,x,_,_=>by
  cases x
  exact ⟨[],trivial,fun a m=>absurd m (by simp)⟩
 | .str s,_,x,_,_=>by
  cases x
  exact ⟨[],trivial,fun a m=>absurd m (by simp)⟩
 | .bytes b,_,x,_,_=>by
  cases x
  exact ⟨[],trivial,fun a m=>absurd m (by simp)⟩
 | .list ds,_,x,p,z=>by
  obtain ⟨a,vs,rfl,ho,hall⟩:=vz x
  have z2:WData.weightAll ds≤1048576:=z
  obtain ⟨A,h1,h2⟩:=oV ds _ hall p fun d hd=>Nat.le_trans (qp hd) z2
  have k: ∀b∈A,b∈a::A:=fun b hb=>List.mem_cons_of_mem _ hb
  refine ⟨a::A,List.mem_cons_self ..,fun b hb=>?_⟩
  rcases List.mem_cons.mp hb with e|m
  ·rw[e]
   exact ⟨vs,yI (by rw[ox hall];exact Nat.le_trans (PySem.W.length_le_weightAllW ds) z2),fun u hu=>(h1 u hu).mono k, .inl ho⟩
  ·exact (h2 b m).mono k
 | .tuple ds,_,x,p,z=>by
  obtain ⟨a,vs,rfl,ho,hall⟩:=v9 x
  have z2:WData.weightAll ds≤1048576:=z
  obtain ⟨A,h1,h2⟩:=oV ds _ hall p fun d hd=>Nat.le_trans (qp hd) z2
  have k: ∀b∈A,b∈a::A:=fun b hb=>List.mem_cons_of_mem _ hb
  refine ⟨a::A,List.mem_cons_self ..,fun b hb=>?_⟩
  rcases List.mem_cons.mp hb with e|m
  ·rw[e]
   exact ⟨vs,yI (by rw[ox hall];exact Nat.le_trans (PySem.W.length_le_weightAllW ds) z2),fun u hu=>(h1 u hu).mono k, .inr ho⟩
  ·exact (h2 b m).mono k
 | .float _,_,_,p,_=>Bool.noConfusion (show false=true from p)
 | .dict _,_,_,p,_=>Bool.noConfusion (show false=true from p)
 | .bytearray _,_,_,p,_=>Bool.noConfusion (show false=true from p)
 | .set _,_,_,p,_=>Bool.noConfusion (show false=true from p)
 | .frozenset _,_,_,p,_=>Bool.noConfusion (show false=true from p)
 | .obj _ _,_,_,p,_=>Bool.noConfusion (show false=true from p)
theorem oV: ∀(ds:List WData) (vs:List Value),WellAll P h vs ds→dP ds=true→(∀d∈ds,d.weight≤1048576)→ ∃A:List Addr,(∀u∈vs,dM A u)∧ ∀a∈A,d5 h A a
 | [],_,x,_,_=>by
  cases x
  exact ⟨[],fun u m=>absurd m (by simp),fun a m=>absurd m (by simp)⟩
 |d::ds,_,x,p,z=>by
  obtain ⟨v,vs,rfl,x1,x2⟩:=zt x
  have q:dm d=true∧dP ds=true:=Bool.and_eq_true_iff.mp p
  obtain ⟨A,a1,a2⟩:=Jf d v x1 q.1 (z d (List.mem_cons_self ..))
  obtain ⟨B,b1,b2⟩:=oV ds vs x2 q.2 fun e he=>z e (List.mem_cons_of_mem _ he)
  have kA: ∀b∈A,b∈A++B:=fun b hb=>List.mem_append.mpr (.inl hb)
  have kB: ∀b∈B,b∈A++B:=fun b hb=>List.mem_append.mpr (.inr hb)
  refine ⟨A++B,fun u hu=>?_,fun b hb=>?_⟩
  ·rcases List.mem_cons.mp hu with e|m
   ·rw[e]
    exact a1.mono kA
   ·exact (b1 u m).mono kB
  ·rcases List.mem_append.mp hb with m|m
   ·exact (a2 b m).mono kA
   ·exact (b2 b m).mono kB
end
end
def pN (o:Obj):Option HO:=match o.data with
 | .seq vs _=>if (o.cls==Value.type "list")=true then some (.cg o (.lst (vs.toList.map toV))) else some (.cg o (.tup (vs.toList.map toV)))
 |_=>none
def cu (K:PySem.W.Frag) (h:Heap) (A:List Addr):Hp:=fun b=>if b∈A then (if (K.lookup b).isNone=true then (h.get? b).bind pN else none) else none
def lN (H:Hp):Prop:= ∀b,H b=none∨ ∃o u,H b=some (.cg o u)
theorem vO (vs:List Value):pN {cls:= .type "list",data:= .seq vs.toArray}=some (.cg {cls:= .type "list",data:= .seq vs.toArray} (.lst (vs.map toV))):=by
 show (if (Value.type "list" ==Value.type "list")=true then some (HO.cg {cls:= .type "list",data:= .seq vs.toArray} (.lst (vs.toArray.toList.map toV))) else some (HO.cg {cls:= .type "list",data:= .seq vs.toArray} (.tup (vs.toArray.toList.map toV))))=_
 rw[if_pos (beq_self_eq_true _)]
theorem uR (vs:List Value):pN {cls:= .type "tuple",data:= .seq vs.toArray}=some (.cg {cls:= .type "tuple",data:= .seq vs.toArray} (.tup (vs.map toV))):=by
 show (if (Value.type "tuple" ==Value.type "list")=true then some (HO.cg {cls:= .type "tuple",data:= .seq vs.toArray} (.lst (vs.toArray.toList.map toV))) else some (HO.cg {cls:= .type "tuple",data:= .seq vs.toArray} (.tup (vs.toArray.toList.map toV))))=_
 rw[if_neg (by decide)]
section
variable {P:Program} {w:World} {K:PySem.W.Frag} {h:Heap} {A:List Addr}
theorem pZ {b:Addr} {o:Obj} (hb:b∈A) (hk:K.lookup b=none) (e:h.get? b=some o):cu K h A b=pN o:=by
 unfold cu
 rw[if_pos hb,hk,if_pos (show (none:Option Obj).isNone=true from rfl),e]<;>rfl
theorem IH {b:Addr} {u:HO} (q:cu K h A b=some u):b∈A∧K.lookup b=none:=by
 unfold cu at q
 by_cases hb:b∈A
 ·rw[if_pos hb] at q
  cases hk:K.lookup b with
  |none=>exact ⟨hb,rfl⟩
  |some o=>
   rw[hk,if_neg (by simp)] at q
   cases q
 ·rw[if_neg hb] at q
  cases q
theorem oz (ar: ∀a∈A,d5 h A a) {b:Addr} {u:HO} (q:cu K h A b=some u):K.lookup b=none∧ ∃vs:List Value,vs.length≤sizeLine∧(∀u∈vs,dM A u)∧
  ((h.get? b=some {cls:= .type "list",data:= .seq vs.toArray}∧u= .cg {cls:= .type "list",data:= .seq vs.toArray} (.lst (vs.map toV)))∨
   (h.get? b=some {cls:= .type "tuple",data:= .seq vs.toArray}∧u= .cg {cls:= .type "tuple",data:= .seq vs.toArray} (.tup (vs.map toV)))):=by
 obtain ⟨hb,hk⟩:=IH q
 obtain ⟨vs,h1,h2,h3⟩:=ar b hb
 refine ⟨hk,vs,h1,h2,?_⟩
 rcases h3 with e|e
 ·rw[pZ hb hk e,vO] at q
  exact .inl ⟨e,(Option.some.inj q).symm⟩
 ·rw[pZ hb hk e,uR] at q
  exact .inr ⟨e,(Option.some.inj q).symm⟩
theorem C3 (ar: ∀a∈A,d5 h A a):lN (cu K h A):=fun b=>by
 cases q:cu K h A b with
 |none=>exact .inl rfl
 |some u=>
  obtain ⟨_,vs,_,_,⟨_,e⟩|⟨_,e⟩⟩:=oz ar q
  ·exact .inr ⟨_,_,by rw[e]⟩
  ·exact .inr ⟨_,_,by rw[e]⟩
theorem Fc (ar: ∀a∈A,d5 h A a):bE P w (cu K h A) h:=fun b u q=>by
 obtain ⟨_,vs,h1,h2,⟨e,rfl⟩|⟨e,rfl⟩⟩:=oz ar q
 ·exact ⟨e,by rw[List.length_map];exact h1,vs,_,jb h2,e⟩
 ·exact ⟨e,by rw[List.length_map];exact h1,vs,jb h2,_,e,rfl,_,rfl⟩
theorem pH {c c':Value} {vs us:List Value} (e:(some {cls:=c,data:= .seq vs.toArray}:Option Obj)=some {cls:=c',data:= .seq us.toArray}):c=c'∧vs=us:=by
 have e1:=Option.some.inj e
 have e2:c=c':=congrArg Obj.cls e1
 have e3:Data.seq vs.toArray=Data.seq us.toArray:=congrArg Obj.data e1
 injection e3 with e4
 refine ⟨e2,?_⟩
 have e5:=congrArg Array.toList e4
 simpa using e5
theorem DV (KX:K.In h) (ar: ∀a∈A,d5 h A a) {a:Addr} {vs:List Value} (ha:a∈A) (e:h.get? a=some {cls:= .type "list",data:= .seq vs.toArray}):(∀u∈vs,dM A u)∧ai K (cu K h A) a (vs.map toV):=by
 obtain ⟨us,h1,h2,h3⟩:=ar a ha
 have hu:us=vs:=by
  rcases h3 with q|q
  ·rw[e] at q
   exact (pH q).2.symm
  ·rw[e] at q
   exact absurd (Value.type.inj (pH q).1) (by decide)
 subst hu
 refine ⟨h2,?_⟩
 cases hk:K.lookup a with
 |none=>exact .inl (.inr ⟨_,by rw[pZ ha hk e,vO]⟩)
 |some o=>
  have e2:=KX a o hk
  rw[e] at e2
  obtain rfl:=Option.some.inj e2
  exact .inr ⟨_,us.toArray,_,hk,rfl,rfl,rfl,by rw[List.size_toArray];exact h1,by simpa using jb h2⟩
theorem F3 (KX:K.In h) (ar: ∀a∈A,d5 h A a) {a:Addr} {vs:List Value} (ha:a∈A) (e:h.get? a=some {cls:= .type "tuple",data:= .seq vs.toArray}):(∀u∈vs,dM A u)∧aS K (cu K h A) a (vs.map toV):=by
 obtain ⟨us,h1,h2,h3⟩:=ar a ha
 have hu:us=vs:=by
  rcases h3 with q|q
  ·rw[e] at q
   exact absurd (Value.type.inj (pH q).1) (by decide)
  ·rw[e] at q
   exact (pH q).2.symm
 subst hu
 refine ⟨h2,?_⟩
 cases hk:K.lookup a with
 |none=>exact .inl (.inr ⟨_,by rw[pZ ha hk e,uR]⟩)
 |some o=>
  have e2:=KX a o hk
  rw[e] at e2
  obtain rfl:=Option.some.inj e2
  exact .inr ⟨_,us.toArray,_,hk,rfl,rfl,by rw[List.size_toArray];exact h1,by simpa using jb h2⟩
mutual
theorem La {Pm:Params} (KX:K.In h) (ar: ∀a∈A,d5 h A a): ∀(d:WData) (v:Value),Well Pm h v d→dm d=true→dM A v→Dw K (cu K h A) (toV v) d
 | .none,_,x,_,_=>by
  cases x
  exact .aq
 | .bool b,_,x,_,_=>by
  cases x
  exact .bl b
 | .int i,_,x,_,_=>by
  cases x
  exact .int i
 | .str s,_,x,_,_=>by
  cases x
  exact .str s
 | .bytes b,_,x,_,_=>by
  cases x
  have z:=Dw.cN (K:=K) (H:=cu K h A) b.toArray
  exact z
 | .list ds,_,x,p,hu=>by
  obtain ⟨a,vs,rfl,ho,hall⟩:=vz x
  obtain ⟨h2,hs⟩:=DV KX ar hu ho
  exact .lst hs (o3 KX ar ds _ hall p h2)
 | .tuple ds,_,x,p,hu=>by
  obtain ⟨a,vs,rfl,ho,hall⟩:=v9 x
  obtain ⟨h2,hs⟩:=F3 KX ar hu ho
  exact .tup hs (o3 KX ar ds _ hall p h2)
 | .float _,_,_,p,_=>Bool.noConfusion (show false=true from p)
 | .dict _,_,_,p,_=>Bool.noConfusion (show false=true from p)
 | .bytearray _,_,_,p,_=>Bool.noConfusion (show false=true from p)
 | .set _,_,_,p,_=>Bool.noConfusion (show false=true from p)
 | .frozenset _,_,_,p,_=>Bool.noConfusion (show false=true from p)
 | .obj _ _,_,_,p,_=>Bool.noConfusion (show false=true from p)
theorem o3 {Pm:Params} (KX:K.In h) (ar: ∀a∈A,d5 h A a): ∀(ds:List WData) (vs:List Value),WellAll Pm h vs ds→dP ds=true→(∀u∈vs,dM A u)→dR K (cu K h A) (vs.map toV) ds
 | [],_,x,_,_=>by
  cases x
  exact .nil
 |d::ds,_,x,p,hu=>by
  obtain ⟨v,vs,rfl,x1,x2⟩:=zt x
  have q:dm d=true∧dP ds=true:=Bool.and_eq_true_iff.mp p
  exact .cons (La KX ar d v x1 q.1 (hu _ (List.mem_cons_self ..))) (o3 KX ar ds vs x2 q.2 fun u m=>hu u (List.mem_cons_of_mem _ m))
end
end
theorem GF {P:Program} {w:World} {K:PySem.W.Frag} {mg mb:Str→Option Value} {CX:di} {k:Nat} {fa:Addr} {fd:FuncData} {ps:List Str} {sp:Sp} {s₁:Shared} {vals:List Value} {ds:List WData} {R:PySem.W.WRecords} {cl:Str→Option Addr} {d0:WData}
  (KX:K.In s₁.heap) (hns:s₁.heap.Ns mainGlobals mg) (hb:s₁.heap.Ns builtinsNs mb) (hbb: ∀x:Str,x≠ "__name__" →mb x=bootBuiltins x) (hlim:s₁.heap.NoLimit) (hg:s₁.gens= #[])
  (hwl:WellAll w.params s₁.heap vals ds) (hpl:dP ds=true) (hwt: ∀d∈ds,d.weight≤1048576) (hr:aC k callerA)
  (F: ∀base:Heap,K.In base→base.Ns mainGlobals mg→az P w K mg base CX k fa fd ps sp) (hbind: ∀(s:Shared) (us:List Value),us.length=ps.length→BindsTo s fd ⟨us, []⟩ (ps.zip us)) (hlen:ds.length=ps.length)
  (hsp: ∀(H:Hp) (xs:List V),lN H→dR K H xs ds→sp xs H (fun v H'=>Dw K H' v d0) fun _ _ _=>False)
  (hCX: ∀H e s',CX [] H s₁ (fun _ _ _=>False) e s'→False):
  codeAny (model P w) callerA (.call (.ref fa) ⟨vals, []⟩) (fun r s'=> ∃u as,r= .ok (.ret u)∧ReadsW R cl s'.heap u d0 as∧OldK s₁.heap s'.heap∧s'.os=s₁.os∧AllBare s'.gens) s₁:=by
 obtain ⟨A,ho,ar⟩:=oV ds vals hwl hpl hwt
 have hO:lN (cu K s₁.heap A):=C3 ar
 have aj:bE P w (cu K s₁.heap A) s₁.heap:=Fc ar
 have hS:=o3 KX ar ds vals hwl hpl ho
 have hV:=jb ho
 have hK: ∀b u,cu K s₁.heap A b=some u→K.lookup b=none:=fun b u q=>(oz ar q).1
 have noA: ∀{b:Addr} {o:Obj} {es:Array DictEntry} {ep:Nat},s₁.heap.get? b=some o→o.data= .dict es ep→cu K s₁.heap A b=none:=fun {b o es ep} e d=>by
  cases q:cu K s₁.heap A b with
  |none=>rfl
  |some u=>
   obtain ⟨_,vs,_,_,⟨e2,_⟩|⟨e2,_⟩⟩:=oz ar q
   ·rw[e2] at e
    cases e
    have d':Data.seq vs.toArray _=Data.dict es ep:=d
    cases d'
   ·rw[e2] at e
    cases e
    have d':Data.seq vs.toArray _=Data.dict es ep:=d
    cases d'
 generalize cu K s₁.heap A=H at hO aj hS hK noA
 have base_of: ∀{b:Addr} {o:Obj},s₁.heap.get? b=some o→H b=none→(fS s₁.heap H).get? b=some o:=fun e n=>FJ e n
 have nsK: ∀{b:Addr} {m:Str→Option Value},s₁.heap.Ns b m→(fS s₁.heap H).Ns b m:=fun {b m} ⟨o,es,ep,e,d,r⟩=>⟨o,es,ep,base_of e (noA e d),d,r⟩
 have nK: ∀b o,K.lookup b=some o→H b=none:=fun b o e=>by
  cases q:H b with
  |none=>rfl
  |some u=>
   rw[hK b u q] at e
   cases e
 have hKb:K.In (fS s₁.heap H):=fun b o e=>base_of (KX b o e) (nK b o e)
 have hM:Mod K mg (fS s₁.heap H):=⟨hKb,nsK hns,⟨mb,nsK hb,hbb⟩,let ⟨mc,h1,h2⟩:=hlim;⟨mc,nsK h1,h2⟩⟩
 have e0:ik P w K mg (fS s₁.heap H) callerA [] s₁ H:=⟨rfl,hM,fun b o e=>GO e,Nat.le_of_eq (J2 _ _),trivial,fun b hb=>absurd (show b∈([]:List Addr) from hb) (by simp),aj, .of_eq hg⟩
 have hl:vals.length=ps.length:=by rw[ox hwl];exact hlen
 refine codeAny_mono ((F _ hKb (nsK hns)).run callerA [] s₁ H ⟨vals, []⟩ vals (vals.map toV) _ _ hr e0 (hbind s₁ vals hl) hV (hsp H _ hO hS)) fun r s' x=>?_
 cases r with
 |error e=>exact (hCX H e s' x).elim
 |ok fl=>
  cases fl with
  |next=>exact False.elim x
  |brk=>exact False.elim x
  |cont=>exact False.elim x
  |ret u=>
   obtain ⟨v,H',os,bare,un,hok',r',q⟩:=x
   have kept: ∀b o,s₁.heap.get? b=some o→s'.heap.get? b=some o:=fun b o e=>by
    cases q2:H b with
    |none=>exact un.keep b o e q2 (by intro z;exact absurd (show b∈([]:List Addr) from z) (by simp)) (by simp)
    |some u2=>
     rcases hO b with z|⟨ob,u3,z⟩
     ·rw[q2] at z
      cases z
     ·have z2:=un.eJ b ob _ z
      obtain ⟨e1,_⟩:=aj b _ z
      obtain ⟨e2,_⟩:=hok' b _ z2
      rw[e] at e1
      cases e1
      exact e2
   have KX':K.In s'.heap:=fun b o e=>kept b o (KX b o e)
   obtain ⟨as,hrd⟩:=Dw.reads (R:=R) (cl:=cl) hok' KX' d0 v u q r'
   exact ⟨u,as,rfl,hrd,OldK.of_keep kept,os,bare⟩
theorem Ih {ds:List WData} (h:WData.layableAll ds=true): ∀d∈ds,d.weight≤1048576:=fun d hd=>
 (PySem.W.layableW_iff.mp (List.all_eq_true.mp h d hd)).2.2
theorem u7: ∀(cs:List Codec) (a:Codec.denoteAll cs),(Codec.encAll cs a).length=cs.length
 | [],_=>rfl
 |c::cs,a=>by
  show (Codec.encAll cs a.2).length+1=cs.length+1
  rw[u7 cs a.2]
theorem Iy {r:OpenSpec} {k:Nat} {q:Program} {loose:List Str} {XP:(Str→Option Value)→Heap→Prop} {YP:World→Heap→Prop} {d:DefRec} {K:Params→PySem.W.Frag} {CX:World→di} {ps:List Str} {sp:World→Sp}
  (hwell:r.wellSaid=true) (jh:d.params.defaults= []) (hlen:r.args.length=ps.length) (hr:aC k callerA)
  (hY: ∀(w:World) (h:Heap),YP w h→(K w.params).In h)
  (F: ∀(w:World) (mg:Str→Option Value) (fa:Addr) (h:Heap),YP w h→(K w.params).In h→h.Ns mainGlobals mg→mg d.name=some (.ref fa)→
   ∃fd:FuncData,(∀(s:Shared) (us:List Value),us.length=ps.length→BindsTo s fd ⟨us, []⟩ (ps.zip us))∧
    ∀base:Heap,(K w.params).In base→base.Ns mainGlobals mg→az r.prog w (K w.params) mg base (CX w) k fa fd ps (sp w))
  (hsp: ∀(w:World) (H:Hp) (xs:List V) (a:Codec.denoteAll r.args),lN H→Codec.withinAll r.args a=true→Codec.app r.args r.asked a=true→dR (K w.params) H xs (Codec.encAll r.args a)→
   sp w xs H (fun v H'=>Dw (K w.params) H' v (r.ret.enc (Codec.app r.args r.f a))) fun _ _ _=>False)
  (hCX: ∀(w:World) (H:Hp) (s:Shared) (e:Value) (s':Shared),CX w [] H s (fun _ _ _=>False) e s'→False):
  PySem.W.WalkOS q loose XP YP r d [] (fun f vs=>PySem.call f vs):=by
 intro w ba s₁ mg mb G Y fa o pm cd doc dV kV ho hd hcd hD hmg hg args vals as hpre hlay hrd hwl hlo
 obtain ⟨a,e1,e2⟩:=PySem.W.os_pre_some hpre
 obtain ⟨e3,hwi⟩:=Codec.encAll_of_decAll r.args args a e1
 subst e3
 have KX:=hY w _ Y
 obtain ⟨fd,hb,hF⟩:=F w mg fa _ Y KX G.T.g hmg
 refine PySem.W.enter_call (codeAny_mono (GF (R:= []) (cl:=classAt ba.heap) (d0:=r.ret.enc (Codec.app r.args r.f a)) KX G.T.g G.T.b G.T.builtins G.T.nolimit hg hwl (Ak _ _) (Ih hlay) hr hF hb (by rw[u7];exact hlen)
  (fun H xs hO hS=>hsp w H xs a hO hwi e2 hS) fun H e s'=>hCX w H s₁ e s') fun r' s' hq=>?_)
 obtain ⟨u,as',rfl,h1,h2,h3,h4⟩:=hq
 exact ⟨.inl ⟨u,_,as',rfl,fun _=>rfl,h1,(OpenSpec.post_iff hwell hwi _ _).mpr rfl,fun z=>Bool.noConfusion (show false=true from z)⟩,h2,h3,h4⟩
theorem CI {r:OpenSpec} {k:Nat} {q:Program} {loose:List Str} {XP:(Str→Option Value)→Heap→Prop} {YP:World→Heap→Prop} {d:DefRec} {K:Params→PySem.W.Frag} {CX:di} {ps:List Str} {sp:PySem.W.Frag→Sp}
  (hwell:r.wellSaid=true) (jh:d.params.defaults= []) (hlen:r.args.length=ps.length) (hr:aC k callerA)
  (hY: ∀(w:World) (h:Heap),YP w h→(K w.params).In h)
  (F: ∀(w:World) (mg:Str→Option Value) (fa:Addr) (h:Heap),YP w h→(K w.params).In h→h.Ns mainGlobals mg→mg d.name=some (.ref fa)→
   ∃fd:FuncData,(∀(s:Shared) (us:List Value),us.length=ps.length→BindsTo s fd ⟨us, []⟩ (ps.zip us))∧
    ∀base:Heap,(K w.params).In base→base.Ns mainGlobals mg→az r.prog w (K w.params) mg base CX k fa fd ps (sp (K w.params)))
  (hsp: ∀(K:PySem.W.Frag) (H:Hp) (xs:List V) (a:Codec.denoteAll r.args),lN H→Codec.withinAll r.args a=true→Codec.app r.args r.asked a=true→dR K H xs (Codec.encAll r.args a)→
   sp K xs H (fun v H'=>Dw K H' v (r.ret.enc (Codec.app r.args r.f a))) fun _ _ _=>False)
  (hCX: ∀(H:Hp) (s:Shared) (e:Value) (s':Shared),CX [] H s (fun _ _ _=>False) e s'→False):
  PySem.W.WalkOS q loose XP YP r d [] (fun f vs=>PySem.call f vs):=
 Iy (K:=K) (CX:=fun _=>CX) (sp:=fun w=>sp (K w.params)) hwell jh hlen hr hY F (fun w H xs a h1 h2 h3 h4=>hsp (K w.params) H xs a h1 h2 h3 h4) fun _ H s e s'=>hCX H s e s'
end L2
namespace Mx
open PySem
open Sem (wp)
end Mx
namespace L2
open PySem PySem.Spec PyProof.Rows
section
variable {X:Cx}
def LG (i j:Int):Prop:=0≤j∧(Builtin.Int.intBits i:Int)+j≤2^27
theorem ph:bj X (binaryOp .LShift) (rI LG fun i j=> .int (i*2^j.toNat)):=ia fun _ _ _ _ _ _ _ hc q=>PyProof.Rows.lshift_int hc.1 hc.2 q
end
end L2
namespace PySem
open Sem (wp)
namespace Zt
section
variable {prog:Program} {w:World} {A:Around} {E:Value→Shared→Prop} {s:Shared}
theorem GC {j t:Addr} {n:Nat} {ys} {y:Value} {Q:Value→Shared→Prop} (hj:s.heap.IsTupleIter j t n) (ht:s.heap.IsTuple t ys) (hy:ys[n]?=some y)
  (k: ∀h',h'.IsTupleIter j t (n+1)→Heap.SameBut j s.heap h'→Q y {s with heap:=h'}):wpAny (model prog w) A (Builtin.SmallTypes.nextOf (.ref j)) Q E s:=by
 obtain ⟨o,go,gc,gd⟩:=id hj
 obtain ⟨ot,gt,_,nt,gdt⟩:=ht
 unfold Builtin.SmallTypes.nextOf
 refine wpAny_bind (wpAny_callSpecial?_slot (name:=Str.ofString "__next__") hj.typeIs F.slot_tuple_iterator_next (wpAny_call_entry F.slot_tuple_iterator_next hj.typeIs F.entry_tuple_iterator_next ?_ (F.args_tuple_iterator_next_1 _)))
 show wpAny _ _ (field (.ref j) 0>>=_) _ _ s
 refine wpAny_bind (wpAny_field go gd (x:= .ref t) rfl ?_)
 show wpAny _ _ (if (Value.ref t==Value.none)=true then _ else _) _ _ s
 rw[if_neg (by intro z;cases z)]
 show wpAny _ _ (field (.ref j) 1>>=_) _ _ s
 refine wpAny_bind (wpAny_field go gd (x:= .int n 0) rfl ?_)
 show wpAny _ _ (seqItems? (.ref t)>>=_) _ _ s
 refine wpAny_bind (wpAny_seqItems gt gdt ?_)
 simp only [Int.toNat_natCast,hy]
 refine wpAny_bind (wpAny_setField go gd (by simp) (wpAny_pure ⟨y,rfl,wpAny_pure (k _ ?_ (Heap.SameBut.update ..))⟩))
 exact ⟨_,Heap.get?_update_self _ go (Obj.isFreed_of_fields (Obj.data_mapFields gd _)),(Obj.cls_mapFields ..).trans gc,by rw[Obj.data_mapFields gd];simp [rawInt]⟩
theorem Lu {j t:Addr} {n:Nat} {ys} {Q:Value→Shared→Prop} (hh:A.handled=none) (hj:s.heap.IsTupleIter j t n) (ht:s.heap.IsTuple t ys) (hy:ys[n]?=none)
  (k: ∀h' e,Heap.ExtBut j s.heap h'→(∃o,h'.get? e=some o∧o.cls= .type "StopIteration")→E (.ref e) {s with heap:=h'}):wpAny (model prog w) A (Builtin.SmallTypes.nextOf (.ref j)) Q E s:=by
 obtain ⟨o,go,gc,gd⟩:=id hj
 obtain ⟨ot,gt,_,nt,gdt⟩:=ht
 unfold Builtin.SmallTypes.nextOf
 refine wpAny_bind (wpAny_callSpecial?_slot (name:=Str.ofString "__next__") hj.typeIs F.slot_tuple_iterator_next (wpAny_call_entry F.slot_tuple_iterator_next hj.typeIs F.entry_tuple_iterator_next ?_ (F.args_tuple_iterator_next_1 _)))
 show wpAny _ _ (field (.ref j) 0>>=_) _ _ s
 refine wpAny_bind (wpAny_field go gd (x:= .ref t) rfl ?_)
 show wpAny _ _ (if (Value.ref t==Value.none)=true then _ else _) _ _ s
 rw[if_neg (by intro z;cases z)]
 show wpAny _ _ (field (.ref j) 1>>=_) _ _ s
 refine wpAny_bind (wpAny_field go gd (x:= .int n 0) rfl ?_)
 show wpAny _ _ (seqItems? (.ref t)>>=_) _ _ s
 refine wpAny_bind (wpAny_seqItems gt gdt ?_)
 simp only [Int.toNat_natCast,hy]
 refine wpAny_bind (wpAny_rule (wpAny_bind (wpAny_setField go gd (by simp) ?_)))
 show wpAny _ _ (newExc (.type "StopIteration") []>>=_) _ _ _
 refine wpAny_bind ?_
 simp only [newExc,newTuple]
 refine wpAny_bind (wpAny_newObj_type ?_ (by size_fits))
 refine wpAny_bind (m:=firstArgMember _ _) (wpAny_of_eq (a:=Value.none) (by first|rfl|(simp only [firstArgMember];rfl)) ?_)
 refine wpAny_newObj_type ?_ (by size_fits)
 simp only [raiseNew]
 refine wpAny_bind (wpAny_handled ?_)
 first|rw[show A.in1.handled=none from hh]|rw[hh]
 refine wpAny_bind (wpAny_pure (wpAny_throw ?_))
 exact k _ _ (((Heap.SameBut.update ..).extBut.push _).push _) ⟨_,Heap.get?_push_size _ rfl,rfl⟩
theorem both {z I O i j l t:Addr} {n m:Nat} {xs ys:Array Value} {x y a b:Value} {Q:Value→Shared→Prop} (D:ZipApart z I O i j l t) (qz:IsZip s.heap z I O .none) (qI:IsPair s.heap I (.ref i) (.ref j)) (qO:IsPair s.heap O a b)
  (q1:s.heap.IsListIter i l n) (q2:s.heap.IsTupleIter j t m) (ql:s.heap.IsList l xs) (qt:s.heap.IsTuple t ys) (hx:xs[n]?=some x) (hy:ys[m]?=some y)
  (k: ∀h',IsZip h' z I O (rawInt s.heap.objs.size)→IsPair h' O x y→h'.IsListIter i l (n+1)→h'.IsTupleIter j t (m+1)→IsPair h' s.heap.objs.size x y→h'.objs.size=s.heap.objs.size+1→
   (∀c o,c≠z→c≠O→c≠i→c≠j→s.heap.get? c=some o→h'.get? c=some o)→Q (.ref s.heap.objs.size) {s with heap:=h'}):
  wpAny (model prog w) A (Builtin.«zip.__next__» ⟨[.ref z], []⟩) (fun fin s'=> ∃v,fin= .done (.ret v)∧Q v s') E s:=by
 show wpAny _ _ (field (.ref z) 2>>=_) _ _ _
 refine wpAny_bind (wpAny_field qz rfl (x:= .bool false) rfl ?_)
 show wpAny _ _ (field (.ref z) 3>>=_) _ _ _
 refine wpAny_bind (wpAny_field qz rfl (x:= .ref I) rfl ?_)
 refine wpAny_bind (wpAny_seqItems qI rfl ?_)
 show wpAny _ _ (Builtin.SmallTypes.ownedTupleIsFree (.ref z)>>=_) _ _ _
 refine wpAny_bind ?_
 unfold Builtin.SmallTypes.ownedTupleIsFree
 refine wpAny_bind (wpAny_field qz rfl (x:= .none) rfl (wpAny_pure ?_))
 simp only [if_true]
 refine wpAny_bind (wpAny_rule ?_)
 refine wpAny_bind (wpAny_field qz rfl (x:= .ref O) rfl ?_)
 refine wpAny_bind (wpAny_setField_rec qz (by simp) fun h1 qz1 s1=>?_)
 replace qz1:IsZip h1 z I O .ellipsis:=qz1
 refine wpAny_bind ?_
 simp only [List.forIn_cons,List.forIn_nil,List.zipIdx_cons,List.zipIdx_nil]
 refine wpAny_bind (wpAny_bind (wpAny_onRaise ?_))
 show wpAny _ _ (Builtin.SmallTypes.nextOf (.ref i)>>=_) _ _ _
 refine wpAny_bind (wpAny_nextOf_list_item (q1.extBut s1.extBut D.i1z) (ql.extBut s1.extBut D.l1z) hx fun h2 q12 s2=>wpAny_pure ?_)
 have qO2:IsPair h2 O a b:=s2.extBut _ _ D.TOi1 (s1.extBut _ _ D.TOz qO)
 refine wpAny_bind (wpAny_seqItems qO2 rfl ?_)
 refine wpAny_bind (wpAny_updateSeq_pair qO2 fun h3 qO3 s3=>?_)
 replace qO3:IsPair h3 O x b:=qO3
 refine wpAny_bind (wpAny_letGo (wpAny_pure ?_))
 refine wpAny_bind (wpAny_bind (wpAny_onRaise ?_))
 show wpAny _ _ (Builtin.SmallTypes.nextOf (.ref j)>>=_) _ _ _
 refine wpAny_bind (GC (((q2.extBut s1.extBut D.i2z).extBut s2.extBut D.i12.symm).extBut s3.extBut D.TOi2.symm) (((qt.extBut s1.extBut D.l2z).extBut s2.extBut D.l2i1).extBut s3.extBut D.l2TO) hy fun h4 q24 s4=>wpAny_pure ?_)
 have qO4:IsPair h4 O x b:=s4.extBut _ _ D.TOi2 qO3
 refine wpAny_bind (wpAny_seqItems qO4 rfl ?_)
 refine wpAny_bind (wpAny_updateSeq_pair qO4 fun h5 qO5 s5=>?_)
 replace qO5:IsPair h5 O x y:=qO5
 refine wpAny_bind (wpAny_letGo (wpAny_pure (wpAny_pure ?_)))
 refine wpAny_bind (wpAny_seqItems qO5 rfl ?_)
 refine wpAny_bind (wpAny_newTuple ?_)
 have hsz:h5.objs.size=s.heap.objs.size:=by rw[s5.1,s4.1,s3.1,s2.1,s1.1]
 have qz5:IsZip h5 z I O .ellipsis:=s5.extBut _ _ D.TOz.symm (s4.extBut _ _ D.i2z.symm (s3.extBut _ _ D.TOz.symm (s2.extBut _ _ D.i1z.symm qz1)))
 have old: ∀c o,c≠z→c≠O→c≠i→c≠j→s.heap.get? c=some o→h5.get? c=some o:=fun c o c1 c2 c3 c4 e=>s5.extBut _ _ c2 (s4.extBut _ _ c4 (s3.extBut _ _ c2 (s2.extBut _ _ c3 (s1.extBut _ _ c1 e))))
 have q15:h5.IsListIter i l (n+1):=((q12.extBut s3.extBut D.TOi1.symm).extBut s4.extBut D.i12).extBut s5.extBut D.TOi1.symm
 have q25:h5.IsTupleIter j t (m+1):=q24.extBut s5.extBut D.TOi2.symm
 have zl:z<h5.objs.size:=Heap.lt_size qz5
 show wpAny _ _ (Builtin.SmallTypes.ownedTupleHandOut (.ref z) (.ref h5.objs.size)>>=_) _ _ _
 refine wpAny_bind ?_
 unfold Builtin.SmallTypes.ownedTupleHandOut
 have qz6:IsZip (h5.push {cls:= .type "tuple",data:= .seq #[x,y]}) z I O .ellipsis:=Heap.get?_push_of_some _ qz5
 refine wpAny_bind (wpAny_setField_rec qz6 (by simp) fun h7 qz7 s7=>?_)
 replace qz7:IsZip h7 z I O (rawInt h5.objs.size):=qz7
 refine wpAny_setField_rec qz7 (by simp) fun h8 qz8 s8=>?_
 replace qz8:IsZip h8 z I O (rawInt h5.objs.size):=qz8
 have up: ∀c o,c≠z→h5.get? c=some o→h8.get? c=some o:=fun c o c1 e=>s8.extBut _ _ c1 (s7.extBut _ _ c1 (Heap.get?_push_of_some _ e))
 have qT:IsPair h8 h5.objs.size x y:=s8.extBut _ _ (Nat.ne_of_gt zl) (s7.extBut _ _ (Nat.ne_of_gt zl) (Heap.get?_push_size _ rfl))
 have sz8:h8.objs.size=h5.objs.size+1:=by rw[s8.1,s7.1,Heap.size_push]
 rw[hsz] at qz8 qT sz8
 refine wpAny_pure ⟨_,rfl,?_⟩
 show Q (.ref h5.objs.size) _
 rw[hsz]
 obtain ⟨oj,ej,rj⟩:=q25
 exact k h8 qz8 (up _ _ D.TOz qO5) (q15.at fun o e=>up _ o D.i1z e) ⟨oj,up _ _ D.i2z ej,rj⟩ qT sz8 fun c o c1 c2 c3 c4 e=>up c o c1 (old c o c1 c2 c3 c4 e)
theorem stop {z I O i j l t:Addr} {n m:Nat} {xs ys:Array Value} {a b:Value} {Q:Fin→Shared→Prop} (hh:A.handled=none) (D:ZipApart z I O i j l t) (qz:IsZip s.heap z I O .none) (qI:IsPair s.heap I (.ref i) (.ref j)) (qO:IsPair s.heap O a b)
  (q1:s.heap.IsListIter i l n) (q2:s.heap.IsTupleIter j t m) (ql:s.heap.IsList l xs) (qt:s.heap.IsTuple t ys) (hend:xs[n]?=none∨ys[m]?=none)
  (k: ∀h' e,(∀c o,c≠z→c≠O→c≠i→c≠j→s.heap.get? c=some o→h'.get? c=some o)→(∃o,h'.get? e=some o∧o.cls= .type "StopIteration")→E (.ref e) {s with heap:=h'}):
  wpAny (model prog w) A (Builtin.«zip.__next__» ⟨[.ref z], []⟩) Q E s:=by
 show wpAny _ _ (field (.ref z) 2>>=_) _ _ _
 refine wpAny_bind (wpAny_field qz rfl (x:= .bool false) rfl ?_)
 show wpAny _ _ (field (.ref z) 3>>=_) _ _ _
 refine wpAny_bind (wpAny_field qz rfl (x:= .ref I) rfl ?_)
 refine wpAny_bind (wpAny_seqItems qI rfl ?_)
 show wpAny _ _ (Builtin.SmallTypes.ownedTupleIsFree (.ref z)>>=_) _ _ _
 refine wpAny_bind ?_
 unfold Builtin.SmallTypes.ownedTupleIsFree
 refine wpAny_bind (wpAny_field qz rfl (x:= .none) rfl (wpAny_pure ?_))
 simp only [if_true]
 refine wpAny_bind (wpAny_rule ?_)
 refine wpAny_bind (wpAny_field qz rfl (x:= .ref O) rfl ?_)
 refine wpAny_bind (wpAny_setField_rec qz (by simp) fun h1 qz1 s1=>?_)
 replace qz1:IsZip h1 z I O .ellipsis:=qz1
 refine wpAny_bind ?_
 simp only [List.forIn_cons,List.forIn_nil,List.zipIdx_cons,List.zipIdx_nil]
 refine wpAny_bind (wpAny_bind (wpAny_onRaise ?_))
 show wpAny _ _ (Builtin.SmallTypes.nextOf (.ref i)>>=_) _ _ _
 cases hx:xs[n]? with
 |none=>
  refine wpAny_bind (wpAny_nextOf_list_end hh (q1.extBut s1.extBut D.i1z) (ql.extBut s1.extBut D.l1z) hx fun h2 e s2 he=>?_)
  obtain ⟨oe,ge,ce⟩:=he
  have qz2:IsZip h2 z I O .ellipsis:=s2 _ _ D.i1z.symm qz1
  have ez:e≠z:=fun q=>by subst q;rw[qz2] at ge;cases ge;simp at ce
  exact wpAny_setField_rec qz2 (by simp) fun h3 _ s3=>k h3 e (fun c o c1 _ c3 _ q=>s3.extBut _ _ c1 (s2 _ _ c3 (s1.extBut _ _ c1 q))) ⟨oe,s3.extBut _ _ ez ge,ce⟩
 |some x=>
  have hy:ys[m]?=none:=by
   rcases hend with q|q
   ·rw[hx] at q;cases q
   ·exact q
  refine wpAny_bind (wpAny_nextOf_list_item (q1.extBut s1.extBut D.i1z) (ql.extBut s1.extBut D.l1z) hx fun h2 q12 s2=>wpAny_pure ?_)
  have qO2:IsPair h2 O a b:=s2.extBut _ _ D.TOi1 (s1.extBut _ _ D.TOz qO)
  refine wpAny_bind (wpAny_seqItems qO2 rfl ?_)
  refine wpAny_bind (wpAny_updateSeq_pair qO2 fun h3 qO3 s3=>?_)
  refine wpAny_bind (wpAny_letGo (wpAny_pure ?_))
  refine wpAny_bind (wpAny_bind (wpAny_onRaise ?_))
  show wpAny _ _ (Builtin.SmallTypes.nextOf (.ref j)>>=_) _ _ _
  refine wpAny_bind (Lu hh (((q2.extBut s1.extBut D.i2z).extBut s2.extBut D.i12.symm).extBut s3.extBut D.TOi2.symm) (((qt.extBut s1.extBut D.l2z).extBut s2.extBut D.l2i1).extBut s3.extBut D.l2TO) hy fun h4 e s4 he=>?_)
  obtain ⟨oe,ge,ce⟩:=he
  have qz4:IsZip h4 z I O .ellipsis:=s4 _ _ D.i2z.symm (s3.extBut _ _ D.TOz.symm (s2.extBut _ _ D.i1z.symm qz1))
  have ez:e≠z:=fun q=>by subst q;rw[qz4] at ge;cases ge;simp at ce
  exact wpAny_setField_rec qz4 (by simp) fun h5 _ s5=>k h5 e (fun c o c1 c2 c3 c4 q=>s5.extBut _ _ c1 (s4 _ _ c4 (s3.extBut _ _ c2 (s2.extBut _ _ c3 (s1.extBut _ _ c1 q))))) ⟨oe,s5.extBut _ _ ez ge,ce⟩
theorem nextOne {z I O i j l t:Addr} {n m:Nat} {xs ys:Array Value} {x y a b:Value} {Q:Option Value→Shared→Prop} (D:ZipApart z I O i j l t) (qz:IsZip s.heap z I O .none) (qI:IsPair s.heap I (.ref i) (.ref j)) (qO:IsPair s.heap O a b)
  (q1:s.heap.IsListIter i l n) (q2:s.heap.IsTupleIter j t m) (ql:s.heap.IsList l xs) (qt:s.heap.IsTuple t ys) (hx:xs[n]?=some x) (hy:ys[m]?=some y)
  (k: ∀h',IsZip h' z I O (rawInt s.heap.objs.size)→IsPair h' O x y→h'.IsListIter i l (n+1)→h'.IsTupleIter j t (m+1)→IsPair h' s.heap.objs.size x y→h'.objs.size=s.heap.objs.size+1→
   (∀c o,c≠z→c≠O→c≠i→c≠j→s.heap.get? c=some o→h'.get? c=some o)→Q (some (.ref s.heap.objs.size)) {s with heap:=h'}):wpAny (model prog w) A (pyNext (.ref z)) Q E s:=by
 have ty:s.TypeIs (.ref z) "zip" :=⟨_,qz,rfl⟩
 unfold pyNext
 exact wpAny_bind (wpAny_attempt (wpAny_callSpecial?_slot (name:=Str.ofString "__next__") ty F.slot_zip_next (wpAny_call_entry F.slot_zip_next ty F.entry_zip_next
  (both D qz qI qO q1 q2 ql qt hx hy fun h' a1 a2 a3 a4 a5 a6 a7=>wpAny_pure (k h' a1 a2 a3 a4 a5 a6 a7)) (F.args_zip_next_1 _))))
theorem KD {z I O i j l t:Addr} {n m:Nat} {xs ys:Array Value} {a b:Value} {Q:Option Value→Shared→Prop} (hh:A.handled=none) (D:ZipApart z I O i j l t) (qz:IsZip s.heap z I O .none) (qI:IsPair s.heap I (.ref i) (.ref j)) (qO:IsPair s.heap O a b)
  (q1:s.heap.IsListIter i l n) (q2:s.heap.IsTupleIter j t m) (ql:s.heap.IsList l xs) (qt:s.heap.IsTuple t ys) (hend:xs[n]?=none∨ys[m]?=none)
  (k: ∀h',(∀c o,c≠z→c≠O→c≠i→c≠j→s.heap.get? c=some o→h'.get? c=some o)→Q none {s with heap:=h'}):wpAny (model prog w) A (pyNext (.ref z)) Q E s:=by
 have ty:s.TypeIs (.ref z) "zip" :=⟨_,qz,rfl⟩
 unfold pyNext
 refine wpAny_bind (wpAny_attempt (wpAny_callSpecial?_slot (name:=Str.ofString "__next__") ty F.slot_zip_next (wpAny_call_entry F.slot_zip_next ty F.entry_zip_next
  (stop hh D qz qI qO q1 q2 ql qt hend fun h' e hk he=>?_) (F.args_zip_next_1 _))))
 obtain ⟨o,ho,hc⟩:=he
 refine wpAny_bind (wpAny_isInstance (T:= "StopIteration") (b:=true) ⟨o,ho,hc⟩ isSubtype_stop ?_)
 exact wpAny_pure (k _ hk)
end
abbrev m1 (h:Heap) (l:Addr):Heap:=h.push {cls:= .type "list_iterator",data:= .fields #[.ref l, .int 0 0]}
abbrev m2 (h:Heap) (l t:Addr):Heap:=(m1 h l).push {cls:= .type "tuple_iterator",data:= .fields #[.ref t, .int 0 0]}
abbrev m3 (h:Heap) (l t:Addr):Heap:=(m2 h l t).push {cls:= .type "tuple",data:= .seq #[.ref h.objs.size, .ref (m1 h l).objs.size]}
abbrev m4 (h:Heap) (l t:Addr):Heap:=(m3 h l t).push {cls:= .type "tuple",data:= .seq #[.none, .none]}
abbrev m5 (h:Heap) (l t:Addr):Heap:=(m4 h l t).push {cls:= .type "zip",data:= .fields #[.none, .bool false, .bool false, .ref (m2 h l t).objs.size, .ref (m3 h l t).objs.size]}
theorem made (l t:Addr) (xs ys:Array Value):Meets (Builtin.«zip.__new__» ⟨[.type "zip", .ref l, .ref t], []⟩) (fun _ R s=>s.heap.IsList l xs∧s.heap.IsTuple t ys∧R (.ok (.ret (.ref (m4 s.heap l t).objs.size))) {s with heap:=m5 s.heap l t}):=
 .of_wp fun prog w A R s h=>by
  obtain ⟨hp,g,d,tk,os⟩:=s
  obtain ⟨ql,qt,h⟩:=h
  have hsub:=sub_zip
  have hL1:Heap.IsList (Shared.heap ⟨hp,g,d,tk,os⟩) l xs:=ql
  have hL2:Heap.IsTuple (Shared.heap ⟨hp.push {cls:= .type "list_iterator",data:= .fields #[.ref l, .int 0 0]},g,d,tk,os⟩) t ys:=Heap.IsTuple.push qt _
  wp_walk using wpAny_pyIter_list hL1,wpAny_pyIter_tuple hL2
  exact ⟨_,rfl,h⟩
theorem called {prog:Program} {w:World} {A:Around} {E:Value→Shared→Prop} {s:Shared} {l t:Addr} {xs ys:Array Value} {Q:Value→Shared→Prop} (ql:s.heap.IsList l xs) (qt:s.heap.IsTuple t ys)
  (k: ∀h',IsZip h' (s.heap.objs.size+4) (s.heap.objs.size+2) (s.heap.objs.size+3) .none→IsPair h' (s.heap.objs.size+2) (.ref s.heap.objs.size) (.ref (s.heap.objs.size+1))→IsPair h' (s.heap.objs.size+3) .none .none→
   h'.IsListIter s.heap.objs.size l 0→h'.IsTupleIter (s.heap.objs.size+1) t 0→h'.objs.size=s.heap.objs.size+5→(∀c o,s.heap.get? c=some o→h'.get? c=some o)→Q (.ref (s.heap.objs.size+4)) {s with heap:=h'}):
  wpAny (model prog w) A (call (.type "zip") [.ref l, .ref t]) Q E s:=by
 refine callType_new F.called_zip (by decide) (F.typeCall_zip_2 _ _) (F.newCall_zip_2 _ _) (fun obj=>F.args_object_init_3 obj _ _) F.entry_zip_new (made l t xs ys) ⟨ql,qt,?_⟩
 have n1:(m1 s.heap l).objs.size=s.heap.objs.size+1:=Heap.size_push ..
 have n2:(m2 s.heap l t).objs.size=s.heap.objs.size+2:=by rw[Heap.size_push,n1]
 have n3:(m3 s.heap l t).objs.size=s.heap.objs.size+3:=by rw[Heap.size_push,n2]
 have n4:(m4 s.heap l t).objs.size=s.heap.objs.size+4:=by rw[Heap.size_push,n3]
 have n5:(m5 s.heap l t).objs.size=s.heap.objs.size+5:=by rw[Heap.size_push,n4]
 have up:=fun (h:Heap) (o:Obj) (c:Addr) (x:Obj) (e:h.get? c=some x)=>Heap.get?_push_of_some o e
 have g5:(m5 s.heap l t).get? (m4 s.heap l t).objs.size=some _:=Heap.get?_push_size _ rfl
 have g4:(m5 s.heap l t).get? (m3 s.heap l t).objs.size=some _:=up _ _ _ _ (Heap.get?_push_size _ rfl)
 have g3:(m5 s.heap l t).get? (m2 s.heap l t).objs.size=some _:=up _ _ _ _ (up _ _ _ _ (Heap.get?_push_size _ rfl))
 have g2:(m5 s.heap l t).get? (m1 s.heap l).objs.size=some _:=up _ _ _ _ (up _ _ _ _ (up _ _ _ _ (Heap.get?_push_size _ rfl)))
 have g1:(m5 s.heap l t).get? s.heap.objs.size=some _:=up _ _ _ _ (up _ _ _ _ (up _ _ _ _ (up _ _ _ _ (Heap.get?_push_size _ rfl))))
 show _∧_
 rw[n2,n3,n4] at g5
 rw[n1,n2] at g3
 rw[n3] at g4
 rw[n1] at g2
 rw[n4]
 exact ⟨⟨_,g5,rfl⟩,k _ g5 g3 g4 ⟨_,g1,rfl,rfl⟩ ⟨_,g2,rfl,rfl⟩ n5 fun c o x=>up _ _ _ _ (up _ _ _ _ (up _ _ _ _ (up _ _ _ _ (up _ _ _ _ x))))⟩
end Zt
end PySem
namespace L2
open PySem PySem.Spec PyProof.Rows
def sR (K:PySem.W.Frag) (a b:Addr):It:=
 ⟨fun i H=> ∃(xs ys:List V) (x y:V),ai K H a xs∧aS K H b ys∧xs[i]?=some x∧ys[i]?=some y,
  fun i H v H'=> ∃p x y,v= .ref p∧H p=none∧H'=upd H p (.tup [x,y])∧(∀xs,ai K H a xs→xs[i]?=some x)∧ ∀ys,aS K H b ys→ys[i]?=some y,
  fun i H=> ∃xs ys:List V,ai K H a xs∧aS K H b ys∧(xs.length≤i∨ys.length≤i)⟩
theorem C8 {P:Program} {w:World} {K:PySem.W.Frag} {elts:List Expr} {kk:Nat} {tpos:Pos} {a b z I O i1 i2:Addr} (D:ZipApart z I O i1 i2 a b):
  Turn P w K (.Tuple elts kk tpos) (sR K a b) [z,I,O,i1,i2] z (fun i h=>IsZip h z I O .none∧IsPair h I (.ref i1) (.ref i2)∧(∃x y,IsPair h O x y)∧h.IsListIter i1 a i∧h.IsTupleIter i2 b i) where
 mem:=by simp
 obj:=fun i h st c hc=>by
  obtain ⟨qz,qI,⟨x,y,qO⟩,⟨o1,e1,_,d1⟩,⟨o2,e2,_,d2⟩⟩:=st
  have e':c=z∨c=I∨c=O∨c=i1∨c=i2:=by simpa using hc
  rcases e' with rfl|rfl|rfl|rfl|rfl
  ·exact ⟨_,qz,fun v q=>nomatch q⟩
  ·exact ⟨_,qI,fun v q=>nomatch q⟩
  ·exact ⟨_,qO,fun v q=>nomatch q⟩
  ·exact ⟨o1,e1,fun v q=>by rw[d1] at q;cases q⟩
  ·exact ⟨o2,e2,fun v q=>by rw[d2] at q;cases q⟩
 keep:=fun i h h' st k=>by
  obtain ⟨qz,qI,⟨x,y,qO⟩,h1,o2,e2,r2⟩:=st
  exact ⟨k z (by simp) _ qz,k I (by simp) _ qI,⟨x,y,k O (by simp) _ qO⟩,h1.at fun o q=>k i1 (by simp) o q,o2,k i2 (by simp) _ e2,r2⟩
 item:=by
  intro X hP hw hK hc i pins s σ H E II hf st hg
  subst hP hw hK
  obtain ⟨qz,qI,⟨x0,y0,qO⟩,h1,h2⟩:=st
  obtain ⟨xs,ys,x,y,hqx,hqy,hx,hy⟩:=hg
  obtain ⟨its,rv,p,_⟩:=II.list hqx
  obtain ⟨its2,rv2,p2,_⟩:=II.tuple hqy
  obtain ⟨u,hu,ru⟩:=rv.get hx
  obtain ⟨u2,hu2,ru2⟩:=rv2.get hy
  have zl:z<s.heap.objs.size:=Heap.lt_size qz
  refine Zt.nextOne D qz qI qO h1 h2 p.isList p2 (x:=u) (y:=u2) (by simpa using hu) (by simpa using hu2) fun h' z' O' h1' h2' hT hsz hk=>?_
  refine ⟨_,rfl,wpAny_letOwnedTupleGo_zip (s:={s with heap:=h'}) z' fun h'' z'' sb=>?_⟩
  have hT2:h''.get? s.heap.objs.size=some {cls:= .type "tuple",data:= .seq #[u,u2]}:=(sb.2 _ (Nat.ne_of_gt zl)).trans hT
  have new:cj X.prog X.w (upd H s.heap.objs.size (.tup [x,y])) h'' s.heap.objs.size (.tup [x,y]):=⟨by show 2≤sizeLine;decide, [u,u2], .cons ru (.cons ru2 .nil),⟨_,hT2,rfl,_,rfl⟩⟩
  have I1:Inv X pins σ (upd H s.heap.objs.size (.tup [x,y])) {s with heap:=h''}:=II.xP (t':=s.toks) (ch:= [z,I,O,i1,i2])
   (fun c o hb q=>(sb.2 c (fun q'=>hb (by simp [q']))).trans (hk c o (fun q'=>hb (by simp [q'])) (fun q'=>hb (by simp [q'])) (fun q'=>hb (by simp [q'])) (fun q'=>hb (by simp [q'])) q)) hf (Nat.le_refl _) new
  refine ⟨.ref s.heap.objs.size,_,I1,rfl,⟨_,x,y,rfl,II.aj.fresh (Nat.le_refl _),rfl,fun l hl=>by rw[II.p9 hl hqx];exact hx,fun l hl=>?_⟩,⟨z'',?_,⟨u,u2,?_⟩,?_,?_⟩,fun c hcm=>?_⟩
  ·rw[II.yJ hl hqy];exact hy
  ·exact (sb.2 _ D.TIz).trans (hk _ _ D.TIz D.TITO D.TIi1 D.TIi2 qI)
  ·exact (sb.2 _ D.TOz).trans O'
  ·exact h1'.at fun o q=>(sb.2 _ D.i1z).trans q
  ·obtain ⟨o2,e2,r2⟩:=h2'
   exact ⟨o2,(sb.2 _ D.i2z).trans e2,r2⟩
  ·have hlt:c<s.heap.objs.size:=by
    have e':c=z∨c=I∨c=O∨c=i1∨c=i2:=by simpa using hcm
    rcases e' with q|q|q|q|q
    ·rw[q];exact zl
    ·rw[q];exact Heap.lt_size qI
    ·rw[q];exact Heap.lt_size qO
    ·rw[q];obtain ⟨_,e1,_⟩:=h1;exact Heap.lt_size e1
    ·rw[q];obtain ⟨_,e2,_⟩:=h2;exact Heap.lt_size e2
   rw[aB (Nat.ne_of_lt hlt)]
   exact (hf c hcm).1
 done:=by
  intro X hP hw hK hc i pins s σ H E II hf st hg
  subst hP hw hK
  obtain ⟨qz,qI,⟨x0,y0,qO⟩,h1,h2⟩:=st
  obtain ⟨xs,ys,hqx,hqy,hend⟩:=hg
  obtain ⟨its,rv,p,_⟩:=II.list hqx
  obtain ⟨its2,rv2,p2,_⟩:=II.tuple hqy
  have l1:=rv.length
  have l2:=rv2.length
  have he:its.toArray[i]?=none∨its2.toArray[i]?=none:=by
   rcases hend with q|q
   ·exact .inl (by simp;omega)
   ·exact .inr (by simp;omega)
  exact Zt.KD (II.ok.hd hc) D qz qI qO h1 h2 p.isList p2 he fun h' hk=>⟨rfl,II.xC (t':=s.toks) (ch:= [z,I,O,i1,i2])
   (fun c o hb q=>hk c o (fun q'=>hb (by simp [q'])) (fun q'=>hb (by simp [q'])) (fun q'=>hb (by simp [q'])) (fun q'=>hb (by simp [q'])) q) hf⟩
 self:=fun A i s Q E st h=>wpAny_pyIter_zip st.1 h
def J4 (K:PySem.W.Frag) (ta:TA):TI:=fun σ H R=>ta σ H fun vs H1=> ∃a b xs ys,vs= [.ref a, .ref b]∧ai K H1 a xs∧aS K H1 b ys∧R (sR K a b) H1
theorem LB {X:Cx} {e e2:Expr} {ta:TA} {p pos tpos:Pos} {elts:List Expr} {kk:Nat} (hg:Gl X "zip") (hm:X.mg "zip" =none) (ha:PA X [e,e2] ta)
  (hs:starEach [e,e2] X.env=(false,eval e X.env)::starEach [e2] X.env:=by rfl) (hpl:(backTo pos (starEach [e2] X.env)).any (·.1)=false:=by rfl):
  PI X (.Tuple elts kk tpos) (.Call (.Name "zip" p) [e,e2] [] pos) (J4 X.K ta):=by
 intro pins s σ H R I h
 refine Call_ (jx I hg hm x5 (PyProof.Rows.callWith_type1 (aA (ha pos pins s σ H _ I h) fun us s1 ⟨vs,H1,I1,r1,q1⟩=>?_) hs hpl))
 obtain ⟨a,b,xs,ys,ex,hqx,hqy,q⟩:=q1
 subst ex
 cases r1 with
 |cons r rr=>
  cases rr with
  |cons r' rr=>
   cases rr;cases r;cases r'
   obtain ⟨its,rv,p1,_⟩:=I1.list hqx
   obtain ⟨its2,rv2,p2,_⟩:=I1.tuple hqy
   have la:a<s1.heap.objs.size:=p1.lt
   have lb:b<s1.heap.objs.size:=by obtain ⟨_,e2,_⟩:=id p2;exact Heap.lt_size e2
   refine Zt.called p1.isList p2 fun h' qz qI qO h1 h2 hsz hk=>wpAny_pyIter_zip qz ?_
   have I2:Inv X pins σ H1 {s1 with heap:=h'}:=I1.kept (t':=s1.toks) hk
   refine ⟨s1.heap.objs.size+4, [s1.heap.objs.size+4,s1.heap.objs.size+2,s1.heap.objs.size+3,s1.heap.objs.size,s1.heap.objs.size+1],_,_,H1,rfl,I2,C8 (PySem.W.ktu_apart s1.heap.objs.size a b la lb),⟨qz,qI,⟨_,_,qO⟩,h1,h2⟩,fun c hcm=>?_,q⟩
   have hle:s1.heap.objs.size≤c:=by
    have e':c=s1.heap.objs.size+4∨c=s1.heap.objs.size+2∨c=s1.heap.objs.size+3∨c=s1.heap.objs.size∨c=s1.heap.objs.size+1:=by simpa using hcm
    rcases e' with z|z|z|z|z
    ·rw[z];exact Nat.le_add_right _ _
    ·rw[z];exact Nat.le_add_right _ _
    ·rw[z];exact Nat.le_add_right _ _
    ·rw[z];exact Nat.le_refl _
    ·rw[z];exact Nat.le_add_right _ _
   exact I1.gB hle (I1.aj.fresh hle)
theorem p6 {X:Cx} {K:PySem.W.Frag} (h:X.K=K):lP X (pQ K):=by subst h;exact pG
end L2
namespace L2
open PySem PySem.Spec PyProof.Rows
theorem Kh {P:Program} {w:World} {H:Hp} {h:Heap} {a:Addr} {o:HO} (x:cj P w H h a o): ∃ob,h.get? a=some ob:=by
 cases o with
 |lst xs=>obtain ⟨_,_,_,_,e⟩:=x;exact ⟨_,e⟩
 |tup xs=>obtain ⟨_,_,_,ob,e,_⟩:=x;exact ⟨ob,e⟩
 |dK kvs=>obtain ⟨_,_,_,_,o,_,_,e,_⟩:=x;exact ⟨o,e⟩
 |dT kvs=>obtain ⟨_,_,_,_,o,_,_,e,_⟩:=x;exact ⟨o,e⟩
 |set S n=>obtain ⟨o,_,_,_,e,_⟩:=x;exact ⟨o,e⟩
 |ins C dx fs=>obtain ⟨_,_,_,e,_⟩:=x;exact ⟨_,e⟩
 |own y=>exact x
 |xd fs=>obtain ⟨_,⟨o,_,_,e,_⟩,_⟩:=x;exact ⟨o,e⟩
 |nV lo hi=>obtain ⟨_,_,_,e⟩:=x;exact ⟨_,e⟩
 |cg ob u=>obtain ⟨e,_⟩:=x;exact ⟨_,e⟩
 |gw ps=>exact ⟨_,x⟩
 |met f y=>exact ⟨_,x⟩
 |ext φ=>obtain ⟨_,e,_⟩:=x;exact e
theorem jg {P:Program} {w:World} {H:Hp} {h:Heap} (x:bE P w H h) {a:Addr} (e:h.get? a=none):H a=none:=by
 cases q:H a with
 |none=>rfl
 |some o=>
  obtain ⟨ob,z⟩:=Kh (x a o q)
  rw[e] at z;cases z
inductive bY (h:Heap) (H:Hp) (av:List Addr):Nat→Value→Prop
 |nil:bY h H av 0 .none
 |cons {n:Nat} {a:Addr} {o:Obj} {vs:Array Value} {c:Value}:h.get? a=some o→o.data= .fields vs→vs[2]?=some c→H a=none→a∉av→bY h H av n c→bY h H av (n+1) (.ref a)
theorem bY.move {h h':Heap} {H H':Hp} {av av':List Addr} {n:Nat} {c:Value} (x:bY h H av n c) (k: ∀a o vs,h.get? a=some o→o.data= .fields vs→H a=none→a∉av→h'.get? a=some o∧H' a=none∧a∉av'):bY h' H' av' n c:=by
 induction x with
 |nil=>exact .nil
 |cons h1 h2 h3 h4 h5 _ ih=>
  obtain ⟨k1,k2,k3⟩:=k _ _ _ h1 h2 h4 h5
  exact .cons k1 h2 h3 k2 k3 ih
def Cj (h base:Heap) (e:Addr) (cls c fl:Value):Prop:=
 ∃oe vs T oT ts,h.get? e=some oe∧(oe.cls=cls∧vs[2]?=some c)∧oe.data= .fields vs∧vs[1]?=some (.ref T)∧base.get? T=none∧T≠e∧h.get? T=some oT∧oT.data= .fields ts∧ts[3]?=some fl
def eQ (base:Heap) (l:List Env) (e:Addr) (cls c fl:Value) (h:Heap):Prop:=base.StaysIn h∧base.get? e=none∧h.FunFrames base l∧Cj h base e cls c fl
section
variable {M:Model} {A:Around} {E:Value→Shared→Prop} {s:Shared}
theorem uX {base:Heap} {env:Env} {outer:List Env} {L e:Addr} {oe:Obj} {vs:Array Value} {hd c:Value} {nx:Bool} {Q:Unit→Shared→Prop} (hfr:A.frames=some (env::outer)) (hl:s.heap.FunFrames base (env::outer)) (hf:env.frame=some L)
  (ge:s.heap.get? e=some oe) (st:base.StaysIn s.heap) (ne:base.get? e=none) (de:oe.data= .fields vs) (z1:1<vs.size) (h2:vs[2]?=some c) (k: ∀h',eQ base (env::outer) e oe.cls c (rawInt L) h'→s.heap.UpToSlots h'→Q () {s with heap:=h'}):
  wpAny M A (do let fo←frameOf env;let pc←entryPlaceOf L nx;let tb←EntryCells.newEntry hd fo .none (rawInt L) .none pc;setField (.ref e) 1 tb) Q E s:=by
 have nfr:e∉(env::outer).filterMap (·.frame):=fun m=>by
  obtain ⟨_,q,hq,nf⟩:=hl.mem m
  rw[ge] at hq;cases hq;exact nf vs de
 refine wpAny_bind (wpAny_frameOf_fun hfr hl hf fun g ⟨_,sg,tg⟩=>wpAny_bind (wpAny_entryPlaceOf fun pc hp=>?_))
 have e1:g.get? e=some oe:=(sg e nfr).trans ge
 have b1:base.StaysIn g:=fun b q hb=>(sg b fun m=>by rw[(hl.mem m).1] at hb;cases hb).trans (st b q hb)
 have Te:g.objs.size≠e:=Nat.ne_of_gt (Heap.lt_size e1)
 unfold EntryCells.newEntry newFields
 refine wpAny_bind (wpAny_newObj_type ?_ (hp.sizeOk5 _ _ _ _ _))
 generalize hts:([hd,Value.ref L, .none,rawInt L, .none]++(if pc.isEmpty then List.replicate 6 Value.none else pc)).toArray=ts
 have t3:ts[3]?=some (rawInt L):=by rw[←hts];simp
 have e2:(g.push {cls:= .type "traceback",data:= .fields ts}).get? e=some oe:=Heap.get?_push_of_some _ e1
 refine wpAny_setField e2 de z1 (k _ ?_ ?_)
 ·have d3:=Obj.data_mapFields de (·.setIfInBounds 1 (Value.ref g.objs.size))
  refine ⟨fun b q hb=>?_,ne,hl.of_keeps fun b q hb nf=>?_,_,_,g.objs.size,_,ts,Heap.get?_update_self _ e2 (Obj.isFreed_of_fields d3),⟨Obj.cls_mapFields _ _,?_⟩,d3,by simp [z1],b1.fresh,Te,(Heap.get?_update_other _ _ (Ne.symm Te)).trans (Heap.get?_push_size _ rfl),rfl,t3⟩
  ·rw[Heap.get?_update_other _ _ (fun z=>by rw[←z,ne] at hb;cases hb)]
   exact Heap.get?_push_of_some _ (b1 b q hb)
  ·obtain ⟨sl,hs⟩:=tg b q hb
   refine ⟨{q with slots:=sl},?_,rfl⟩
   rw[Heap.get?_update_other _ _ (fun z=>by rw[←z,ge] at hb;cases hb;exact nf vs de)]
   exact Heap.get?_push_of_some _ hs
  ·rw[Array.getElem?_setIfInBounds_ne (by decide)];exact h2
 ·intro b q hb nf
  obtain ⟨sl,hs⟩:=tg b q hb
  refine ⟨sl,?_⟩
  rw[Heap.get?_update_other _ _ (fun z=>by rw[←z,ge] at hb;cases hb;exact nf vs de)]
  exact Heap.get?_push_of_some _ hs
theorem y6 {base:Heap} {env:Env} {outer:List Env} {L e:Addr} {oe:Obj} {vs:Array Value} {c:Value} {Q:Unit→Shared→Prop} (hfr:A.frames=some (env::outer)) (hf:env.frame=some L) (hl:s.heap.FunFrames base (env::outer)) (ge:s.heap.get? e=some oe) (st:base.StaysIn s.heap) (ne:base.get? e=none) (de:oe.data= .fields vs) (h1:vs[1]?=some .none) (h2:vs[2]?=some c)
  (k: ∀h',eQ base (env::outer) e oe.cls c (rawInt L) h'→s.heap.UpToSlots h'→Q () {s with heap:=h'}):wpAny M A (noteFrame (.ref e) env) Q E s:=by
 unfold noteFrame
 simp only [hf]
 refine wpAny_bind (wpAny_field ge de h1 ?_)
 rw[if_neg (by decide)]
 exact uX hfr hl hf ge st ne de (Array.getElem?_eq_some_iff.mp h1).1 h2 k
theorem qR {base:Heap} {env:Env} {outer:List Env} {L e:Addr} {cls c fl:Value} {Q:Unit→Shared→Prop} (hfr:A.frames=some (env::outer)) (hf:env.frame=some L) (h:eQ base (env::outer) e cls c fl s.heap)
  (k: ∀h',eQ base (env::outer) e cls c (rawInt L) h'→s.heap.UpToSlots h'→Q () {s with heap:=h'}):wpAny M A (noteFrame (.ref e) env) Q E s:=by
 obtain ⟨st,ne,hl,oe,vs,T,oT,ts,ge,⟨hcls,h2⟩,de,h1,nT,Te,gT,dT,h3⟩:=id h
 subst hcls
 unfold noteFrame
 simp only [hf]
 refine wpAny_bind (wpAny_field ge de h1 ?_)
 rw[if_pos (by simp)]
 refine wpAny_bind (wpAny_field gT dT h3 ?_)
 by_cases q:fl=rawInt L
 ·subst q
  rw[if_pos (by simp)]
  exact wpAny_pure (k s.heap h (.refl _))
 ·rw[if_neg (by simpa using q)]
  refine wpAny_bind (wpAny_setField gT dT (Array.getElem?_eq_some_iff.mp h3).1 ?_)
  have oth: ∀b,b≠T→(s.heap.update T (Obj.mapFields (·.setIfInBounds 3 Value.none))).get? b=s.heap.get? b:=fun b hb=>Heap.get?_update_other _ _ (Ne.symm hb)
  have nrec: ∀b o,s.heap.get? b=some o→(∀vs,o.data≠ .fields vs)→b≠T:=fun b o hb hnf z=>by
   rw[z,gT] at hb;cases hb;exact hnf ts dT
  refine uX hfr (hl.of_keeps fun b o hb hnf=>⟨o,(oth b (nrec b o hb hnf)).trans hb,rfl⟩) hf ((oth e (Ne.symm Te)).trans ge)
   (fun b o hbo=>(oth b fun z=>by rw[z,nT] at hbo;cases hbo).trans (st b o hbo)) ne de (Array.getElem?_eq_some_iff.mp h1).1 h2 fun h' x up=>k h' x fun b o hb hnf=>up b o ((oth b (nrec b o hb hnf)).trans hb) hnf
theorem tQ {base:Heap} {l:List Env} {e:Addr} {cls c fl:Value} {fo:Option Addr} {Q:Unit→Shared→Prop} (h:eQ base l e cls c fl s.heap) (k: ∀h',eQ base l e cls c (fo.elim Value.none fun f=>rawInt f) h'→s.heap.UpToSlots h'→Q () {s with heap:=h'}):wpAny M A (setFlight (.ref e) fo) Q E s:=by
 obtain ⟨st,ne,hl,oe,vs,T,oT,ts,ge,hc,de,h1,nT,Te,gT,dT,h3⟩:=h
 have z3:3<ts.size:=(Array.getElem?_eq_some_iff.mp h3).1
 have oth: ∀b,b≠T→(s.heap.update T (Obj.mapFields (·.setIfInBounds 3 (fo.elim Value.none fun f=>rawInt f)))).get? b=s.heap.get? b:=fun b hb=>Heap.get?_update_other _ _ (Ne.symm hb)
 have nrec: ∀b o,s.heap.get? b=some o→(∀vs,o.data≠ .fields vs)→b≠T:=fun b o hb hnf z=>by
  rw[z,gT] at hb;cases hb;exact hnf ts dT
 unfold setFlight
 refine wpAny_bind (wpAny_field ge de h1 ?_)
 rw[if_pos (by simp)]
 refine wpAny_setField gT dT z3 (k _ ⟨fun b o hb=>(oth b fun z=>by rw[z,nT] at hb;cases hb).trans (st b o hb),ne,hl.of_keeps fun b o hb nf=>⟨o,(oth b (nrec b o hb nf)).trans hb,rfl⟩,oe,vs,T,_,_,(oth e (Ne.symm Te)).trans ge,hc,de,h1,nT,Te,Heap.get?_update_self _ gT (Obj.isFreed_of_fields (Obj.data_mapFields dT _)),Obj.data_mapFields dT _,by simp [z3]⟩ fun b o hb nf=>⟨o.slots,(oth b (nrec b o hb nf)).trans hb⟩)
theorem E5 {base:Heap} {env:Env} {outer:List Env} {L e:Addr} {cls c fl:Value} {Q:Unit→Shared→Prop} (hfr:A.frames=some (env::outer)) (hf:env.frame=some L) (h:eQ base (env::outer) e cls c fl s.heap)
  (k: ∀h',eQ base outer e cls c .none h'→s.heap.UpToSlots h'→Q () {s with heap:=h'}):wpAny M A (leaving env (.ref e)) Q E s:=by
 unfold leaving
 refine wpAny_bind (qR hfr hf h fun h1 hh up=>?_)
 refine tQ (s:={s with heap:=h1}) hh fun h2 fl2 up2=>?_
 obtain ⟨k1,k2,⟨_,_,k3⟩,k4⟩:=fl2
 exact k h2 ⟨k1,k2,k3,k4⟩ (up.trans up2)
theorem A1 {e:Value} {env env':Env} (h:env.frame=env'.frame):noteFrame e env=noteFrame e env':=by
 unfold noteFrame PySem.frameOf
 rw[h]
end
def o5 (h:Heap) (x T:Addr) (cls c fl:Value):Prop:= ∃oe vs oT ts,h.get? x=some oe∧(oe.cls=cls∧vs[2]?=some c)∧oe.data= .fields vs∧vs[1]?=some (.ref T)∧T≠x∧h.get? T=some oT∧oT.data= .fields ts∧ts[3]?=some fl
def aO (P:Program) (w:World):di:=fun outer H s E e s'=> ∃(x T:Addr) (cls c:Value) (n:Nat) (H':Hp),e= .ref x∧s'.os=s.os∧AllBare s'.gens∧Un (aT outer) [] H H' s.heap s'.heap∧bE P w H' s'.heap∧
 (s.heap.get? x=none∧s.heap.get? T=none∧H' x=none∧H' T=none)∧(o5 s'.heap x T cls c .none∧bY s'.heap H' [x,T] n c)∧E cls none H'
section
variable {X:Cx} {pins:List (Addr×Obj)} {σ:St} {H:Hp} {s:Shared} {h':Heap}
theorem Inv.iu (I:Inv X pins σ H s) (hex:X.ex= []) {b:Addr} (e:s.heap.get? b=none):X.ba.heap.get? b=none:=by
 cases q:X.ba.heap.get? b with
 |none=>rfl
 |some o=>
  obtain ⟨o',z⟩:=I.base.there b o q (by rw[hex];simp)
  rw[e] at z;cases z
theorem Inv.apart (I:Inv X pins σ H s) (hex:X.ex= []) {b:Addr} (e:s.heap.get? b=none):X.ba.heap.get? b=none∧b≠X.env.locals∧(∀x c,X.env.cells.lookup x=some c→c≠b)∧ ∀p∈X.pn++pins,p.1≠b:=by
 refine ⟨I.iu hex e,fun z=>?_,fun x c q z=>?_,fun p hp z=>?_⟩
 ·obtain ⟨m,⟨o,_,_,ho,_⟩,_⟩:=I.loc
  rw[←z,e] at ho;cases ho
 ·obtain ⟨v,o,ho,_⟩:=I.cell x c q
  rw[z,e] at ho;cases ho
 ·have:=(I.pin p hp).1
  rw[z,e] at this;cases this
theorem uT (I:Inv X pins σ H s) (hex:X.ex= []) (hs:X.stack=X.env::X.outer) (hfr:X.env.frame=some X.env.locals) (hd:List Addr) (hh: ∀b∈hd,X.ba.heap.get? b=none∧H b=none)
  (keep: ∀b o,s.heap.get? b=some o→b∉aT X.stack→b∉hd→h'.get? b=some o) (slot: ∀b o,s.heap.get? b=some o→b∈aT X.stack→ ∃sl,h'.get? b=some {o with slots:=sl}):
  Un X.fs [] X.jm H X.ba.heap h'∧bE X.prog X.w H h':=by
 have dC: ∀b:Addr,b∉X.ex:=fun b=>by rw[hex];simp
 have est:aT X.stack=X.env.locals::X.fs:=by rw[hs];unfold aT;rw[List.filterMap_cons,hfr];rfl
 have hL:X.ba.heap.get? X.env.locals=none:=Heap.get?_none_of_le I.ok.above
 have nst: ∀b o,X.ba.heap.get? b=some o→b∉X.fs→b∉aT X.stack:=fun b o e hb hm=>by
  rw[est] at hm
  rcases List.mem_cons.mp hm with z|z
  ·rw[z,hL] at e;cases e
  ·exact hb z
 have nhd: ∀b o,X.ba.heap.get? b=some o→b∉hd:=fun b o e hm=>by rw[(hh b hm).1] at e;cases e
 refine ⟨⟨fun b o e n hb _=>keep b o (I.base.keep b o e n hb (dC b)) (nst b o e hb) (nhd b o e),fun b o e n hb _=>?_,fun b o e n _=>I.base.free b o e n (dC b),fun b o e _=>?_,I.base.fw,I.base.eJ,I.base.ft⟩,fun a o e=>?_⟩
 ·obtain ⟨sl,q⟩:=I.base.slot b o e n hb (dC b)
  obtain ⟨sl',q'⟩:=slot b _ q (by rw[est];exact List.mem_cons_of_mem _ hb)
  exact ⟨sl',q'⟩
 ·obtain ⟨o',q⟩:=I.base.there b o e (dC b)
  by_cases hm:b∈aT X.stack
  ·obtain ⟨sl,z⟩:=slot b _ q hm
   exact ⟨_,z⟩
  ·exact ⟨o',keep b o' q hm (nhd b o e)⟩
 ·have tracked: ∀b u,H b=some u→b∉aT X.stack∧b∉hd:=fun b u q=>⟨fun hm=>(by rw[I.pO b hm] at q;cases q),fun hm=>(by rw[(hh b hm).2] at q;cases q)⟩
  refine (I.aj a o e).d4 (fun b u hb q=>?_) (fun _ q=>q) fun _ _ q=>q
  rcases hb with rfl|hb
  ·exact keep _ _ q (tracked _ _ e).1 (tracked _ _ e).2
  ·exact keep _ _ q (tracked _ _ hb).1 (tracked _ _ hb).2
theorem qM {l:List Env} {env:Env} (he:env∈l) {a:Addr} (ha:env.frame=some a):a∈aT l:=List.mem_filterMap.mpr ⟨env,he,ha⟩
theorem kN {P:Addr→Prop} {x T:Addr} (h1:P x) (h2:P T): ∀b∈ [x,T],P b:=fun b hb=>by
 rcases List.mem_cons.mp hb with rfl|hb
 ·exact h1
 ·rcases List.mem_cons.mp hb with rfl|hb
  ·exact h2
  ·cases hb
theorem Inv.moved (I:Inv X pins σ H s) (ch:List Addr) (hch: ∀b∈ch,X.ba.heap.get? b=none∧b≠X.env.locals∧(∀x c,X.env.cells.lookup x=some c→c≠b)∧(∀p∈X.pn++pins,p.1≠b)∧H b=none)
  (keep: ∀b o,s.heap.get? b=some o→b∉aT X.stack→b∉ch→h'.get? b=some o) (slot: ∀b o,s.heap.get? b=some o→b∈aT X.stack→ ∃sl,h'.get? b=some {o with slots:=sl}):Inv X pins σ H {s with heap:=h'}:=by
 have neL: ∀b o,X.ba.heap.get? b=some o→b≠X.env.locals:=fun b o e=>Nat.ne_of_lt (Nat.lt_of_lt_of_le (Heap.lt_size e) I.ok.above)
 have neC: ∀b o,X.ba.heap.get? b=some o→b∉ch:=fun b o e hb=>by rw[(hch b hb).1] at e;cases e
 have nst: ∀b o,X.ba.heap.get? b=some o→b∉X.fs→b∉aT X.stack:=fun b o e hb hm=>(List.mem_cons.mp (I.km b hm)).elim (neL b o e) hb
 have any: ∀b o,s.heap.get? b=some o→b∉ch→ ∃sl,h'.get? b=some {o with slots:=sl}:=fun b o e hb=>by
  by_cases hm:b∈aT X.stack
  ·exact slot b o e hm
  ·exact ⟨o.slots,keep b o e hm hb⟩
 have cellK: ∀x c,X.env.cells.lookup x=some c→ ∀v,s.heap.IsCell c v→h'.IsCell c v:=fun x c e v ⟨o,ho,hd⟩=>by
  obtain ⟨sl,q⟩:=any c o ho fun z=>(hch c z).2.2.1 x c e rfl
  exact ⟨_,q,hd⟩
 have tracked: ∀b u,H b=some u→b∉aT X.stack∧b∉ch:=fun b u q=>⟨fun hm=>(by rw[I.pO b hm] at q;cases q),fun hm=>(by rw[(hch b hm).2.2.2.2] at q;cases q)⟩
 refine ⟨I.ok,I.os,I.bare,⟨fun b o e n hb hx=>?_,fun b o e n hb hx=>?_,fun b o e n hx=>I.base.free b o e n hx,fun b o e hx=>?_,I.base.fw,I.base.eJ,I.base.ft⟩,?_,fun x c e=>?_,I.free,I.cR,fun p hp=>?_,fun a o e=>?_,I.len⟩
 ·exact keep b o (I.base.keep b o e n hb hx) (nst b o e hb) (neC b o e)
 ·obtain ⟨sl,e1⟩:=I.base.slot b o e n hb hx
  obtain ⟨sl',e2⟩:=any b _ e1 (neC b o e)
  exact ⟨sl',e2⟩
 ·obtain ⟨o',e1⟩:=I.base.there b o e hx
  obtain ⟨sl,e2⟩:=any b o' e1 (neC b o e)
  exact ⟨_,e2⟩
 ·obtain ⟨m,⟨o,es,ep,ho,r⟩,hl⟩:=I.loc
  obtain ⟨sl,q⟩:=any _ o ho fun z=>(hch _ z).2.1 rfl
  refine ⟨m,⟨_,es,ep,q,r⟩,fun i x v e1 e2 e3=>?_⟩
  obtain ⟨u,rr,l⟩:=hl i x v e1 e2 e3
  refine ⟨u,rr,?_⟩
  rcases l with l|⟨k,c,e,z⟩
  ·exact .inl l
  ·exact .inr ⟨k,c,e,cellK x c e _ z⟩
 ·obtain ⟨v,z⟩:=I.cell x c e
  exact ⟨v,cellK x c e v z⟩
 ·obtain ⟨e,n,ne,nf,d⟩:=I.pin p hp
  exact ⟨keep p.1 p.2 e (fun hm=>(List.mem_cons.mp (I.km _ hm)).elim ne nf) (fun z=>(hch p.1 z).2.2.2.1 p hp rfl),n,ne,nf,d⟩
 ·refine (I.aj a o e).d4 (fun b u hb q=>?_) (fun _ q=>q) fun _ _ q=>q
  rcases hb with rfl|hb
  ·exact keep _ _ q (tracked _ _ e).1 (tracked _ _ e).2
  ·exact keep _ _ q (tracked _ _ hb).1 (tracked _ _ hb).2
theorem oU (I:Inv X pins σ H s) {x T:Addr} {cls c fl:Value} (ht:o5 s.heap x T cls c fl):eQ (PySem.W.hideAll s.heap (x::T::aT X.stack)) X.stack x cls c fl s.heap:=by
 obtain ⟨oe,vs,oT,ts,g1,g2,g3,g4,g5,g6,g7,g8⟩:=ht
 exact ⟨fun b o q=>PySem.W.of_hideAll _ q,PySem.W.hideAll_none _ (by simp),PySem.W.funFrames_hide I.stack (fun env henv a ha=>List.mem_cons_of_mem _ (List.mem_cons_of_mem _ (qM henv ha))),oe,vs,T,oT,ts,g1,g2,g3,g4,PySem.W.hideAll_none _ (by simp),g5,g6,g7,g8⟩
theorem oZ (I:Inv X pins σ H s) (up:s.heap.UpToSlots h'): ∀b o,s.heap.get? b=some o→b∈aT X.stack→(∀vs,o.data≠ .fields vs)∧ ∃sl,h'.get? b=some {o with slots:=sl}:=fun b o q hm=>by
 obtain ⟨_,o2,q2,nf⟩:=I.stack.mem hm
 rw[q] at q2;cases q2
 exact ⟨nf,up b o q nf⟩
theorem pU {x T:Addr} (k1:(PySem.W.hideAll s.heap (x::T::aT X.stack)).StaysIn h'): ∀b o,s.heap.get? b=some o→b∉aT X.stack→b∉ [x,T]→h'.get? b=some o:=fun b o q nb nd=>k1 b o (PySem.W.hideAll_get _ q fun hm=>by
 rcases List.mem_cons.mp hm with z|hm
 ·exact nd (by rw[z];simp)
 ·rcases List.mem_cons.mp hm with z|hm
  ·exact nd (by rw[z];simp)
  ·exact nb hm)
theorem sG (I:Inv X pins σ H s) {x T T':Addr} {oT':Obj} {ts':Array Value} (up:s.heap.UpToSlots h') (t5:(PySem.W.hideAll s.heap (x::T::aT X.stack)).get? T'=none) (t6:T'≠x) (t7:h'.get? T'=some oT') (t8:oT'.data= .fields ts'):s.heap.get? T'=none∨T'=T:=by
 cases q:s.heap.get? T' with
 |none=>exact .inl rfl
 |some o=>
  by_cases hm:T'∈x::T::aT X.stack
  ·rcases List.mem_cons.mp hm with z|hm
   ·exact absurd z t6
   ·rcases List.mem_cons.mp hm with z|hm
    ·exact .inr z
    ·obtain ⟨nf,sl,z⟩:=oZ I up T' o q hm
     rw[t7] at z
     cases z
     exact absurd t8 (nf ts')
  ·have:=PySem.W.hideAll_get _ q hm
   rw[t5] at this;cases this
theorem rA (I:Inv X pins σ H s) {x T T':Addr} {n:Nat} {c:Value} (k1:(PySem.W.hideAll s.heap (x::T::aT X.stack)).StaysIn h') (e:s.heap.get? T'=none∨T'=T) (q:bY s.heap H [x,T] n c):bY h' H [x,T'] n c:=
 q.move fun a o vs g1 g2 g3 g4=>⟨pU k1 a o g1 (fun hm=>by obtain ⟨_,o2,q2,nf⟩:=I.stack.mem hm;rw[g1] at q2;cases q2;exact nf vs g2) g4,g3,fun hm=>by
  rcases List.mem_cons.mp hm with z|hm
  ·exact g4 (by rw[z];simp)
  ·rcases List.mem_cons.mp hm with z|hm
   ·rcases e with e|e
    ·rw[←z,g1] at e;cases e
    ·exact g4 (by rw[z,e];simp)
   ·cases hm⟩
end
def fK (X:Cx) (E:XK):Prop:= ∀(pins:List (Addr×Obj)) (σ:St) (H:Hp) (s:Shared) (x T:Addr) (cls c fl:Value) (n:Nat),Inv X pins σ H s→(X.ba.heap.get? x=none∧X.ba.heap.get? T=none∧H x=none∧H T=none)→o5 s.heap x T cls c fl→bY s.heap H [x,T] n c→E cls none H→X.xe (.ref x) s
def jX (X:Cx) (E:XK):Prop:= ∀(pins:List (Addr×Obj)) (σ:St) (H:Hp) (s:Shared) (h1:Heap) (e:Addr) (oe:Obj) (vs:Array Value) (c:Value) (n:Nat),Inv X pins σ H s→(∀b o,s.heap.get? b=some o→h1.get? b=some o)→s.heap.get? e=none→h1.get? e=some oe→oe.data= .fields vs→vs[1]?=some .none→vs[2]?=some c→bY s.heap H [] n c→E oe.cls none H→X.xe (.ref e) {s with heap:=h1}
abbrev fi (P:Program) (w:World) (K:PySem.W.Frag) (mg:Str→Option Value) (base:Heap) (N:List Str) (qual:Str) (scope:Scope) (f:Addr) (cd:Value) (A:Around) (outer:List Env) (s0:Shared) (H0:Hp) (E:XK) (cb:Bool) (ps:List (Addr×Obj)):Cx:={eA (aO P w) P w K mg base N qual scope f cd A outer s0 H0 E with calm:=cb,pn:=ps}
section
variable {P:Program} {w:World} {K:PySem.W.Frag} {mg:Str→Option Value} {base:Heap} {N:List Str} {qual:Str} {scope:Scope} {f:Addr} {cd:Value} {A:Around} {outer:List Env} {s0:Shared} {H0:Hp} {E:XK} {cb:Bool} {ps:List (Addr×Obj)}
theorem AJ:fK (fi P w K mg base N qual scope f cd A outer s0 H0 E cb ps) E:=by
 intro pins σ H s x T cls c fl n I hh ht hq he
 refine E5 I.ok.frames rfl (oU I ht) fun h' fl up=>?_
 obtain ⟨k1,k2,k3,oe',vs',T',oT',ts',t1,t2,t3,t4,t5,t6,t7,t8,t9⟩:=fl
 have hd:=kN (P:=fun b=>s0.heap.get? b=none∧H b=none) ⟨hh.1,hh.2.2.1⟩ ⟨hh.2.1,hh.2.2.2⟩
 obtain ⟨un',hok'⟩:=uT (h':=h') I rfl rfl rfl [x,T] hd (pU k1) (fun b o q hm=>(oZ I up b o q hm).2)
 have ent:=sG I up t5 t6 t7 t8
 have hT':s0.heap.get? T'=none∧H T'=none:=by
  rcases id ent with q|rfl
  ·exact ⟨I.iu rfl q,jg I.aj q⟩
  ·exact hd T' (by simp)
 exact ⟨x,T',cls,c,n,H,rfl,I.os,I.bare,un',hok',⟨hh.1,hT'.1,hh.2.2.1,hT'.2⟩,⟨⟨oe',vs',oT',ts',t1,t2,t3,t4,t6,t7,t8,t9⟩,rA I k1 ent hq⟩,he⟩
theorem KW:Passes (aO P w) (fi P w K mg base N qual scope f cd A outer s0 H0 E cb ps) E:=by
 intro pins σ H s e s' I hx
 obtain ⟨x,T,cls,c,n,H',rfl,hos,hbare,un,aj,⟨hx0,hT0,hxn,hTn⟩,⟨ht,hq⟩,he⟩:=hx
 have I1:Inv (fi P w K mg base N qual scope f cd A outer s0 H0 E cb ps) pins σ H' s':=I.gS (ch:= []) hos un aj hbare (fun b hb=>absurd hb (by simp))
 exact AJ pins σ H' s' x T cls c .none n I1 ⟨I.iu rfl hx0,I.iu rfl hT0,hxn,hTn⟩ ht hq he
theorem JE:jX (fi P w K mg base N qual scope f cd A outer s0 H0 E cb ps) E:=by
 intro pins σ H s h1 e oe vs c n I kp ne ge de f1 f2 hq he
 have hff:=I.stack
 show wpAny _ _ (leaving _ (.ref e)) _ _ _
 unfold leaving
 have nh:(PySem.W.hideAll s.heap (aT (fi P w K mg base N qual scope f cd A outer s0 H0 E cb ps).stack)).get? e=none:=by
  cases q:(PySem.W.hideAll s.heap (aT (fi P w K mg base N qual scope f cd A outer s0 H0 E cb ps).stack)).get? e with
  |none=>rfl
  |some o=>rw[PySem.W.of_hideAll _ q] at ne;cases ne
 refine wpAny_bind (y6 (s:={s with heap:=h1}) (base:=PySem.W.hideAll s.heap (aT (fi P w K mg base N qual scope f cd A outer s0 H0 E cb ps).stack)) I.ok.frames rfl ((PySem.W.funFrames_hide hff (fun env henv a ha=>qM henv ha)).of_keeps fun b o q nf=>⟨o,kp b o q,rfl⟩) ge (fun b o q=>kp b o (PySem.W.of_hideAll _ q)) nh de f1 f2 fun h2 o2 up1=>?_)
 refine tQ (s:={s with heap:=h2}) o2 fun h' fl up2=>?_
 obtain ⟨k1,k2,k3,oe',vs',T',oT',ts',t1,t2,t3,t4,t5,t6,t7,t8,t9⟩:=fl
 have slot: ∀b o,s.heap.get? b=some o→b∈aT (fi P w K mg base N qual scope f cd A outer s0 H0 E cb ps).stack→(∀vs,o.data≠ .fields vs)∧ ∃sl,h'.get? b=some {o with slots:=sl}:=fun b o q hm=>by
  obtain ⟨_,o2,q2,nf⟩:=hff.mem hm
  rw[q] at q2;cases q2
  exact ⟨nf,(up1.trans up2) b o (kp b o q) nf⟩
 have keep: ∀b o,s.heap.get? b=some o→b∉aT (fi P w K mg base N qual scope f cd A outer s0 H0 E cb ps).stack→h'.get? b=some o:=fun b o q nb=>k1 b o (PySem.W.hideAll_get _ q nb)
 obtain ⟨un',hok'⟩:=uT (h':=h') I rfl rfl rfl [] (fun b hb=>absurd hb (by simp)) (fun b o q nb _=>keep b o q nb) (fun b o q hm=>(slot b o q hm).2)
 have new:s.heap.get? T'=none:=by
  cases q:s.heap.get? T' with
  |none=>rfl
  |some o=>
   by_cases hm:T'∈aT (fi P w K mg base N qual scope f cd A outer s0 H0 E cb ps).stack
   ·obtain ⟨nf,sl,z⟩:=slot T' o q hm
    rw[t7] at z
    cases z
    exact absurd t8 (nf ts')
   ·have:=PySem.W.hideAll_get _ q hm
    rw[t5] at this;cases this
 exact ⟨e,T',oe.cls,c,n,H,rfl,I.os,I.bare,un',hok',⟨I.iu rfl ne,I.iu rfl new,jg I.aj ne,jg I.aj new⟩,⟨⟨oe',vs',oT',ts',t1,t2,t3,t4,t6,t7,t8,t9⟩,hq.move fun a o vs g1 g2 g3 g4=>⟨keep a o g1 (fun hm=>by obtain ⟨_,o2,q2,nf⟩:=hff.mem hm;rw[g1] at q2;cases q2;exact nf vs g2),g3,fun hm=>by
  rcases List.mem_cons.mp hm with z|hm
  ·rw[←z,g1] at ne;cases ne
  ·rcases List.mem_cons.mp hm with z|hm
   ·rw[←z,g1] at new;cases new
   ·cases hm⟩⟩,he⟩
end
section
variable {P:Program} {w:World} {K:PySem.W.Frag} {mg:Str→Option Value} {base:Heap} {N:List Str} {qual:Str} {scope:Scope} {f:Addr} {cd:Value} {A:Around} {outer:List Env} {s0:Shared} {H0:Hp} {E:XK}
theorem ke:fK (eA (aO P w) P w K mg base N qual scope f cd A outer s0 H0 E) E:=AJ (cb:=true) (ps:= [])
theorem aH:Passes (aO P w) (eA (aO P w) P w K mg base N qual scope f cd A outer s0 H0 E) E:=KW (cb:=true) (ps:= [])
theorem dA:jX (eA (aO P w) P w K mg base N qual scope f cd A outer s0 H0 E) E:=JE (cb:=true) (ps:= [])
end
def i7:List Value:= [.type "Exception", .type "BaseException", .type "object"]
def gq (K:PySem.W.Frag) (C:Addr):Prop:=PySem.W.excIn K C i7 "Exception.__new__" =true
theorem gq.obj {K:PySem.W.Frag} {h:Heap} {C:Addr} (X:K.In h) (q:gq K C): ∃bm N nm qn bs hdct sn sub ab col dd k0 k1 k2 k3 k5 mN,h.get? C=some (excClassObj nm qn C N bs bm hdct sn sub ab col dd k0 k1 k2 k3 k5 "Exception.__new__")∧h.Ns N mN∧mN "__init__" =none∧OwnTail h i7 bm:=by
 unfold gq PySem.W.excIn at q
 split at q
 ·rename_i dd cd sl ho
  split at q
  ·rename_i C' bm k0 k1 k2 k3 n k5 hm hs
   simp only [Bool.and_eq_true,beq_iff_eq,Bool.not_eq_true'] at q
   obtain ⟨⟨⟨⟨⟨rfl,rfl⟩,hdel⟩,ht⟩,aj⟩,hni⟩:=q
   obtain ⟨nm,bs,mro,ns,qn,hd,sn,sub,ab,col,del⟩:=cd
   dsimp only at hm hdel aj hni
   subst hm hdel
   have hsl:sl= #[k0,k1,k2,k3,some (.builtin "Exception.__new__"),k5]:=by
    obtain ⟨l⟩:=sl
    simp only at hs
    rw[hs]
   subst hsl
   exact ⟨bm,ns,nm,qn,bs,hd,sn,sub,ab,col,dd,k0,k1,k2,k3,k5,_,X _ _ ho, .of_isNs (PySem.W.isNs_of_in X aj),PySem.W.nsMap_none_of_in X aj hni,PySem.W.tail_of_in X ht⟩
  ·cases q
 ·cases q
def Ab (E:XK) (C:Addr):TS:=fun _ _ H=>E (.ref C) none H
theorem dn {X:Cx} {x:Str} {C:Addr} {E:XK} {np cpos pos:Pos} (hc:X.calm=true) (hg:Gl X x) (hm:X.mg x=some (.ref C)) (hC:gq X.K C) (hr:jX X E) (hd:(x==("__debug__" :Str))=false:=by decide):
  PS X (.Raise (some (.Call (.Name x np) [] [] cpos)) none pos) (Ab E C):=by
 intro pins s σ H D I h
 obtain ⟨bm,N,nm,qn,bs,hdct,sn,sub,ab,col,dd,k0,k1,k2,k3,k5,mN,g1,g2,g3,g4⟩:=hC.obj I.bT
 exact wpAny_Raise_call_subT (C:=C) (nm:=nm) (q:=qn) (N:=N) (bs:=bs) (bm:=bm) (hdct:=hdct) (sn:=sn) (sub:=sub) (ab:=ab) (col:=col) (dd:=dd) (k0:=k0) (k1:=k1) (k2:=k2) (k3:=k3) (k5:=k5)
  F.excBase_Exception (mN:=mN) (g4.hasType F.excBase_Exception.hasBase) (I.ok.hd hc) rfl g3 (iA I hg hm ⟨rfl,evalArgs_empty ⟨rfl,Nat.zero_le _,g1,g2,g4,fun h' e hx=>by
   obtain ⟨t,ht,_⟩:=hx.there
   exact hr pins σ H s h' e _ _ .none 0 I hx.keeps hx.new ht rfl rfl rfl .nil h⟩⟩ hd)
theorem aG.bF {P:Program} {w:World} {K:PySem.W.Frag} {mg:Str→Option Value} {base:Heap} {x qual:Str} {st:Stmt} {f:Addr} {fd:FuncData} {N ps:List Str} {k:Nat} {sp:Sp} (F:aG K x qual st f fd) (S:aI N ps (aD st)) (len: ∀vs H Q E,sp vs H Q E→vs.length=ps.length)
  (hbody: ∀(cdv:Value) (A:Around) (outer:List Env) (s:Shared) (H:Hp) (vs:List V) (Q:VK) (E:XK),aC k (A.deeper (envOfC qual (aD st) s.heap.objs.size f cdv))→sp vs H Q E→
   ∃t,cc (eA (aO P w) P w K mg base N qual (aD st) f cdv A outer s H E) (lB st) t∧t {nx:=fun _ H'=>Q .aq H',rt:=Q} (start N vs) H):az P w K mg base (aO P w) (k+1) f fd ps sp:=by
 obtain ⟨oc,od,kV,doc,pm,an,cdv,ct,osl,rfl,lk,hcd⟩:=F.ex
 exact zB lk hcd S len fun A outer s H vs Q E hr hsp=>hbody cdv A outer s H vs Q E hr hsp
end L2
namespace L2
open PySem PySem.Spec PyProof.Rows
section
variable {X:Cx} {pins:List (Addr×Obj)} {σ:St} {H:Hp} {s:Shared}
theorem DA {α:Type} {M:Model} {A:Around} {E:Value→Shared→Prop} {what:String} {s:Shared} {x T:Addr} {oe oT:Obj} {vs ts:Array Value} {cenv:Env} {Q:α→Shared→Prop} (g1:s.heap.get? x=some oe) (g3:oe.data= .fields vs) (g4:vs[1]?=some (.ref T)) (g7:s.heap.get? T=some oT) (g8:oT.data= .fields ts) (h3:3<ts.size)
  (k:E (.ref x) {s with heap:=s.heap.update T (Obj.mapFields (·.setIfInBounds 3 (cenv.frame.elim Value.none fun f=>rawInt f)))}):wpAny M A (PySem.passOn what (.ref x) cenv) Q E s:=by
 unfold PySem.passOn
 refine wpAny_bind (wpAny_field g1 g3 g4 ?_)
 rw[if_neg (by simp)]
 unfold setFlight
 refine wpAny_bind (wpAny_bind (wpAny_field g1 g3 g4 ?_))
 rw[if_pos (by simp)]
 exact wpAny_setField g7 g8 h3 (wpAny_throw k)
end
section
variable {X:Cx}
theorem uO {E:XK} {pins:List (Addr×Obj)} {s:Shared} {σ:St} {H:Hp} {Q:VK} {elt tg iter:Expr} {ifs:List Expr} {scope:Scope} {own:List (Str×Nat)} {pos pos':Pos} {wi:TI} {g:TG} {tt:TT} {te:TE} {use:Option (Value→Sem Unit)} {Qf:Value→Shared→Prop}
  (hex:X.ex= []) (hst:X.stack=X.env::X.outer) (hfr:X.env.frame=some X.env.locals) (hair:fK X E) (hc:X.calm=true) (hN:X.N.Nodup) (I:Inv X pins σ H s) (hi:PI X tg iter wi) (ok:gz X.N X.env.scope scope own)
  (hg: ∀(s:Shared) (H:Hp) (C:Addr) (cl:List (Str×Addr)) (fp:List Addr) (xb:Value→Shared→Prop),PG ((X.bb s H scope (compEnvC scope cl C X.env) fp).bC xb) tg g) (ht: ∀(s:Shared) (H:Hp) (C:Addr) (cl:List (Str×Addr)) (fp:List Addr) (xb:Value→Shared→Prop),gZ ((X.bb s H scope (compEnvC scope cl C X.env) fp).bC xb) ifs tt)
  (he: ∀(s:Shared) (H:Hp) (C:Addr) (cl:List (Str×Addr)) (fp:List Addr) (xb:Value→Shared→Prop),Passes (aO X.prog X.w) ((X.bb s H scope (compEnvC scope cl C X.env) fp).bC xb) E→PE ((X.bb s H scope (compEnvC scope cl C X.env) fp).bC xb) elt te) (hs: ∀x,foldedSetIterable iter X.env x=pure x)
  (h:fV wi g tt te (own.map (·.2)) σ H Q)
  (hRR: ∀D C s' m H',Inv X pins σ H' s'→Q (.ref D) H'→s'.heap.Ns C m→cZ X pins H' C→compPost (model X.prog X.w) X.A X.xe use Qf (.ref D) C (.ok .next) s'):
  wpAny (model X.prog X.w) X.A (comprehension (.ListComp elt [⟨tg,iter,ifs,0⟩] scope pos) scope X.env pos' (newList []) false (eval iter X.env) use) Qf X.xe s:=by
 have hfree: ∀y∈scope.names,y.2= .free→ ∃c,X.env.cells.lookup y.1=some c:=fun y hy e=>by
  rcases ok.free y hy e with k|k
  ·exact I.ok.has _ (.inl k)
  ·exact I.ok.has _ (.inr k)
 refine wpAny_comprehension_free (use:=use) rfl hs (yZ hfree) ok.kind (fun y hy e=>by rw[ok.uniq y hy,e])
  (aA (hi pins s σ H _ I h) fun xv s1 hx=>aA hx fun itv s2 h2=>?_)
 obtain ⟨it,fp,tn,J,H2,e,I2,T,st2,f2,q⟩:=h2
 subst e
 refine wpAny_newObj_type (xw ?_) (by show 0≤sizeLine;decide)
 generalize hD:s2.heap.objs.size=D
 have hDn:H2 D=none:=I2.aj.fresh (Nat.le_of_eq hD)
 obtain ⟨W,⟨m0,w0⟩,turn⟩:=q D hDn
 generalize hs3:({s2 with heap:=s2.heap.push {cls:= .type "list",data:= .seq ([]:List Value).toArray}}:Shared)=s3
 have I3:Inv X pins σ (upd H2 D (.lst [])) s3:=by
  rw[←hs3]
  refine I2.laid (t':=s2.toks) (fun b o e=>Heap.get?_push_of_some _ e) (Nat.le_of_eq hD) ⟨Nat.zero_le _, [],0, .nil,?_⟩
  rw[←hD]
  exact Heap.get?_push_size _ rfl
 have h3:s3.heap=s2.heap.push {cls:= .type "list",data:= .seq ([]:List Value).toArray}:=by rw[←hs3]
 have sz: ∀b∈fp,b<s2.heap.objs.size:=fun b hb=>by
  obtain ⟨o,e,_⟩:=T.obj _ _ st2 b hb
  exact Heap.lt_size e
 have f3: ∀b∈fp,cZ X pins (upd H2 D (.lst [])) b∧b<s3.heap.objs.size:=fun b hb=>by
  have hlt:=sz b hb
  refine ⟨⟨?_,(f2 b hb).2⟩,by rw[h3,Heap.size_push];exact Nat.lt_succ_of_lt hlt⟩
  rw[aB (by rw[←hD];exact Nat.ne_of_lt hlt)]
  exact (f2 b hb).1
 have st3:tn 0 s3.heap:=T.keep _ _ _ st2 fun b _ o e=>by rw[h3];exact Heap.get?_push_of_some _ e
 have I4:=(wW I3 ok hN f3).bC (notedBy (model X.prog X.w) X.A (compEnvC scope (cellsFrom (s3.heap.objs.size+1) scope.names (bJ X.env.cells scope.names [])) s3.heap.objs.size X.env) fun e s'=>compPost (model X.prog X.w) X.A X.xe use Qf (.ref D) s3.heap.objs.size (.error e) s')
 have pg:=hg s3 (upd H2 D (.lst [])) s3.heap.objs.size (cellsFrom (s3.heap.objs.size+1) scope.names (bJ X.env.cells scope.names [])) fp (notedBy (model X.prog X.w) X.A (compEnvC scope (cellsFrom (s3.heap.objs.size+1) scope.names (bJ X.env.cells scope.names [])) s3.heap.objs.size X.env) fun e s'=>compPost (model X.prog X.w) X.A X.xe use Qf (.ref D) s3.heap.objs.size (.error e) s')
 have pt:=ht s3 (upd H2 D (.lst [])) s3.heap.objs.size (cellsFrom (s3.heap.objs.size+1) scope.names (bJ X.env.cells scope.names [])) fp (notedBy (model X.prog X.w) X.A (compEnvC scope (cellsFrom (s3.heap.objs.size+1) scope.names (bJ X.env.cells scope.names [])) s3.heap.objs.size X.env) fun e s'=>compPost (model X.prog X.w) X.A X.xe use Qf (.ref D) s3.heap.objs.size (.error e) s')
 have pe:=he s3 (upd H2 D (.lst [])) s3.heap.objs.size (cellsFrom (s3.heap.objs.size+1) scope.names (bJ X.env.cells scope.names [])) fp (notedBy (model X.prog X.w) X.A (compEnvC scope (cellsFrom (s3.heap.objs.size+1) scope.names (bJ X.env.cells scope.names [])) s3.heap.objs.size X.env) fun e s'=>compPost (model X.prog X.w) X.A X.xe use Qf (.ref D) s3.heap.objs.size (.error e) s')
 show codeAny _ _ (.compStart (.ListComp elt [⟨tg,iter,ifs,0⟩] scope pos) 0 (.ref it) (.ref D) (compEnvC scope (cellsFrom (s3.heap.objs.size+1) scope.names (bJ X.env.cells scope.names [])) s3.heap.objs.size X.env)) (compPost (model X.prog X.w) X.A X.xe use Qf (.ref D) s3.heap.objs.size) {s3 with heap:=pushCells (s3.heap.push {cls:= .type "dict",data:= .dict #[]}) scope.names}
 have nfp: ∀b∈fp,(upd H2 D (.lst [])) b=none:=fun b hb=>(f3 b hb).1.1
 generalize hce:compEnvC scope (cellsFrom (s3.heap.objs.size+1) scope.names (bJ X.env.cells scope.names [])) s3.heap.objs.size X.env=ce at I4 pg pt pe⊢
 have cL:ce.locals=s3.heap.objs.size:=by subst hce;rfl
 have cF:ce.frame=X.env.frame:=by subst hce;rfl
 generalize hH3:upd H2 D (.lst [])=H3 at I3 I4 pg pt pe w0 nfp f3
 generalize hs4:({s3 with heap:=pushCells (s3.heap.push {cls:= .type "dict",data:= .dict #[]}) scope.names}:Shared)=s4 at I4⊢
 generalize hxb:(notedBy (model X.prog X.w) X.A ce fun e s'=>compPost (model X.prog X.w) X.A X.xe use Qf (.ref D) s3.heap.objs.size (.error e) s')=xb at I4 pg pt pe
 have hp:Passes (aO X.prog X.w) ((X.bb s3 H3 scope ce fp).bC xb) E:=by
  intro pins' σ' Hb sb e s' Ib hx
  obtain ⟨x,T0,cls,a0,n0,H',rfl,hos,hbare,un,aj,⟨hx0,hT0,hxn,hTn⟩,⟨ht,hq⟩,he'⟩:=hx
  have I1:Inv ((X.bb s3 H3 scope ce fp).bC xb) pins' σ' H' s':=Ib.gS (ch:= []) hos un aj hbare (fun b hb=>absurd hb (by simp))
  have hfc: ∀b∈fp,(b∈X.ex∨X.ba.heap.objs.size≤b)∧b≠X.env.locals∧(∀x c,X.env.cells.lookup x=some c→c≠b)∧ ∀p∈X.pn++pins,p.1≠b:=fun b hb=>⟨(f3 b hb).1.2.2.2.1,(f3 b hb).1.2.1,(f3 b hb).1.2.2.2.2.1,(f3 b hb).1.2.2.2.2.2⟩
  have Id0:Inv X pins σ Hb sb:=I3.gS (ch:=fp) Ib.os Ib.base Ib.aj Ib.bare hfc
  have Id:Inv X pins σ H' s':=I3.gS (ch:=fp) I1.os I1.base I1.aj I1.bare hfc
  have nC:H' s3.heap.objs.size=none:=by
   have z:H' ce.locals=none:=I1.free
   rw[cL] at z
   exact z
  obtain ⟨mC,hnC,_⟩:=I1.loc
  have hnC:s'.heap.Ns ce.locals mC:=hnC
  rw[cL] at hnC
  rw[←hxb]
  show wpAny (model X.prog X.w) X.A (noteFrame (.ref x) ce) _ _ s'
  rw[A1 cF]
  refine qR (by rw[Id.ok.frames,hst]) hfr (by rw[←hst];exact oU (fl:= .none) Id ht) fun h1 hh up=>?_
  obtain ⟨k1,k2,k3,oe',vs',T',oT',ts',t1,t2,t3,t4,t5,t6,t7,t8,t9⟩:=hh
  have hn1:h1.Ns s3.heap.objs.size mC:=up.ns hnC
  have hxC:x≠s3.heap.objs.size:=fun z=>by
   obtain ⟨o,es,ep,ho,hd,_⟩:=hn1
   rw[←z,t1] at ho;cases ho;rw[t3] at hd;cases hd
  have hTC:T'≠s3.heap.objs.size:=fun z=>by
   obtain ⟨o,es,ep,ho,hd,_⟩:=hn1
   rw[←z,t7] at ho;cases ho;rw[t8] at hd;cases hd
  refine ⟨mC,hn1,fun h2 sb2 cenv _=>?_⟩
  have g1:h2.get? x=some oe':=(sb2.2 x hxC).trans t1
  have g7:h2.get? T'=some oT':=(sb2.2 T' hTC).trans t7
  have hs3:3<ts'.size:=(Array.getElem?_eq_some_iff.mp t9).1
  refine DA (s:={s' with heap:=h2}) g1 t3 t4 g7 t8 hs3 ?_
  have hent:=sG Id up t5 t6 t7 t8
  have ap: ∀b∈ [x,T0,T',s3.heap.objs.size],X.ba.heap.get? b=none∧b≠X.env.locals∧(∀x c,X.env.cells.lookup x=some c→c≠b)∧(∀p∈X.pn++pins,p.1≠b)∧H' b=none:=fun b hb=>by
   have old: ∀{b:Addr},sb.heap.get? b=none→H' b=none→X.ba.heap.get? b=none∧b≠X.env.locals∧(∀x c,X.env.cells.lookup x=some c→c≠b)∧(∀p∈X.pn++pins,p.1≠b)∧H' b=none:=fun {b} q n=>by
    obtain ⟨z1,z2,z3,z4⟩:=Id0.apart hex q
    exact ⟨z1,z2,z3,z4,n⟩
   rcases List.mem_cons.mp hb with rfl|hb
   ·exact old hx0 hxn
   ·rcases List.mem_cons.mp hb with rfl|hb
    ·exact old hT0 hTn
    ·rcases List.mem_cons.mp hb with rfl|hb
     ·rcases hent with q|rfl
      ·obtain ⟨z1,z2,z3,z4⟩:=Id.apart hex q
       exact ⟨z1,z2,z3,z4,jg Id.aj q⟩
      ·exact old hT0 hTn
     ·rcases List.mem_cons.mp hb with rfl|hb
      ·obtain ⟨_,z2,_,_,z5,z6⟩:=I3.gB (Nat.le_refl _) nC
       exact ⟨I3.iu hex (Heap.get?_none_of_le (Nat.le_refl _)),z2,z5,z6,nC⟩
      ·cases hb
  have frC: ∀b∈aT X.stack,b≠s3.heap.objs.size:=fun b hb z=>by
   obtain ⟨_,o,ho,_⟩:=I3.stack.mem hb
   rw[z] at ho
   exact absurd (Heap.lt_size ho) (Nat.lt_irrefl _)
  have Im:=Id.moved (h':=h2.update T' (Obj.mapFields (·.setIfInBounds 3 (cenv.frame.elim Value.none fun f=>rawInt f)))) [x,T0,T',s3.heap.objs.size] ap
   (fun b o q nb nd=>by
    have n1:b∉ [x,T0]:=fun z=>nd (by
     rcases List.mem_cons.mp z with rfl|z
     ·simp
     ·rcases List.mem_cons.mp z with rfl|z
      ·simp
      ·cases z)
    have n2:b≠T':=fun z=>nd (by rw[z];simp)
    have n3:b≠s3.heap.objs.size:=fun z=>nd (by rw[z];simp)
    rw[Heap.get?_update_other _ _ (Ne.symm n2),sb2.2 b n3]
    exact pU k1 b o q nb n1)
   (fun b o q hm=>by
    obtain ⟨nf,sl,z⟩:=oZ Id up b o q hm
    have n2:b≠T':=fun w=>by
     rw[w,t7] at z
     cases z
     exact nf ts' t8
    refine ⟨sl,?_⟩
    rw[Heap.get?_update_other _ _ (Ne.symm n2),sb2.2 b (frC b hm)]
    exact z)
  refine hair pins σ H' _ x T' cls a0 (cenv.frame.elim Value.none fun f=>rawInt f) n0 Im ⟨(ap x (by simp)).1,(ap T' (by simp)).1,hxn,(ap T' (by simp)).2.2.2.2⟩ ?_ ((rA Id k1 hent hq).move fun a o vs q1 q2 q3 q4=>⟨?_,q3,q4⟩) he'
  rotate_left
  ·rw[Heap.get?_update_other _ _ (fun z=>q4 (by rw[z];simp)),sb2.2 a (fun z=>by
    obtain ⟨o2,es,ep,ho,hd,_⟩:=hn1
    rw[←z,q1] at ho;cases ho;rw[q2] at hd;cases hd)]
   exact q1
  exact ⟨oe',vs',_,_,(Heap.get?_update_other _ _ t6).trans g1,t2,t3,t4,t6,Heap.get?_update_self _ g7 (Obj.isFreed_of_fields (Obj.data_mapFields t8 _)),Obj.data_mapFields t8 _,by simp [hs3]⟩
 subst hxb
 have st4:tn 0 s4.heap:=T.keep _ _ _ st3 fun b _ o e=>by rw[←hs4];exact pushCells_keeps _ _ _ _ (Heap.get?_push_of_some _ e)
 have stat: ∀{σ':St} {H':Hp} {s':Shared},Inv ((X.bb s3 H3 scope ce fp).bC (notedBy (model X.prog X.w) X.A ce fun e s'=>compPost (model X.prog X.w) X.A X.xe use Qf (.ref D) s3.heap.objs.size (.error e) s')) [] σ' H' s'→(∀b∈fp,H' b=none)→ ∀b∈fp,cZ ((X.bb s3 H3 scope ce fp).bC (notedBy (model X.prog X.w) X.A ce fun e s'=>compPost (model X.prog X.w) X.A X.xe use Qf (.ref D) s3.heap.objs.size (.error e) s')) [] H' b:=fun {σ' H' s'} I' hn b hb=>
  ⟨hn b hb,(I'.ok.fL b hb).1,I'.ok.fM b hb, .inl hb,fun x c e=>(I'.ok.fL b hb).2 x c e,fun p hp=>absurd (show p∈([]:List (Addr×Obj))++ [] from hp) (by simp)⟩
 have loop:codeAny (model X.prog X.w) X.A (.compLoop (.ListComp elt [⟨tg,iter,ifs,0⟩] scope pos) 0 (.ref it) (.ref D) ce) (compPost (model X.prog X.w) X.A X.xe use Qf (.ref D) s3.heap.objs.size) s4:=by
  refine xp (fun n s'=> ∃i H',Inv ((X.bb s3 H3 scope ce fp).bC (notedBy (model X.prog X.w) X.A ce fun e s'=>compPost (model X.prog X.w) X.A X.xe use Qf (.ref D) s3.heap.objs.size (.error e) s')) [] (wipe σ (own.map (·.2))) H' s'∧tn i s'.heap∧(∀b∈fp,H' b=none)∧W i n H') ?_ m0 ⟨0,H3,I4,st4,nfp,w0⟩
  rintro n s5 ⟨i,H5,I5,st5,n5,w5⟩
  rcases turn i n H5 w5 with ⟨stop,qq⟩|⟨go,Nx,hNx,step⟩
  ·have td:=T.done ((X.bb s3 H3 scope ce fp).bC (notedBy (model X.prog X.w) X.A ce fun e s'=>compPost (model X.prog X.w) X.A X.xe use Qf (.ref D) s3.heap.objs.size (.error e) s')) rfl rfl rfl hc i [] s5 _ H5 (fun _ _=>False) I5 (stat I5 n5) st5 stop
   refine fT td fun r s6 ⟨hr,I6⟩=>?_
   subst hr
   have I7:Inv X pins σ H5 s6:=I3.gS (ch:=fp) I6.os I6.base I6.aj I6.bare fun b hb=>⟨(f3 b hb).1.2.2.2.1,(f3 b hb).1.2.1,(f3 b hb).1.2.2.2.2.1,(f3 b hb).1.2.2.2.2.2⟩
   have nC:H5 s3.heap.objs.size=none:=by
    have z:H5 ce.locals=none:=I6.free
    rw[cL] at z
    exact z
   obtain ⟨m,hn,_⟩:=I6.loc
   have hn:s6.heap.Ns ce.locals m:=hn
   rw[cL] at hn
   exact hRR D s3.heap.objs.size s6 m H5 I7 qq hn (I3.gB (Nat.le_refl _) nC)
  ·have ti:=T.item ((X.bb s3 H3 scope ce fp).bC (notedBy (model X.prog X.w) X.A ce fun e s'=>compPost (model X.prog X.w) X.A X.xe use Qf (.ref D) s3.heap.objs.size (.error e) s')) rfl rfl rfl hc i [] s5 _ H5 (fun _ _=>False) I5 (stat I5 n5) st5 go
   refine fT ti fun r s6 ⟨u,hr,h6⟩=>?_
   subst hr
   refine fT h6 fun _ s7 ⟨x,H7,I7,r7,y7,st7,n7⟩=>?_
   have I7':=I7.pinned (stat I7 n7) (T.obj _ _ st7)
   refine aA (pg _ s7 _ H7 x u _ I7' r7 (step x H7 y7)) fun _ s8 ⟨σ8,H8,I8,hw8,q8⟩=>?_
   refine aA (pt _ s8 σ8 H8 _ I8 q8) fun b s9 ⟨H9,I9,q9⟩=>?_
   have fin: ∀{s':Shared} {H':Hp},Inv ((X.bb s3 H3 scope ce fp).bC (notedBy (model X.prog X.w) X.A ce fun e s'=>compPost (model X.prog X.w) X.A X.xe use Qf (.ref D) s3.heap.objs.size (.error e) s')) ([]++jA fp s7.heap) σ8 H' s'→Nx H'→ ∃m,m<n∧ ∃i H',Inv ((X.bb s3 H3 scope ce fp).bC (notedBy (model X.prog X.w) X.A ce fun e s'=>compPost (model X.prog X.w) X.A X.xe use Qf (.ref D) s3.heap.objs.size (.error e) s')) [] (wipe σ (own.map (·.2))) H' s'∧tn i s'.heap∧(∀b∈fp,H' b=none)∧W i m H':=fun {s' H'} I' nx=>by
    obtain ⟨m',hm,w'⟩:=hNx H' nx
    have pin': ∀b∈fp,∀o,s7.heap.get? b=some o→s'.heap.get? b=some o∧H' b=none:=fun b hb o e=>
     let z:=I'.pin (b,o) (List.mem_append_right _ (List.mem_append_right _ (o8 hb e)))
     ⟨z.1,z.2.1⟩
    have hl:(wipe σ (own.map (·.2))).length=σ8.length:=by rw[←hw8,oh]
    refine ⟨m',hm,i+1,H',(I'.nj (pins:= [])).weak hl (fun j v e=>?_),T.keep _ _ _ st7 fun b hb o e=>(pin' b hb o e).1,fun b hb=>?_,w'⟩
    ·rw[←hw8] at e
     exact (oW e).1
    ·obtain ⟨o,e,_⟩:=T.obj _ _ st7 b hb
     exact (pin' b hb o e).2
   cases b with
   |false=>
    simp only [Bool.false_eq_true,if_false] at q9⊢
    exact fin I9 q9
   |true=>
    simp only [if_true] at q9⊢
    refine aA (pe hp _ s9 σ8 H9 _ I9 q9) fun z s10 ⟨yv,H10,I10,r10,acc,hD10,hz10,nx⟩=>?_
    exact Am (X:=(X.bb s3 H3 scope ce fp).bC (notedBy (model X.prog X.w) X.A ce fun e s'=>compPost (model X.prog X.w) X.A X.xe use Qf (.ref D) s3.heap.objs.size (.error e) s')) I10 hD10 hz10 r10 fun s11 I11=>fin I11 nx
 exact codeAny_compStart_list loop (T.self X.A 0 _ _ _ st4 loop)
theorem K2 {E:XK} {elt tg iter:Expr} {ifs:List Expr} {scope:Scope} {own:List (Str×Nat)} {pos:Pos} {wi:TI} {g:TG} {tt:TT} {te:TE} (hex:X.ex= []) (hst:X.stack=X.env::X.outer) (hfr:X.env.frame=some X.env.locals) (hair:fK X E) (hc:X.calm=true) (hN:X.N.Nodup) (hi:PI X tg iter wi) (ok:gz X.N X.env.scope scope own)
  (hg: ∀(s:Shared) (H:Hp) (C:Addr) (cl:List (Str×Addr)) (fp:List Addr) (xb:Value→Shared→Prop),PG ((X.bb s H scope (compEnvC scope cl C X.env) fp).bC xb) tg g) (ht: ∀(s:Shared) (H:Hp) (C:Addr) (cl:List (Str×Addr)) (fp:List Addr) (xb:Value→Shared→Prop),gZ ((X.bb s H scope (compEnvC scope cl C X.env) fp).bC xb) ifs tt)
  (he: ∀(s:Shared) (H:Hp) (C:Addr) (cl:List (Str×Addr)) (fp:List Addr) (xb:Value→Shared→Prop),Passes (aO X.prog X.w) ((X.bb s H scope (compEnvC scope cl C X.env) fp).bC xb) E→PE ((X.bb s H scope (compEnvC scope cl C X.env) fp).bC xb) elt te) (hs: ∀x,foldedSetIterable iter X.env x=pure x:=by intro _;rfl):
  PE X (.ListComp elt [⟨tg,iter,ifs,0⟩] scope pos) (fV wi g tt te (own.map (·.2))):=by
 intro pins s σ H Q I h
 rw[eval_ListComp]
 refine uO hex hst hfr hair hc hN I hi ok hg ht he hs h fun D C s' m H' I' q hn f=>⟨m,hn,fun h'' sb=>?_⟩
 obtain ⟨f0,f1,f2,f3,f4,f5⟩:=f
 exact ⟨.ref D,H',I'.turned (t':=s'.toks) (fun b o hb e=>(sb.2 b hb).trans e) f0 f1 f3 f4 f5,rfl,q⟩
end
end L2
namespace L2
open PySem PySem.Spec PyProof.Rows
def bR (X:Cx) (pins:List (Addr×Obj)) (σ:St) (E:XK) (ev:Value) (s:Shared):Prop:= ∃(x T:Addr) (cls c fl:Value) (n:Nat) (H:Hp),ev= .ref x∧Inv X pins σ H s∧
 (∀b∈ [x,T],X.ba.heap.get? b=none∧b≠X.env.locals∧(∀y c,X.env.cells.lookup y=some c→c≠b)∧(∀p∈X.pn++pins,p.1≠b)∧H b=none)∧o5 s.heap x T cls c fl∧bY s.heap H [x,T] n c∧E cls none H
section
variable {X:Cx} {pins:List (Addr×Obj)} {σ:St} {H:Hp} {s s':Shared} {E:XK}
theorem IZ (I:Inv X pins σ H s) (hex:X.ex= []) {e:Value} (h:aO X.prog X.w X.stack H s E e s'):bR X pins σ E e s':=by
 obtain ⟨x,T,cls,c,n,H',rfl,hos,hbare,un,aj,⟨hx0,hT0,hxn,hTn⟩,⟨ht,hq⟩,he⟩:=h
 have I1:Inv X pins σ H' s':=I.gS (ch:= []) hos un aj hbare (fun b hb=>absurd hb (by simp))
 obtain ⟨z1,z2,z3,z4⟩:=I.apart hex hx0
 obtain ⟨y1,y2,y3,y4⟩:=I.apart hex hT0
 exact ⟨x,T,cls,c, .none,n,H',rfl,I1,kN ⟨z1,z2,z3,z4,hxn⟩ ⟨y1,y2,y3,y4,hTn⟩,ht,hq,he⟩
theorem u9 {x T:Addr} {cls c fl:Value} {n:Nat} {l:List Env} {h2:Heap} (hex:X.ex= []) (I:Inv X pins σ H s) (ap: ∀b∈ [x,T],X.ba.heap.get? b=none∧b≠X.env.locals∧(∀y c,X.env.cells.lookup y=some c→c≠b)∧(∀p∈X.pn++pins,p.1≠b)∧H b=none) (hq:bY s.heap H [x,T] n c) (he:E cls none H)
  (o:eQ (PySem.W.hideAll s.heap (x::T::aT X.stack)) l x cls c fl h2) (up:s.heap.UpToSlots h2):bR X pins σ E (.ref x) {s with heap:=h2}:=by
 obtain ⟨k1,k2,k3,oe',vs',T',oT',ts',t1,t2,t3,t4,t5,t6,t7,t8,t9⟩:=o
 have hent:=sG I up t5 t6 t7 t8
 have apx:=ap x (by simp)
 have apT:=ap T (by simp)
 have apT':X.ba.heap.get? T'=none∧T'≠X.env.locals∧(∀y c,X.env.cells.lookup y=some c→c≠T')∧(∀p∈X.pn++pins,p.1≠T')∧H T'=none:=by
  rcases id hent with q|rfl
  ·obtain ⟨z1,z2,z3,z4⟩:=I.apart hex q
   exact ⟨z1,z2,z3,z4,jg I.aj q⟩
  ·exact apT
 have Im:Inv X pins σ H {s with heap:=h2}:=I.moved [x,T] (kN apx apT) (pU k1) (fun b o q hm=>(oZ I up b o q hm).2)
 exact ⟨x,T',cls,c,fl,n,H,rfl,Im,kN apx apT',⟨oe',vs',oT',ts',t1,t2,t3,t4,t6,t7,t8,t9⟩,rA I k1 hent hq,he⟩
theorem Aw {M:Model} {Ee:Value→Shared→Prop} {Q:Unit→Shared→Prop} {A:Around} {ev:Value} (hex:X.ex= []) (hst:X.stack=X.env::X.outer) (hfr:X.env.frame=some X.env.locals) (hA:A.frames=X.A.frames) (h:bR X pins σ E ev s) (k: ∀s3,bR X pins σ E ev s3→Q () s3):
  wpAny M A (noteFrame ev X.env) Q Ee s:=by
 obtain ⟨x,T,cls,c,fl,n,H,rfl,I,ap,ht,hq,he⟩:=h
 exact qR (by rw[hA,I.ok.frames,hst]) hfr (by rw[←hst];exact oU I ht) fun h1 hh up=>k _ (u9 hex I ap hq he hh up)
theorem pD {M:Model} {Ee:Value→Shared→Prop} {Q:Unit→Shared→Prop} {A:Around} {ev:Value} {fo:Option Addr} (hex:X.ex= []) (h:bR X pins σ E ev s) (k: ∀s3,bR X pins σ E ev s3→Q () s3):wpAny M A (setFlight ev fo) Q Ee s:=by
 obtain ⟨x,T,cls,c,fl,n,H,rfl,I,ap,ht,hq,he⟩:=h
 exact tQ (oU I ht) fun h2 o up=>k _ (u9 hex I ap hq he o up)
theorem uc {M:Model} {Q:Value→Shared→Prop} {A:Around} {ev:Value} (hex:X.ex= []) (h:bR X pins σ E ev s) (k: ∀s3,bR X pins σ E ev s3→Q ev s3):cameBackBy M A X.env Q ev s:=by
 obtain ⟨x,T,cls,c,fl,n,H,rfl,I,ap,ht,hq,he⟩:=id h
 obtain ⟨oe,vs,oT,ts,g1,g2,g3,g4,_⟩:=ht
 unfold cameBackBy
 refine wpAny_bind (wpAny_field g1 g3 g4 ?_)
 rw[if_neg (by simp)]
 exact pD hex h k
theorem bR.imp {E':XK} {ev:Value} (h:bR X pins σ E ev s) (k: ∀cls d H,E cls d H→E' cls d H):bR X pins σ E' ev s:=by
 obtain ⟨x,T,cls,c,fl,n,H,e,I,ap,ht,hq,he⟩:=h
 exact ⟨x,T,cls,c,fl,n,H,e,I,ap,ht,hq,k _ _ _ he⟩
end
theorem Br {M:Model} {A:Around} {E:Value→Shared→Prop} {h:Heap} {g:Array GenState} {d:Drawn} {t:Nat} {os:OsState} {e C C2:Addr} {oe:Obj} {Q:Bool→Shared→Prop}
  {nm q:Str} {N:Addr} {bs bm:List Value} {hdct:Bool} {sn:List Str} {sub:List Value} {ab:Bool} {col:Option Bool} {dd:Option Addr} {k0 k1 k2 k3 k5:Option Value} {newId:String}
  {nm' q':Str} {N':Addr} {bs' bm':List Value} {hdct':Bool} {sn':List Str} {sub':List Value} {ab':Bool} {col':Option Bool} {dd':Option Addr} {j0 j1 j2 j3 j5:Option Value} {newId':String}
  (hC:h.get? C=some (excClassObj nm q C N bs bm hdct sn sub ab col dd k0 k1 k2 k3 k5 newId)) (hC2:h.get? C2=some (excClassObj nm' q' C2 N' bs' bm' hdct' sn' sub' ab' col' dd' j0 j1 j2 j3 j5 newId')) (he:h.get? e=some oe) (hcls:oe.cls= .ref C) (hbase:bm'.contains (.type "BaseException")=true)
  (hq:Q ((Value.ref C::bm).contains (.ref C2)) ⟨h,g,d,t,os⟩):wpAny M A (excMatches (.ref e) (.ref C2)) Q E ⟨h,g,d,t,os⟩:=by
 have hcB:(Value.ref C2::bm').contains (.type "BaseException")=true:=by rw[List.contains_cons,hbase,Bool.or_true]
 have f:=tc_notTuple
 unfold excMatches
 repeat (first|(with_reducible refine wpAny_loadPart_at he ?_;rw[hcls])|with_reducible refine wpAny_loadPart_at hC2 ?_|(with_reducible refine wpAny_isSubtype_exc hC2 ?_;rw[hcB])|with_reducible refine wpAny_isSubtype_exc hC ?_|wp_step)
 cases hb:(Value.ref C::bm).contains (.ref C2)<;>(rw[hb] at hq;wp_walk;exact hq)
def tp (K:PySem.W.Frag) (C:Addr):Bool:=match K.lookup C with
 |some ⟨_,_, .cls cd,_⟩=>cd.mro== .ref C::i7
 |_=>false
theorem vX {K:PySem.W.Frag} {h:Heap} {C:Addr} (X:K.In h) (hb:tp K C=true) {nm q:Str} {N:Addr} {bs bm:List Value} {hdct:Bool} {sn:List Str} {sub:List Value} {ab:Bool} {col:Option Bool} {dd:Option Addr} {k0 k1 k2 k3 k5:Option Value} {newId:String}
  (hC:h.get? C=some (excClassObj nm q C N bs bm hdct sn sub ab col dd k0 k1 k2 k3 k5 newId)):bm=i7:=by
 unfold tp at hb
 split at hb
 ·rename_i ho
  have:=X _ _ ho
  rw[hC] at this
  cases this
  have z:=beq_iff_eq.mp hb
  cases z
  rfl
 ·cases hb
structure Own (K:PySem.W.Frag) (C:Addr):Prop where
 exc:gq K C
 base:tp K C=true
inductive dH:List (Addr×Obj)→Nat→Value→Prop
 |nil:dH [] 0 .none
 |cons {a:Addr} {o:Obj} {vs:Array Value} {c:Value} {n:Nat} {ps:List (Addr×Obj)}:o.data= .fields vs→vs[2]?=some c→dH ps n c→dH ((a,o)::ps) (n+1) (.ref a)
theorem bY.pins {h:Heap} {H:Hp} {av:List Addr} {n:Nat} {c:Value} (x:bY h H av n c): ∃ps,dH ps n c∧ ∀p∈ps,h.get? p.1=some p.2∧H p.1=none∧ ∃vs,p.2.data= .fields vs:=by
 induction x with
 |nil=>exact ⟨[], .nil,fun p hp=>absurd hp (by simp)⟩
 | @cons n a o vs c h1 h2 h3 h4 h5 _ ih=>
  obtain ⟨ps,k1,k2⟩:=ih
  refine ⟨(a,o)::ps, .cons h2 h3 k1,fun p hp=>?_⟩
  rcases List.mem_cons.mp hp with rfl|hp
  ·exact ⟨h1,h4,vs,h2⟩
  ·exact k2 p hp
theorem dH.Dc {ps:List (Addr×Obj)} {n:Nat} {c:Value} (x:dH ps n c) {h:Heap} {H:Hp} {av:List Addr} (k: ∀p∈ps,h.get? p.1=some p.2∧H p.1=none∧p.1∉av):bY h H av n c:=by
 induction x with
 |nil=>exact .nil
 |cons h1 h2 _ ih=>
  obtain ⟨k1,k2,k3⟩:=k _ (List.mem_cons_self ..)
  exact .cons k1 h1 h2 k2 k3 (ih fun p hp=>k p (List.mem_cons_of_mem _ hp))
def wy (X:Cx):Prop:= ∃h ps n,X.A.handled=some (.ref h)∧dH ps n (.ref h)∧ ∀p∈ps,p∈X.pn
abbrev Cx.cG (X:Cx) (x:Addr) (ps:List (Addr×Obj)):Cx:={X with A:=X.A.mark (some (.ref x)),calm:=false,pn:=X.pn++ps,xe:=notedBy (model X.prog X.w) (X.A.mark (some (.ref x))) X.env (cameBackBy (model X.prog X.w) X.A X.env X.xe)}
section
variable {X:Cx} {pins ps:List (Addr×Obj)} {σ:St} {H:Hp} {s:Shared} {x:Addr} {E:XK}
theorem Cx.Ok.cG (ok:X.Ok) (x:Addr) (ps:List (Addr×Obj)):(X.cG x ps).Ok:=⟨ok.mod,ok.kind,ok.glob,ok.blt,ok.above,ok.inj,ok.has,ok.gn,(fun z=>nomatch z),ok.frames,ok.g9,ok.fL,ok.bs,ok.dW,ok.dC,ok.fM,ok.cQ,ok.fj⟩
theorem Inv.cG (I:Inv X pins σ H s) (x:Addr) (hp: ∀p∈ps,s.heap.get? p.1=some p.2∧H p.1=none∧ ∃vs,p.2.data= .fields vs):Inv (X.cG x ps) pins σ H s:=by
 refine ⟨I.ok.cG x ps,I.os,I.bare,I.base,I.loc,I.cell,I.free,I.cR,fun p hm=>?_,I.aj,I.len⟩
 rcases List.mem_append.mp hm with hm|hm
 ·rcases List.mem_append.mp hm with hm|hm
  ·exact I.pin p (List.mem_append_left _ hm)
  ·obtain ⟨g1,g2,vs,g3⟩:=hp p hm
   refine ⟨g1,g2,fun z=>?_,fun z=>?_,fun v q=>by rw[g3] at q;cases q⟩
   ·obtain ⟨m,⟨o,es,ep,ho,hd,_⟩,_⟩:=I.loc
    rw[←z,g1] at ho;cases ho;rw[g3] at hd;cases hd
   ·obtain ⟨_,o,ho,nf⟩:=I.cQ.mem z
    rw[g1] at ho;cases ho;exact nf vs g3
 ·exact I.pin p (List.mem_append_right _ hm)
theorem Inv.il (ok:X.Ok) (I:Inv (X.cG x ps) pins σ H s):Inv X pins σ H s:=⟨ok,I.os,I.bare,I.base,I.loc,I.cell,I.free,I.cR,fun p hm=>I.pin p (by
 rcases List.mem_append.mp hm with hm|hm
 ·exact List.mem_append_left _ (List.mem_append_left _ hm)
 ·exact List.mem_append_right _ hm),I.aj,I.len⟩
theorem SP.il (ok:X.Ok) {D:Ends} {f:Flow} {s':Shared} (h:SP (X.cG x ps) pins D f s'):SP X pins D f s':=by
 cases f with
 |next=>obtain ⟨σ',H',I,q⟩:=h;exact ⟨σ',H',I.il ok,q⟩
 |brk=>obtain ⟨σ',H',I,q⟩:=h;exact ⟨σ',H',I.il ok,q⟩
 |cont=>obtain ⟨σ',H',I,q⟩:=h;exact ⟨σ',H',I.il ok,q⟩
 |ret u=>obtain ⟨v,σ',H',I,r,q⟩:=h;exact ⟨v,σ',H',I.il ok,r,q⟩
theorem vt {n:Nat} (q:dH ps n (.ref x)):wy (X.cG x ps):=⟨x,ps,n,rfl,q,fun p hp=>List.mem_append_right _ hp⟩
theorem clause {C:Addr} {y:Str} {np pos:Pos} {b0:Stmt} {suite:List Stmt} {rest:List ExceptHandler} {t:TS} {D:Ends} {ev:Value} (hex:X.ex= []) (hC:Own X.K C) (hg:Gl X y) (hm:X.mg y=some (.ref C)) (hsu: ∀x ps n,dH ps n (.ref x)→cc (X.cG x ps) (b0::suite) t)
  (own: ∀cls d H,E cls d H→ ∃C',cls= .ref C'∧Own X.K C') (hit: ∀d H,E (.ref C) d H→t D σ H) (h:bR X pins σ E ev s)
  (miss: ∀s3,bR X pins σ (fun cls d H=>E cls d H∧cls≠ .ref C) ev s3→wpAny (model X.prog X.w) X.A (handleBy ev X.env rest) (SP X pins D) X.xe s3) (hd:(y==("__debug__" :Str))=false:=by decide):
  wpAny (model X.prog X.w) X.A (handleBy ev X.env (.ExceptHandler (some (.Name y np)) none (b0::suite) pos::rest)) (SP X pins D) X.xe s:=by
 obtain ⟨x,T,cls,c,fl,n,H,rfl,I,ap,ht,hq,he⟩:=id h
 refine wpAny_handleBy_cons (codeAny_handlers_test (iA (X:=X.cG x []) (I.cG x fun p hp=>absurd hp (by simp)) hg hm ?_ hd)) (by intro q;cases q)
 obtain ⟨C',rfl,oC⟩:=own _ _ _ he
 obtain ⟨bm,N,nm,qn,bs,hdct,sn,sub,ab,col,dd,k0,k1,k2,k3,k5,mN,g1,g2,g3,g4⟩:=oC.exc.obj I.bT
 obtain ⟨bm',N',nm',qn',bs',hdct',sn',sub',ab',col',dd',j0,j1,j2,j3,j5,mN',g1',g2',g3',g4'⟩:=hC.exc.obj I.bT
 obtain rfl:=vX I.bT oC.base g1
 obtain rfl:=vX I.bT hC.base g1'
 obtain ⟨oe,vs,oT,ts,e1,e2,_⟩:=id ht
 obtain ⟨hh,g,d,tk,os⟩:=s
 refine Br g1 g1' e1 e2.1 (by decide) ?_
 by_cases hc:C'=C
 ·subst hc
  have:(Value.ref C'::i7).contains (.ref C')=true:=by simp
  rw[this]
  have h0:bR X pins σ (fun cls d H=>E cls d H∧cls= .ref C') (.ref x) ⟨hh,g,d,tk,os⟩:=⟨x,T,_,c,fl,n,H,rfl,I,ap,ht,hq,he,rfl⟩
  refine codeAny_handlers_suite (pD hex h0 fun s3 h3=>?_)
  obtain ⟨x3,T3,cls3,c3,fl3,n3,H3,q3,I3,ap3,ht3,hq3,he3,rfl⟩:=h3
  cases q3
  obtain ⟨oe3,vs3,_,_,z1,z2,z3,_⟩:=ht3
  have ch:bY s3.heap H3 [] (n3+1) (.ref x):= .cons z1 z3 z2.2 (ap3 x (by simp)).2.2.2.2 (by simp) (hq3.move fun a o vs q1 _ q3 _=>⟨q1,q3,by simp⟩)
  obtain ⟨ps,p1,p2⟩:=ch.pins
  exact wpAny_mono (hsu x ps _ p1 pins s3 σ H3 D (I3.cG x p2) (hit _ _ he3)) (fun f s' q=>q.il I.ok) (fun _ _ z=>z)
 ·have:(Value.ref C'::i7).contains (.ref C)=false:=by
   have e:(Value.ref C==Value.ref C')=false:=by simp;exact fun z=>hc z.symm
   rw[List.contains_cons,e];rfl
  rw[this]
  exact miss _ ⟨x,T,_,c,fl,n,H,rfl,I,ap,ht,hq,he,fun z=>hc (by cases z;rfl)⟩
def c1 (C:Addr) (u:TS):Ends→St→XK:=fun D σ cls _ H=>cls= .ref C∧u D σ H
def c2 (C:Addr) (u:TS) (C':Addr) (u':TS):Ends→St→XK:=fun D σ cls _ H=>(cls= .ref C∧u D σ H)∨(cls= .ref C'∧u' D σ H)
abbrev Cx.tr (X:Cx) (pn:List (Addr×Obj)) (xe:Value→Shared→Prop):Cx:={X with pn:=pn,xe:=xe}
def mF (X:Cx) (E:St→XK):Prop:= ∀(pins:List (Addr×Obj)) (σ:St) (H:Hp) (s:Shared) (e:Value) (s':Shared),Inv X pins σ H s→aO X.prog X.w X.stack H s (E σ) e s'→X.xe e s'
def BD (tb:(St→XK)→TS) (cl:Ends→St→XK):TS:=fun D σ H=>tb (cl D) D σ H
theorem Inv.tr {xe:Value→Shared→Prop} (I:Inv X pins σ H s):Inv (X.tr (X.pn++pins) xe) [] σ H s:=
 ⟨⟨I.ok.mod,I.ok.kind,I.ok.glob,I.ok.blt,I.ok.above,I.ok.inj,I.ok.has,I.ok.gn,I.ok.hd,I.ok.frames,I.ok.g9,I.ok.fL,I.ok.bs,I.ok.dW,I.ok.dC,I.ok.fM,I.ok.cQ,I.ok.fj⟩,I.os,I.bare,I.base,I.loc,I.cell,I.free,I.cR,fun p hp=>I.pin p (by rw[List.append_nil] at hp;exact hp),I.aj,I.len⟩
theorem Inv.gR {xe:Value→Shared→Prop} {pins':List (Addr×Obj)} (ok:X.Ok) (I:Inv (X.tr (X.pn++pins) xe) pins' σ H s):Inv X pins σ H s:=⟨ok,I.os,I.bare,I.base,I.loc,I.cell,I.free,I.cR,fun p hp=>I.pin p (List.mem_append_left _ hp),I.aj,I.len⟩
theorem SP.gR {xe:Value→Shared→Prop} {pins':List (Addr×Obj)} (ok:X.Ok) {D:Ends} {f:Flow} {s':Shared} (h:SP (X.tr (X.pn++pins) xe) pins' D f s'):SP X pins D f s':=by
 cases f with
 |next=>obtain ⟨σ',H',I,q⟩:=h;exact ⟨σ',H',I.gR ok,q⟩
 |brk=>obtain ⟨σ',H',I,q⟩:=h;exact ⟨σ',H',I.gR ok,q⟩
 |cont=>obtain ⟨σ',H',I,q⟩:=h;exact ⟨σ',H',I.gR ok,q⟩
 |ret u=>obtain ⟨v,σ',H',I,r,q⟩:=h;exact ⟨v,σ',H',I.gR ok,r,q⟩
theorem oG {tb:(St→XK)→TS} {cl:Ends→St→XK} {body:List Stmt} {h0:ExceptHandler} {hs:List ExceptHandler} {pos:Pos} (hex:X.ex= []) (hst:X.stack=X.env::X.outer) (hfr:X.env.frame=some X.env.locals)
  (hb: ∀(E:St→XK) (pn:List (Addr×Obj)) (xe:Value→Shared→Prop),mF (X.tr pn xe) E→PassesOwn (model X.prog X.w) X.A X.env xe→cc (X.tr pn xe) body (tb E))
  (hh: ∀(pins:List (Addr×Obj)) (σ:St) (D:Ends) (ev:Value) (s3:Shared),bR X pins σ (cl D σ) ev s3→wpAny (model X.prog X.w) X.A (handleBy ev X.env (h0::hs)) (SP X pins D) X.xe s3):
  PS X (.Try body (h0::hs) [] [] pos) (BD tb cl):=by
 intro pins s σ H D I h
 have hp:mF (X.tr (X.pn++pins) fun ev s=> ∃σ',bR X pins σ' (cl D σ') ev s) (cl D):=fun pins' σ' H' s1 e s' I' q=>⟨σ',IZ (I'.gR I.ok) hex q⟩
 have ho:PassesOwn (model X.prog X.w) X.A X.env fun ev s=> ∃σ',bR X pins σ' (cl D σ') ev s:=fun ev s1 ⟨σ',q⟩=>Aw hex hst hfr rfl q fun s2 q2=>uc hex q2 fun s3 q3=>⟨σ',q3⟩
 refine wpAny_Try_except (wpAny_mono (hb (cl D) _ _ hp ho [] s σ H D I.tr h) (fun f s1 q=>?_) fun ev s1 ⟨σ',q⟩=>Aw hex hst hfr rfl q fun s2 q2=>pD hex q2 fun s3 q3=>hh pins σ' D ev s3 q3)
 have q:=q.gR I.ok
 cases f with
 |next=>exact wpAny_execs_nil q
 |brk=>exact q
 |cont=>exact q
 |ret u=>exact q
theorem Az {C:Addr} {y:Str} {np pos:Pos} {b0:Stmt} {suite:List Stmt} {u:TS} (hex:X.ex= []) (hC:Own X.K C) (hg:Gl X y) (hm:X.mg y=some (.ref C)) (hsu: ∀x ps n,dH ps n (.ref x)→cc (X.cG x ps) (b0::suite) u) (hd:(y==("__debug__" :Str))=false:=by decide):
  ∀(pins:List (Addr×Obj)) (σ:St) (D:Ends) (ev:Value) (s3:Shared),bR X pins σ (c1 C u D σ) ev s3→wpAny (model X.prog X.w) X.A (handleBy ev X.env [.ExceptHandler (some (.Name y np)) none (b0::suite) pos]) (SP X pins D) X.xe s3:=fun pins σ D ev s3 h=>by
 refine clause (t:=u) hex hC hg hm hsu (fun cls d H ⟨z,_⟩=>⟨C,z,hC⟩) (fun d H ⟨_,z⟩=>z) h (fun s3 h3=>?_) hd
 obtain ⟨_,_,_,_,_,_,_,_,_,_,_,_,⟨z,_⟩,n⟩:=h3
 exact absurd z n
theorem Ce {C C':Addr} {y y':Str} {np pos np' pos':Pos} {b0 b0':Stmt} {suite suite':List Stmt} {u u':TS} (hex:X.ex= []) (hC:Own X.K C) (hg:Gl X y) (hm:X.mg y=some (.ref C)) (hsu: ∀x ps n,dH ps n (.ref x)→cc (X.cG x ps) (b0::suite) u)
  (hC':Own X.K C') (hg':Gl X y') (hm':X.mg y'=some (.ref C')) (hsu': ∀x ps n,dH ps n (.ref x)→cc (X.cG x ps) (b0'::suite') u') (hne:C≠C') (hd:(y==("__debug__" :Str))=false:=by decide) (hd':(y'==("__debug__" :Str))=false:=by decide):
  ∀(pins:List (Addr×Obj)) (σ:St) (D:Ends) (ev:Value) (s3:Shared),bR X pins σ (c2 C u C' u' D σ) ev s3→wpAny (model X.prog X.w) X.A (handleBy ev X.env [.ExceptHandler (some (.Name y np)) none (b0::suite) pos, .ExceptHandler (some (.Name y' np')) none (b0'::suite') pos']) (SP X pins D) X.xe s3:=fun pins σ D ev s3 h=>by
 refine clause (t:=u) hex hC hg hm hsu (fun cls d H z=>z.elim (fun z=>⟨C,z.1,hC⟩) fun z=>⟨C',z.1,hC'⟩) (fun d H z=>z.elim (fun z=>z.2) fun z=>absurd (by injection z.1) hne) h (fun s3 h3=>?_) hd
 refine clause (t:=u') hex hC' hg' hm' hsu' (fun cls d H z=>z.1.elim (fun w=>absurd w.1 z.2) fun w=>⟨C',w.1,hC'⟩) (fun d H z=>z.1.elim (fun w=>absurd w.1 z.2) fun w=>w.2) h3 (fun s4 h4=>?_) hd'
 obtain ⟨_,_,_,_,_,_,_,_,_,_,_,_,⟨z,n1⟩,n⟩:=h4
 rcases z with z|z
 ·exact absurd z.1 n1
 ·exact absurd z.1 n
end
section
variable {X:Cx} {k:Nat} {f:Addr} {fd:FuncData} {ps:List Str} {sp:Sp} {dvs:List V} {ds:List Value} {E:St→XK} {x:Str} {p pos:Pos} {e:Expr} {es:List Expr} {t:TA}
def Eb (sp:Sp) (dvs:List V) (E:St→XK) (t:TA):TE:=fun σ H Q=>t σ H fun vs H1=>sp (vs++dvs) H1 Q (E σ)
theorem yo {pins:List (Addr×Obj)} {σ:St} {H:Hp} {s:Shared} {Q:VK} {us:List Value} {vs:List V} (F:az X.prog X.w X.K X.mg X.base (aO X.prog X.w) k f fd ps sp) (hr:aC k X.A) (hb:Binds X.K fd ps ds) (hd:Vals dvs ds) (hx:mF X E)
  (I:Inv X pins σ H s) (r:Vals vs us) (h:sp (vs++dvs) H Q (E σ)):wpAny (model X.prog X.w) X.A (call (.ref f) us) (EP X pins σ Q) X.xe s:=by
 have r2:Vals (vs++dvs) (us++ds):=r.append hd
 have hl:(us++ds).length=ps.length:=by rw[←r2.length];exact F.len _ _ _ _ h
 refine wpAny_call (codeAny_mono (F.run X.A X.stack s H ⟨us, []⟩ (us++ds) (vs++dvs) Q (E σ) hr I.rZ (hb s us I.bT hl) r2 h) fun r s' hq=>?_)
 cases r with
 |error e=>exact hx pins σ H s e s' I hq
 |ok fl=>
  cases fl with
  |ret u=>exact I.after hq
  |next=>exact False.elim hq
  |brk=>exact False.elim hq
  |cont=>exact False.elim hq
theorem rp (F:az X.prog X.w X.K X.mg X.base (aO X.prog X.w) k f fd ps sp) (hr:aC k X.A) (hg:Gl X x) (hm:X.mg x=some (.ref f)) (hk:PySem.W.keepIn X.K (.ref f)=true) (hb:Binds X.K fd ps ds) (hd:Vals dvs ds) (hx:mF X E)
  (ha:PA X (e::es) t) (hdb:(x==("__debug__" :Str))=false:=by decide) (he:starEach (e::es) X.env=(false,eval e X.env)::starEach es X.env:=by rfl) (hpl:(backTo pos (starEach es X.env)).any (·.1)=false:=by rfl):
  PE X (.Call (.Name x p) (e::es) [] pos) (Eb sp dvs E t):=by
 intro pins s σ H Q I h
 refine wpAny_Call_Name_kw (iA I hg hm ?_ hdb)
 refine PySem.W.callWith_K (h₀:=X.base) I.ok.mod.g0 hk (aA (ha pos pins s σ H _ I h) fun us s1 ⟨vs,H1,I1,r,q⟩=>⟨I1.bT,?_⟩) he hpl
 exact yo F hr hb hd hx I1 r q
end
end L2
namespace L2
open PySem PySem.Spec PyProof.Rows
theorem xj:entryFor table "proto.unchain" =some Builtin.«proto.unchain»:=entryFor_of_fast (by kernel_rfl)
section
variable {prog:Program} {w:World} {A:Around} {s:Shared} {H:Hp} {a:Addr}
theorem K7 {R:Result→Shared→Prop} (hR:R (.ok (.ret .none)) s): ∀(m:Nat) (o slow:Value) (tg:Bool) (ns:Nat),bY s.heap H [a] (m+1) o→bY s.heap H [a] ns slow→m+1≤ns→codeAny (model prog w) A (.builtin "proto.unchain" ⟨[.ref a,o,slow, .bool tg], []⟩) R s:=by
 intro m
 induction m with
 |zero=>
  intro o slow tg ns ho hs hm
  cases ho with
  |cons g d f2 hn nav t=>
   cases t
   refine codeAny_builtin xj ?_
   unfold Builtin.«proto.unchain»
   refine wpAny_bind (wpAny_field g d f2 ?_)
   rw[if_pos (by decide)]
   wp_walk
   exact hR
 |succ m ih=>
  intro o slow tg ns ho hs hm
  cases ho with
  |cons g d f2 hn nav t=>
   cases id t with
   | @cons _ a2 _ _ _ g2 d2 f22 hn2 nav2 t2=>
    refine codeAny_builtin xj ?_
    unfold Builtin.«proto.unchain»
    refine wpAny_bind (wpAny_field g d f2 ?_)
    rw[if_neg (by simp)]
    have n1:(Value.ref a2==Value.ref a)=false:=by simp;intro z;exact nav2 (by rw[z];simp)
    rw[n1,if_neg (by decide)]
    by_cases q:(Value.ref a2==slow)=true
    ·rw[q,if_pos rfl]
     wp_walk
     exact hR
    ·rw[if_neg q]
     cases tg with
     |false=>
      rw[if_neg (by decide)]
      refine wpAny_bind (wpAny_pure (wpAny_pure ⟨Code.quiet_builtin _ (by decide+kernel),?_⟩))
      exact ih _ slow true ns t hs (by omega)
     |true=>
      rw[if_pos rfl]
      cases hs with
      |nil=>omega
      |cons j1 j2 j3 j4 j5 j6=>
       refine wpAny_bind (wpAny_field j1 j2 j3 (wpAny_pure ⟨Code.quiet_builtin _ (by decide+kernel),?_⟩))
       exact ih _ _ false _ t j6 (by omega)
theorem G5 {α:Type} {E:Value→Shared→Prop} {Q:α→Shared→Prop} {h:Addr} {oa:Obj} {vs:Array Value} {n:Nat} (hh:A.handled=some (.ref h)) (ga:s.heap.get? a=some oa) (da:oa.data= .fields vs) (z2:2<vs.size) (ch:bY s.heap H [a] n (.ref h)) (k:E (.ref a) {s with heap:=s.heap.update a (Obj.mapFields (·.setIfInBounds 2 (.ref h)))}):
  wpAny (model prog w) A (raiseNew (.ref a):Sem α) Q E s:=by
 unfold raiseNew
 refine wpAny_bind (wpAny_handled ?_)
 rw[hh]
 have ne:(Value.ref h !=Value.ref a)=true:=by
  cases ch with
  |cons _ _ _ _ nav _=>
   simp
   intro z
   exact nav (by rw[z];simp)
 simp only [ne,if_true]
 refine wpAny_bind (wpAny_holding (wpAny_runValue ?_))
 cases ch with
 |cons j1 j2 j3 j4 j5 j6=>
  refine K7 ?_ _ _ _ _ _ (.cons j1 j2 j3 j4 j5 j6) (.cons j1 j2 j3 j4 j5 j6) (Nat.le_refl _)
  exact wpAny_bind (wpAny_setField (x:= .ref h) ga da z2 (wpAny_throw k))
end
theorem DU {h:Heap} {a:Addr} {o:Obj} {e:Addr} (g:h.get? a=some o) (n:h.get? e=none):a∉ [e]:=fun z=>by
 rcases List.mem_cons.mp z with z|z
 ·rw[←z,g] at n;cases n
 ·cases z
section
variable {X:Cx} {E:XK}
theorem Bi {pins:List (Addr×Obj)} {σ:St} {H:Hp} {s:Shared} {x:Str} {C:Addr} {np cpos:Pos} {Q:Value→Shared→Prop} {Ee:Value→Shared→Prop} (I:Inv X pins σ H s) (hg:Gl X x) (hm:X.mg x=some (.ref C)) (hC:gq X.K C)
  (k: ∀h' e,Heap.MadeExcOf s.heap h' e (.ref C) []→Q (.ref e) {s with heap:=h'}) (hd:(x==("__debug__" :Str))=false:=by decide):wpAny (model X.prog X.w) X.A (eval (.Call (.Name x np) [] [] cpos) X.env) Q Ee s:=by
 obtain ⟨bm,N,nm,qn,bs,hdct,sn,sub,ab,col,dd,k0,k1,k2,k3,k5,mN,g1,g2,g3,g4⟩:=hC.obj I.bT
 refine wpAny_Call_ofName (iA I hg hm ?_ hd)
 unfold callWith
 refine wpAny_bind (wpAny_holding (evalArgs_empty (wpAny_bind (wpAny_standAt ?_))))
 obtain ⟨hp,g,d,tk,os⟩:=s
 simp only [starEach,backTo,List.any_nil]
 refine wpAny_bind (wpAny_keeperOf_exc g1 ?_)
 refine wpAny_bind (wpAny_call_exc_subT F.excBase_Exception g4 g1 g2 g3 fun h' e hx=>wpAny_bind (wpAny_holding (wpAny_point (wpAny_pure ?_))))
 exact k h' e hx
theorem yF {x:Str} {C:Addr} {np cpos pos cp:Pos} {j} (hh:wy X) (hg:Gl X x) (hm:X.mg x=some (.ref C)) (hC:gq X.K C) (hr:jX X E) (hd:(x==("__debug__" :Str))=false:=by decide):
  PS X (.Raise (some (.Call (.Name x np) [] [] cpos)) (some (.Constant .none j cp)) pos) (Ab E C):=by
 intro pins s σ H D I h
 rw[arm_exec_Raise]
 simp only [evalOpt,Option.map]
 refine wpAny_bind (wpAny_standAt ?_)
 unfold raiseStmt
 refine wpAny_bind (wpAny_bind (Bi I hg hm hC (fun h1 e hx=>wpAny_bind (wpAny_standAt (wpAny_pure ?_))) hd))
 obtain ⟨bm,N,nm,qn,bs,hdct,sn,sub,ab,col,dd,k0,k1,k2,k3,k5,mN,g1,g2,g3,g4⟩:=hC.obj I.bT
 have hcB:(Value.ref C::bm).contains (.type "BaseException")=true:=by rw[List.contains_cons,g4.hasType F.excBase_Exception.hasBase,Bool.or_true]
 obtain ⟨t,he,htn,ht⟩:=hx.there
 have hC1:=hx.keeps _ _ g1
 obtain ⟨hp,g,d,tk,os⟩:=s
 refine wpAny_bind (wpAny_holding (wpAny_bind (Constant_none (wpAny_bind (wpAny_standAt (wpAny_pure (wpAny_bind (wpAny_pure ?_))))))))
 repeat (first|with_reducible refine wpAny_loadPart_at he ?_|with_reducible refine wpAny_loadPart_at hC1 ?_|(with_reducible refine wpAny_isSubtype_exc hC1 ?_;rw[hcB])|wp_step)
 have neC:e≠C:=fun z=>by have z3:=hx.new;rw[z,g1] at z3;cases z3
 have he2:=Heap.get?_update_self (Obj.mapFields (·.setIfInBounds 3 Value.none)) he rfl
 have hC2:=(Heap.get?_update_other h1 (Obj.mapFields (·.setIfInBounds 3 Value.none)) neC).trans hC1
 have kp2: ∀b o,hp.get? b=some o→(h1.update e (Obj.mapFields (·.setIfInBounds 3 Value.none))).get? b=some o:=fun b o z=>(Heap.get?_update_other _ _ (fun z2:e=b=>by have z3:=hx.new;rw[z2] at z3;exact absurd (z.symm.trans z3) (by simp))).trans (hx.keeps b o z)
 generalize h1.update e (Obj.mapFields (·.setIfInBounds 3 Value.none))=h2 at*
 have he3:=Heap.get?_update_self (Obj.mapFields (·.setIfInBounds 4 (Value.bool true))) he2 rfl
 have hC3:=(Heap.get?_update_other h2 (Obj.mapFields (·.setIfInBounds 4 (Value.bool true))) neC).trans hC2
 have kp3: ∀b o,hp.get? b=some o→(h2.update e (Obj.mapFields (·.setIfInBounds 4 (Value.bool true)))).get? b=some o:=fun b o z=>(Heap.get?_update_other _ _ (fun z2:e=b=>by have z3:=hx.new;rw[z2] at z3;exact absurd (z.symm.trans z3) (by simp))).trans (kp2 b o z)
 generalize h2.update e (Obj.mapFields (·.setIfInBounds 4 (Value.bool true)))=h3 at*
 repeat (first|with_reducible refine wpAny_loadPart_at he3 ?_|with_reducible refine wpAny_loadPart_at hC3 ?_|(with_reducible refine wpAny_isSubtype_exc hC3 ?_;rw[hcB])|wp_step)
 obtain ⟨hx1,ps,n,q1,q2,q3⟩:=hh
 have ch: ∀av,(∀p∈ps,p.1∉av)→bY hp H av n (.ref hx1):=fun av ha=>q2.Dc fun p hp'=>⟨(I.pin p (List.mem_append_left _ (q3 p hp'))).1,(I.pin p (List.mem_append_left _ (q3 p hp'))).2.1,ha p hp'⟩
 have che:bY h3 H [e] n (.ref hx1):=(ch [e] fun p hp'=>DU (I.pin p (List.mem_append_left _ (q3 p hp'))).1 hx.new).move fun a o vs z1 _ z3 z4=>⟨kp3 _ _ z1,z3,z4⟩
 refine G5 (s:=⟨h3,g,d,tk,os⟩) q1 he3 rfl (by show 2<6;decide) che ?_
 refine hr pins σ H ⟨hp,g,d,tk,os⟩ _ e _ _ (.ref hx1) n I (fun b o z=>?_) hx.new (Heap.get?_update_self _ he3 rfl) rfl rfl rfl (ch [] fun p _=>by simp) h
 rw[Heap.get?_update_other _ _ (fun z2:e=b=>by have z3:=hx.new;rw[z2] at z3;exact absurd (z.symm.trans z3) (by simp))]
 exact kp3 b o z
end
section
variable {X:Cx} {pins ps:List (Addr×Obj)} {σ:St} {H:Hp} {s:Shared} {x:Addr} {E:XK}
theorem bR.to {ev:Value} (hair:fK X E) (h:bR X pins σ E ev s):X.xe ev s:=by
 obtain ⟨x,T,cls,c,fl,n,H,rfl,I,ap,ht,hq,he⟩:=h
 exact hair pins σ H s x T cls c fl n I ⟨(ap x (by simp)).1,(ap T (by simp)).1,(ap x (by simp)).2.2.2.2,(ap T (by simp)).2.2.2.2⟩ ht hq he
theorem Gd {e:Addr} {cls c fl:Value} {n:Nat} {l:List Env} {h1 h2:Heap} (hex:X.ex= []) (I:Inv X pins σ H s) (kp: ∀b o,s.heap.get? b=some o→h1.get? b=some o) (ne:s.heap.get? e=none) (hq:bY s.heap H [] n c) (he:E cls none H)
  (o:eQ (PySem.W.hideAll s.heap (aT X.stack)) l e cls c fl h2) (up:h1.UpToSlots h2):bR X pins σ E (.ref e) {s with heap:=h2}:=by
 obtain ⟨k1,k2,k3,oe',vs',T',oT',ts',t1,t2,t3,t4,t5,t6,t7,t8,t9⟩:=o
 have slot: ∀b o,s.heap.get? b=some o→b∈aT X.stack→(∀vs,o.data≠ .fields vs)∧ ∃sl,h2.get? b=some {o with slots:=sl}:=fun b o q hm=>by
  obtain ⟨_,o2,q2,nf⟩:=I.stack.mem hm
  rw[q] at q2;cases q2
  exact ⟨nf,up b o (kp b o q) nf⟩
 have keep: ∀b o,s.heap.get? b=some o→b∉aT X.stack→h2.get? b=some o:=fun b o q nb=>k1 b o (PySem.W.hideAll_get _ q nb)
 have new:s.heap.get? T'=none:=by
  cases q:s.heap.get? T' with
  |none=>rfl
  |some o=>
   by_cases hm:T'∈aT X.stack
   ·obtain ⟨nf,sl,z⟩:=slot T' o q hm
    rw[t7] at z
    cases z
    exact absurd t8 (nf ts')
   ·have:=PySem.W.hideAll_get _ q hm
    rw[t5] at this;cases this
 have ap: ∀b,s.heap.get? b=none→X.ba.heap.get? b=none∧b≠X.env.locals∧(∀y c,X.env.cells.lookup y=some c→c≠b)∧(∀p∈X.pn++pins,p.1≠b)∧H b=none:=fun b q=>by
  obtain ⟨z1,z2,z3,z4⟩:=I.apart hex q
  exact ⟨z1,z2,z3,z4,jg I.aj q⟩
 have Im:Inv X pins σ H {s with heap:=h2}:=I.moved [] (fun b hb=>absurd hb (by simp)) (fun b o q nb _=>keep b o q nb) (fun b o q hm=>(slot b o q hm).2)
 refine ⟨e,T',cls,c,fl,n,H,rfl,Im,kN (ap e ne) (ap T' new),⟨oe',vs',oT',ts',t1,t2,t3,t4,t6,t7,t8,t9⟩,hq.move fun a o vs g1 g2 g3 _=>⟨keep a o g1 (fun hm=>by obtain ⟨_,o2,q2,nf⟩:=I.stack.mem hm;rw[g1] at q2;cases q2;exact nf vs g2),g3,fun hm=>?_⟩,he⟩
 rcases List.mem_cons.mp hm with z|hm
 ·rw[←z,g1] at ne;cases ne
 ·rcases List.mem_cons.mp hm with z|hm
  ·rw[←z,g1] at new;cases new
  ·cases hm
theorem Fn (hh:X.A.handled=none) (ok:(X.cG x ps).Ok):X.Ok:=⟨ok.mod,ok.kind,ok.glob,ok.blt,ok.above,ok.inj,ok.has,ok.gn,(fun _=>hh),ok.frames,ok.g9,ok.fL,ok.bs,ok.dW,ok.dC,ok.fM,ok.cQ,ok.fj⟩
theorem yP (hh:X.A.handled=none) (hex:X.ex= []) (hst:X.stack=X.env::X.outer) (hfr:X.env.frame=some X.env.locals) (hair:fK X E):jX (X.cG x ps) E:=by
 intro pins σ H s h1 e oe vs c n I kp ne ge de f1 f2 hq he
 have I:=I.il (Fn hh I.ok)
 have nh:(PySem.W.hideAll s.heap (aT X.stack)).get? e=none:=by
  cases q:(PySem.W.hideAll s.heap (aT X.stack)).get? e with
  |none=>rfl
  |some o=>rw[PySem.W.of_hideAll _ q] at ne;cases ne
 have ff:h1.FunFrames (PySem.W.hideAll s.heap (aT X.stack)) X.stack:=(PySem.W.funFrames_hide I.stack (fun env henv a ha=>qM henv ha)).of_keeps fun b o q nf=>⟨o,kp b o q,rfl⟩
 exact y6 (s:={s with heap:=h1}) (by show X.A.frames=_;rw[I.ok.frames,hst]) hfr (by rw[←hst];exact ff) ge (fun b o q=>kp b o (PySem.W.of_hideAll _ q)) nh de f1 f2 fun h2 o2 up=>
  uc hex (Gd (s:=s) (h1:=h1) hex I kp ne hq he o2 up) fun s3 q3=>q3.to hair
end
section
variable {X:Cx} {k:Nat} {f C:Addr} {fd:FuncData} {ps:List Str} {sp:Sp} {E:XK} {x m:Str} {p pos apos:Pos} {e o:Expr} {es:List Expr} {ta:TE} {t:TA}
end
end L2
namespace L2
open PySem PySem.Spec PyProof.Rows
section
variable {X:Cx}
theorem AS {E:XK} {i:Nat} {y:Str} {py:Pos} {elt tg iter:Expr} {ifs:List Expr} {scope:Scope} {own:List (Str×Nat)} {pos spos:Pos} {wi:TI} {g:TG} {tt:TT} {te:TE} (hex:X.ex= []) (hst:X.stack=X.env::X.outer) (hfr:X.env.frame=some X.env.locals) (hair:fK X E) (hc:X.calm=true) (hN:X.N.Nodup) (hy:X.N[i]?=some y) (hyl:X.env.scope.names.lookup y=some .local)
  (hsw:swapsWith (.ListComp elt [⟨tg,iter,ifs,0⟩] scope pos) (some (.Name y py)) spos.line X.env=pure true) (hi:PI X tg iter wi) (ok:gz X.N X.env.scope scope own)
  (hg: ∀(s:Shared) (H:Hp) (C:Addr) (cl:List (Str×Addr)) (fp:List Addr) (xb:Value→Shared→Prop),PG ((X.bb s H scope (compEnvC scope cl C X.env) fp).bC xb) tg g) (ht: ∀(s:Shared) (H:Hp) (C:Addr) (cl:List (Str×Addr)) (fp:List Addr) (xb:Value→Shared→Prop),gZ ((X.bb s H scope (compEnvC scope cl C X.env) fp).bC xb) ifs tt)
  (he: ∀(s:Shared) (H:Hp) (C:Addr) (cl:List (Str×Addr)) (fp:List Addr) (xb:Value→Shared→Prop),Passes (aO X.prog X.w) ((X.bb s H scope (compEnvC scope cl C X.env) fp).bC xb) E→PE ((X.bb s H scope (compEnvC scope cl C X.env) fp).bC xb) elt te) (hs: ∀x,foldedSetIterable iter X.env x=pure x:=by intro _;rfl):
  PS X (.Assign [.Name y py] (.ListComp elt [⟨tg,iter,ifs,0⟩] scope pos) spos) (om (fV wi g tt te (own.map (·.2))) (gA i)):=by
 intro pins s σ H D I h
 rw[exec_Assign_Name_used _ _ _ _ hsw]
 refine wpAny_bind (wpAny_standAt (wpAny_bind ?_))
 show wpAny _ X.A (do let _←comprehension (.ListComp elt [⟨tg,iter,ifs,0⟩] scope pos) scope X.env (firstIterPos [⟨tg,iter,ifs,0⟩] pos) (newList []) false (eval iter X.env) (some (assign (.Name y py) X.env))) _ _ s
 have h:fV wi g tt te (own.map (·.2)) σ H (fun x H1=>gA i x σ H1 D.nx):=h
 refine wpAny_bind (aA (uO (Qf:=fun _ s'=>SP X pins D .next s') hex hst hfr hair hc hN I hi ok hg ht he hs h fun L C s' m H' I' q hn f=>?_) fun _ s' hq=>wpAny_pure (wpAny_pure hq))
 show wpAny _ _ (assign (.Name y py) X.env (.ref L)) _ _ _
 refine wpAny_assign_Name (so (v:=V.ref L) I' hN hy (.inl hyl) rfl (fun s2 I2 ⟨a,sb,ha⟩=>?_) (.inr hyl))
 obtain ⟨f0,f1,f2,f3,f4,f5⟩:=f
 have haC:C≠a:=by
  rcases ha with z|z
  ·rw[z];exact f1
  ·exact fun e=>f4 y a z e.symm
 refine ⟨m,hn.sameBut sb haC,fun h3 sb3=>?_⟩
 exact ⟨_,H',I2.turned (t':=s2.toks) (fun b o hb e=>(sb3.2 b hb).trans e) f0 f1 f3 f4 f5,q⟩
def Ek (i:Nat) (tab:Addr→Sp→Prop) (E:St→XK) (t:TA):TE:=fun σ H Q=> ∃f sp,σ[i]?=some (some (.ref f))∧tab f sp∧t σ H fun vs H1=>sp vs H1 Q (E σ)
theorem Ke {k:Nat} {i:Nat} {tab:Addr→Sp→Prop} {E:St→XK} {x:Str} {p pos:Pos} {e:Expr} {es:List Expr} {t:TA} (hv:PE X (.Name x p) (eD i)) (htab: ∀f sp,tab f sp→ ∃fd ps,az X.prog X.w X.K X.mg X.base (aO X.prog X.w) k f fd ps sp∧PySem.W.keepIn X.K (.ref f)=true∧Binds X.K fd ps [])
  (hr:aC k X.A) (hx:mF X E) (ha:PA X (e::es) t) (he:starEach (e::es) X.env=(false,eval e X.env)::starEach es X.env:=by rfl) (hpl:(backTo pos (starEach es X.env)).any (·.1)=false:=by rfl):PE X (.Call (.Name x p) (e::es) [] pos) (Ek i tab E t):=by
 intro pins s σ H Q I h
 obtain ⟨f,sp,h1,h2,h3⟩:=h
 obtain ⟨fd,ps,F,hk,hb⟩:=htab f sp h2
 refine wpAny_Call_Name_kw (aA (hv pins s σ H (fun v H'=>v= .ref f∧H'=H) I ⟨_,h1,rfl,rfl⟩) fun u s1 ⟨v,H1,I1,r1,e1,e2⟩=>?_)
 subst e1 e2
 obtain rfl:u=Value.ref f:=r1
 refine PySem.W.callWith_K (h₀:=X.base) I1.ok.mod.g0 hk (aA (ha pos pins s1 σ H1 _ I1 h3) fun us s2 ⟨vs,H2,I2,r,q⟩=>⟨I2.bT,?_⟩) he hpl
 exact yo (dvs:= []) (ds:= []) F hr hb .nil hx I2 r (by rw[List.append_nil];exact q)
end
end L2
namespace L2
open PySem PySem.Spec PyProof.Rows
section
variable {X:Cx}
def JS (K:PySem.W.Frag):R2:=fun x y H Q=> ∃l b xs zs,x= .ref l∧y= .ref b∧ai K H l xs∧ai K H b zs∧xs.length+zs.length≤sizeLine∧ ∀p,H p=none→Q (.ref p) (upd H p (.lst (xs++zs)))
theorem uw:bj X (binaryOp .Add) (JS X.K):=by
 intro pins s σ H x y v u Q I rx ry h
 obtain ⟨l,b,xs,zs,rfl,rfl,hl,hb,hz,q⟩:=h
 cases rx
 cases ry
 obtain ⟨its,r1,⟨⟨c1,d1,a1,s1⟩,n1,e1,k1,_,t1⟩,_⟩:=I.list hl
 obtain ⟨its2,r2,⟨⟨c2,d2,a2,s2⟩,n2,e2,k2,_,t2⟩,_⟩:=I.list hb
 simp only at k1 t1 k2 t2
 subst k1 t1 k2 t2
 have ez:its.toArray.size+its2.toArray.size≤sizeLine:=by rw[List.size_toArray,List.size_toArray,←r1.length,←r2.length];exact hz
 refine concat_meets ⟨_,e1,rfl⟩ ⟨_,e2,rfl⟩ noFill_list_add seq_list_add PySem.F.slot_list_add PySem.F.entry_list_add (PySem.F.args_list_add_2 _ _) (list_addW l b its.toArray its2.toArray n1 n2 d1 d2 s1 s2 ez) ⟨e1,e2,?_⟩
 have ea:its.toArray++its2.toArray=(its++its2).toArray:=by simp
 rw[ea]
 exact ⟨.ref _,_,I.Eg (t':=s.toks) (r1.append r2) (by rw[List.length_append];omega),rfl,q _ I.fresh⟩
end
end L2
namespace L2
open PySem PySem.Spec PyProof.Rows
section
variable {X:Cx}
theorem GA {E:XK} {pins:List (Addr×Obj)} {σ:St} {s:Shared} {ev:Value} {what:String} {α:Type} {Q:α→Shared→Prop} (hex:X.ex= []) (hair:fK X E) (h:bR X pins σ E ev s):wpAny (model X.prog X.w) X.A (PySem.passOn what ev X.env) Q X.xe s:=by
 obtain ⟨x,T,cls,c,fl,n,H,rfl,I,ap,ht,hq,he⟩:=id h
 obtain ⟨oe,vs,oT,ts,g1,g2,g3,g4,_⟩:=ht
 unfold PySem.passOn
 refine wpAny_bind (wpAny_field g1 g3 g4 ?_)
 rw[if_neg (by simp)]
 refine wpAny_bind (pD hex h fun s3 q3=>wpAny_throw (q3.to hair))
def Fb (K:PySem.W.Frag) (C:Addr) (u:TS) (E':XK):Ends→St→XK:=fun D σ cls d H=>(cls= .ref C∧u D σ H)∨((∃C',cls= .ref C'∧Own K C')∧cls≠ .ref C∧E' cls d H)
theorem Bo {E':XK} {C:Addr} {y:Str} {np pos:Pos} {b0:Stmt} {suite:List Stmt} {u:TS} (hex:X.ex= []) (hair:fK X E') (hC:Own X.K C) (hg:Gl X y) (hm:X.mg y=some (.ref C)) (hsu: ∀x ps n,dH ps n (.ref x)→cc (X.cG x ps) (b0::suite) u) (hd:(y==("__debug__" :Str))=false:=by decide):
  ∀(pins:List (Addr×Obj)) (σ:St) (D:Ends) (ev:Value) (s3:Shared),bR X pins σ (Fb X.K C u E' D σ) ev s3→wpAny (model X.prog X.w) X.A (handleBy ev X.env [.ExceptHandler (some (.Name y np)) none (b0::suite) pos]) (SP X pins D) X.xe s3:=fun pins σ D ev s3 h=>by
 refine clause (t:=u) hex hC hg hm hsu (fun cls d H z=>z.elim (fun z=>⟨C,z.1,hC⟩) fun z=>z.1) (fun d H z=>z.elim (fun z=>z.2) fun z=>absurd rfl z.2.1) h (fun s3 h3=>?_) hd
 refine wpAny_handleBy_nil (GA hex hair (h3.imp fun cls d H z=>?_))
 rcases z.1 with w|w
 ·exact absurd w.1 z.2
 ·exact w.2.2
end
end L2
set_option maxHeartbeats 2000000
namespace L2
open PySem PySem.Spec PyProof.Rows
theorem mU {K:PySem.W.Frag} {H:Hp}: ∀xs:List Int,iy K H (xs.map V.int) (xs.map PyData.int)
 | []=> .nil
 |x::xs=> .cons (.int x) (mU xs)
theorem lay_ints: ∀xs:List Int,PyData.canLayAll0 (xs.map PyData.int)=true
 | []=>rfl
 |x::xs=>by
  rw[List.map_cons,PyData.canLayAll0,lay_ints xs];rfl
theorem uF: ∀xs:List Int,PyData.depthAll (xs.map PyData.int)≤1
 | []=>by simp [PyData.depthAll]
 |x::xs=>by
  have:=uF xs
  rw[List.map_cons,PyData.depthAll]
  simp only [PyData.depth]
  omega
theorem shaped_ints (xs:List Int):SeqAt.shaped (.list (xs.map PyData.int))=true:=by
 unfold SeqAt.shaped
 rw[Bool.and_eq_true]
 refine ⟨by rw[PyData.canLay0];exact lay_ints xs,decide_eq_true ?_⟩
 have:=uF xs
 rw[PyData.depth]
 omega
theorem rg: ∀xs ys:List Int,PyData.eqvAll (xs.map PyData.int) (ys.map PyData.int)=decide (xs=ys)
 | [], []=>by simp [PyData.eqvAll]
 | [],_::_=>by simp [PyData.eqvAll]
 |_::_, []=>by simp [PyData.eqvAll]
 |x::xs,y::ys=>by
  rw[List.map_cons,List.map_cons,PyData.eqvAll,rg xs ys,PyData.eqv]
  by_cases h:x=y
  ·by_cases h2:xs=ys
   ·simp [h,h2]
   ·simp [h,h2]
  ·simp [h]
section
variable {X:Cx}
def ym (K:PySem.W.Frag):R2:=fun x y H Q=> ∃a b,∃xs ys:List Int,x= .ref a∧y= .ref b∧ai K H a (xs.map V.int)∧ai K H b (ys.map V.int)∧Q (.bl (decide (xs=ys))) H
def Ia (K:PySem.W.Frag):R2:=fun x y H Q=> ∃a b,∃xs ys:List Int,x= .ref a∧y= .ref b∧ai K H a (xs.map V.int)∧ai K H b (ys.map V.int)∧Q (.bl (!decide (xs=ys))) H
theorem EN (hu:X.A.units+64<cLine):bj X (compareOp .Eq) (ym X.K):=by
 intro pins s σ H x y v u Q I rx ry h
 obtain ⟨a,b,xs,ys,rfl,rfl,ha,hb,q⟩:=h
 refine Cv hu pins s σ H _ _ v u Q I rx ry ⟨.list (xs.map PyData.int), .list (ys.map PyData.int), .lst ha (mU xs), .lst hb (mU ys),shaped_ints xs,shaped_ints ys,?_⟩
 rw[PyData.eqv,rg]
 exact q
theorem J8 (hu:X.A.units+64<cLine):bj X (compareOp .NotEq) (Ia X.K):=by
 intro pins s σ H x y v u Q I rx ry h
 obtain ⟨a,b,xs,ys,rfl,rfl,ha,hb,q⟩:=h
 refine FL hu pins s σ H _ _ v u Q I rx ry ⟨.list (xs.map PyData.int), .list (ys.map PyData.int), .lst ha (mU xs), .lst hb (mU ys),shaped_ints xs,shaped_ints ys,?_⟩
 rw[PyData.eqv,rg]
 exact q
theorem BS {K:PySem.W.Frag} (h:X.K=K) (hu:X.A.units+64<cLine):bj X (compareOp .Eq) (ym K):=by subst h;exact EN hu
end
end L2
namespace Wg
def bA (l:List Nat):Nat:=l.foldl (fun n c=>256*n+c) 0
theorem jT (b:Sound.Bytes):Sound.fromHigh b=bA (b.map UInt8.toNat):=by
 unfold Sound.fromHigh bA
 rw[List.foldl_map]
def dv (d:Nat):Nat:=if d%2=1 then (d/2)^^^0xEDB88320 else d/2
def i9:List Nat:= [0,498536548,997073096,651767980,1994146192,1802195444,1303535960,1342533948,3988292384,4027552580,3604390888,3412177804,2607071920,2262029012,2685067896,3183342108]
def nN (c:Nat):Nat:=(c/16)^^^i9.getD (c%16) 0
def qc (c b:Nat):Nat:=nN (nN (c^^^b))
def o7 (l:List Nat):Nat:=(l.foldl qc 0xFFFFFFFF)^^^0xFFFFFFFF
theorem GZ (a b:Nat):(a^^^b)/2=a/2^^^b/2:=by
 have:=Nat.shiftRight_xor_distrib (a:=a) (b:=b) (i:=1)
 simpa [Nat.shiftRight_eq_div_pow] using this
theorem JH (a b:Nat):dv (a^^^b)=dv a^^^dv b:=by
 unfold dv
 rw[GZ]
 have h:(a^^^b)%2=(a%2+b%2)%2:=by
  have h1:=Nat.testBit_xor a b 0
  simp only [Nat.testBit_zero] at h1
  rcases Nat.mod_two_eq_zero_or_one a with ha|ha<;>rcases Nat.mod_two_eq_zero_or_one b with hb|hb<;>rcases Nat.mod_two_eq_zero_or_one (a^^^b) with hc|hc<;>rw[ha,hb,hc] at h1<;>first|(rw[ha,hb,hc];done)|(exact absurd h1 (by decide))
 rcases Nat.mod_two_eq_zero_or_one a with ha|ha<;>rcases Nat.mod_two_eq_zero_or_one b with hb|hb<;>simp only [h,ha,hb]
 ·simp
 ·simp [Nat.xor_assoc]
 ·simp only [Nat.reduceAdd,Nat.reduceMod,if_true]
  rw[if_neg (by decide),Nat.xor_assoc,Nat.xor_assoc,Nat.xor_comm (b/2)]
 ·simp only [Nat.reduceAdd,Nat.reduceMod,if_true]
  rw[if_neg (by decide),Nat.xor_assoc,←Nat.xor_assoc 3988292384,Nat.xor_comm 3988292384,Nat.xor_assoc (b/2),Nat.xor_self,Nat.xor_zero]
theorem GP (d:Nat):d=(16*(d/16))^^^(d%16):=by
 apply Nat.eq_of_testBit_eq
 intro i
 have e:d=2^4*(d/16)+d%16:=by omega
 rw[Nat.testBit_xor,show (16*(d/16))=2^4*(d/16) by omega,Nat.testBit_two_pow_mul]
 conv=>lhs;rw[e,Nat.testBit_two_pow_mul_add _ (by omega)]
 by_cases h:i<4
 ·rw[if_pos h,decide_eq_false (by omega)];simp
 ·rw[if_neg h,decide_eq_true (by omega),show (d%16).testBit i=false from Nat.testBit_lt_two_pow (Nat.lt_of_lt_of_le (Nat.mod_lt d (by decide)) (by rw[show 16=2^4 by decide];exact Nat.pow_le_pow_right (by decide) (by omega)))];simp
theorem Dd (q:Nat):dv (2*q)=q:=by unfold dv;rw[if_neg (by omega)];omega
theorem yO (d:Nat):nN d=dv (dv (dv (dv d))):=by
 have h: ∀r:Nat,r<16→dv (dv (dv (dv r)))=i9.getD r 0:=by decide
 conv=>rhs;rw[GP d]
 simp only [JH]
 rw[h _ (Nat.mod_lt d (by decide)),show 16*(d/16)=2*(2*(2*(2*(d/16)))) by omega]
 simp only [Dd]
 rfl
theorem Jl (c:Nat) (x:UInt8):qc c x.toNat=Sound.crc32step c x:=by
 unfold qc
 rw[yO,yO]
 rfl
theorem A5 (b:Sound.Bytes):o7 (b.map UInt8.toNat)=Sound.crc32 b:=by
 unfold o7 Sound.crc32
 rw[List.foldl_map]
 congr 2
 funext c x
 exact Jl c x
end Wg
namespace Wg
def ip:List Int→List Int→Int
 |a::l,b::m=>a*b+ip l m
 |_,_=>0
section
variable {v1 v2 v3 v4:List Int}
end
section
variable {g11 g12 g13 g14 g22 g23 g24 g33 g34 g44:Int}
end
end Wg
namespace Wg
open Sound
theorem foldl_add (l:List Int): ∀a:Int,l.foldl (fun (a b:Int)=>a+b) a=a+l.foldl (fun (a b:Int)=>a+b) 0:=by
 induction l with
 |nil=>intro a;simp
 |cons x l ih=>intro a;simp only [List.foldl_cons];rw[ih (a+x),ih (0+x)];omega
theorem Gw (x:Int) (l:List Int):sumOf (x::l)=x+sumOf l:=by
 unfold sumOf;rw[List.foldl_cons,foldl_add];omega
theorem xi: ∀l m:List Int,sumOf (List.zipWith (fun (a b:Int)=>a*b) l m)=ip l m
 | [],_=>by simp [sumOf,ip]
 |_::_, []=>by simp [sumOf,ip]
 |a::l,b::m=>by rw[List.zipWith_cons_cons,Gw,xi l m];rfl
end Wg
namespace Wg
open PySem
theorem B1 (n m:Nat):(n&&&m)%2=0↔n%2=0∨m%2=0:=by
 have h:=congrArg (· =true) (Nat.testBit_and n m 0)
 simp only [Nat.testBit_zero,Bool.and_eq_true,decide_eq_true_eq,eq_iff_iff] at h
 omega
theorem Dq (n m:Nat):(n|||m)%2=0↔n%2=0∧m%2=0:=by
 have h:=congrArg (· =true) (Nat.testBit_or n m 0)
 simp only [Nat.testBit_zero,Bool.or_eq_true,decide_eq_true_eq,eq_iff_iff] at h
 omega
theorem CL (n m:Nat):(n&&&m)/2=n/2&&&m/2:=by
 apply Nat.eq_of_testBit_eq;intro i
 rw[Nat.testBit_and,Nat.testBit_div_two,Nat.testBit_div_two,Nat.testBit_div_two,Nat.testBit_and]
theorem CF (n m:Nat):(n|||m)/2=n/2|||m/2:=by
 apply Nat.eq_of_testBit_eq;intro i
 rw[Nat.testBit_or,Nat.testBit_div_two,Nat.testBit_div_two,Nat.testBit_div_two,Nat.testBit_or]
theorem KG {x y:Int} (hx:0≤x) (hy:0≤y):Builtin.bitOr x y=((x.toNat|||y.toNat:Nat):Int):=by
 unfold Builtin.bitOr Builtin.bitAnd Builtin.bitNot
 have h1:decide (0≤ -x-1)=false:=by simp;omega
 have h2:decide (0≤ -y-1)=false:=by simp;omega
 simp only [h1,h2]
 have e1:(-(-x-1)-1).toNat=x.toNat:=by congr 1;omega
 have e2:(-(-y-1)-1).toNat=y.toNat:=by congr 1;omega
 rw[e1,e2];omega
end Wg
namespace Wg
open PySem Sound
def bl (n:Nat):Nat:=if n=0 then 0 else n.log2+1
theorem Gn (n:Nat):Builtin.Int.intBits (n:Int)=bl n:=by
 unfold Builtin.Int.intBits bl
 by_cases h:n=0
 ·subst h;rfl
 ·rw[if_neg h,if_neg (by simpa using h),Int.natAbs_natCast]
theorem I0 {n v:Nat} (h:n<2^v):bl n≤v:=by
 unfold bl
 by_cases h0:n=0
 ·rw[if_pos h0];exact Nat.zero_le _
 ·rw[if_neg h0]
  exact (Nat.log2_lt h0).mpr h
end Wg
namespace Wg
open PySem Sound
def jU (n p r:Nat):Bool:=decide (r≤6)&&(decide (n/2^r*2^r=n)&&decide (p≤n/2^r))
end Wg
namespace Wg
open PySem Sound
def eY:List Int→List Int→Nat→Int
 | [],_,_=>0
 |f::fs,y,t=>f*y.getD (t-1) 0+eY fs y (t-1)
def pT (a:List Int) (h:Nat) (y:List Int) (t:Nat):Int:=eY a y t/2^h
theorem rV: ∀a b:List Int,ip a (b.take a.length)=ip a b
 | [],b=>by simp [ip]
 |x::a, []=>by simp [ip]
 |x::a,y::b=>by simp [ip,rV a b]
theorem Dm {y:List Int} {t:Nat} (h:t<y.length):(y.take (t+1)).reverse=y.getD t 0::(y.take t).reverse:=by
 rw[List.take_succ,List.getElem?_eq_getElem h,List.getD_eq_getElem?_getD,List.getElem?_eq_getElem h]
 simp
theorem vq: ∀(a y:List Int) (t:Nat),t≤y.length→a.length≤t→ip a (y.take t).reverse=eY a y t
 | [],y,t,_,_=>by simp [ip,eY]
 |f::fs,y,0,h1,h2=>by simp at h2
 |f::fs,y,t+1,h1,h2=>by
  rw[Dm (by omega)]
  simp only [ip,eY,Nat.add_sub_cancel]
  rw[vq fs y t (by omega) (by simpa using h2)]
theorem FN {a y before:List Int} {h t:Nat} (h1:t≤y.length) (h2:a.length≤t) (hb:before.take a.length=(y.take t).reverse.take a.length):guess a h before=pT a h y t:=by
 unfold guess pT
 rw[xi,←rV,hb,rV,vq a y t h1 h2,Int.fdiv_eq_ediv_of_nonneg _ (Int.le_of_lt (Int.pow_pos (by decide)))]
def Bd (B:Int) (l:List Int):Prop:= ∀x∈l,-B≤x∧x≤B
theorem oY (n v:Nat):(u n v).length=n:=by simp [u]
end Wg
namespace Wg
open PySem
theorem Ds (l:Sound.Bits): ∀a:Nat,l.foldl (fun (n:Nat) (b:Bool)=>2*n+(if b=true then 1 else 0)) a=a*2^l.length+Sound.value l:=by
 induction l with
 |nil=>intro a;simp [Sound.value]
 |cons b l ih=>
  intro a
  unfold Sound.value
  rw[List.foldl_cons,List.foldl_cons,ih,ih (2*0+_),List.length_cons,Nat.pow_succ]
  generalize 2^l.length=m
  rw[Nat.add_mul,Nat.add_mul]
  have e1:2*a*m=a*(m*2):=by rw[Nat.mul_comm m 2,←Nat.mul_assoc,Nat.mul_comm a 2]
  have e2:2*0*m=0:=by simp
  omega
theorem pE (l m:Sound.Bits):Sound.value (l++m)=Sound.value l*2^m.length+Sound.value m:=by
 unfold Sound.value
 rw[List.foldl_append,Ds m]
 rfl
theorem p0 (b:Bool) (l:Sound.Bits):Sound.value (b::l)=(if b=true then 1 else 0)*2^l.length+Sound.value l:=by
 have:=pE [b] l
 rw[List.singleton_append] at this
 rw[this]
 cases b<;>rfl
theorem jE: ∀l:Sound.Bits,Sound.value l<2^l.length
 | []=>by simp [Sound.value]
 |b::l=>by
  have:=jE l
  rw[p0,List.length_cons,Nat.pow_succ]
  cases b<;>simp<;>omega
theorem Jo (n v:Nat):Sound.u (n+1) v=v.testBit n::Sound.u n v:=by
 unfold Sound.u
 rw[List.range_succ_eq_map,List.map_cons,List.map_map]
 congr 1
 refine List.map_congr_left fun i hi=>?_
 show v.testBit (n+1-1-(i+1))=v.testBit (n-1-i)
 congr 1;omega
theorem yR: ∀n v:Nat,Sound.value (Sound.u n v)=v%2^n
 |0,v=>by simp [Sound.u,Sound.value,Nat.mod_one]
 |n+1,v=>by
  rw[Jo,p0,yR n v,oY]
  have h:=Nat.mod_mul (x:=v) (a:=2^n) (b:=2)
  have hb:v.testBit n=decide (v/2^n%2=1):=by rw[Nat.testBit_eq_decide_div_mod_eq]
  rw[Nat.pow_succ,h,hb]
  rcases Nat.mod_two_eq_zero_or_one (v/2^n) with e|e
  ·rw[e];simp
  ·rw[e];simp;omega
theorem qS (a b:Nat):Builtin.bitOr (a:Int) (b:Int)=((a|||b:Nat):Int):=by
 rw[KG (by omega) (by omega),Int.toNat_natCast,Int.toNat_natCast]
theorem pq (a b:Nat):Builtin.bitAnd (a:Int) (b:Int)=((a&&&b:Nat):Int):=by
 unfold Builtin.bitAnd
 have h1:decide (0≤(a:Int))=true:=by simp
 have h2:decide (0≤(b:Int))=true:=by simp
 simp only [h1,h2,Int.toNat_natCast]
theorem LQ (n m:Nat):(n^^^m)%2=(n+m)%2:=by
 have h:=Nat.testBit_xor n m 0
 simp only [Nat.testBit_zero] at h
 rcases Nat.mod_two_eq_zero_or_one n with a|a<;>rcases Nat.mod_two_eq_zero_or_one m with b|b<;>rw[a,b] at h
 ·have: ¬(n^^^m)%2=1:=of_decide_eq_false h
  omega
 ·have:(n^^^m)%2=1:=of_decide_eq_true h
  omega
 ·have:(n^^^m)%2=1:=of_decide_eq_true h
  omega
 ·have: ¬(n^^^m)%2=1:=of_decide_eq_false h
  omega
theorem E6 (n m:Nat):(n^^^m)/2=n/2^^^m/2:=by
 apply Nat.eq_of_testBit_eq;intro i
 rw[Nat.testBit_xor,Nat.testBit_div_two,Nat.testBit_div_two,Nat.testBit_div_two,Nat.testBit_xor]
theorem yU: ∀(k n m:Nat),n≤k→m≤k→(n|||m)=(n^^^m)+(n&&&m)
 |0,n,m,h1,h2=>by
  have:n=0:=by omega
  have:m=0:=by omega
  subst n m;rfl
 |k+1,n,m,h1,h2=>by
  by_cases h0:n=0∧m=0
  ·obtain ⟨rfl,rfl⟩:=h0;rfl
  have ih:=yU k (n/2) (m/2) (by omega) (by omega)
  have a1:=Dq n m
  have a2:=LQ n m
  have a3:=B1 n m
  have b1:=CF n m
  have b2:=E6 n m
  have b3:=CL n m
  omega
theorem ny (a b:Nat):Builtin.bitXor (a:Int) (b:Int)=((a^^^b:Nat):Int):=by
 unfold Builtin.bitXor
 rw[qS,pq,yU (max a b) a b (by omega) (by omega)]
 omega
theorem mask (x:Int) (w:Nat):Builtin.bitAnd x ((2^w:Int)-1)=x%2^w:=by
 have hp:0<2^w:=Nat.two_pow_pos w
 have e2:((2:Int)^w)=((2^w:Nat):Int):=by simp
 have e1:(2:Int)^w-1=((2^w-1:Nat):Int):=by rw[e2];omega
 rcases Int.lt_or_le x 0 with hx|hx
 ·unfold Builtin.bitAnd Builtin.bitNot
  have h1:decide (0≤x)=false:=by simp;omega
  have h2:decide (0≤(2:Int)^w-1)=true:=by rw[e1];simp
  simp only [h1,h2]
  rw[e1,Int.toNat_natCast,Nat.and_comm,Nat.and_two_pow_sub_one_eq_mod]
  generalize hm:(-x-1).toNat=m
  have hd:=Nat.div_add_mod m (2^w)
  have hlt:=Nat.mod_lt m hp
  rw[e2]
  have ex:x=((2^w-1-m%2^w:Nat):Int)+((2^w:Nat):Int)*(-((m/2^w:Nat):Int)-1):=by
   have:((2^w:Nat):Int)*(-((m/2^w:Nat):Int)-1)= -((2^w*(m/2^w):Nat):Int)-((2^w:Nat):Int):=by
    rw[Int.mul_sub,Int.mul_neg,←Int.natCast_mul,Int.mul_one]
   rw[this]
   omega
  have:x%((2^w:Nat):Int)=((2^w-1-m%2^w:Nat):Int):=by
   rw[ex,Int.add_mul_emod_self_left]
   exact Int.emod_eq_of_lt (by omega) (by omega)
  rw[this]
  omega
 ·obtain ⟨n,rfl⟩:=Int.eq_ofNat_of_zero_le hx
  rw[e1,pq,Nat.and_two_pow_sub_one_eq_mod,e2]
  simp
end Wg
namespace Wg
open PySem
def fG (p:Nat):Nat:=if 65535<2*p then 2*p^^^69665 else 2*p
def du (c b:Nat):Nat:=(List.range 8).foldl (fun p _=>fG p) (c^^^(b*256))
def pP (l:List Nat):Nat:=l.foldl du 65535
def bN (c:Nat) (x:Bool):Nat:=let d:=2*c%65536
 if (c.testBit 15 !=x)=true then d^^^0x1021 else d
theorem oN (q i:Nat):(q%65536).testBit i=(decide (i<16)&&q.testBit i):=by
 rw[show (65536:Nat)=2^16 by decide,Nat.testBit_mod_two_pow]
theorem yq {q:Nat} (h1:65536≤q) (h2:q<131072):q^^^65536=q%65536:=by
 apply Nat.eq_of_testBit_eq
 intro i
 rw[Nat.testBit_xor,oN,show (65536:Nat)=2^16 by decide,Nat.testBit_two_pow]
 rcases Nat.lt_trichotomy i 16 with h|h|h
 ·rw[decide_eq_true h,decide_eq_false (by omega)];simp
 ·subst h
  have:q.testBit 16=true:=by
   rw[Nat.testBit_eq_decide_div_mod_eq]
   simp;omega
  rw[this];simp
 ·have:q.testBit i=false:=Nat.testBit_lt_two_pow (Nat.lt_of_lt_of_le h2 (by rw[show (131072:Nat)=2^17 by decide];exact Nat.pow_le_pow_right (by decide) h))
  rw[this,decide_eq_false (by omega),decide_eq_false (by omega)];rfl
theorem Cc (a b:Nat):2*(a^^^b)%65536=(2*a%65536)^^^(2*b%65536):=by
 apply Nat.eq_of_testBit_eq
 intro i
 rw[Nat.testBit_xor,oN,oN,oN]
 cases i with
 |zero=>simp [Nat.testBit_zero]
 |succ i=>
  have e: ∀x:Nat,(2*x).testBit (i+1)=x.testBit i:=fun x=>by
   rw[Nat.testBit_succ];congr 1;omega
  rw[e,e,e,Nat.testBit_xor]
  cases decide (i+1<16)<;>simp
theorem CQ {p:Nat} (h:p<65536):p.testBit 15=decide (65535<2*p):=by
 rw[Nat.testBit_eq_decide_div_mod_eq]
 have:p/2^15=p/32768:=rfl
 rw[this,Bool.eq_iff_iff,decide_eq_true_eq,decide_eq_true_eq];omega
theorem pW {a b:Nat} (h1:a<65536) (h2:b<65536):a^^^b<65536:=Nat.xor_lt_two_pow (n:=16) h1 h2
theorem f6 {c:Nat} (x:Bool):bN c x<65536:=by
 unfold bN
 simp only
 split
 ·exact pW (Nat.mod_lt _ (by decide)) (by decide)
 ·exact Nat.mod_lt _ (by decide)
theorem gg {s r:Nat} (hs:s<65536) (hr:r<256):fG (s^^^(r*256))=bN s (r.testBit 7)^^^((2*r%256)*256):=by
 have hp:s^^^(r*256)<65536:=pW hs (by omega)
 have hb:(s^^^(r*256)).testBit 15=(s.testBit 15 !=r.testBit 7):=by
  rw[Nat.testBit_xor,show r*256=2^8*r by omega,Nat.testBit_two_pow_mul]
  simp
 have hd:2*(s^^^(r*256))%65536=(2*s%65536)^^^((2*r%256)*256):=by
  rw[Cc]
  congr 1;omega
 have h15:=CQ hp
 unfold fG bN
 simp only
 rw[←hb,h15]
 by_cases hc:65535<2*(s^^^(r*256))
 ·rw[if_pos hc,if_pos (decide_eq_true hc)]
  have e:(69665:Nat)=65536^^^4129:=by decide
  rw[e,←Nat.xor_assoc,yq (by omega) (by omega),hd,show (0x1021:Nat)=4129 by decide,Nat.xor_assoc,Nat.xor_assoc,Nat.xor_comm (2*r%256*256)]
 ·rw[if_neg hc,if_neg (by simpa using hc),←hd]
  omega
theorem vw {c b:Nat} (hc:c<65536) (hb:b<256):du c b=(Sound.u 8 b).foldl bN c∧du c b<65536:=by
 have hu:Sound.u 8 b= [b.testBit 7,b.testBit 6,b.testBit 5,b.testBit 4,b.testBit 3,b.testBit 2,b.testBit 1,b.testBit 0]:=rfl
 have tb: ∀(x i:Nat),i<7→(2*x%256).testBit (i+1)=x.testBit i:=fun x i hi=>by
  rw[show (256:Nat)=2^8 by decide,Nat.testBit_mod_two_pow,decide_eq_true (by omega),Nat.testBit_succ,Bool.true_and]
  congr 1;omega
 have lt: ∀x:Nat,2*x%256<256:=fun x=>Nat.mod_lt _ (by decide)
 have h0:=gg hc hb
 have h1:=gg (f6 (c:=c) (b.testBit 7)) (lt b)
 have h2:=gg (f6 (c:=bN c (b.testBit 7)) ((2*b%256).testBit 7)) (lt (2*b%256))
 rw[tb b 6 (by omega)] at h1 h2
 have h3:=gg (f6 (c:=bN (bN c (b.testBit 7)) (b.testBit 6)) ((2*(2*b%256)%256).testBit 7)) (lt (2*(2*b%256)%256))
 rw[tb _ 6 (by omega),tb _ 5 (by omega)] at h2 h3
 have h4:=gg (f6 (c:=bN (bN (bN c (b.testBit 7)) (b.testBit 6)) (b.testBit 5)) ((2*(2*(2*b%256)%256)%256).testBit 7)) (lt (2*(2*(2*b%256)%256)%256))
 rw[tb _ 6 (by omega),tb _ 5 (by omega),tb _ 4 (by omega)] at h3 h4
 have h5:=gg (f6 (c:=bN (bN (bN (bN c (b.testBit 7)) (b.testBit 6)) (b.testBit 5)) (b.testBit 4)) ((2*(2*(2*(2*b%256)%256)%256)%256).testBit 7)) (lt (2*(2*(2*(2*b%256)%256)%256)%256))
 rw[tb _ 6 (by omega),tb _ 5 (by omega),tb _ 4 (by omega),tb _ 3 (by omega)] at h4 h5
 have h6:=gg (f6 (c:=bN (bN (bN (bN (bN c (b.testBit 7)) (b.testBit 6)) (b.testBit 5)) (b.testBit 4)) (b.testBit 3)) ((2*(2*(2*(2*(2*b%256)%256)%256)%256)%256).testBit 7)) (lt (2*(2*(2*(2*(2*b%256)%256)%256)%256)%256))
 rw[tb _ 6 (by omega),tb _ 5 (by omega),tb _ 4 (by omega),tb _ 3 (by omega),tb _ 2 (by omega)] at h5 h6
 have h7:=gg (f6 (c:=bN (bN (bN (bN (bN (bN c (b.testBit 7)) (b.testBit 6)) (b.testBit 5)) (b.testBit 4)) (b.testBit 3)) (b.testBit 2)) ((2*(2*(2*(2*(2*(2*b%256)%256)%256)%256)%256)%256).testBit 7)) (lt (2*(2*(2*(2*(2*(2*b%256)%256)%256)%256)%256)%256))
 rw[tb _ 6 (by omega),tb _ 5 (by omega),tb _ 4 (by omega),tb _ 3 (by omega),tb _ 2 (by omega),tb _ 1 (by omega)] at h6 h7
 rw[tb _ 6 (by omega),tb _ 5 (by omega),tb _ 4 (by omega),tb _ 3 (by omega),tb _ 2 (by omega),tb _ 1 (by omega),tb _ 0 (by omega)] at h7
 have hz:2*(2*(2*(2*(2*(2*(2*(2*b%256)%256)%256)%256)%256)%256)%256)%256=0:=by omega
 have e:du c b=(Sound.u 8 b).foldl bN c:=by
  unfold du
  rw[show List.range 8= [0,1,2,3,4,5,6,7] from rfl]
  simp only [List.foldl_cons,List.foldl_nil]
  rw[h0,h1,h2,h3,h4,h5,h6,h7,hz,hu]
  simp only [List.foldl_cons,List.foldl_nil,Nat.zero_mul,Nat.xor_zero]
 rw[e]
 refine ⟨rfl,?_⟩
 rw[hu]
 simp only [List.foldl_cons,List.foldl_nil]
 exact f6 _
theorem D9 (b:Sound.Bytes):pP (b.map UInt8.toNat)=Sound.crc16 b:=by
 have key: ∀(l:Sound.Bytes) (c:Nat),c<65536→(l.map UInt8.toNat).foldl du c=(Sound.bitsOf l).foldl bN c:=by
  intro l
  induction l with
  |nil=>intro c _;rfl
  |cons x l ih=>
   intro c hc
   obtain ⟨h1,h2⟩:=vw hc x.toNat_lt
   have e:Sound.bitsOf (x::l)=Sound.u 8 x.toNat++Sound.bitsOf l:=List.flatMap_cons
   rw[List.map_cons,List.foldl_cons,e,List.foldl_append,←h1,ih _ h2]
 unfold pP
 rw[key b 65535 (by decide)]
 rfl
end Wg
namespace Wg
open PySem
theorem kM (x:UInt8) (B:Sound.Bytes):Sound.bitsOf (x::B)=Sound.u 8 x.toNat++Sound.bitsOf B:=List.flatMap_cons
theorem iT: ∀B:Sound.Bytes,(Sound.bitsOf B).length=8*B.length
 | []=>rfl
 |x::B=>by rw[kM,List.length_append,oY,iT B,List.length_cons];omega
theorem Iz (x:Nat) (l:List Nat):bA (x::l)=x*256^l.length+bA l:=by
 have key: ∀(l:List Nat) (a:Nat),l.foldl (fun n c=>256*n+c) a=a*256^l.length+bA l:=by
  intro l
  induction l with
  |nil=>intro a;simp [bA]
  |cons y l ih=>
   intro a
   unfold bA
   rw[List.foldl_cons,List.foldl_cons,ih,ih (256*0+y),List.length_cons,Nat.pow_succ,Nat.add_mul,Nat.add_mul]
   have:256*a*256^l.length=a*(256^l.length*256):=by rw[Nat.mul_comm (256^l.length),←Nat.mul_assoc,Nat.mul_comm 256 a]
   omega
 show (x::l).foldl _ 0=_
 rw[List.foldl_cons,key]
 simp
theorem v8: ∀B:Sound.Bytes,Sound.value (Sound.bitsOf B)=bA (B.map UInt8.toNat)
 | []=>rfl
 |x::B=>by
  rw[kM,pE,v8 B,List.map_cons,Iz,iT,List.length_map]
  have h:=x.toNat_lt
  rw[yR,Nat.mod_eq_of_lt (by omega),Nat.pow_mul]
theorem AR: ∀(B:Sound.Bytes) (i:Nat),Sound.bitsOf (B.drop i)=(Sound.bitsOf B).drop (8*i)
 |B,0=>by simp
 | [],i+1=>by simp [Sound.bitsOf]
 |x::B,i+1=>by
  rw[List.drop_succ_cons,AR B i,kM,show 8*(i+1)=8+8*i by omega,←List.drop_drop,List.drop_left' (oY 8 _)]
theorem wm: ∀(B:Sound.Bytes) (i:Nat),Sound.bitsOf (B.take i)=(Sound.bitsOf B).take (8*i)
 |B,0=>by simp [Sound.bitsOf]
 | [],i+1=>by simp [Sound.bitsOf]
 |x::B,i+1=>by
  rw[List.take_succ_cons,kM,wm B i,kM,show 8*(i+1)=(Sound.u 8 x.toNat).length+8*i by rw[oY];omega,List.take_length_add_append]
theorem Jv {B:Sound.Bytes} {p n:Nat} (h:p+n≤8*B.length):
  bA (((B.drop (p/8)).take ((p+n+7)/8-p/8)).map UInt8.toNat)/2^(8*((p+n+7)/8)-(p+n))%2^n=Sound.value (((Sound.bitsOf B).drop p).take n):=by
 rw[←v8,wm,AR]
 generalize hj:(p+n+7)/8=j
 generalize hi:p/8=i
 have hL:=iT B
 generalize Sound.bitsOf B=L at*
 have e:(L.drop (8*i)).take (8*(j-i))=(L.drop (8*i)).take (p-8*i)++((L.drop p).take n++(L.drop (p+n)).take (8*j-(p+n))):=by
  have h1:8*(j-i)=(p-8*i)+(n+(8*j-(p+n))):=by omega
  rw[h1,List.take_add,List.drop_drop,show 8*i+(p-8*i)=p by omega,List.take_add,List.drop_drop]
 rw[e,pE,pE]
 have l1:((L.drop p).take n).length=n:=by rw[List.length_take,List.length_drop];omega
 have l2:((L.drop (p+n)).take (8*j-(p+n))).length=8*j-(p+n):=by rw[List.length_take,List.length_drop];omega
 have v1:=jE ((L.drop p).take n)
 have v2:=jE ((L.drop (p+n)).take (8*j-(p+n)))
 rw[List.length_append,l1,l2]
 rw[l1] at v1
 rw[l2] at v2
 generalize Sound.value ((L.drop (8*i)).take (p-8*i))=x
 generalize Sound.value ((L.drop p).take n)=y at*
 generalize Sound.value ((L.drop (p+n)).take (8*j-(p+n)))=z at*
 generalize 8*j-(p+n)=m at*
 have e2:x*2^(n+m)+(y*2^m+z)=(x*2^n+y)*2^m+z:=by rw[Nat.pow_add,Nat.add_mul,Nat.mul_assoc];omega
 rw[e2,Nat.add_comm _ z,Nat.add_mul_div_right _ _ (Nat.two_pow_pos m),Nat.div_eq_of_lt v2,Nat.zero_add,Nat.add_comm,Nat.add_mul_mod_self_right,Nat.mod_eq_of_lt v1]
theorem iC (n:Nat) (l:Sound.Bits):Sound.lacks n l=true↔l.length<n:=by
 unfold Sound.lacks
 rw[Bool.and_eq_true,decide_eq_true_eq,List.isEmpty_iff,List.drop_eq_nil_iff]
 omega
theorem Gj (l:Sound.Bits):Sound.svalue l=(Sound.value l:Int)-2*(if l.head?=some true then (2^(l.length-1):Nat) else 0:Nat):=by
 unfold Sound.svalue
 split
 ·rename_i h
  cases l with
  |nil=>cases h
  |cons b l=>
   rw[List.length_cons,Nat.add_sub_cancel]
   have:((2:Int)^(l.length+1))=2*((2^l.length:Nat):Int):=by
    rw[Int.pow_succ,Int.mul_comm];simp
   rw[this]
 ·simp
theorem A0 {l:Sound.Bits}:(Sound.value l)&&&(2^l.length/2)=if l.head?=some true then 2^(l.length-1) else 0:=by
 cases l with
 |nil=>rfl
 |cons b l=>
  rw[List.length_cons,Nat.add_sub_cancel,Nat.pow_succ,Nat.mul_div_cancel _ (by decide)]
  rw[p0]
  have v:=jE l
  apply Nat.eq_of_testBit_eq
  intro i
  rw[Nat.testBit_and,Nat.testBit_two_pow]
  have hh:((if b=true then 1 else 0)*2^l.length+Sound.value l).testBit l.length=b:=by
   have:=Nat.testBit_two_pow_mul_add (if b=true then 1 else 0) v l.length
   rw[Nat.mul_comm,this,if_neg (Nat.lt_irrefl _),Nat.sub_self]
   cases b<;>rfl
  by_cases q:l.length=i
  ·subst q
   rw[decide_eq_true rfl,Bool.and_true,hh]
   cases b<;>simp [Nat.testBit_two_pow]
  ·rw[decide_eq_false q,Bool.and_false]
   cases b
   ·simp
   ·simp [Nat.testBit_two_pow,q]
end Wg
namespace Wg
open PySem PySem.Spec PyProof.Rows L2
def top (i:Nat):Stmt:=PySem.Challenge.pw_soundkeeping_s10_read.main.body.getD i (.Pass ⟨0,0,0,0⟩)
abbrev AN:Stmt:=top 5
abbrev zo:Stmt:=top 10
abbrev xN:Stmt:=top 11
abbrev wu:Stmt:=top 16
abbrev u0:Stmt:=top 22
abbrev zM:Stmt:=top 23
abbrev AO:Stmt:=top 24
abbrev vC:Stmt:=top 25
abbrev w9:Stmt:=top 26
abbrev xa:Stmt:=top 34
abbrev wH:Stmt:=top 35
abbrev zz:Stmt:=top 36
abbrev AM:Stmt:=top 37
abbrev xg:Stmt:=top 38
abbrev vH:Stmt:=top 44
abbrev wz:Stmt:=top 45
abbrev zH:Stmt:=top 46
abbrev xV:Stmt:=top 47
abbrev Av:Stmt:=top 48
abbrev um:Stmt:=top 49
abbrev wO:Stmt:=top 50
abbrev zI:Stmt:=top 51
abbrev uW:Stmt:=top 52
abbrev zd:Stmt:=top 56
abbrev xT:Stmt:=top 57
abbrev Ai:Stmt:=top 73
abbrev u6:Stmt:=top 74
abbrev uS:Stmt:=top 75
abbrev yd:Stmt:=top 83
abbrev yE:Stmt:=top 84
abbrev zX:Stmt:=top 90
abbrev wL:Stmt:=top 91
abbrev uC:Stmt:=top 92
abbrev z8:Stmt:=top 93
abbrev vY:Stmt:=top 94
abbrev Ag:Stmt:=top 97
abbrev y8:Stmt:=top 98
abbrev ua:Stmt:=top 101
abbrev zb:Stmt:=top 102
abbrev zF:Stmt:=inClass (top 4) 0
abbrev zU:Stmt:=inClass (top 4) 1
abbrev u5:Stmt:=inClass (top 4) 2
abbrev yg:Stmt:=inClass (top 4) 3
abbrev yw:Stmt:=inClass (top 9) 0
abbrev zj:Stmt:=inClass (top 9) 1
abbrev vF:Stmt:=inClass (top 9) 2
abbrev AD:Stmt:=inClass (top 15) 0
abbrev wA:Stmt:=inClass (top 15) 1
abbrev yK:Stmt:=inClass (top 33) 0
abbrev vG:Stmt:=inClass (top 33) 1
abbrev yY:Stmt:=inClass (top 33) 2
abbrev uo:Stmt:=inClass (top 42) 0
abbrev xh:Stmt:=inClass (top 42) 1
abbrev zf:Stmt:=inClass (top 43) 0
abbrev uK:Stmt:=inClass (top 61) 0
abbrev xy:Stmt:=inClass (top 61) 1
abbrev ur:Stmt:=inClass (top 61) 2
abbrev Ae:Stmt:=inClass (top 61) 3
abbrev we:Stmt:=inClass (top 61) 4
abbrev vI:Stmt:=inClass (top 61) 5
abbrev tZ:Stmt:=inClass (top 72) 0
abbrev An:Stmt:=inClass (top 82) 0
abbrev xU:Stmt:=inClass (top 89) 0
set_option genInjectivity false in
structure aK where
 (mP lM jY nQ kc ml jV kU mE lC lx lD kx kv nL lT nc m8 kL lR nA m7 j9 lY lp my kS mB kl mz mD lq gu f7 gN mO nB k8 lL nq jL nz nI jQ mT nR nH mv lj mX mH kP kd l9 jK kZ mI mY kq kb mK mn kQ aE aW bU aV b7 b5 au bK b4 aM fE dD ck gH kI i4 iL kW lA kg ky lE mR kz l7 lO ki j7 mL:Addr)
 (jG jI lh kf ku mJ kr ly kX kC jF jH k9 kj kY mx lQ mG kG mM m9 mw lW kn lr jN mW m6 lI kE mV ll jz jC jO kh ko mi iq jJ lJ lK jS kR kJ j8 nJ nG md mS k7 lG mh mj nM mm lV mq l0 lX jM mZ nE:FuncData)
 (rC rb sJ tu sv tE qB rJ tj qf rm qQ rO tm qP rR rX qY tR qX rQ qg tV ro qK r9 qx qH tP sZ tN qE:Tok)
structure Txt (K:PySem.W.Frag) (mg:Str→Option Value) (A:aK):Prop where
 C6:mg "BitReader" =some (.ref A.aE)
 G4:mg "Form" =some (.ref A.aW)
 uB:mg "Guess" =some (.ref A.bU)
 Kj:mg "PartTaken" =some (.ref A.aV)
 LN:mg "Partner" =some (.ref A.b7)
 KI:mg "FrameTaken" =some (.ref A.b5)
 EK:mg "Reading" =some (.ref A.au)
 Iw:mg "Tag" =some (.ref A.bK)
 K0:mg "Head" =some (.ref A.b4)
 AU:mg "Hearing" =some (.ref A.aM)
 JQ:mg "crc16" =some (.ref A.mP)
 wa:aG K "crc16" "crc16" AN A.mP A.jG
 Bu:Binds K A.jG ["data"] []
 B9:mg "is_form" =some (.ref A.lM)
 uJ:aG K "is_form" "is_form" zo A.lM A.jI
 Fj:Binds K A.jI ["form"] []
 xI:mg "fits" =some (.ref A.jY)
 qU:aG K "fits" "fits" xN A.jY A.lh
 As:Binds K A.lh ["width", "number"] []
 FQ:mg "fixed_guess" =some (.ref A.nQ)
 x8:aG K "fixed_guess" "fixed_guess" wu A.nQ A.kf
 Fl:Binds K A.kf ["order"] []
 Gh:mg "unfolded_rest" =some (.ref A.kc)
 yt:aG K "unfolded_rest" "unfolded_rest" u0 A.kc A.ku
 J1:Binds K A.ku ["folded"] []
 Ei:mg "can_split" =some (.ref A.ml)
 xE:aG K "can_split" "can_split" zM A.ml A.mJ
 JM:Binds K A.mJ ["n", "order", "r"] []
 DJ:mg "read_rests" =some (.ref A.jV)
 ue:aG K "read_rests" "read_rests" AO A.jV A.kr
 CS:Binds K A.kr ["reader", "n", "order", "part"] []
 J6:mg "read_group" =some (.ref A.kU)
 zR:aG K "read_group" "read_group" vC A.kU A.ly
 KR:Binds K A.ly ["reader", "count", "part"] []
 Cu:mg "read_plain" =some (.ref A.mE)
 vg:aG K "read_plain" "read_plain" w9 A.mE A.kX
 Bp:Binds K A.kX ["reader", "count", "part"] []
 Gk:mg "order_of_kind" =some (.ref A.lC)
 yc:aG K "order_of_kind" "order_of_kind" xa A.lC A.kC
 GD:Binds K A.kC ["kind"] []
 sk:mg "read_part" =some (.ref A.lx)
 oJ:aG K "read_part" "read_part" wH A.lx A.jF
 si:Binds K A.jF ["reader", "n", "width", "partner"] []
 IV:mg "read_zeros" =some (.ref A.lD)
 Ad:aG K "read_zeros" "read_zeros" zz A.lD A.jH
 KC:Binds K A.jH ["reader", "width"] []
 zY:mg "read_plainly" =some (.ref A.kx)
 qs:aG K "read_plainly" "read_plainly" AM A.kx A.k9
 AB:Binds K A.k9 ["reader", "count", "part"] []
 Bg:mg "read_guessed" =some (.ref A.kv)
 vA:aG K "read_guessed" "read_guessed" xg A.kv A.kj
 ER:Binds K A.kj ["reader", "n", "kind", "part"] []
 uE:mg "joined_pair" =some (.ref A.nL)
 rl:aG K "joined_pair" "joined_pair" vH A.nL A.kY
 z9:Binds K A.kY ["mode", "x", "y"] []
 GI:mg "first_width" =some (.ref A.lT)
 wV:aG K "first_width" "first_width" wz A.lT A.mx
 CJ:Binds K A.mx ["mode", "depth"] []
 BN:mg "second_width" =some (.ref A.nc)
 vy:aG K "second_width" "second_width" zH A.nc A.lQ
 Jk:Binds K A.lQ ["mode", "depth"] []
 BI:mg "read_frame" =some (.ref A.m8)
 uf:aG K "read_frame" "read_frame" xV A.m8 A.mG
 Dh:Binds K A.mG ["form", "data"] []
 Ff:mg "recorded_frame" =some (.ref A.kL)
 ya:aG K "recorded_frame" "recorded_frame" Av A.kL A.kG
 DE:Binds K A.kG ["form", "samples", "data"] []
 Cp:mg "read_items" =some (.ref A.lR)
 uh:aG K "read_items" "read_items" um A.lR A.mM
 Bv:Binds K A.mM ["form", "reader"] []
 Ea:mg "read_channels" =some (.ref A.nA)
 Al:aG K "read_channels" "read_channels" wO A.nA A.m9
 JK:Binds K A.m9 ["form", "n", "reader"] []
 A7:mg "read_pair" =some (.ref A.m7)
 xc:aG K "read_pair" "read_pair" zI A.m7 A.mw
 DW:Binds K A.mw ["depth", "n", "mode", "reader"] []
 BM:mg "read_end" =some (.ref A.j9)
 yh:aG K "read_end" "read_end" uW A.j9 A.lW
 Fw:Binds K A.lW ["reader"] []
 pV:mg "from_octets" =some (.ref A.lY)
 lU:aG K "from_octets" "from_octets" zd A.lY A.kn
 oI:Binds K A.kn ["data"] []
 Jt:mg "crc32" =some (.ref A.lp)
 xY:aG K "crc32" "crc32" xT A.lp A.lr
 Gs:Binds K A.lr ["data"] []
 A8:mg "can_be_key" =some (.ref A.my)
 za:aG K "can_be_key" "can_be_key" Ai A.my A.jN
 Kw:Binds K A.jN ["key"] []
 Bz:mg "read_tag" =some (.ref A.kS)
 xo:aG K "read_tag" "read_tag" u6 A.kS A.mW
 J5:Binds K A.mW ["reading", "end", "tags"] []
 CA:mg "read_tags" =some (.ref A.mB)
 vQ:aG K "read_tags" "read_tags" uS A.mB A.m6
 CN:Binds K A.m6 ["reading", "size", "tags"] []
 KS:mg "read_head" =some (.ref A.kl)
 uL:aG K "read_head" "read_head" yd A.kl A.lI
 Kc:Binds K A.lI ["reading"] []
 IC:mg "head_told" =some (.ref A.mz)
 Aq:aG K "head_told" "head_told" yE A.mz A.kE
 A6:Binds K A.kE ["data"] []
 Lj:mg "hear_front" =some (.ref A.mD)
 uz:aG K "hear_front" "hear_front" zX A.mD A.mV
 JP:Binds K A.mV ["data"] []
 KH:mg "heard" =some (.ref A.lq)
 w6:aG K "heard" "heard" wL A.lq A.ll
 FF:Binds K A.ll ["data", "stages"] []
 Kv:mg "hear_head" =some (.ref A.gu)
 xQ:aG K "hear_head" "hear_head" uC A.gu A.jz
 BC:Binds K A.jz ["hearing"] []
 FH:mg "hear_tags" =some (.ref A.f7)
 xt:aG K "hear_tags" "hear_tags" z8 A.f7 A.jC
 FX:Binds K A.jC ["hearing"] []
 BG:mg "hear_index" =some (.ref A.gN)
 uM:aG K "hear_index" "hear_index" vY A.gN A.jO
 G1:Binds K A.jO ["hearing"] []
 Ji:mg "read_samples" =some (.ref A.mO)
 xX:aG K "read_samples" "read_samples" Ag A.mO A.kh
 Gb:Binds K A.kh ["front", "begin", "n"] []
 Dl:mg "frame_numbers" =some (.ref A.nB)
 wM:aG K "frame_numbers" "frame_numbers" y8 A.nB A.ko
 GK:Binds K A.ko ["front", "k"] []
 BA:mg "counted" =some (.ref A.k8)
 xu:aG K "counted" "counted" ua A.k8 A.mi
 JV:Binds K A.mi ["data"] []
 EB:mg "read" =some (.ref A.lL)
 DC:aG K "read" "read" zb A.lL A.iq
 LR:Binds K A.iq ["begin", "n", "file"] []
 DQ:Mk K A.aE A.nq
 EO:aG K "__init__" "BitReader.__init__" zF A.nq A.jJ
 Gu:Binds K A.jJ ["self", "data"] []
 dk:Meth K A.aE "unsigned" A.jL
 F6:aG K "unsigned" "BitReader.unsigned" zU A.jL A.lJ
 cW:Binds K A.lJ ["self", "width"] []
 pK:Meth K A.aE "signed" A.nz
 Lv:aG K "signed" "BitReader.signed" u5 A.nz A.lK
 pS:Binds K A.lK ["self", "width"] []
 vf:Meth K A.aE "run" A.nI
 G2:aG K "run" "BitReader.run" yg A.nI A.jS
 zV:Binds K A.jS ["self", "most"] []
 Ll:Mk K A.aW A.jQ
 B0:aG K "__init__" "Form.__init__" yw A.jQ A.kR
 BY:Binds K A.kR ["self", "form"] []
 wZ:Meth K A.aW "frame_count" A.mT
 Je:aG K "frame_count" "Form.frame_count" zj A.mT A.kJ
 uk:Binds K A.kJ ["self", "samples"] []
 GY:Meth K A.aW "frame_samples" A.nR
 Ig:aG K "frame_samples" "Form.frame_samples" vF A.nR A.j8
 Js:Binds K A.j8 ["self", "k", "samples"] []
 xm:Mk K A.bU A.nH
 E8:aG K "__init__" "Guess.__init__" AD A.nH A.nJ
 wC:Binds K A.nJ ["self", "factors", "shift"] []
 FI:Meth K A.bU "at" A.mv
 Kr:aG K "at" "Guess.at" wA A.mv A.nG
 CC:Binds K A.nG ["self", "numbers", "place"] []
 CZ:Mk K A.aV A.lj
 Ko:aG K "__init__" "PartTaken.__init__" yK A.lj A.md
 Cr:Binds K A.md ["self", "width", "z", "partner"] []
 tT:Meth K A.aV "take" A.mX
 Fq:aG K "take" "PartTaken.take" vG A.mX A.mS
 rf:Binds K A.mS ["self", "number"] []
 zm:Meth K A.aV "take_rest" A.mH
 IY:aG K "take_rest" "PartTaken.take_rest" yY A.mH A.k7
 Ax:Binds K A.k7 ["self", "rest"] []
 LH:Mk K A.b7 A.kP
 Fy:aG K "__init__" "Partner.__init__" uo A.kP A.lG
 Ki:Binds K A.lG ["self", "mode", "depth", "numbers"] []
 CT:Meth K A.b7 "judge" A.kd
 KP:aG K "judge" "Partner.judge" xh A.kd A.mh
 Gi:Binds K A.mh ["self", "place", "number"] []
 Bj:Mk K A.b5 A.l9
 Ey:aG K "__init__" "FrameTaken.__init__" zf A.l9 A.mj
 AZ:Binds K A.mj ["self", "size", "k", "n", "numbers"] []
 DL:Mk K A.au A.jK
 EG:aG K "__init__" "Reading.__init__" uK A.jK A.nM
 FK:Binds K A.nM ["self", "data"] []
 eG:Meth K A.au "stop_at" A.kZ
 Kk:aG K "stop_at" "Reading.stop_at" xy A.kZ A.mm
 eU:Binds K A.mm ["self", "fault", "place"] []
 Kg:Meth K A.au "end_too_soon" A.mI
 EE:aG K "end_too_soon" "Reading.end_too_soon" ur A.mI A.lV
 EZ:Binds K A.lV ["self"] []
 lu:Meth K A.au "take" A.mY
 DO:aG K "take" "Reading.take" Ae A.mY A.mq
 kO:Binds K A.mq ["self", "count"] []
 jc:Meth K A.au "number" A.kq
 En:aG K "number" "Reading.number" we A.kq A.l0
 i8:Binds K A.l0 ["self", "count"] []
 qj:Meth K A.au "seal" A.kb
 IA:aG K "seal" "Reading.seal" vI A.kb A.lX
 qu:Binds K A.lX ["self", "begin", "fault"] []
 Ck:Mk K A.bK A.mK
 DH:aG K "__init__" "Tag.__init__" tZ A.mK A.jM
 Lp:Binds K A.jM ["self", "key", "value"] []
 Bc:Mk K A.b4 A.mn
 Fm:aG K "__init__" "Head.__init__" An A.mn A.mZ
 IJ:Binds K A.mZ ["self", "form", "samples", "tags_size"] []
 Dn:Mk K A.aM A.kQ
 IP:aG K "__init__" "Hearing.__init__" xU A.kQ A.nE
 JG:Binds K A.nE ["self", "data"] []
 bD:cf K A.aE
 pI:aZ K A.aE "data"
 iF:aZ K A.aE "place"
 bW:cf K A.aW
 i3:aZ K A.aW "channels"
 sE:aZ K A.aW "depth"
 gG:aZ K A.aW "block"
 Lm:aZ K A.aW "order"
 J0:aZ K A.aW "group"
 FO:aZ K A.aW "spare"
 nO:cf K A.bU
 wK:aZ K A.bU "factors"
 yk:aZ K A.bU "shift"
 bP:cf K A.aV
 pB:aZ K A.aV "width"
 qJ:aZ K A.aV "z"
 tq:aZ K A.aV "partner"
 o9:aZ K A.aV "guess"
 iU:aZ K A.aV "taken"
 gO:cf K A.b7
 w8:aZ K A.b7 "mode"
 vD:aZ K A.b7 "depth"
 wI:aZ K A.b7 "numbers"
 gF:cf K A.b5
 Eu:aZ K A.b5 "size"
 rD:aZ K A.b5 "k"
 yi:aZ K A.b5 "n"
 xZ:aZ K A.b5 "numbers"
 aN:cf K A.au
 ij:aZ K A.au "data"
 cX:aZ K A.au "place"
 qb:aZ K A.au "fault"
 wD:aZ K A.au "fault_place"
 qA:cf K A.bK
 wg:aZ K A.bK "key"
 Bs:aZ K A.bK "value"
 eX:cf K A.b4
 kH:aZ K A.b4 "form"
 pR:aZ K A.b4 "samples"
 zq:aZ K A.b4 "tags_size"
 bM:cf K A.aM
 gp:aZ K A.aM "reading"
 fh:aZ K A.aM "head"
 ui:aZ K A.aM "tags"
 pz:aZ K A.aM "starts"
 vT:aZ K A.aM "index_bytes"
 Fg:aZ K A.aM "frames_taken"
 FV:aZ K A.aM "numbers"
 o4:mg "Short" =some (.ref A.fE)
 o6:Own K A.fE
 dE:mg "Wrong" =some (.ref A.dD)
 dw:Own K A.dD
 yX:mg "Faulty" =some (.ref A.ck)
 wY:Own K A.ck
 wF:mg "Missing" =some (.ref A.gH)
 ud:Own K A.gH
 AA:A.fE≠A.dD
 LX:A.fE≠A.ck
 LW:A.fE≠A.gH
 LU:A.dD≠A.ck
 LV:A.dD≠A.gH
 LS:A.ck≠A.gH
 Du:mg "MOST_NUMBERS" =some (.int 2048 A.rC)
 Lk:mg "FACTOR_WIDTH" =some (.int 12 A.rb)
 Kx:mg "GREATEST_SPLIT" =some (.int 6 A.sJ)
 EA:mg "PLAIN" =some (.int 31 A.tu)
 Iv:mg "GREATEST_PLAIN_WIDTH" =some (.int 40 A.sv)
 Di:mg "GREATEST_FOLDED" =some (.int 1099511627775 A.tE)
 Ci:mg "SAME" =some (.int 0 A.qB)
 FG:mg "PLAIN_KIND" =some (.int 1 A.rJ)
 KZ:mg "FIRST_FIXED" =some (.int 2 A.tj)
 rP:mg "FIRST_LINEAR" =some (.int 7 A.qf)
 Cw:mg "LAST_KIND" =some (.int 10 A.rm)
 JI:mg "MARK_frames" =some (.int 19287 A.qQ)
 qe:mg "LONGEST" =some (.int 4096 A.rO)
 uu:mg "CRC32_SIZE" =some (.int 4 A.tm)
 Gy:mg "ENDS_TOO_SOON" =some (.int 1 A.qP)
 iX:mg "BAD_TAGS" =some (.int 5 A.rR)
 Er:mg "BAD_TAGS_CHECK" =some (.int 6 A.rX)
 BX:mg "MOST_TAGS" =some (.int 16 A.qY)
 Ca:mg "LONGEST_KEY" =some (.int 32 A.tR)
 Gm:mg "COUNT_SIZE" =some (.int 2 A.qX)
 wo:mg "VALUE_LENGTH_SIZE" =some (.int 2 A.rQ)
 Kt:mg "LEAST_TAGS_SIZE" =some (.int 6 A.qg)
 Em:mg "MOST_TAGS_SIZE" =some (.int 1024 A.tV)
 DZ:mg "EQUALS_SIGN" =some (.int 61 A.ro)
 F8:mg "ORDER" =some (.int 4 A.qK)
 D8:mg "BAD_MARK" =some (.int 2 A.r9)
 Lg:mg "BAD_SHAPE" =some (.int 3 A.qx)
 B6:mg "BAD_HEAD_CHECK" =some (.int 4 A.qH)
 Ej:mg "ENTRY_SIZE" =some (.int 3 A.tP)
 IK:mg "BAD_ENTRY" =some (.int 7 A.sZ)
 B3:mg "BAD_INDEX_CHECK" =some (.int 8 A.tN)
 KQ:mg "MOST_READ" =some (.int 2048 A.qE)
 vh:mg "RANGES" =some (.ref A.iL)
 jZ: ∀H,aS K H A.iL [V.ref A.kW,V.ref A.lA,V.ref A.kg,V.ref A.ky,V.ref A.lE,V.ref A.mR]
 Kd: ∀H,aS K H A.kW [V.int (1),V.int (4)]
 Jq: ∀H,aS K H A.lA [V.int (4),V.int (24)]
 E7: ∀H,aS K H A.kg [V.int (16),V.int (256)]
 CD: ∀H,aS K H A.ky [V.int (0),V.int (4)]
 EV: ∀H,aS K H A.lE [V.int (1),V.int (8)]
 By: ∀H,aS K H A.mR [V.int (0),V.int (4)]
 Ef:mg "FIXED" =some (.ref A.kz)
 JR: ∀H,aS K H A.kz [V.ref A.l7,V.ref A.lO,V.ref A.ki,V.ref A.j7,V.ref A.mL]
 FR: ∀H,aS K H A.l7 []
 B4: ∀H,aS K H A.lO [V.int (1)]
 Dz: ∀H,aS K H A.ki [V.int (2),V.int (-1)]
 G3: ∀H,aS K H A.j7 [V.int (3),V.int (-3),V.int (1)]
 AY: ∀H,aS K H A.mL [V.int (4),V.int (-6),V.int (4),V.int (-1)]
 AG:mg "CRC32_STEPS" =some (.ref A.kI)
 Bh: ∀H,aS K H A.kI [V.int (0),V.int (498536548),V.int (997073096),V.int (651767980),V.int (1994146192),V.int (1802195444),V.int (1303535960),V.int (1342533948),V.int (3988292384),V.int (4027552580),V.int (3604390888),V.int (3412177804),V.int (2607071920),V.int (2262029012),V.int (2685067896),V.int (3183342108)]
 uI:mg "MARK_heads" =some (.ref A.i4)
 xR: ∀H,aS K H A.i4 [V.int (83),V.int (75),V.int (69),V.int (69),V.int (80),V.int (1),V.int (13),V.int (10)]
 xl:mg "all" =none
 BJ:mg "any" =none
 eW:mg "len" =none
 yl:mg "list" =none
 Ep:mg "min" =none
 dN:mg "range" =none
 yn:mg "zip" =none
 entry: ∀(s:Shared) (us:List Value),us.length=(["begin", "n", "file"]:List Str).length→BindsTo s A.iq ⟨us, []⟩ ((["begin", "n", "file"]:List Str).zip us)
theorem DN {K:PySem.W.Frag} {mg:Str→Option Value} {mP lM jY nQ kc ml jV kU mE lC lx lD kx kv nL lT nc m8 kL lR nA m7 j9 lY lp my kS mB kl mz mD lq gu f7 gN mO nB k8 lL nq jL nz nI jQ mT nR nH mv lj mX mH kP kd l9 jK kZ mI mY kq kb mK mn kQ aE aW bU aV b7 b5 au bK b4 aM fE dD ck gH kI i4 iL kW lA kg ky lE mR kz l7 lO ki j7 mL:Addr} {jG jI lh kf ku mJ kr ly kX kC jF jH k9 kj kY mx lQ mG kG mM m9 mw lW kn lr jN mW m6 lI kE mV ll jz jC jO kh ko mi iq jJ lJ lK jS kR kJ j8 nJ nG md mS k7 lG mh mj nM mm lV mq l0 lX jM mZ nE:FuncData} {rC rb sJ tu sv tE qB rJ tj qf rm qQ rO tm qP rR rX qY tR qX rQ qg tV ro qK r9 qx qH tP sZ tN qE:Tok} (h:Txt K mg ⟨mP,lM,jY,nQ,kc,ml,jV,kU,mE,lC,lx,lD,kx,kv,nL,lT,nc,m8,kL,lR,nA,m7,j9,lY,lp,my,kS,mB,kl,mz,mD,lq,gu,f7,gN,mO,nB,k8,lL,nq,jL,nz,nI,jQ,mT,nR,nH,mv,lj,mX,mH,kP,kd,l9,jK,kZ,mI,mY,kq,kb,mK,mn,kQ,aE,aW,bU,aV,b7,b5,au,bK,b4,aM,fE,dD,ck,gH,kI,i4,iL,kW,lA,kg,ky,lE,mR,kz,l7,lO,ki,j7,mL,jG,jI,lh,kf,ku,mJ,kr,ly,kX,kC,jF,jH,k9,kj,kY,mx,lQ,mG,kG,mM,m9,mw,lW,kn,lr,jN,mW,m6,lI,kE,mV,ll,jz,jC,jO,kh,ko,mi,iq,jJ,lJ,lK,jS,kR,kJ,j8,nJ,nG,md,mS,k7,lG,mh,mj,nM,mm,lV,mq,l0,lX,jM,mZ,nE,rC,rb,sJ,tu,sv,tE,qB,rJ,tj,qf,rm,qQ,rO,tm,qP,rR,rX,qY,tR,qX,rQ,qg,tV,ro,qK,r9,qx,qH,tP,sZ,tN,qE⟩): ∃A,Txt K mg A:=⟨_,h⟩
theorem Fz {K:PySem.W.Frag} {a:Addr} {d:Option Addr} {n:Nat} {s:Array (Option Value)} {i:Array Value} {x:List V} (t:K.lookup a=some ⟨.type "tuple",d, .seq i n,s⟩) (z:i.size≤sizeLine) (v:Vals x i.toList) (H:Hp):aS K H a x:= .inr ⟨_,_,_,t,rfl,rfl,z,v⟩
end Wg
namespace Wg
open PySem PySem.Spec PyProof.Rows L2
def hide (D:Addr) (H:Hp):Hp:=fun b=>if b=D then none else H b
theorem hide_ne {D b:Addr} {H:Hp} (h:b≠D):hide D H b=H b:=by unfold hide;rw[if_neg h]
theorem cB {D b:Addr} {H:Hp} {o:HO} (h:hide D H b=some o):H b=some o∧b≠D:=by
 unfold hide at h
 by_cases e:b=D
 ·rw[if_pos e] at h;cases h
 ·rw[if_neg e] at h;exact ⟨h,e⟩
theorem dZ (D:Addr) (H:Hp):ae (hide D H) H:=fun b o h=>(cB h).1
theorem oP {D:Addr} {H H':Hp} (s:ae H H'):ae (hide D H) (hide D H'):=fun b o h=>by
 obtain ⟨h1,h2⟩:=cB h
 rw[hide_ne h2];exact s b o h1
theorem BE (D:Addr) (H:Hp) (o:HO):hide D (upd H D o)=hide D H:=by
 funext b
 unfold hide
 by_cases e:b=D
 ·rw[if_pos e,if_pos e]
 ·rw[if_neg e,if_neg e,aB e]
theorem aQ {H:Hp} {p:Addr} {o:HO} (h:H p=none):ae H (upd H p o):=fun b u e=>by rw[aB (b6 e h)];exact e
theorem fH {H H':Hp} {p:Addr} {o:HO} (s:ae H H') (h:H p=none):ae H (upd H' p o):=fun b u e=>by rw[aB (b6 e h)];exact s b u e
theorem ug {J:It} {H1:Hp} {D:Addr} {σ:L2.St} {vs:List Nat} {g:TG} {te:TE} {Qf:Hp→Prop} (hD:H1 D=none) (n:Nat) (hn:n≤sizeLine) (Pr:Nat→V→Hp→Prop)
  (d4: ∀k v H H',k<n→ae H H'→Pr k v H→Pr k v H')
  (hgo: ∀i Hh,i<n→ae H1 Hh→J.go i Hh) (hstop: ∀Hh,ae H1 Hh→J.stop n Hh)
  (turn: ∀i Hh x H',i<n→ae H1 Hh→(∃acc,Hh D=some (.lst acc))→J.dS i Hh x H'→ ∀C:VK,(∀y H4,ae Hh H4→Pr i y (hide D H4)→C y H4)→g x (wipe σ vs) H' fun σ2 H2=>wipe σ2 vs=wipe σ vs∧te σ2 H2 C)
  (fin: ∀Hh xs,ae H1 Hh→xs.length=n→(∀(k:Nat) (v:V),xs[k]?=some v→Pr k v Hh)→Hh D=some (.lst xs)→Qf Hh):
  ∃W:Nat→Nat→Hp→Prop,(∃m,W 0 m (upd H1 D (.lst [])))∧ ∀i m H,W i m H→
   (J.stop i H∧Qf H)∨(J.go i H∧ ∃Nx:Hp→Prop,(∀H',Nx H'→ ∃m',m'<m∧W (i+1) m' H')∧ ∀x H',J.dS i H x H'→g x (wipe σ vs) H' fun σ2 H2=>wipe σ2 vs=wipe σ vs∧jk σ2 H2 fun b H3=>
    if b=true then te σ2 H3 fun y H4=> ∃acc,H4 D=some (.lst acc)∧acc.length<sizeLine∧Nx (upd H4 D (.lst (acc++ [y]))) else Nx H3):=by
 refine ⟨fun i m H=>i+m=n∧ae H1 H∧ ∃xs:List V,xs.length=i∧H D=some (.lst xs)∧ ∀(k:Nat) (v:V),xs[k]?=some v→Pr k v (hide D H),⟨n,by omega,aQ hD, [],rfl,ao,fun k v e=>by simp at e⟩,?_⟩
 rintro i m H ⟨hm,s1,xs,hl,hx,hp⟩
 by_cases hi:i=n
 ·subst hi
  exact .inl ⟨hstop H s1,fin H xs s1 hl (fun k v e=>d4 k v _ _ (by have:=(List.getElem?_eq_some_iff.mp e).1;omega) (dZ D H) (hp k v e)) hx⟩
 ·have hi:i<n:=by omega
  refine .inr ⟨hgo i H hi s1,fun H'=> ∃m',m'<m∧i+1+m'=n∧ae H1 H'∧ ∃xs:List V,xs.length=i+1∧H' D=some (.lst xs)∧ ∀(k:Nat) (v:V),xs[k]?=some v→Pr k v (hide D H'),fun H' h=>?_,fun x H' hy=>?_⟩
  ·obtain ⟨m',h1,h2,h3⟩:=h
   exact ⟨m',h1,h2,h3⟩
  ·refine turn i H x H' hi s1 ⟨xs,hx⟩ hy _ fun y H4 s4 p4=>?_
   refine ⟨xs,s4 _ _ hx,by omega,m-1,by omega,by omega,fH (s1.trans s4) hD,xs++ [y],by rw[List.length_append,hl];rfl,ao,fun k v e=>?_⟩
   rw[BE]
   by_cases hk:k<xs.length
   ·rw[List.getElem?_append_left hk] at e
    exact d4 k v _ _ (by omega) (oP s4) (hp k v e)
   ·rw[List.getElem?_append_right (by omega)] at e
    have hk0:k-xs.length=0:=by
     have:=(List.getElem?_eq_some_iff.mp e).1
     simp at this;omega
    rw[hk0] at e
    have e:=Option.some.inj e
    subst e
    have:k=i:=by omega
    subst this
    exact p4
theorem gX {J:It} {H1:Hp} {D:Addr} {σ:L2.St} {vs:List Nat} {g:TG} {te:TE} {Qf:Hp→Prop} (hD:H1 D=none) (n:Nat) (hn:n≤sizeLine) (val:Nat→V)
  (hgo: ∀i Hh,i<n→ae H1 Hh→J.go i Hh) (hstop: ∀Hh,ae H1 Hh→J.stop n Hh)
  (turn: ∀i Hh x H',i<n→ae H1 Hh→J.dS i Hh x H'→ ∀C:VK,(∀H4,ae Hh H4→C (val i) H4)→g x (wipe σ vs) H' fun σ2 H2=>wipe σ2 vs=wipe σ vs∧te σ2 H2 C)
  (fin: ∀Hh,ae H1 Hh→Hh D=some (.lst ((List.range n).map val))→Qf Hh):
  ∃W:Nat→Nat→Hp→Prop,(∃m,W 0 m (upd H1 D (.lst [])))∧ ∀i m H,W i m H→
   (J.stop i H∧Qf H)∨(J.go i H∧ ∃Nx:Hp→Prop,(∀H',Nx H'→ ∃m',m'<m∧W (i+1) m' H')∧ ∀x H',J.dS i H x H'→g x (wipe σ vs) H' fun σ2 H2=>wipe σ2 vs=wipe σ vs∧jk σ2 H2 fun b H3=>
    if b=true then te σ2 H3 fun y H4=> ∃acc,H4 D=some (.lst acc)∧acc.length<sizeLine∧Nx (upd H4 D (.lst (acc++ [y]))) else Nx H3):=by
 refine ug hD n hn (fun k v _=>v=val k) (fun _ _ _ _ _ _ h=>h) hgo hstop (fun i Hh x H' hi s1 _ hy C hC=>turn i Hh x H' hi s1 hy C fun H4 s4=>hC _ H4 s4 rfl) fun Hh xs s1 hl hp hx=>fin Hh s1 ?_
 have:xs=(List.range n).map val:=by
  refine List.ext_getElem? fun k=>?_
  by_cases hk:k<n
  ·rw[List.getElem?_map,List.getElem?_range hk]
   have e:=List.getElem?_eq_getElem (l:=xs) (i:=k) (by omega)
   rw[e,hp k _ e];rfl
  ·rw[List.getElem?_eq_none (by omega),List.getElem?_eq_none (by rw[List.length_map,List.length_range];omega)]
 rw[←this];exact hx
theorem a8 {X:Cx} {x:Str} {i:Int} {tk:Tok} {pos:Pos} (hg:Gl X x) (hm:X.mg x=some (.int i tk)) (hd:(x==("__debug__" :Str))=false:=by decide):PE X (.Name x pos) (tC (.int i)):=zZ hg hm (show RelV (.int i) (.int i tk) from ⟨tk,rfl⟩) hd
theorem fA {X:Cx} {x:Str} {a:Addr} {pos:Pos} (hg:Gl X x) (hm:X.mg x=some (.ref a)) (hd:(x==("__debug__" :Str))=false:=by decide):PE X (.Name x pos) (tC (.ref a)):=zZ hg hm (show RelV (.ref a) (.ref a) from rfl) hd
theorem K9 {X:Cx} {K:PySem.W.Frag} (h:X.K=K):lP X (tK K):=by subst h;exact cU
theorem AL {X:Cx} {K:PySem.W.Frag} {e:Expr} {f:Str} {pos:Pos} {ta:TE} (h:X.K=K) (he:PE X e ta) (hb:attributeBase e f X.env (eval e X.env)=eval e X.env):PE X (.Attribute e f pos) (ja K ta f):=by subst h;exact ay he hb
theorem pY {l:List Int} {i:Nat} {x:V} (h:(l.map V.int)[i]?=some x):x= .int (l.getD i 0)∧i<l.length:=by
 rw[List.getElem?_map] at h
 cases e:l[i]? with
 |none=>rw[e] at h;cases h
 |some z=>
  rw[e] at h
  refine ⟨?_,(List.getElem?_eq_some_iff.mp e).1⟩
  rw[List.getD_eq_getElem?_getD,e]
  exact (Option.some.inj h).symm
theorem iY {l:List Int} {i:Nat} (h:i<l.length):(l.map V.int)[i]?=some (.int (l.getD i 0)):=by
 rw[List.getElem?_map,List.getElem?_eq_getElem h,List.getD_eq_getElem?_getD,List.getElem?_eq_getElem h];rfl
end Wg
namespace Wg
open PySem PySem.Spec PyProof.Rows L2
local macro_rules | `(tactic| walk_at "rd") => `(tactic| simp only [L2.start, yp, vZ, om, sr, Ap, fg, tC, eD, w4, rd, tf, nZ, AK, rY, ja, tY, zG, xS, tB, qG, ye, xA, rq, rn, wB, zi, uj, rU, rI, cM, tK, pQ, zr, rK, gA, su, yQ, vM, sy, jk, xn, pk, wb, zK, vc, uV, vo, vJ, zO, qC, wipe, List.map_cons, List.map_nil, List.length_cons, List.length_nil, List.replicate, List.append_nil, List.nil_append, List.cons_append, List.getElem?_cons_zero, List.getElem?_cons_succ, List.set_cons_zero, List.set_cons_succ, Nat.zero_add, Nat.reduceAdd, Nat.reduceSub, Nat.sub_zero, Nat.sub_self, Option.some.injEq, V.int.injEq, V.ref.injEq, V.bl.injEq, exists_eq_left', exists_eq_left, exists_and_left, exists_and_right, exists_eq', exists_eq, true_and, and_true, List.cons.injEq, reduceCtorEq, false_and, and_false, exists_false, exists_const])
section
variable {P:Program} {w:World} {K:PySem.W.Frag} {mg:Str→Option Value} {base:Heap} {A:aK}
theorem _root_.L2.ae.none {H H':Hp} {b:Addr} (s:ae H H') (h:H' b=none):H b=none:=by
 cases q:H b with
 |none=>rfl
 |some o=>rw[s b o q] at h;cases h
def vN (F:List Nat):List V:=F.map fun (n:Nat)=>V.int (n:Int)
theorem tH (F:List Nat):vN F=(F.map fun (n:Nat)=>(n:Int)).map V.int:=by unfold vN;rw[List.map_map];rfl
theorem cK (F:List Nat):(vN F).length=F.length:=by simp [vN]
theorem iR {F:List Nat} {i:Nat} (h:i<F.length):(vN F)[i]?=some (.int ((F.getD i 0:Nat):Int)):=by
 unfold vN
 rw[List.getElem?_map,List.getElem?_eq_getElem h,List.getD_eq_getElem?_getD,List.getElem?_eq_getElem h];rfl
theorem iE {F:List Nat} {i:Nat} {x:V} (h:(vN F)[i]?=some x):x= .int ((F.getD i 0:Nat):Int)∧i<F.length:=by
 have hi:i<F.length:=by
  have:=(List.getElem?_eq_some_iff.mp h).1
  rwa [cK] at this
 rw[iR hi] at h
 exact ⟨(Option.some.inj h).symm,hi⟩
theorem LP (F G:List Nat):vN (F++G)=vN F++vN G:=by unfold vN;rw[List.map_append]
theorem uP {α:Type} (l:List α) (a b:Nat):(l.drop (min a l.length)).take (min b l.length-min a l.length)=(l.drop a).take (b-a):=by
 have e:l.drop (min a l.length)=l.drop a:=by
  rw[List.drop_eq_drop_iff];omega
 rw[e,List.take_eq_take_iff,List.length_drop];omega
theorem iV (F:List Nat) (a b:Nat):cx (vN F) (some (a:Int)) (some (b:Int))=vN ((F.drop a).take (b-a)):=by
 unfold cx HT.cy vN
 simp only [List.length_map]
 rw[if_neg (by omega),if_neg (by omega),Int.toNat_natCast,Int.toNat_natCast,←List.map_drop,←List.map_take,uP]
theorem zL (F:List Nat) (b:Nat):cx (vN F) none (some (b:Int))=vN (F.take b):=by
 unfold cx HT.cy vN
 simp only [List.length_map]
 rw[if_neg (by omega),Int.toNat_natCast,←List.map_drop,←List.map_take,List.drop_zero,Nat.sub_zero]
 congr 1
 rw[List.take_eq_take_iff];omega
theorem DS (F:List Nat) (a:Nat):cx (vN F) (some (a:Int)) none=vN (F.drop a):=by
 unfold cx HT.cy vN
 simp only [List.length_map]
 rw[if_neg (by omega),Int.toNat_natCast,←List.map_drop,←List.map_take]
 congr 1
 rw[show F.drop (min a F.length)=F.drop a by rw[List.drop_eq_drop_iff];omega,List.take_of_length_le (by rw[List.length_drop];omega)]
theorem vd (k:Nat):256^k=2^(8*k):=by rw[Nat.pow_mul]
theorem zh: ∀(l:List Nat),(∀x∈l,x<256)→ ∀n,l.foldl (fun n c=>256*n+c) n<(n+1)*256^l.length
 | [],_,n=>by simp
 |x::l,h,n=>by
  have:=zh l (fun y hy=>h y (List.mem_cons_of_mem _ hy)) (256*n+x)
  rw[List.foldl_cons,List.length_cons,Nat.pow_succ]
  have hx:=h x (List.mem_cons_self ..)
  have h2:(256*n+x+1)*256^l.length≤((n+1)*256)*256^l.length:=Nat.mul_le_mul_right _ (by omega)
  have e:(n+1)*(256^l.length*256)=(n+1)*256*256^l.length:=by rw[Nat.mul_comm (256^l.length),Nat.mul_assoc]
  omega
theorem oo {l:List Nat} (h: ∀x∈l,x<256):bA l<256^l.length:=by
 have:=zh l h 0
 rwa [Nat.zero_add,Nat.one_mul] at this
theorem tS {α β:Type} (f:β→α→β) (l:List α) (i:Nat) (h:i<l.length) (b:β):(l.take (i+1)).foldl f b=f ((l.take i).foldl f b) l[i]:=by
 rw[List.take_succ,List.getElem?_eq_getElem h,List.foldl_append];rfl
theorem rN {l:List Nat} {m i:Nat} (h: ∀x∈l,x<m) (hi:i<l.length):l.getD i 0<m:=h _ (by rw[List.getD_eq_getElem?_getD,List.getElem?_eq_getElem hi];exact List.getElem_mem hi)
theorem getD_at {l:List Nat} {i:Nat} (hi:i<l.length):l.getD i 0=l[i]:=by rw[List.getD_eq_getElem?_getD,List.getElem?_eq_getElem hi];rfl
theorem wc {n b:Nat} (h:b<256):(256*n)|||b=256*n+b:=by
 have:=Nat.two_pow_add_eq_or_of_lt (i:=8) h n
 exact this.symm
theorem yj {n k:Nat} (h:n<2^k):Builtin.Int.intBits ((n:Nat):Int)≤k:=by rw[Gn];exact I0 h
theorem yT {X:Cx} {K:PySem.W.Frag} {pos:Pos} {es:List Expr} {k:Nat} {t:gy} {n:Nat} (h:X.K=K) (hc:X.calm=true) (hg:nk X es t)
  (hn:(assignEach es X.env).length=n:=by rfl) (hst:(assignEach es X.env).findIdx? (·.1)=none:=by rfl):PG X (.Tuple es k pos) (su K n t):=by subst h;exact E3 hc hg hn hst
theorem KO {X:Cx} {K:PySem.W.Frag} (h:X.K=K):gs X (.builtin "len") (fun xs H Q=> ∃p ys,xs= [.ref p]∧(ai K H p ys∨aS K H p ys)∧Q (.int ys.length) H):=by subst h;exact eM
theorem vi {as:List Addr} {i:Nat} {x:V} (h:(as.map V.ref)[i]?=some x): ∃a,x= .ref a∧as[i]?=some a:=by
 rw[List.getElem?_map] at h
 cases e:as[i]? with
 |none=>rw[e] at h;cases h
 |some a=>rw[e] at h;exact ⟨a,(Option.some.inj h).symm,rfl⟩
theorem xf {as:List Addr} {i:Nat} (h:i<as.length): ∃a,(as.map V.ref)[i]?=some (.ref a)∧as[i]?=some a:=⟨as[i],by rw[List.getElem?_map,List.getElem?_eq_getElem h];rfl,List.getElem?_eq_getElem h⟩
def bn (b:Sound.Bytes):List Nat:=b.map UInt8.toNat
theorem dG (b:Sound.Bytes):(bn b).length=b.length:=by unfold bn;rw[List.length_map]
theorem fe (b:Sound.Bytes): ∀x∈bn b,x<256:=fun x hx=>by
 obtain ⟨c,_,rfl⟩:=List.mem_map.mp hx
 exact c.toNat_lt
theorem iK (b:Sound.Bytes) (n:Nat):(bn b).drop n=bn (b.drop n):=by unfold bn;rw[List.map_drop]
theorem gD (b:Sound.Bytes) (n:Nat):(bn b).take n=bn (b.take n):=by unfold bn;rw[List.map_take]
def A3 (i n:Nat):L2.St→Hp→Nat:=fun σ _=>match σ[i]? with
 |some (some (.int p))=>n-p.toNat
 |_=>0
theorem Bb {c:TT} {tb:TS} {D:Ends} {σ:L2.St} {H:Hp} (Pv:L2.St→Hp→Prop) (μ:L2.St→Hp→Nat) (h0:Pv σ H)
  (hs: ∀σ H,Pv σ H→ ∀C:Bool→Hp→Prop,(∀H1,tb {D with nx:=fun σ' H'=>Pv σ' H'∧μ σ' H'<μ σ H,ct:=fun σ' H'=>Pv σ' H'∧μ σ' H'<μ σ H,bk:=D.nx} σ H1→C true H1)→(∀H1,D.nx σ H1→C false H1)→c σ H C):zC c tb D σ H:=by
 refine ⟨fun m σ H=>m=μ σ H∧Pv σ H,⟨_,rfl,h0⟩,?_⟩
 rintro m σ H ⟨rfl,p⟩
 exact hs σ H p _ (fun H1 h=>⟨_,fun σ' H' ⟨p',l⟩=>⟨_,l,rfl,p'⟩,h⟩) (fun H1 h=>h)
def newOf (H H':Hp):Hp:=fun b=>match H b with
 |none=>H' b
 |some _=>none
theorem fD {H H':Hp} {b:Addr} (h:H b=none):newOf H H' b=H' b:=by unfold newOf;rw[h]
theorem jq {H H':Hp} {b:Addr} {o:HO} (h:newOf H H' b=some o):H b=none∧H' b=some o:=by
 unfold newOf at h
 cases e:H b with
 |none=>rw[e] at h;exact ⟨rfl,h⟩
 |some u=>rw[e] at h;cases h
theorem FC (H H':Hp):ae (newOf H H') H':=fun b o h=>(jq h).2
def Kq (K:PySem.W.Frag):Sp:=fun vs H Q _=> ∃(q:Addr) (l:List Nat),vs= [.ref q]∧ai K H q (vN l)∧l.length≤1000∧(∀x∈l,x<256)∧Q (.int (bA l:Nat)) H
theorem oQ:aI ["data", "number", "byte"] ["data"] (aD zd):=⟨rfl,rfl,rfl,by decide+kernel,rfl,by decide+kernel,by decide+kernel⟩
theorem pb (T:Txt K mg A):az P w K mg base bx 1 A.lY A.kn ["data"] (Kq K):=by
 refine T.lU.ok oQ (fun vs H Q E h=>?_) (fun cdv Ar outer s H vs Q E hr h=>?_)
 ·obtain ⟨q,l,rfl,_⟩:=h
  rfl
 ·obtain ⟨q,l,rfl,hq,hl,hb,k⟩:=h
  refine ⟨_,ag (aF (i:=1) oQ.nd rfl (Or.inl rfl) ak)
   (ag (cq PassesOwn.never rfl (dI (pv 0)) (bH (i:=2) oQ.nd rfl (Or.inl rfl))
    (ah (aF (i:=1) oQ.nd rfl (Or.inl rfl) (ax yC (ax ph (pv 1) ak) (pv 2)))))
   (ah (aR (pv 1)))),?_⟩
  refine ⟨_,rfl,q,rfl,⟨_,hq⟩,?_⟩
  refine iQ (K:=K) (a:=q) (xs:=vN l) (fun i σ H'=>H'=H∧ ∃v2:Option V,σ= [some (.ref q),some (.int (bA (l.take i):Nat)),v2]) ⟨rfl,none,rfl⟩ (fun i σ H' _ ⟨e,_⟩=>by rw[e];exact hq) ?_ ?_
  ·rintro i x σ H' hi ⟨rfl,v2,rfl⟩
   obtain ⟨rfl,hil⟩:=iE hi
   have hlt:=oo (l:=l.take i) fun x hx=>hb x (List.mem_of_mem_take hx)
   have hbits:Builtin.Int.intBits ((bA (l.take i):Nat):Int)≤8*i:=by
    rw[vd,List.length_take] at hlt
    exact yj (Nat.lt_of_lt_of_le hlt (Nat.pow_le_pow_right (by decide) (by omega)))
   have e27:(2:Int)^27=134217728:=by decide
   refine ⟨_,rfl,_,_,rfl,rfl,⟨by omega,by omega⟩,_,rfl,_,_,rfl,rfl,rfl,some (.int (l.getD i 0:Nat)),?_⟩
   have e:bA (l.take (i+1))=256*bA (l.take i)+l.getD i 0:=by
    unfold bA
    rw[tS _ _ _ hil,getD_at hil]
   have ex:Builtin.bitOr (((bA (l.take i):Nat):Int)*2^(8:Int).toNat) ((l.getD i 0:Nat):Int)=((bA (l.take (i+1)):Nat):Int):=by
    have e8:((bA (l.take i):Nat):Int)*2^(8:Int).toNat=((256*bA (l.take i):Nat):Int):=by
     rw[show (2:Int)^(8:Int).toNat=256 by decide];omega
    rw[e8,qS,wc (rN hb hil),e]
   show [some (V.ref q),some (V.int (Builtin.bitOr _ _)),_]=_
   rw[ex]
  ·rintro σ H' ⟨rfl,v2,rfl⟩
   refine ⟨_,rfl,?_⟩
   have:bA (l.take (vN l).length)=bA l:=by rw[cK,List.take_length]
   rw[this]
   exact k
def Ex (K:PySem.W.Frag):Sp:=fun vs H Q _=> ∃(q:Addr) (l:List Nat),vs= [.ref q]∧ai K H q (vN l)∧(∀x∈l,x<256)∧Q (.int (o7 l:Nat)) H
theorem jo:aI ["data", "check", "byte"] ["data"] (aD xT):=⟨rfl,rfl,rfl,by decide+kernel,rfl,by decide+kernel,by decide+kernel⟩
theorem Jz (n:Nat):Builtin.bitAnd (n:Int) 15=((n%16:Nat):Int):=by
 rw[show (15:Int)=((15:Nat):Int) from rfl,pq,show (15:Nat)=2^4-1 by decide,Nat.and_two_pow_sub_one_eq_mod]
theorem z7 {c:Nat} {H:Hp} {a:Addr} {Qf:V→Hp→Prop} (hs:aS K H a (vN i9)) (k:Qf (.int (nN c:Nat)) H) {σ:L2.St} (hσ:σ[1]?=some (some (V.int (c:Nat)))):
  fg (cM fun i j=> .int (Builtin.bitXor i j)) (fg (rI (fun _ j=>0≤j) fun i j=> .int (i/2^j.toNat)) (eD 1) (tC (.int 4))) (fg (pQ K) (tC (.ref a)) (fg (cM fun i j=> .int (Builtin.bitAnd i j)) (eD 1) (tC (.int 15)))) σ H Qf:=by
 refine ⟨_,hσ,_,_,rfl,rfl,(by show (0:Int)≤4;decide),_,hσ,_,_,rfl,rfl,?_⟩
 dsimp only
 rw[Jz]
 have hm:c%16<i9.length:=Nat.mod_lt _ (by decide)
 refine ⟨a,_,_,_,rfl,rfl,hs,bQ (iR hm),_,_,rfl,rfl,?_⟩
 have e:Builtin.bitXor (((c:Nat):Int)/2^(4:Int).toNat) ((i9.getD (c%16) 0:Nat):Int)=((nN c:Nat):Int):=by
  have e1:((c:Nat):Int)/2^(4:Int).toNat=((c/16:Nat):Int):=by rw[show (2:Int)^(4:Int).toNat=16 by decide];omega
  rw[e1,ny];rfl
 dsimp only
 rw[e]
 exact k
theorem CW (T:Txt K mg A):az P w K mg base bx 1 A.lp A.lr ["data"] (Ex K):=by
 refine T.xY.ok jo (fun vs H Q E h=>?_) (fun cdv Ar outer s H vs Q E hr h=>?_)
 ·obtain ⟨q,l,rfl,_⟩:=h
  rfl
 ·obtain ⟨q,l,rfl,hq,hb,k⟩:=h
  refine ⟨_,ag (aF (i:=1) jo.nd rfl (Or.inl rfl) ak)
   (ag (cq PassesOwn.never rfl (dI (pv 0)) (bH (i:=2) jo.nd rfl (Or.inl rfl))
    (ag (gL (i:=1) jo.nd rfl (Or.inl rfl) (pv 2) sW)
    (ag (aF (i:=1) jo.nd rfl (Or.inl rfl) (ax sM (ax eO (pv 1) ak) (bZ pG (fA rfl T.AG) (ax oO (pv 1) ak) (fun _ _=>rfl))))
    (ah (aF (i:=1) jo.nd rfl (Or.inl rfl) (ax sM (ax eO (pv 1) ak) (bZ pG (fA rfl T.AG) (ax oO (pv 1) ak) (fun _ _=>rfl))))))))
   (ah (aR (ax sM (pv 1) ak)))),?_⟩
  refine ⟨_,rfl,q,rfl,⟨_,hq⟩,?_⟩
  have hS: ∀H,aS K H A.kI (vN i9):=fun H=>T.Bh H
  refine iQ (K:=K) (a:=q) (xs:=vN l) (fun i σ H'=>H'=H∧ ∃v2:Option V,σ= [some (.ref q),some (.int ((l.take i).foldl qc 0xFFFFFFFF:Nat)),v2]) ⟨rfl,none,rfl⟩ (fun i σ H' _ ⟨e,_⟩=>by rw[e];exact hq) ?_ ?_
  ·rintro i x σ H' hi ⟨rfl,v2,rfl⟩
   obtain ⟨rfl,hil⟩:=iE hi
   refine ⟨_,rfl,_,rfl,_,_,rfl,rfl,?_⟩
   dsimp only
   rw[ny]
   refine z7 (hS _) (z7 (hS _) ⟨rfl,some (.int (l.getD i 0:Nat)),?_⟩ rfl) rfl
   rw[tS _ _ _ hil,←getD_at hil]
   rfl
  ·rintro σ H' ⟨rfl,v2,rfl⟩
   refine ⟨_,rfl,_,_,rfl,rfl,?_⟩
   dsimp only
   rw[cK,List.take_length,show (4294967295:Int)=((4294967295:Nat):Int) from rfl,ny]
   exact k
def BW (K:PySem.W.Frag):Sp:=fun vs H Q _=> ∃(q:Addr) (xs:List V),vs= [.ref q]∧ai K H q xs∧xs.length≤1000000∧ ∀D H',H D=none→ae H H'→H' D=some (.lst (.int (xs.length:Nat)::xs))→Q (.ref D) H'
theorem Lf:aI ["data"] ["data"] (aD ua):=⟨rfl,rfl,rfl,by decide+kernel,rfl,by decide+kernel,by decide+kernel⟩
theorem Lb (T:Txt K mg A):az P w K mg base bx 1 A.k8 A.mi ["data"] (BW K):=by
 refine T.xu.ok Lf (fun vs H Q E h=>?_) (fun cdv Ar outer s H vs Q E hr h=>?_)
 ·obtain ⟨q,l,rfl,_⟩:=h
  rfl
 ·obtain ⟨q,l,rfl,hq,hl,k⟩:=h
  refine ⟨_,ah (aR (ax uw (cJ (aa (dj eM (by rfl) T.eW PySem.boot_len (aa (pv 0) af)) af)) (pv 0))),?_⟩
  refine ⟨_,rfl,q,_,rfl, .inl hq,by rw[sizeLine_eq];show 1≤_;omega,fun p hp=>?_⟩
  refine ⟨_,rfl,p,q,_,_,rfl,rfl,ai.of ao,(aQ hp).seq hq,(by rw[sizeLine_eq];show 1+_≤_;omega),fun p2 hp2=>?_⟩
  have n2:H p2=none:=(aQ hp).none hp2
  exact k p2 _ n2 (fH (aQ hp) n2) ao
def fz (l:List Int):Sound.Bytes:=SoNeutral.bytes l
theorem DI {l:List Int} (h: ∀x∈l,0≤x∧x≤255):l.map V.int=vN (bn (fz l)):=by
 unfold vN bn fz SoNeutral.bytes
 rw[List.map_map,List.map_map]
 refine List.map_congr_left fun x hx=>?_
 obtain ⟨h1,h2⟩:=h x hx
 show V.int x=V.int (((UInt8.ofNat x.toNat).toNat:Nat):Int)
 rw[UInt8.toNat_ofNat',Nat.mod_eq_of_lt (by omega)]
 congr 1;omega
theorem uQ (l:List Int):(fz l).length=l.length:=by unfold fz SoNeutral.bytes;rw[List.length_map]
theorem JX {l:List Int} (hl:l.length≤16384):Sound.tooLong (fz l)=false:=by
 unfold Sound.tooLong Sound.FILE
 rw[uQ];exact decide_eq_false (by omega)
def nX (w n:Int):Bool:=decide (-(2^(w-1).toNat)≤n)&&decide (n<2^(w-1).toNat)
def GQ:Sp:=fun vs H Q _=> ∃w n:Int,vs= [.int w, .int n]∧(1≤w∧w≤25)∧Q (.bl (nX w n)) H
theorem Au:aI ["width", "number", "half"] ["width", "number"] (aD xN):=⟨rfl,rfl,rfl,by decide+kernel,rfl,by decide+kernel,by decide+kernel⟩
theorem zJ (T:Txt K mg A):az P w K mg base bx 1 A.jY A.lh ["width", "number"] GQ:=by
 refine T.qU.ok Au (fun vs H Q E h=>?_) (fun cdv Ar outer s H vs Q E hr h=>?_)
 ·obtain ⟨w,n,rfl,_⟩:=h
  rfl
 ·obtain ⟨w,n,rfl,⟨h1,h2⟩,k⟩:=h
  refine ⟨_,ag (aF (i:=2) Au.nd rfl (Or.inl rfl) (ax ib ak (ax cY (pv 0) ak)))
   (ah (aR (tM fy rF (fJ fU (pv 2)) (pv 1) (pv 2)))),?_⟩
  walk_at "rd"
  refine ⟨⟨by omega,by omega,by decide⟩,?_⟩
  unfold nX at k
  rw[Int.one_mul]
  by_cases q: -(2^(w-1).toNat)≤n
  ·rw[decide_eq_true q,Bool.true_and] at k
   rw[decide_eq_true q]
   exact bf k
  ·rw[decide_eq_false q,Bool.false_and] at k
   rw[decide_eq_false q]
   exact bw k
theorem xx {W:Nat} (h:1≤W) (n:Int):nX (W:Int) n=Sound.fits W n:=by
 unfold nX Sound.fits
 have:((W:Int)-1).toNat=W-1:=by omega
 rw[this]
def GW:Sp:=fun vs H Q _=> ∃n p r:Nat,vs= [.int n, .int p, .int r]∧(n≤1024∧r≤7)∧Q (.bl (jU n p r)) H
theorem uN:aI ["n", "order", "r", "size"] ["n", "order", "r"] (aD zM):=⟨rfl,rfl,rfl,by decide+kernel,rfl,by decide+kernel,by decide+kernel⟩
theorem BV (T:Txt K mg A):az P w K mg base bx 1 A.ml A.mJ ["n", "order", "r"] GW:=by
 refine T.xE.ok uN (fun vs H Q E h=>?_) (fun cdv Ar outer s H vs Q E hr h=>?_)
 ·obtain ⟨n,p,r,rfl,_⟩:=h
  rfl
 ·obtain ⟨n,p,r,rfl,⟨hn,hr7⟩,k⟩:=h
  refine ⟨_,ag (aF (i:=3) uN.nd rfl (Or.inl rfl) (ax eO (pv 0) (pv 2)))
   (ah (aR (tw (iM fy (pv 2) (a8 rfl T.Kx) (aP _)) (tw (iM cI (ax ib (pv 3) (pv 2)) (pv 0) (aP _)) (Ao (iM vR (pv 3) (pv 1) (aP _))))))),?_⟩
  walk_at "rd"
  simp only [wX,Aj,V.bl.injEq,exists_eq_left',rS,true_and]
  walk_at "rd"
  have e1:((n:Int)/2^(r:Int).toNat)=((n/2^r:Nat):Int):=by
   rw[Int.toNat_natCast];simp
  rw[e1]
  have hdn:n/2^r≤n:=Nat.div_le_self _ _
  refine ⟨by omega,?_⟩
  unfold jU at k
  by_cases q1:r≤6
  ·rw[decide_eq_true q1,Bool.true_and] at k
   rw[decide_eq_true (show (r:Int)≤6 by omega)]
   refine bf ⟨⟨by omega,by omega,by rw[Int.natAbs_natCast];exact Nat.lt_of_le_of_lt (Nat.le_trans hdn hn) (by decide)⟩,?_⟩
   have e2:((n/2^r:Nat):Int)*2^(r:Int).toNat=((n/2^r*2^r:Nat):Int):=by
    rw[Int.toNat_natCast];simp
   rw[e2]
   by_cases q2:n/2^r*2^r=n
   ·rw[decide_eq_true q2,Bool.true_and] at k
    rw[q2]
    refine ⟨rfl,_,rfl,?_⟩
    rw[decide_eq_true (show V.int (n:Int)=V.int (n:Int) from rfl)]
    refine bf ?_
    have:decide ((p:Int)≤((n/2^r:Nat):Int))=decide (p≤n/2^r):=by
     rw[Bool.eq_iff_iff,decide_eq_true_eq,decide_eq_true_eq];omega
    rw[this];exact k
   ·rw[decide_eq_false q2,Bool.false_and] at k
    refine ⟨rfl,_,rfl,?_⟩
    rw[decide_eq_false (show¬V.int ((n/2^r*2^r:Nat):Int)=V.int (n:Int) from fun e=>q2 (by have:=V.int.inj e;omega))]
    exact bw k
  ·rw[decide_eq_false q1,Bool.false_and] at k
   rw[decide_eq_false (show¬(r:Int)≤6 by omega)]
   exact bw k
def Fd:Sp:=fun vs H Q _=> ∃k:Nat,vs= [.int k]∧(2≤k∧k≤10)∧Q (.int ((if k≤6 then k-2 else k-6:Nat):Int)) H
theorem A4:aI ["kind"] ["kind"] (aD xa):=⟨rfl,rfl,rfl,by decide+kernel,rfl,by decide+kernel,by decide+kernel⟩
theorem Ic (T:Txt K mg A):az P w K mg base bx 1 A.lC A.kC ["kind"] Fd:=by
 refine T.yc.ok A4 (fun vs H Q E h=>?_) (fun cdv Ar outer s H vs Q E hr h=>?_)
 ·obtain ⟨e,rfl,_⟩:=h
  rfl
 ·obtain ⟨e,rfl,⟨h1,h2⟩,k⟩:=h
  refine ⟨_,ah (aR (iB (aY rF (pv 0) (a8 rfl T.rP) (aP _)) (ax cY (pv 0) (a8 rfl T.KZ)) (ax bS (ax cY (pv 0) (a8 rfl T.rP)) ak))),?_⟩
  walk_at "rd"
  by_cases q:e≤6
  ·rw[decide_eq_true (show (e:Int)<7 by omega)]
   rw[if_pos q] at k
   have e1:((e:Int)-2)=((e-2:Nat):Int):=by omega
   refine bf ?_
   rw[e1];exact k
  ·rw[decide_eq_false (show¬(e:Int)<7 by omega)]
   rw[if_neg q] at k
   have e1:((e:Int)-7+1)=((e-6:Nat):Int):=by omega
   refine bw ?_
   rw[e1];exact k
def gf (f h:V):List (Str×V):= [("factors",f),("shift",h)]
theorem Lz (f h:V):br "shift" h (br "factors" f [])=gf f h:=by
 show br "shift" h [(("factors" :Str),f)]=_
 unfold br
 rw[if_neg (by decide)]
 rfl
theorem JD (f h:V):(gf f h).lookup ("factors" :Str)=some f:=rfl
theorem EC (f h:V):(gf f h).lookup ("shift" :Str)=some h:=rfl
def fx (K:PySem.W.Frag) (C:Addr) (H:Hp) (x:Addr) (a:List Int) (h:Nat):Prop:= ∃dx p,H x=some (.ins C dx (gf (.ref p) (.int h)))∧ai K H p (a.map V.int)
theorem fx.same {K:PySem.W.Frag} {C:Addr} {H H':Hp} {x:Addr} {a:List Int} {h:Nat} (s:ae H H') (g:fx K C H x a h):fx K C H' x a h:=by
 obtain ⟨dx,p,h1,h2⟩:=g
 exact ⟨dx,p,s _ _ h1,s.seq h2⟩
def GX (C:Addr):Sp:=fun vs H Q _=> ∃(p dx:Addr) (f h:V),vs= [.ref p,f,h]∧H p=some (.ins C dx [])∧Q .aq (upd H p (.ins C dx (gf f h)))
theorem Ga:aI ["self", "factors", "shift"] ["self", "factors", "shift"] (aD AD):=⟨rfl,rfl,rfl,by decide+kernel,rfl,by decide+kernel,by decide+kernel⟩
theorem y9 (T:Txt K mg A):az P w K mg base bx 1 A.nH A.nJ ["self", "factors", "shift"] (GX A.bU):=by
 refine T.E8.ok Ga (fun vs H Q E h=>?_) (fun cdv Ar outer s H vs Q E hr h=>?_)
 ·obtain ⟨p,dx,f,h,rfl,_⟩:=h
  rfl
 ·obtain ⟨p,dx,f,h,rfl,hp,k⟩:=h
  refine ⟨_,ag (aX (pv 0) (pv 1) rfl) (ah (aX (pv 0) (pv 2) rfl)),?_⟩
  refine ⟨_,rfl,_,rfl,p,A.bU,dx, [],rfl,hp,T.nO,T.wK,(by show 0<1000;decide),?_⟩
  refine ⟨_,rfl,_,rfl,p,A.bU,dx,_,rfl,ao,T.nO,T.yk,(by show 1<1000;decide),?_⟩
  rw[Lz,bV]
  exact k
theorem fF {H:Hp} {x dx C:Addr} {fs:List (Str×V)}:upd (upd (upd H dx (.own x)) x (.ins C dx [])) x (.ins C dx fs)=upd (upd H dx (.own x)) x (.ins C dx fs):=bV
theorem dq {H:Hp} {x dx:Addr} {o u:HO} (hx:H x=none) (hd:H dx=none):ae H (upd (upd H dx o) x u):=fun b v e=>by
 rw[aB (b6 e hx),aB (b6 e hd)];exact e
theorem AI: ∀(a y:List Int) (i t:Nat),i<a.length→eY (a.take (i+1)) y t=eY (a.take i) y t+a.getD i 0*y.getD (t-1-i) 0
 | [],y,i,t,h=>by simp at h
 |f::fs,y,0,t,h=>by simp [eY]
 |f::fs,y,i+1,t,h=>by
  rw[List.take_succ_cons,List.take_succ_cons]
  simp only [eY]
  rw[AI fs y i (t-1) (by simpa using h)]
  have e:t-1-1-i=t-1-(i+1):=by omega
  rw[e,List.getD_cons_succ]
  omega
def DB (K:PySem.W.Frag) (C:Addr):Sp:=fun vs H Q _=> ∃(x q:Addr) (a y:List Int) (h t:Nat),vs= [.ref x, .ref q, .int t]∧fx K C H x a h∧ai K H q (y.map V.int)∧(a.length≤t∧t≤y.length)∧Bd 2048 a∧Q (.int (pT a h y t)) H
theorem i5:aI ["self", "numbers", "place", "total", "before", "factor"] ["self", "numbers", "place"] (aD wA):=⟨rfl,rfl,rfl,by decide+kernel,rfl,by decide+kernel,by decide+kernel⟩
theorem Gv (T:Txt K mg A):az P w K mg base bx 1 A.mv A.nG ["self", "numbers", "place"] (DB K A.bU):=by
 refine T.Kr.ok i5 (fun vs H Q E h=>?_) (fun cdv Ar outer s H vs Q E hr h=>?_)
 ·obtain ⟨x,q,a,y,h,t,rfl,_⟩:=h
  rfl
 ·obtain ⟨x,q,a,y,h,t,rfl,⟨dx,p,hx,hp⟩,hq,⟨h1,h2⟩,hb,k⟩:=h
  refine ⟨_,ag (aF (i:=3) i5.nd rfl (Or.inl rfl) ak) (ag (aF (i:=4) i5.nd rfl (Or.inl rfl) (pv 2))
   (ag (cq PassesOwn.never rfl (dI (ay (pv 0) rfl)) (bH (i:=5) i5.nd rfl (Or.inl rfl))
    (ag (gL (i:=4) i5.nd rfl (Or.inl rfl) ak Bf) (ah (gL (i:=3) i5.nd rfl (Or.inl rfl) (ax gE (pv 5) (bZ cU (pv 1) (pv 4) (fun _ _=>rfl))) x6))))
   (ah (aR (ax eO (pv 3) (ay (pv 0) rfl)))))),?_⟩
  refine ⟨_,rfl,_,rfl,x,A.bU,dx,_,_,rfl,hx,T.nO,T.wK,JD _ _,p,rfl,⟨_,hp⟩,?_⟩
  refine iQ (K:=K) (a:=p) (xs:=a.map V.int) (fun i σ H'=>H'=H∧ ∃v:Option V,σ= [some (.ref x),some (.ref q),some (.int t),some (.int (eY (a.take i) y t)),some (.int ((t:Int)-i)),v])
   ⟨rfl,none,by simp [L2.start,eY]⟩ (fun i σ H' _ ⟨e,_⟩=>by rw[e];exact hp) ?_ ?_
  ·rintro i y' σ H' hi ⟨rfl,v,rfl⟩
   obtain ⟨rfl,hl⟩:=pY hi
   have hm:=hb _ (show a.getD i 0∈a by rw[List.getD_eq_getElem?_getD,List.getElem?_eq_getElem hl];exact List.getElem_mem hl)
   have e1:(t:Int)-i-1=((t-1-i:Nat):Int):=by omega
   refine ⟨_,rfl,_,_,rfl,rfl,_,rfl,_,rfl,_,rfl,_,rfl,q,_,_,_,rfl,rfl,hq,at_of e1 (iY (by omega)),_,_,rfl,rfl, .inl ⟨by omega,by omega⟩,_,_,rfl,rfl,rfl,some (.int (a.getD i 0)),?_⟩
   rw[AI a y i t hl]
   have e2:(t:Int)-i-1=(t:Int)-((i+1:Nat):Int):=by omega
   rw[←e2]
   rfl
  ·rintro σ H' ⟨rfl,v,rfl⟩
   refine ⟨_,rfl,_,rfl,x,A.bU,dx,_,_,rfl,hx,T.nO,T.yk,EC _ _,_,_,rfl,rfl,(by omega),?_⟩
   rw[List.length_map,List.take_length]
   exact k
def Kf (K:PySem.W.Frag) (C:Addr):Sp:=fun vs H Q _=> ∃p:Nat,vs= [.int p]∧p≤4∧ ∀x H',H x=none→ae H H'→fx K C (newOf H H') x (Sound.FIXED.getD p []) 0→Q (.ref x) H'
theorem G6:aI ["order"] ["order"] (aD wu):=⟨rfl,rfl,rfl,by decide+kernel,rfl,by decide+kernel,by decide+kernel⟩
theorem DK (T:Txt K mg A) {p:Nat} (h:p≤4) (H:Hp): ∃b,eH [V.ref A.l7,V.ref A.lO,V.ref A.ki,V.ref A.j7,V.ref A.mL] (p:Int)=some (V.ref b)∧aS K H b ((Sound.FIXED.getD p []).map V.int):=by
 rcases (by omega:p=0∨p=1∨p=2∨p=3∨p=4) with rfl|rfl|rfl|rfl|rfl
 ·exact ⟨_,bQ rfl,T.FR H⟩
 ·exact ⟨_,bQ rfl,T.B4 H⟩
 ·exact ⟨_,bQ rfl,T.Dz H⟩
 ·exact ⟨_,bQ rfl,T.G3 H⟩
 ·exact ⟨_,bQ rfl,T.AY H⟩
theorem GR (T:Txt K mg A):az P w K mg base bx 3 A.nQ A.kf ["order"] (Kf K A.bU):=by
 refine T.x8.ok G6 (fun vs H Q E h=>?_) (fun cdv Ar outer s H vs Q E hr h=>?_)
 ·obtain ⟨p,rfl,_⟩:=h
  rfl
 ·obtain ⟨p,rfl,hp,k⟩:=h
  refine ⟨_,ah (aR (eS T.xm (y9 T) hr rfl T.uB T.wC .nil bo
   (aa (wG Ac rfl T.yl (by decide+kernel:bootBuiltins "list" =some (.type "list")) (aa (bZ pG (fA rfl T.Ef) (pv 0) (fun _ _=>rfl)) af)) (aa ak af)))),?_⟩
  obtain ⟨b,hb,hT⟩:=DK T hp H
  refine ⟨_,rfl,A.kz,_,_,_,rfl,rfl,T.JR H,hb,b,_,rfl, .inr hT,fun l hl=>?_⟩
  intro x dx hx hdx hne
  refine ⟨x,dx,_,_,rfl,ao,rfl,?_⟩
  rw[fF]
  have hx0:H x=none:=by
   cases e:H x with
   |none=>rfl
   |some o=>rw[aQ hl _ _ e] at hx;cases hx
  refine k x _ hx0 ((aQ hl).trans (dq hx hdx)) ⟨dx,l,(fD hx0).trans ao,ai.of ((fD hl).trans ?_)⟩
  exact dq hx hdx _ _ ao
def Fh (K:PySem.W.Frag):Sp:=fun vs H Q _=> ∃(q:Addr) (l:List Nat),vs= [.ref q]∧ai K H q (vN l)∧(∀x∈l,x<256)∧Q (.int (pP l:Nat)) H
theorem iD:aI ["data", "check", "byte", "step"] ["data"] (aD AN):=⟨rfl,rfl,rfl,by decide+kernel,rfl,by decide+kernel,by decide+kernel⟩
def gC:Nat→Nat→Nat
 |0,c=>c
 |j+1,c=>fG (gC j c)
theorem DD {p:Nat} (h:p<65536):fG p<65536:=by
 unfold fG
 split
 ·rename_i hc
  rw[show (69665:Nat)=65536^^^4129 by decide,←Nat.xor_assoc,yq (by omega) (by omega)]
  exact pW (Nat.mod_lt _ (by decide)) (by decide)
 ·omega
theorem xr {c:Nat} (h:c<65536): ∀j,gC j c<65536
 |0=>h
 |j+1=>DD (xr h j)
theorem Gr (c b:Nat):gC 8 (c^^^(b*256))=du c b:=by
 unfold du
 rw[show List.range 8= [0,1,2,3,4,5,6,7] from rfl]
 simp only [List.foldl_cons,List.foldl_nil,gC]
theorem Dg (T:Txt K mg A):az P w K mg base bx 1 A.mP A.jG ["data"] (Fh K):=by
 refine T.wa.ok iD (fun vs H Q E h=>?_) (fun cdv Ar outer s H vs Q E hr h=>?_)
 ·obtain ⟨q,l,rfl,_⟩:=h
  rfl
 ·obtain ⟨q,l,rfl,hq,hb,k⟩:=h
  refine ⟨_,ag (aF (i:=1) iD.nd rfl (Or.inl rfl) ak)
   (ag (cq PassesOwn.never rfl (dI (pv 0)) (bH (i:=2) iD.nd rfl (Or.inl rfl))
    (ag (gL (i:=1) iD.nd rfl (Or.inl rfl) (ax ib (pv 2) ak) sW)
    (ah (cq PassesOwn.never rfl (d7 rfl T.dN (aa ak af)) (bH (i:=3) iD.nd rfl (Or.inl rfl))
     (ag (gL (i:=1) iD.nd rfl (Or.inl rfl) ak JC)
     (ah (a9 (aY cO (pv 1) ak (aP _)) (ah (gL (i:=1) iD.nd rfl (Or.inl rfl) ak sW)) bh)))))))
   (ah (aR (pv 1)))),?_⟩
  refine ⟨_,rfl,q,rfl,⟨_,hq⟩,?_⟩
  refine iQ (K:=K) (a:=q) (xs:=vN l) (fun i σ H'=>H'=H∧(l.take i).foldl du 65535<65536∧ ∃v2 v3:Option V,σ= [some (.ref q),some (.int ((l.take i).foldl du 65535:Nat)),v2,v3]) ⟨rfl,(by rw[List.take_zero,List.foldl_nil];decide),none,none,(by rw[List.take_zero,List.foldl_nil];rfl)⟩ (fun i σ H' _ ⟨e,_⟩=>by rw[e];exact hq) ?_ ?_
  ·rintro i x σ H' hi ⟨rfl,hlt,v2,v3,rfl⟩
   obtain ⟨rfl,hil⟩:=iE hi
   generalize hc:(l.take i).foldl du 65535=c at*
   have hbl:l.getD i 0<256:=hb _ (by rw[List.getD_eq_getElem?_getD,List.getElem?_eq_getElem hil];exact List.getElem_mem hil)
   have enext:(l.take (i+1)).foldl du 65535=du c (l.getD i 0):=by
    rw[List.take_succ,List.getElem?_eq_getElem hil,List.foldl_append,hc,List.getD_eq_getElem?_getD,List.getElem?_eq_getElem hil]
    simp only [Option.toList_some,List.foldl_cons,List.foldl_nil,Option.getD_some]
   have hnlt:du c (l.getD i 0)<65536:=(vw hlt hbl).2
   refine ⟨_,rfl,_,rfl,_,_,rfl,rfl,⟨by decide,by decide,by rw[Int.natAbs_natCast];omega⟩,_,_,rfl,rfl,?_⟩
   have ex:Builtin.bitXor ((c:Nat):Int) (((l.getD i 0:Nat):Int)*2^(8:Int).toNat)=((c^^^(l.getD i 0*256):Nat):Int):=by
    rw[←ny]
    congr 1
   dsimp only
   rw[ex]
   have hstart:c^^^(l.getD i 0*256)<65536:=pW hlt (by omega)
   refine ⟨_,rfl,by decide,by decide,?_⟩
   refine eR (lo:=0) (n:=8) (fun j σ Hj=>Hj=H'∧ ∃v3:Option V,σ= [some (.ref q),some (.int (gC j (c^^^(l.getD i 0*256)):Nat)),some (.int (l.getD i 0:Nat)),v3]) ⟨rfl,v3,rfl⟩ ?_ ?_
   ·rintro j σ H' hj ⟨rfl,v3,rfl⟩
    have hjl:=xr hstart j
    generalize hp:gC j (c^^^(l.getD i 0*256))=p at*
    have hnx:gC (j+1) (c^^^(l.getD i 0*256))=fG p:=by rw[gC,hp]
    rw[Int.zero_add]
    refine ⟨_,rfl,_,_,rfl,rfl,⟨by decide,by decide,by rw[Int.natAbs_natCast];omega⟩,?_⟩
    have e2:((p:Nat):Int)*2^(1:Int).toNat=((2*p:Nat):Int):=by
     rw[show (2:Int)^(1:Int).toNat=2 by decide];omega
    dsimp only
    rw[e2]
    refine ⟨_,rfl,_,_,rfl,rfl,_,rfl,?_⟩
    refine bL (fun hc2=>?_) fun hc2=>?_
    ·have hc2:(65535:Int)<((2*p:Nat):Int):=of_decide_eq_true hc2
     refine ⟨_,rfl,_,_,rfl,rfl,rfl,some (.int (j:Nat)),?_⟩
     rw[hnx]
     unfold fG
     rw[if_pos (by omega)]
     have:=ny (2*p) 69665
     show [some (V.ref q),some (V.int (Builtin.bitXor ((2*p:Nat):Int) 69665)),some (V.int (l.getD i 0:Nat)),some (V.int (j:Nat))]=_
     rw[show (69665:Int)=((69665:Nat):Int) from rfl,this]
    ·have hc2: ¬(65535:Int)<((2*p:Nat):Int):=fun z=>hc2 (decide_eq_true z)
     refine ⟨rfl,some (.int (j:Nat)),?_⟩
     rw[hnx]
     unfold fG
     rw[if_neg (by omega)]
     rfl
   ·rintro σ H' ⟨rfl,v3,rfl⟩
    refine ⟨rfl,?_,some (.int (l.getD i 0:Nat)),v3,?_⟩
    ·rw[enext];exact hnlt
    ·rw[enext,Gr]
  ·rintro σ H' ⟨rfl,_,v2,v3,rfl⟩
   rw[cK,List.take_length]
   exact ⟨_,rfl,k⟩
def pA:List Nat:= [1,4,16,0,1,0]
def r6:List Nat:= [4,24,256,4,8,4]
def nv (i z:Nat):Bool:=decide (((pA.getD i 0:Nat):Int)≤(z:Nat))&&decide ((z:Int)≤(r6.getD i 0:Nat))
theorem yb (T:Txt K mg A) {i:Nat} (hi:i<6): ∃b,([V.ref A.kW,V.ref A.lA,V.ref A.kg,V.ref A.ky,V.ref A.lE,V.ref A.mR]:List V)[i]?=some (.ref b)∧ ∀H,aS K H b [V.int ((pA.getD i 0:Nat):Int),V.int ((r6.getD i 0:Nat):Int)]:=by
 rcases (by omega:i=0∨i=1∨i=2∨i=3∨i=4∨i=5) with rfl|rfl|rfl|rfl|rfl|rfl
 ·exact ⟨_,rfl,T.Kd⟩
 ·exact ⟨_,rfl,T.Jq⟩
 ·exact ⟨_,rfl,T.E7⟩
 ·exact ⟨_,rfl,T.CD⟩
 ·exact ⟨_,rfl,T.EV⟩
 ·exact ⟨_,rfl,T.By⟩
theorem EH {fm:List Nat} (h: ¬fm.length=6):(Sound.formOf fm).isSome=false:=by
 unfold Sound.formOf
 split
 ·exact absurd rfl h
 ·rfl
theorem BH {fm:List Nat} (h:fm.length=6):((List.range 6).map fun i=>nv i (fm.getD i 0)).all id=(Sound.formOf fm).isSome:=by
 match fm,h with
 | [c,d,b,o,g,p],_=>
  rw[show List.range 6= [0,1,2,3,4,5] from rfl]
  have e:(Sound.formOf [c,d,b,o,g,p]).isSome=(Sound.Form.mk c d b o g p).ok:=by
   unfold Sound.formOf
   simp only
   cases (Sound.Form.mk c d b o g p).ok<;>rfl
  rw[e,Bool.eq_iff_iff]
  unfold Sound.Form.ok
  simp only [List.map_cons,List.map_nil,List.all_cons,List.all_nil,nv,pA,r6,List.getD_cons_zero,List.getD_cons_succ,id,Bool.and_eq_true,decide_eq_true_eq,and_true]
  omega
def Kp (K:PySem.W.Frag):Sp:=fun vs H Q _=> ∃(q:Addr) (fm:List Nat),vs= [.ref q]∧ai K H q (vN fm)∧ ∀H',ae H H'→Q (.bl (Sound.formOf fm).isSome) H'
theorem p7:aI ["form", "number", "bounds"] ["form"] (aD zo):=⟨rfl,rfl,rfl,by decide+kernel,rfl,by decide+kernel,by decide+kernel⟩
theorem Cq (T:Txt K mg A):az P w K mg base bx 1 A.lM A.jI ["form"] (Kp K):=by
 refine T.uJ.ok p7 (fun vs H Q E h=>?_) (fun cdv Ar outer s H vs Q E hr h=>?_)
 ·obtain ⟨q,fm,rfl,_⟩:=h
  rfl
 ·obtain ⟨q,fm,rfl,hq,k⟩:=h
  refine ⟨_,ag (a9 (aY fQ (dj eM (by rfl) T.eW PySem.boot_len (aa (pv 0) af)) (dj eM (by rfl) T.eW PySem.boot_len (aa (fA rfl T.vh) af)) (aP _)) (ah (aR Bm)) bh)
   (ah (aR (dj (u4 rfl) rfl T.xl (by decide+kernel:bootBuiltins "all" =some (.builtin "all")) (aa (iz (own:= [("number",1),("bounds",2)]) rfl p7.nd (LB rfl T.yn (aa (pv 0) (aa (fA rfl T.vh) af))) (fc (by kernel_rfl))
    (fun _ _ _ _ _=>yT (K:=K) (n:=2) rfl rfl (pC (bH (i:=1) p7.nd rfl (Or.inl rfl)) (pC (bH (i:=2) p7.nd rfl (Or.inl rfl)) xO))) (fun _ _ _ _ _=>e9)
    (fun _ _ _ _ _=>tM fy fy (bZ (p6 (K:=K) rfl) (pv 2) ak (fun _ _=>rfl)) (pv 1) (bZ (p6 (K:=K) rfl) (pv 2) ak (fun _ _=>rfl)))) af)))),?_⟩
  refine ⟨_,rfl,q,_,rfl, .inl hq,A.iL,_,rfl, .inr (T.jZ _),rfl,_,rfl,?_⟩
  refine bL (fun hne=>?_) fun hne=>?_
  ·have h6: ¬fm.length=6:=fun e=>by
    have hl:(vN fm).length=6:=by rw[cK,e]
    rw[hl] at hne
    exact absurd hne (show¬((!decide (V.int ((6:Nat):Int)=V.int ((6:Nat):Int)))=true) by decide)
   have:=k H (ae.refl _)
   rw[EH h6] at this
   exact this
  ·have h6:fm.length=6:=by
    by_cases e:fm.length=6
    ·exact e
    ·exfalso
     apply hne
     rw[Bool.not_eq_true',decide_eq_false_iff_not]
     intro z
     have z:=V.int.inj z
     rw[cK] at z
     have z:((fm.length:Nat):Int)=((6:Nat):Int):=z
     omega
   refine ⟨_,rfl,q,A.iL,_,_,rfl,hq,T.jZ _,fun D hD=>?_⟩
   refine gX (J:=sR K q A.iL) hD 6 (by rw[sizeLine_eq];omega) (fun i=> .bl (nv i (fm.getD i 0)))
    (fun i Hh hi s1=>by
     obtain ⟨b,hb1,_⟩:=yb T hi
     exact ⟨_,_,_,_,s1.seq hq,T.jZ _,iR (by omega),hb1⟩) (fun Hh s1=>⟨_,_,s1.seq hq,T.jZ _, .inl (by rw[cK];omega)⟩) ?_ ?_
   ·rintro i Hh z H' hi s1 ⟨t,x1,y1,rfl,ht,rfl,hx,hy⟩ C hC
    obtain ⟨rfl,_⟩:=iE (hx _ (s1.seq hq))
    obtain ⟨b,hb1,hb2⟩:=yb T hi
    have e:=hy _ (T.jZ _)
    rw[hb1] at e
    cases e
    have st:ae Hh (upd Hh t (.tup [V.int ((fm.getD i 0:Nat):Int),V.ref b])):=aQ ht
    refine ⟨t,_,rfl,aS.of ao,rfl,_,_,rfl,_,_,rfl,rfl,rfl,?_⟩
    refine ⟨_,rfl,b,_,_,_,rfl,rfl,hb2 _,bQ (j:=0) rfl,_,rfl,_,_,rfl,rfl,_,rfl,?_⟩
    have hC:=hC _ st
    unfold nv at hC
    by_cases c1:((pA.getD i 0:Nat):Int)≤((fm.getD i 0:Nat):Int)
    ·rw[decide_eq_true c1,Bool.true_and] at hC
     rw[decide_eq_true c1]
     exact bf ⟨_,rfl,b,_,_,_,rfl,rfl,hb2 _,bQ (j:=1) rfl,_,_,rfl,rfl,hC⟩
    ·rw[decide_eq_false c1,Bool.false_and] at hC
     rw[decide_eq_false c1]
     exact bw hC
   ·intro Hh s1 hx
    refine ⟨D,(List.range 6).map fun i=>nv i (fm.getD i 0),rfl,ai.of (hx.trans ?_),?_⟩
    ·rw[List.map_map];rfl
    ·rw[BH h6]
     exact k _ s1
def aw (S:List Addr) (H:Hp):Hp:=fun b=>if b∈S then none else H b
theorem bG (S:List Addr) (H:Hp):ae (aw S H) H:=fun b o h=>by
 unfold aw at h
 split at h
 ·cases h
 ·exact h
theorem _root_.L2.ae.aw {S:List Addr} {H0 H:Hp} (s:ae H0 H) (h: ∀b∈S,H0 b=none):ae H0 (aw S H):=fun b o e=>by
 unfold Wg.aw
 rw[if_neg (fun z=>by rw[h b z] at e;cases e)]
 exact s b o e
theorem fB {S:List Addr} {H:Hp} {b:Addr} (h:b∈S):aw S H b=none:=by unfold aw;rw[if_pos h]
theorem b9 {S:List Addr} {H:Hp} {b:Addr} (h:b∉S):aw S H b=H b:=by unfold aw;rw[if_neg h]
structure bt where
 r:Addr
 dr:Addr
 q:Addr
 B:Sound.Bytes
def dX (d p:V):List (Str×V):= [("data",d),("place",p)]
theorem ED (d p:V):br "place" p (br "data" d [])=dX d p:=by
 show br "place" p [(("data" :Str),d)]=_
 unfold br
 rw[if_neg (by decide)]
 rfl
theorem Fx (d p p':V):br "place" p' (dX d p)=dX d p':=by
 have n1: ¬("data" :Str)= "place" :=by decide
 simp only [dX,br,if_neg n1];rfl
def bX (K:PySem.W.Frag) (H0:Hp) (R:bt):Prop:=ai K H0 R.q (vN (bn R.B))∧H0 R.r=none∧R.B.length≤4096
def aU (C:Addr) (H:Hp) (R:bt) (l:Sound.Bits):Prop:= ∃p,l=(Sound.bitsOf R.B).drop p∧p≤8*R.B.length∧H R.r=some (.ins C R.dr (dX (.ref R.q) (.int (p:Nat))))
theorem bX.same {H0 H1:Hp} {R:bt} (h:bX K H0 R) (s:ae H0 H1) (n:H1 R.r=none):bX K H1 R:=⟨s.seq h.1,n,h.2.2⟩
def bq (A:aK) (H0:Hp) (R:bt) {α:Type} (g:Sound.Got α) (Q:α→Hp→Prop) (E:XK):Prop:=match g with
 | .ok x l=> ∀H',ae H0 H'→aU A.aE H' R l→Q x H'
 | .bad=> ∀H',ae H0 H'→E (.ref A.dD) none H'
 | .short=> ∀H',ae H0 H'→E (.ref A.fE) none H'
theorem bq.seq {H0:Hp} {R:bt} {α β:Type} {g:Sound.Got α} {f:α→Sound.Bits→Sound.Got β} {Q:β→Hp→Prop} {Q':α→Hp→Prop} {E:XK} (h:bq A H0 R (g.then_ f) Q E)
  (k: ∀x l H',g= .ok x l→ae H0 H'→aU A.aE H' R l→bq A H0 R (f x l) Q E→Q' x H'):bq A H0 R g Q' E:=by
 cases g with
 |ok x l=>exact fun H' s st=>k x l H' rfl s st h
 |bad=>exact h
 |short=>exact h
theorem bq.b8 {H0 H1:Hp} {R:bt} {α β:Type} {g:Sound.Got α} {f:α→Sound.Bits→Sound.Got β} {Q:β→Hp→Prop} {Q':α→Hp→Prop} {E:XK} (h:bq A H0 R (g.then_ f) Q E) (s:ae H0 H1)
  (k: ∀x l H',g= .ok x l→ae H1 H'→aU A.aE H' R l→bq A H0 R (f x l) Q E→Q' x H'):bq A H1 R g Q' E:=by
 cases g with
 |ok x l=>exact fun H' s' st=>k x l H' rfl s' st h
 |bad=>exact fun H' s'=>h H' (s.trans s')
 |short=>exact fun H' s'=>h H' (s.trans s')
theorem bq.low {H0 H1:Hp} {R:bt} {α:Type} {g:Sound.Got α} {Q:α→Hp→Prop} {E:XK} (h:bq A H0 R g Q E) (s:ae H0 H1):bq A H1 R g Q E:=by
 cases g with
 |ok x l=>exact fun H' s' st=>h H' (s.trans s') st
 |bad=>exact fun H' s'=>h H' (s.trans s')
 |short=>exact fun H' s'=>h H' (s.trans s')
def BK (C:Addr):Sp:=fun vs H Q _=> ∃(p dx:Addr) (d:V),vs= [.ref p,d]∧H p=some (.ins C dx [])∧Q .aq (upd H p (.ins C dx (dX d (.int 0))))
theorem E4:aI ["self", "data"] ["self", "data"] (aD zF):=⟨rfl,rfl,rfl,by decide+kernel,rfl,by decide+kernel,by decide+kernel⟩
theorem Eh (T:Txt K mg A):az P w K mg base bx 1 A.nq A.jJ ["self", "data"] (BK A.aE):=by
 refine T.EO.ok E4 (fun vs H Q E h=>?_) (fun cdv Ar outer s H vs Q E hr h=>?_)
 ·obtain ⟨p,dx,d,rfl,_⟩:=h
  rfl
 ·obtain ⟨p,dx,d,rfl,hp,k⟩:=h
  refine ⟨_,ag (aX (pv 0) (pv 1) rfl) (ah (aX (pv 0) ak rfl)),?_⟩
  refine ⟨_,rfl,_,rfl,p,A.aE,dx, [],rfl,hp,T.bD,T.pI,(by show 0<1000;decide),?_⟩
  refine ⟨_,rfl,p,A.aE,dx,_,rfl,ao,T.bD,T.iF,(by show 1<1000;decide),?_⟩
  rw[ED,bV]
  exact k
def IT (K:PySem.W.Frag) (A:aK):Sp:=fun vs H Q E=> ∃(H0:Hp) (R:bt) (n:Nat) (l:Sound.Bits),vs= [.ref R.r, .int n]∧ae H0 H∧bX K H0 R∧aU A.aE H R l∧n≤64∧bq A H0 R (Sound.takeU n l) (fun x H'=>Q (.int (x:Nat)) H') E
theorem nu:aI ["self", "width", "behind", "number", "byte"] ["self", "width"] (aD zU):=⟨rfl,rfl,rfl,by decide+kernel,rfl,by decide+kernel,by decide+kernel⟩
theorem F2 (n:Nat):(-(n:Int))%8=((8*((n+7)/8)-n:Nat):Int):=by omega
theorem dc (T:Txt K mg A):az P w K mg base (aO P w) 1 A.jL A.lJ ["self", "width"] (IT K A):=by
 refine T.F6.bF nu (fun vs H Q E h=>?_) (fun cdv Ar outer s H vs Q E hr h=>?_)
 ·obtain ⟨H0,R,n,l,rfl,_⟩:=h
  rfl
 ·obtain ⟨H0,R,n,l,rfl,s0,⟨hq,hn0,hB⟩,⟨p,rfl,hp,hx⟩,hn,k⟩:=h
  refine ⟨_,ag (aF (i:=2) nu.nd rfl (Or.inl rfl) (ax bS (ay (pv 0) rfl) (pv 1)))
   (ag (a9 (aY cO (pv 2) (ax gE ak (dj eM (by rfl) T.eW PySem.boot_len (aa (ay (pv 0) rfl) af))) (aP _)) (ah (dn rfl rfl T.o4 T.o6.exc dA)) bh)
   (ag (aF (i:=3) nu.nd rfl (Or.inl rfl) ak)
   (ag (cq PassesOwn.leaving rfl (dI (eC ek (ay (pv 0) rfl) (cv (ax ic (ay (pv 0) rfl) ak)) (cv (ax ic (ax bS (pv 2) ak) ak)))) (bH (i:=4) nu.nd rfl (Or.inl rfl))
    (ah (aF (i:=3) nu.nd rfl (Or.inl rfl) (ax yC (ax ph (pv 3) ak) (pv 4)))))
   (ag (aX (pv 0) (pv 2) rfl)
   (ah (aR (ax oO (ax eO (pv 3) (ax ng (fJ fU (pv 2)) ak)) (ax cY (ax ph ak (pv 1)) ak)))))))),?_⟩
  have hqH:=s0.seq hq
  refine ⟨_,rfl,R.r,A.aE,R.dr,_,_,rfl,hx,T.bD,T.iF,rfl,_,rfl,_,_,rfl,rfl,?_⟩
  dsimp only
  rw[show ((p:Nat):Int)+((n:Nat):Int)=((p+n:Nat):Int) by omega]
  refine ⟨_,rfl,_,rfl,R.r,A.aE,R.dr,_,_,rfl,hx,T.bD,T.pI,rfl,R.q,_,rfl, .inl hqH,_,_,rfl,rfl, .inl ⟨by decide,by decide⟩,_,_,rfl,rfl,_,rfl,?_⟩
  rw[cK,dG]
  have hlen:((Sound.bitsOf R.B).drop p).length=8*R.B.length-p:=by rw[List.length_drop,iT]
  unfold Sound.takeU at k
  refine bL (fun hc=>?_) fun hc=>?_
  ·have hc:(8:Int)*((R.B.length:Nat):Int)<((p+n:Nat):Int):=of_decide_eq_true hc
   rw[if_pos ((iC _ _).mpr (by rw[hlen];omega))] at k
   exact k H s0
  ·have hc: ¬(8:Int)*((R.B.length:Nat):Int)<((p+n:Nat):Int):=fun z=>hc (decide_eq_true z)
   rw[if_neg (fun z=>by have:=(iC _ _).mp z;rw[hlen] at this;omega)] at k
   refine ⟨_,rfl,R.r,A.aE,R.dr,_,_,rfl,hx,T.bD,T.pI,rfl,_,rfl,R.r,A.aE,R.dr,_,_,rfl,hx,T.bD,T.iF,rfl,_,_,rfl,rfl,⟨by decide,by decide⟩,_,rfl,_,rfl,_,_,rfl,rfl,_,_,rfl,rfl,⟨by decide,by decide⟩,_,rfl,R.q,_,rfl,hqH,fun D hD=>?_⟩
   have e1:((p:Nat):Int)/8=((p/8:Nat):Int):=by omega
   have e2:(((p+n:Nat):Int)+7)/8=(((p+n+7)/8:Nat):Int):=by omega
   rw[e1,e2,iV,iK,gD]
   have hv:=Jv (B:=R.B) (p:=p) (n:=n) (by omega)
   generalize hbs:(R.B.drop (p/8)).take ((p+n+7)/8-p/8)=bs at*
   have hbl:bs.length≤1000:=by rw[←hbs,List.length_take];omega
   have hnD:H0 D=none:=s0.none hD
   have sD:ae H (upd H D (.lst (vN (bn bs)))):=aQ hD
   have hxD:upd H D (.lst (vN (bn bs))) R.r=some (.ins A.aE R.dr (dX (.ref R.q) (.int (p:Nat)))):=sD _ _ hx
   have s0D:ae H0 (upd H D (.lst (vN (bn bs)))):=s0.trans sD
   have hDx:upd H D (.lst (vN (bn bs))) D=some (.lst (vN (bn bs))):=ao
   generalize upd H D (.lst (vN (bn bs)))=H1 at*
   refine ⟨D,rfl,⟨_,ai.of hDx⟩,?_⟩
   refine iQ (K:=K) (a:=D) (xs:=vN (bn bs)) (fun i σ H'=>H'=H1∧ ∃v4:Option V,σ= [some (.ref R.r),some (.int (n:Nat)),some (.int ((p+n:Nat):Int)),some (.int (bA ((bn bs).take i):Nat)),v4]) ⟨rfl,none,rfl⟩ (fun i σ H' _ ⟨e,_⟩=>by rw[e];exact ai.of hDx) ?_ ?_
   ·rintro i x σ H' hi ⟨rfl,v4,rfl⟩
    obtain ⟨rfl,hil⟩:=iE hi
    have hlt:=oo (l:=(bn bs).take i) fun x hx=>fe bs x (List.mem_of_mem_take hx)
    have hbits:Builtin.Int.intBits ((bA ((bn bs).take i):Nat):Int)≤8*i:=by
     rw[vd,List.length_take] at hlt
     exact yj (Nat.lt_of_lt_of_le hlt (Nat.pow_le_pow_right (by decide) (by omega)))
    have e27:(2:Int)^27=134217728:=by decide
    rw[dG] at hil
    refine ⟨_,rfl,_,_,rfl,rfl,⟨by omega,by omega⟩,_,rfl,_,_,rfl,rfl,rfl,some (.int ((bn bs).getD i 0:Nat)),?_⟩
    have hil':i<(bn bs).length:=by rw[dG];exact hil
    have e:bA ((bn bs).take (i+1))=256*bA ((bn bs).take i)+(bn bs).getD i 0:=by
     unfold bA
     rw[tS _ _ _ hil',getD_at hil']
    have ex:Builtin.bitOr (((bA ((bn bs).take i):Nat):Int)*2^(8:Int).toNat) (((bn bs).getD i 0:Nat):Int)=((bA ((bn bs).take (i+1)):Nat):Int):=by
     have e8:((bA ((bn bs).take i):Nat):Int)*2^(8:Int).toNat=((256*bA ((bn bs).take i):Nat):Int):=by
      rw[show (2:Int)^(8:Int).toNat=256 by decide];omega
     rw[e8,qS,wc (rN (fe bs) hil'),e]
    show [_,_,_,some (V.int (Builtin.bitOr _ _)),_]=_
    rw[ex]
   ·rintro σ H' ⟨rfl,v4,rfl⟩
    rw[cK,List.take_length]
    refine ⟨_,rfl,_,rfl,R.r,A.aE,R.dr,_,rfl,hxD,T.bD,T.iF,(by show 2<1000;decide),?_⟩
    rw[Fx]
    have e27:(2:Int)^27=134217728:=by decide
    have ei:Builtin.Int.intBits 1=1:=by decide+kernel
    refine ⟨_,rfl,_,rfl,_,rfl,_,_,rfl,rfl,(by show (0:Int)<8;decide),?_⟩
    dsimp only
    rw[F2]
    refine ⟨_,_,rfl,rfl,(by omega),_,rfl,_,_,rfl,rfl,⟨by omega,by rw[ei];omega⟩,_,_,rfl,rfl,_,_,rfl,rfl,?_⟩
    have ef:Builtin.bitAnd (((bA (bn bs):Nat):Int)/2^((8*((p+n+7)/8)-(p+n):Nat):Int).toNat) (1*2^((n:Nat):Int).toNat-1)=((Sound.value (((Sound.bitsOf R.B).drop p).take n):Nat):Int):=by
     rw[Int.one_mul,Int.toNat_natCast,Int.toNat_natCast,mask,←hv]
     unfold bn
     simp
    dsimp only
    rw[ef]
    refine k _ (fH s0D hn0) ⟨p+n,?_,by omega,ao⟩
    rw[List.drop_drop]
def Cd (K:PySem.W.Frag) (A:aK):Sp:=fun vs H Q E=> ∃(H0:Hp) (R:bt) (n:Nat) (l:Sound.Bits),vs= [.ref R.r, .int n]∧ae H0 H∧bX K H0 R∧aU A.aE H R l∧n≤64∧bq A H0 R (Sound.takeS n l) (fun x H'=>Q (.int x) H') E
theorem sI:aI ["self", "width", "number", "sign"] ["self", "width"] (aD u5):=⟨rfl,rfl,rfl,by decide+kernel,rfl,by decide+kernel,by decide+kernel⟩
theorem aU.obj {H:Hp} {R:bt} {l:Sound.Bits} (h:aU A.aE H R l): ∃p:Nat,H R.r=some (.ins A.aE R.dr (dX (.ref R.q) (.int (p:Nat)))):=by
 obtain ⟨p,_,_,hx⟩:=h
 exact ⟨p,hx⟩
theorem nU (T:Txt K mg A):az P w K mg base (aO P w) 2 A.nz A.lK ["self", "width"] (Cd K A):=by
 refine T.Lv.bF sI (fun vs H Q E h=>?_) (fun cdv Ar outer s H vs Q E hr h=>?_)
 ·obtain ⟨H0,R,n,l,rfl,_⟩:=h
  rfl
 ·obtain ⟨H0,R,n,l,rfl,s0,hI,hS,hn,k⟩:=h
  refine ⟨_,ag (aF (i:=2) sI.nd rfl (Or.inl rfl) (aL (pv 0) T.bD T.dk (dc T) hr T.cW .nil aH (aa (pv 1) af)))
   (ag (aF (i:=3) sI.nd rfl (Or.inl rfl) (ax oO (pv 2) (ax eO (ax ph ak (pv 1)) ak)))
   (ah (aR (ax cY (pv 2) (ax gE ak (pv 3)))))),?_⟩
  obtain ⟨p,hx⟩:=hS.obj
  refine ⟨_,rfl,R.r,R.dr,_,rfl,hx,rfl,_,rfl,H0,R,n,l,rfl,s0,hI,hS,hn,?_⟩
  unfold Sound.takeS at k
  unfold Sound.takeU
  by_cases hc:Sound.lacks n l=true
  ·rw[if_pos hc] at k⊢
   exact k
  ·rw[if_neg hc] at k⊢
   intro H1 s1 st
   have e27:(2:Int)^27=134217728:=by decide
   have ei:Builtin.Int.intBits 1=1:=by decide+kernel
   refine ⟨_,rfl,_,rfl,_,_,rfl,rfl,⟨by omega,by rw[ei];omega⟩,_,_,rfl,rfl,(by show (0:Int)≤1;decide),_,_,rfl,rfl,?_⟩
   have hl:(l.take n).length=n:=by
    rw[List.length_take]
    have: ¬l.length<n:=fun z=>hc ((iC n l).mpr z)
    omega
   have e1:((1:Int)*2^((n:Nat):Int).toNat/2^(1:Int).toNat)=((2^n/2:Nat):Int):=by
    rw[Int.one_mul,Int.toNat_natCast,show (2:Int)^(1:Int).toNat=2 by decide];simp
   have e2:=A0 (l:=l.take n)
   rw[hl] at e2
   dsimp only
   rw[e1,pq,e2]
   refine ⟨_,rfl,_,rfl,_,_,rfl,rfl, .inl ⟨by decide,by decide⟩,_,_,rfl,rfl,?_⟩
   have k:=k H1 s1 st
   rw[Gj,hl] at k
   exact k
def KJ (K:PySem.W.Frag) (A:aK):Sp:=fun vs H Q E=> ∃(H0:Hp) (R:bt) (m:Nat) (l:Sound.Bits),vs= [.ref R.r, .int m]∧ae H0 H∧bX K H0 R∧aU A.aE H R l∧bq A H0 R (Sound.takeRun (m+1) 0 l) (fun x H'=>Q (.int (x:Nat)) H') E
theorem tI:aI ["self", "most", "zeros"] ["self", "most"] (aD yg):=⟨rfl,rfl,rfl,by decide+kernel,rfl,by decide+kernel,by decide+kernel⟩
theorem take1 (b:Bool) (l:Sound.Bits):Sound.takeU 1 (b::l)= .ok (if b=true then 1 else 0) l:=by
 unfold Sound.takeU
 rw[if_neg (fun z=>by have:=(iC _ _).mp z;simp at this)]
 cases b<;>rfl
theorem xJ (T:Txt K mg A):az P w K mg base (aO P w) 2 A.nI A.jS ["self", "most"] (KJ K A):=by
 refine T.G2.bF tI (fun vs H Q E h=>?_) (fun cdv Ar outer s H vs Q E hr h=>?_)
 ·obtain ⟨H0,R,m,l,rfl,_⟩:=h
  rfl
 ·obtain ⟨H0,R,m,l,rfl,s0,hI,hS,k⟩:=h
  refine ⟨_,ag (aF (i:=2) tI.nd rfl (Or.inl rfl) ak)
   (ag (J3 PassesOwn.leaving (aY cI (aL (pv 0) T.bD T.dk (dc T) hr T.cW .nil aH (aa ak af)) ak (aP _))
    (ag (gL (i:=2) tI.nd rfl (Or.inl rfl) ak x6)
    (ah (a9 (aY cO (pv 2) (pv 1) (aP _)) (ah (dn rfl rfl T.dE T.dw.exc dA)) bh))))
   (ah (aR (pv 2)))),?_⟩
  refine Bb (fun σ H'=> ∃(z:Nat) (l':Sound.Bits),σ= [some (.ref R.r),some (.int (m:Nat)),some (.int (z:Nat))]∧l'.length+z=l.length∧ae H0 H'∧aU A.aE H' R l'∧bq A H0 R (Sound.takeRun (m+1) z l') (fun x H'=>Q (.int (x:Nat)) H') E) (A3 2 (l.length+1)) ⟨0,l,rfl,rfl,s0,hS,k⟩ ?_
  rintro σ H1 ⟨z,l',rfl,hl,s1,hS1,k1⟩ C ht hf
  obtain ⟨p,hx⟩:=hS1.obj
  refine ⟨_,rfl,R.r,R.dr,_,rfl,hx,rfl,H0,R,1,l',rfl,s1,hI,hS1,by decide,?_⟩
  cases l' with
  |nil=>exact k1
  |cons b r=>
   rw[take1]
   intro H2 s2 hS2
   cases b with
   |true=>
    refine ⟨rfl,_,rfl,?_⟩
    exact hf H2 ⟨_,rfl,k1 H2 s2 hS2⟩
   |false=>
    refine ⟨rfl,_,rfl,?_⟩
    refine ht H2 ⟨_,rfl,_,_,rfl,rfl,?_⟩
    dsimp only
    rw[show ((z:Nat):Int)+1=((z+1:Nat):Int) by omega]
    refine ⟨_,rfl,_,rfl,_,_,rfl,rfl,_,rfl,?_⟩
    have e:Sound.takeRun (m+1) z (false::r)=if m+1≤z+1 then .bad else Sound.takeRun (m+1) (z+1) r:=rfl
    rw[e] at k1
    refine bL (fun hc=>?_) fun hc=>?_
    ·have hc:((m:Nat):Int)<((z+1:Nat):Int):=of_decide_eq_true hc
     rw[if_pos (by omega)] at k1
     exact k1 H2 s2
    ·have hc: ¬((m:Nat):Int)<((z+1:Nat):Int):=fun z'=>hc (decide_eq_true z')
     rw[if_neg (by omega)] at k1
     rw[List.length_cons] at hl
     refine ⟨⟨z+1,r,rfl,by omega,s2,hS2,k1⟩,?_⟩
     show l.length+1-((z+1:Nat):Int).toNat<l.length+1-((z:Nat):Int).toNat
     omega
def GS:Sp:=fun vs H Q _=> ∃(m:Nat) (x y:Int),vs= [.int m, .int x, .int y]∧m<4∧ ∀D H',H D=none→ae H H'→H' D=some (.tup [.int (Sound.unpair m x y).1, .int (Sound.unpair m x y).2])→Q (.ref D) H'
theorem wN:aI ["mode", "x", "y", "a"] ["mode", "x", "y"] (aD vH):=⟨rfl,rfl,rfl,by decide+kernel,rfl,by decide+kernel,by decide+kernel⟩
theorem wU (T:Txt K mg A):az P w K mg base bx 1 A.nL A.kY ["mode", "x", "y"] GS:=by
 refine T.rl.ok wN (fun vs H Q E h=>?_) (fun cdv Ar outer s H vs Q E hr h=>?_)
 ·obtain ⟨m,x,y,rfl,_⟩:=h
  rfl
 ·obtain ⟨m,x,y,rfl,hm,k⟩:=h
  refine ⟨_,ag (a9 (aY cI (pv 0) ak (aP _)) (ah (aR (pf (aa (pv 1) (aa (pv 2) af))))) bh)
   (ag (a9 (aY cI (pv 0) ak (aP _)) (ah (aR (pf (aa (pv 1) (aa (ax cY (pv 1) (pv 2)) af))))) bh)
   (ag (a9 (aY cI (pv 0) ak (aP _)) (ah (aR (pf (aa (ax bS (pv 1) (pv 2)) (aa (pv 2) af))))) bh)
   (ag (aF (i:=3) wN.nd rfl (Or.inl rfl) (ax bS (pv 1) (ax eO (ax bS (pv 2) (ax ng (pv 2) ak)) ak)))
   (ah (aR (pf (aa (pv 3) (aa (ax cY (pv 3) (pv 2)) af)))))))),?_⟩
  have z2:(2:Nat)≤sizeLine:=by rw[sizeLine_eq];omega
  have ne: ∀a b:Nat,a≠b→decide (V.int ((a:Nat):Int)=V.int ((b:Nat):Int))=false:=fun a b h=>decide_eq_false fun z=>h (by have:=V.int.inj z;omega)
  have fin: ∀(x' y':Int),(x',y')=Sound.unpair m x y→ ∀p,H p=none→Q (.ref p) (upd H p (.tup [.int x', .int y'])):=fun x' y' e p hp=>by
   refine k p _ hp (aQ hp) ?_
   rw[ao,←e]
  rcases (by omega:m=0∨m=1∨m=2∨m=3) with rfl|rfl|rfl|rfl
  ·exact ⟨_,rfl,rfl,_,rfl,bf ⟨_,rfl,_,rfl,z2,fin _ _ rfl⟩⟩
  ·refine ⟨_,rfl,rfl,_,rfl,?_⟩
   refine bw ⟨_,rfl,rfl,_,rfl,bf ⟨_,rfl,_,rfl,_,rfl,_,_,rfl,rfl,z2,fin _ _ rfl⟩⟩
  ·refine ⟨_,rfl,rfl,_,rfl,?_⟩
   refine bw ⟨_,rfl,rfl,_,rfl,?_⟩
   refine bw ⟨_,rfl,rfl,_,rfl,bf ⟨_,rfl,_,rfl,_,_,rfl,rfl,_,rfl,z2,fin _ _ rfl⟩⟩
  ·refine ⟨_,rfl,rfl,_,rfl,?_⟩
   refine bw ⟨_,rfl,rfl,_,rfl,?_⟩
   refine bw ⟨_,rfl,rfl,_,rfl,?_⟩
   refine bw ⟨_,rfl,_,rfl,_,rfl,_,_,rfl,rfl,(by show (0:Int)<2;decide),_,_,rfl,rfl,_,_,rfl,rfl,(by show (0:Int)≤1;decide),_,_,rfl,rfl,?_⟩
   refine ⟨_,rfl,_,rfl,_,rfl,_,_,rfl,rfl,z2,fin _ _ ?_⟩
   have e:x+(y+y%2)/2^(1:Int).toNat=(2*x+y%2+y)/2:=by rw[show (2:Int)^(1:Int).toNat=2 by decide];omega
   rw[e];rfl
def jt (m d n:V):List (Str×V):= [("mode",m),("depth",d),("numbers",n)]
def DG (C:Addr):Sp:=fun vs H Q _=> ∃(p dx:Addr) (m d n:V),vs= [.ref p,m,d,n]∧H p=some (.ins C dx [])∧Q .aq (upd H p (.ins C dx (jt m d n)))
theorem Bn:aI ["self", "mode", "depth", "numbers"] ["self", "mode", "depth", "numbers"] (aD uo):=⟨rfl,rfl,rfl,by decide+kernel,rfl,by decide+kernel,by decide+kernel⟩
theorem LI (T:Txt K mg A):az P w K mg base bx 1 A.kP A.lG ["self", "mode", "depth", "numbers"] (DG A.b7):=by
 refine T.Fy.ok Bn (fun vs H Q E h=>?_) (fun cdv Ar outer s H vs Q E hr h=>?_)
 ·obtain ⟨p,dx,m,d,n,rfl,_⟩:=h
  rfl
 ·obtain ⟨p,dx,m,d,n,rfl,hp,k⟩:=h
  refine ⟨_,ag (aX (pv 0) (pv 1) rfl) (ag (aX (pv 0) (pv 2) rfl) (ah (aX (pv 0) (pv 3) rfl))),?_⟩
  refine ⟨_,rfl,_,rfl,p,A.b7,dx, [],rfl,hp,T.gO,T.w8,(by show 0<1000;decide),?_⟩
  refine ⟨_,rfl,_,rfl,p,A.b7,dx,_,rfl,ao,T.gO,T.vD,(by show 1<1000;decide),?_⟩
  refine ⟨_,rfl,_,rfl,p,A.b7,dx,_,rfl,ao,T.gO,T.wI,(by show 2<1000;decide),?_⟩
  rw[bV,bV]
  exact k
def ji (m d:Nat) (a:List Int) (i:Nat) (y:Int):Bool:=Sound.fits d (Sound.unpair m (a.getD i 0) y).1&&Sound.fits d (Sound.unpair m (a.getD i 0) y).2
def mQ (K:PySem.W.Frag) (C:Addr) (H:Hp) (p:Addr) (m d:Nat) (a:List Int):Prop:= ∃dx n,H p=some (.ins C dx (jt (.int m) (.int d) (.ref n)))∧ai K H n (a.map V.int)
theorem mQ.same {C:Addr} {H H':Hp} {p:Addr} {m d:Nat} {a:List Int} (h:mQ K C H p m d a) (s:ae H H'):mQ K C H' p m d a:=by
 obtain ⟨dx,n,h1,h2⟩:=h
 exact ⟨dx,n,s _ _ h1,s.seq h2⟩
def C7 (K:PySem.W.Frag) (A:aK):Sp:=fun vs H Q E=> ∃(p:Addr) (m d i:Nat) (a:List Int) (y:Int),vs= [.ref p, .int i, .int y]∧mQ K A.b7 H p m d a∧(m<4∧4≤d∧d≤24∧i<a.length)∧(if ji m d a i y=true then∀H',ae H H'→Q .aq H' else∀H',ae H H'→E (.ref A.dD) none H')
theorem wq:aI ["self", "place", "number", "one"] ["self", "place", "number"] (aD xh):=⟨rfl,rfl,rfl,by decide+kernel,rfl,by decide+kernel,by decide+kernel⟩
theorem JU (T:Txt K mg A):az P w K mg base (aO P w) 2 A.kd A.mh ["self", "place", "number"] (C7 K A):=by
 refine T.KP.bF wq (fun vs H Q E h=>?_) (fun cdv Ar outer s H vs Q E hr h=>?_)
 ·obtain ⟨p,m,d,i,a,y,rfl,_⟩:=h
  rfl
 ·obtain ⟨p,m,d,i,a,y,rfl,⟨dx,n,hp,hn⟩,⟨hm,hd1,hd2,hi⟩,k⟩:=h
  refine ⟨_,ah (cq PassesOwn.leaving rfl (CU (bc (wU T) hr rfl T.uE T.rl.kp T.z9 .nil bo (aa (ay (pv 0) rfl) (aa (bZ cU (ay (pv 0) rfl) (pv 1) (fun _ _=>rfl)) (aa (pv 2) af))))) (bH (i:=3) wq.nd rfl (Or.inl rfl))
   (ah (a9 (gk (iO (bc (zJ T) hr rfl T.xI T.qU.kp T.As .nil bo (aa (ay (pv 0) rfl) (aa (pv 3) af))))) (ah (dn rfl rfl T.dE T.dw.exc dA)) bh))),?_⟩
  refine ⟨_,rfl,p,A.b7,dx,_,_,rfl,hp,T.gO,T.w8,rfl,_,rfl,p,A.b7,dx,_,_,rfl,hp,T.gO,T.wI,rfl,_,rfl,n,_,_,_,rfl,rfl,hn,bQ (iY hi),_,rfl,m,a.getD i 0,y,rfl,hm,fun D H1 hD s1 hx=>?_⟩
  unfold ji at k
  generalize Sound.unpair m (a.getD i 0) y=uv at*
  obtain ⟨u,v⟩:=uv
  have hp1:=s1 _ _ hp
  refine ⟨D,rfl,⟨_,aS.of hx⟩,?_⟩
  have hor: ∀j,j<2→(∀i,i<j→Sound.fits d ([u,v].getD i 0)=true)→Sound.fits d ([u,v].getD j 0)=false→E (.ref A.dD) none H1:=fun j hj _ hf=>by
   rw[if_neg (by
    rcases (by omega:j=0∨j=1) with rfl|rfl
    ·have hf:Sound.fits d u=false:=hf
     rw[hf];simp
    ·have hf:Sound.fits d v=false:=hf
     rw[hf];simp)] at k
   exact k H1 s1
  refine Fo (K:=K) (a:=D) (xs:= [V.int u,V.int v]) (fun j σ H'=>H'=H1∧(∀i,i<j→Sound.fits d ([u,v].getD i 0)=true)∧ ∃v3:Option V,σ= [some (.ref p),some (.int (i:Nat)),some (.int y),v3]) ⟨rfl,(fun i h=>by omega),none,rfl⟩ (fun j σ H' _ ⟨e,_⟩=>by rw[e];exact aS.of hx) ?_ ?_
  ·rintro j x σ H' hj ⟨rfl,hall,v3,rfl⟩
   have hj2:j<2:=(List.getElem?_eq_some_iff.mp hj).1
   have hx2:x= .int ([u,v].getD j 0):=by
    rcases (by omega:j=0∨j=1) with rfl|rfl
    ·exact (Option.some.inj hj).symm
    ·exact (Option.some.inj hj).symm
   subst hx2
   refine ⟨_,rfl,p,A.b7,dx,_,_,rfl,hp1,T.gO,T.vD,rfl,_,rfl,(d:Int),_,rfl,⟨by omega,by omega⟩,_,rfl,?_⟩
   rw[xx (by omega)]
   cases hf:Sound.fits d ([u,v].getD j 0) with
   |false=>exact bf (hor j hj2 hall hf)
   |true=>
    refine bw ⟨rfl,fun i hi=>?_,some (.int ([u,v].getD j 0)),rfl⟩
    rcases (by omega:i<j∨i=j) with q|rfl
    ·exact hall i q
    ·exact hf
  ·rintro σ H' ⟨rfl,hall,v3,rfl⟩
   have h0:Sound.fits d u=true:=hall 0 (by show 0<2;decide)
   have h1:Sound.fits d v=true:=hall 1 (by show 1<2;decide)
   rw[if_pos (by rw[h0,h1];rfl)] at k
   exact k H' s1
def dQ (wd z pn g t:V):List (Str×V):= [("width",wd),("z",z),("partner",pn),("guess",g),("taken",t)]
def iJ (C:Addr) (H:Hp) (x dx t:Addr) (wd z:Nat) (pn g:V) (ys:List Int):Prop:=H x=some (.ins C dx (dQ (.int wd) (.int z) pn g (.ref t)))∧H t=some (.lst (ys.map V.int))∧ ∀y∈ys,Sound.fits wd y=true
theorem iJ.ne {C:Addr} {H:Hp} {x dx t:Addr} {wd z:Nat} {pn g:V} {ys:List Int} (h:iJ C H x dx t wd z pn g ys):t≠x:=fun e=>by
 have h1:=h.1
 rw[←e,h.2.1] at h1;cases h1
def fZ (K:PySem.W.Frag) (A:aK) (H:Hp) (pn:V) (n:Nat) (may:Nat→Int→Bool):Prop:=(pn= .aq∧may=fun _ _=>true)∨ ∃(p:Addr) (m d:Nat) (a:List Int),pn= .ref p∧mQ K A.b7 H p m d a∧(m<4∧4≤d∧d≤24∧a.length=n)∧may=ji m d a
theorem fZ.same {H H':Hp} {pn:V} {n:Nat} {may:Nat→Int→Bool} (h:fZ K A H pn n may) (s:ae H H'):fZ K A H' pn n may:=by
 rcases h with h|⟨p,m,d,a,h1,h2,h3⟩
 ·exact .inl h
 ·exact .inr ⟨p,m,d,a,h1,h2.same s,h3⟩
def Ku (K:PySem.W.Frag) (A:aK):Sp:=fun vs H Q E=> ∃(H0:Hp) (x dx t:Addr) (wd z n:Nat) (pn g:V) (ys:List Int) (may:Nat→Int→Bool) (y:Int),vs= [.ref x, .int y]∧ae H0 H∧(H0 x=none∧H0 t=none)∧iJ A.aV H x dx t wd z pn g ys∧fZ K A H0 pn n may∧(1≤wd∧wd≤25∧z≤25∧ys.length<n∧n≤256)∧
 (if (Sound.fits wd y&&may ys.length (y*2^z))=true then∀H',ae H0 H'→iJ A.aV H' x dx t wd z pn g (ys++ [y])→Q .aq H' else∀H',ae H0 H'→E (.ref A.dD) none H')
theorem LJ:aI ["self", "number"] ["self", "number"] (aD vG):=⟨rfl,rfl,rfl,by decide+kernel,rfl,by decide+kernel,by decide+kernel⟩
theorem zD {wd:Nat} {y:Int} (h:Sound.fits wd y=true) (h2:wd≤25):y.natAbs<2^64:=by
 unfold Sound.fits at h
 rw[Bool.and_eq_true,decide_eq_true_eq,decide_eq_true_eq] at h
 have:(2:Int)^(wd-1)≤2^24:=by
  have:=Nat.pow_le_pow_right (n:=2) (by decide) (show wd-1≤24 by omega)
  exact_mod_cast this
 have e:(2:Int)^24=16777216:=by decide
 have e2:(2:Nat)^64=18446744073709551616:=by decide
 omega
theorem sC (T:Txt K mg A):az P w K mg base (aO P w) 3 A.mX A.mS ["self", "number"] (Ku K A):=by
 refine T.Fq.bF LJ (fun vs H Q E h=>?_) (fun cdv Ar outer s H vs Q E hr h=>?_)
 ·obtain ⟨H0,x,dx,t,wd,z,n,pn,g,ys,may,y,rfl,_⟩:=h
  rfl
 ·obtain ⟨H0,x,dx,t,wd,z,n,pn,g,ys,may,y,rfl,s0,⟨hx0,ht0⟩,hP,hM,⟨hw1,hw2,hz,hl,hn⟩,k⟩:=h
  have hr1':aC 1 _:=hr.mono (by decide)
  refine ⟨_,ag (a9 (gk (iO (bc (zJ T) hr1' rfl T.xI T.qU.kp T.As .nil bo (aa (ay (pv 0) rfl) (aa (pv 1) af))))) (ah (dn rfl rfl T.dE T.dw.exc dA)) bh)
   (ag (a9 (Fv (Cg (ay (pv 0) rfl))) (ah (bp (aL (ay (pv 0) rfl) T.gO T.CT (JU T) hr T.Gi .nil aH
     (aa (dj eM (by rfl) T.eW PySem.boot_len (aa (ay (pv 0) rfl) af)) (aa (ax ib (pv 1) (ay (pv 0) rfl)) af))))) bh)
   (ah (bp (gU PySem.F.plainAttrs_list PySem.F.slot_list_append PySem.F.type_list_append oq (ay (pv 0) rfl) (aa (pv 1) af))))),?_⟩
  obtain ⟨hx,ht,hfy⟩:=id hP
  have htx:=hP.ne
  refine ⟨_,rfl,x,A.aV,dx,_,_,rfl,hx,T.bP,T.pB,rfl,_,rfl,(wd:Int),y,rfl,⟨by omega,by omega⟩,_,rfl,?_⟩
  rw[xx hw1]
  cases hf:Sound.fits wd y with
  |false=>
   rw[hf,if_neg (by simp)] at k
   exact bf (k H s0)
  |true=>
   rw[hf,Bool.true_and] at k
   refine bw ⟨_,rfl,x,A.aV,dx,_,_,rfl,hx,T.bP,T.tq,rfl,_,rfl,?_⟩
   have fin:may ys.length (y*2^z)=true→ ∀H1,ae H H1→rq (rn K "list" rK (ja K (eD 0) "taken") (tf (eD 1) nZ)) {nx:=fun x H'=>Q V.aq H',rt:=Q} [some (V.ref x),some (V.int y)] H1:=fun hm H1 s1=>by
    rw[if_pos hm] at k
    have hx1:=s1 _ _ hx
    have ht1:=s1 _ _ ht
    refine ⟨_,rfl,x,A.aV,dx,_,_,rfl,hx1,T.bP,T.iU,rfl, .inl ⟨rfl,_,ai.of ht1⟩,_,rfl,t,_,_,rfl,rfl,ht1,(by rw[List.length_map,sizeLine_eq];omega),?_⟩
    refine k _ (fH (s0.trans s1) ht0) ⟨?_,?_,fun y' hy'=>?_⟩
    ·rw[aB (Ne.symm htx)];exact hx1
    ·rw[ao,List.map_append];rfl
    ·rcases List.mem_append.mp hy' with q|q
     ·exact hfy y' q
     ·rw[List.mem_singleton.mp q];exact hf
   rcases hM with ⟨rfl,rfl⟩|⟨p,m,d,a,rfl,hPa,⟨hm,hd1,hd2,han⟩,rfl⟩
   ·exact bw (fin rfl H (ae.refl _))
   ·have hPa:=hPa.same s0
    obtain ⟨dp,nn,hp,_⟩:=id hPa
    refine bf ⟨_,rfl,x,A.aV,dx,_,_,rfl,hx,T.bP,T.tq,rfl,p,dp,_,rfl,hp,rfl,_,rfl,x,A.aV,dx,_,_,rfl,hx,T.bP,T.iU,rfl,t,_,rfl, .inl (ai.of ht),_,rfl,_,rfl,x,A.aV,dx,_,_,rfl,hx,T.bP,T.qJ,rfl,_,_,rfl,rfl,⟨by omega,by omega,zD hf hw2⟩,p,m,d,ys.length,a,y*2^z,?_,hPa,⟨hm,hd1,hd2,by omega⟩,?_⟩
    ·rw[List.length_map];rfl
    ·by_cases hmay:ji m d a ys.length (y*2^z)=true
     ·rw[if_pos hmay]
      exact fun H1 s1=>fin hmay H1 s1
     ·rw[if_neg hmay] at k⊢
      exact fun H1 s1=>k H1 (s0.trans s1)
def Ja (C:Addr):Sp:=fun vs H Q _=> ∃(p dx:Addr) (wd z:Int) (pn:V),vs= [.ref p, .int wd, .int z,pn]∧H p=some (.ins C dx [])∧ ∀(t:Addr) (H':Hp),H t=none→(∀b o,H b=some o→b≠p→H' b=some o)→H' p=some (.ins C dx (dQ (.int (wd-z)) (.int z) pn .aq (.ref t)))→H' t=some (.lst [])→Q .aq H'
theorem G7:aI ["self", "width", "z", "partner"] ["self", "width", "z", "partner"] (aD yK):=⟨rfl,rfl,rfl,by decide+kernel,rfl,by decide+kernel,by decide+kernel⟩
theorem BU (T:Txt K mg A):az P w K mg base bx 1 A.lj A.md ["self", "width", "z", "partner"] (Ja A.aV):=by
 refine T.Ko.ok G7 (fun vs H Q E h=>?_) (fun cdv Ar outer s H vs Q E hr h=>?_)
 ·obtain ⟨p,dx,wd,z,pn,rfl,_⟩:=h
  rfl
 ·obtain ⟨p,dx,wd,z,pn,rfl,hp,k⟩:=h
  refine ⟨_,ag (aX (pv 0) (ax cY (pv 1) (pv 2)) rfl) (ag (aX (pv 0) (pv 2) rfl) (ag (aX (pv 0) (pv 3) rfl) (ag (aX (pv 0) eu rfl) (ah (aX (pv 0) (cJ af) rfl))))),?_⟩
  refine ⟨_,rfl,_,rfl,_,_,rfl,rfl,_,rfl,p,A.aV,dx, [],rfl,hp,T.bP,T.pB,(by show 0<1000;decide),?_⟩
  refine ⟨_,rfl,_,rfl,p,A.aV,dx,_,rfl,ao,T.bP,T.qJ,(by show 1<1000;decide),?_⟩
  refine ⟨_,rfl,_,rfl,p,A.aV,dx,_,rfl,ao,T.bP,T.tq,(by show 2<1000;decide),?_⟩
  refine ⟨_,rfl,p,A.aV,dx,_,rfl,ao,T.bP,T.o9,(by show 3<1000;decide),?_⟩
  rw[bV,bV,bV]
  refine ⟨by rw[sizeLine_eq];show 0≤_;omega,fun t ht=>?_⟩
  have htp:t≠p:=fun e=>by rw[e,ao] at ht;cases ht
  have ht0:H t=none:=by rw[aB htp] at ht;exact ht
  refine ⟨_,rfl,p,A.aV,dx,_,rfl,(by rw[aB (Ne.symm htp)];exact ao),T.bP,T.iU,(by show 4<1000;decide),?_⟩
  refine k t _ ht0 (fun b o e hb=>?_) ao ?_
  ·rw[aB hb,aB (b6 e ht0),aB hb];exact e
  ·rw[aB htp];exact ao
theorem FA (a ys:List Int) (h:Nat) (hl:a.length≤ys.length):Sound.guess a h ys.reverse=pT a h ys ys.length:=FN (Nat.le_refl _) hl (by rw[List.take_length])
def xW (K:PySem.W.Frag) (A:aK):Sp:=fun vs H Q E=> ∃(H0:Hp) (x dx t ga:Addr) (wd z n h:Nat) (pn:V) (ys a:List Int) (may:Nat→Int→Bool) (e:Int),vs= [.ref x, .int e]∧ae H0 H∧(H0 x=none∧H0 t=none)∧iJ A.aV H x dx t wd z pn (.ref ga) ys∧fx K A.bU H0 ga a h∧(a.length≤ys.length∧Bd 2048 a)∧fZ K A H0 pn n may∧(1≤wd∧wd≤25∧z≤25∧ys.length<n∧n≤256)∧
 (if (Sound.fits wd (Sound.guess a h ys.reverse+e)&&may ys.length ((Sound.guess a h ys.reverse+e)*2^z))=true then∀H',ae H0 H'→iJ A.aV H' x dx t wd z pn (.ref ga) (ys++ [Sound.guess a h ys.reverse+e])→Q .aq H' else∀H',ae H0 H'→E (.ref A.dD) none H')
theorem C1:aI ["self", "rest"] ["self", "rest"] (aD yY):=⟨rfl,rfl,rfl,by decide+kernel,rfl,by decide+kernel,by decide+kernel⟩
theorem vE (T:Txt K mg A):az P w K mg base (aO P w) 4 A.mH A.k7 ["self", "rest"] (xW K A):=by
 refine T.IY.bF C1 (fun vs H Q E h=>?_) (fun cdv Ar outer s H vs Q E hr h=>?_)
 ·obtain ⟨H0,x,dx,t,ga,wd,z,n,h,pn,ys,a,may,e,rfl,_⟩:=h
  rfl
 ·obtain ⟨H0,x,dx,t,ga,wd,z,n,h,pn,ys,a,may,e,rfl,s0,hn0,hP,hG,⟨hal,hbd⟩,hM,hb,k⟩:=h
  have hr1':aC 1 _:=hr.mono (by decide)
  refine ⟨_,ah (bp (aL (pv 0) T.bP T.tT (sC T) hr T.rf .nil aH (aa (ax bS (aL (ay (pv 0) rfl) T.nO T.FI (Gv T) hr1' T.CC .nil bo
   (aa (ay (pv 0) rfl) (aa (dj eM (by rfl) T.eW PySem.boot_len (aa (ay (pv 0) rfl) af)) af))) (pv 1)) af))),?_⟩
  obtain ⟨hx,ht,_⟩:=id hP
  have hG':=hG.same s0
  obtain ⟨dg,pg,hg,_⟩:=id hG'
  refine ⟨_,rfl,x,dx,_,rfl,hx,rfl,_,rfl,x,A.aV,dx,_,_,rfl,hx,T.bP,T.o9,rfl,ga,dg,_,rfl,hg,rfl,_,rfl,x,A.aV,dx,_,_,rfl,hx,T.bP,T.iU,rfl,_,rfl,x,A.aV,dx,_,_,rfl,hx,T.bP,T.iU,rfl,t,_,rfl, .inl (ai.of ht),ga,t,a,ys,h,ys.length,?_,hG',ai.of ht,⟨hal,Nat.le_refl _⟩,hbd,_,rfl,_,_,rfl,rfl,?_⟩
  ·rw[List.length_map];rfl
  ·rw[FA a ys h hal] at k
   exact ⟨H0,x,dx,t,wd,z,n,pn, .ref ga,ys,may,_,rfl,s0,hn0,hP,hM,hb,k⟩
def EF:Sp:=fun vs H Q _=> ∃n:Nat,vs= [.int n]∧Q (.int (Sound.unfold n)) H
theorem Li:aI ["folded"] ["folded"] (aD u0):=⟨rfl,rfl,rfl,by decide+kernel,rfl,by decide+kernel,by decide+kernel⟩
theorem Ls (T:Txt K mg A):az P w K mg base bx 1 A.kc A.ku ["folded"] EF:=by
 refine T.yt.ok Li (fun vs H Q E h=>?_) (fun cdv Ar outer s H vs Q E hr h=>?_)
 ·obtain ⟨n,rfl,_⟩:=h
  rfl
 ·obtain ⟨n,rfl,k⟩:=h
  refine ⟨_,ah (aR (iB (aY cI (ax ng (pv 0) ak) ak (aP _)) (ax eO (pv 0) ak) (ax cY (fJ fU (ax eO (pv 0) ak)) ak))),?_⟩
  refine ⟨_,rfl,_,_,rfl,rfl,(by show (0:Int)<2;decide),rfl,_,rfl,?_⟩
  have e1:((n:Nat):Int)/2^(1:Int).toNat=((n/2:Nat):Int):=by rw[show (2:Int)^(1:Int).toNat=2 by decide];omega
  unfold Sound.unfold at k
  refine bL (fun hc=>?_) fun hc=>?_
  ·have hc:=V.int.inj (of_decide_eq_true hc)
   rw[if_neg (by omega)] at k
   refine ⟨_,rfl,_,_,rfl,rfl,(by show (0:Int)≤1;decide),?_⟩
   dsimp only
   rw[e1];exact k
  ·have hc: ¬((n:Nat):Int)%2=0:=fun z=>hc (decide_eq_true (show V.int (((n:Nat):Int)%2)=V.int 0 by rw[z]))
   rw[if_pos (by omega)] at k
   refine ⟨_,rfl,_,_,rfl,rfl,(by show (0:Int)≤1;decide),_,rfl,_,_,rfl,rfl,?_⟩
   dsimp only
   rw[e1]
   have e2: -((n/2:Nat):Int)-1= -(((n+1)/2:Nat):Int):=by omega
   rw[e2];exact k
def xM (f:Nat→Nat→Nat):Sp:=fun vs H Q _=> ∃m d:Nat,vs= [.int m, .int d]∧Q (.int (f m d:Nat)) H
def ie (m d:Nat):Nat:=if m=2 then d+1 else d
def iP (m d:Nat):Nat:=if m=1∨m=3 then d+1 else d
theorem Ct:aI ["mode", "depth"] ["mode", "depth"] (aD wz):=⟨rfl,rfl,rfl,by decide+kernel,rfl,by decide+kernel,by decide+kernel⟩
theorem Lh:aI ["mode", "depth"] ["mode", "depth"] (aD zH):=⟨rfl,rfl,rfl,by decide+kernel,rfl,by decide+kernel,by decide+kernel⟩
theorem f9 (a b:Nat):decide (V.int ((a:Nat):Int)=V.int ((b:Nat):Int))=decide (a=b):=by
 by_cases h:a=b
 ·rw[h,decide_eq_true rfl,decide_eq_true rfl]
 ·rw[decide_eq_false h,decide_eq_false fun z=>h (by have:=V.int.inj z;omega)]
theorem Lq (T:Txt K mg A):az P w K mg base bx 1 A.lT A.mx ["mode", "depth"] (xM ie):=by
 refine T.wV.ok Ct (fun vs H Q E h=>?_) (fun cdv Ar outer s H vs Q E hr h=>?_)
 ·obtain ⟨m,d,rfl,_⟩:=h
  rfl
 ·obtain ⟨m,d,rfl,k⟩:=h
  refine ⟨_,ah (aR (iB (aY cI (pv 0) ak (aP _)) (ax bS (pv 1) ak) (pv 1))),?_⟩
  refine ⟨_,rfl,rfl,_,rfl,?_⟩
  unfold ie at k
  have e:=f9 m 2
  refine bL (fun hc=>?_) fun hc=>?_
  ·have hc:m=2:=of_decide_eq_true (e.symm.trans hc)
   rw[if_pos hc] at k
   exact ⟨_,rfl,_,_,rfl,rfl,k⟩
  ·rw[if_neg (fun z=>hc (e.trans (decide_eq_true z)))] at k
   exact ⟨_,rfl,k⟩
theorem K8 (T:Txt K mg A):az P w K mg base bx 1 A.nc A.lQ ["mode", "depth"] (xM iP):=by
 refine T.vy.ok Lh (fun vs H Q E h=>?_) (fun cdv Ar outer s H vs Q E hr h=>?_)
 ·obtain ⟨m,d,rfl,_⟩:=h
  rfl
 ·obtain ⟨m,d,rfl,k⟩:=h
  refine ⟨_,ah (aR (iB (PW.pt (lS (aY cI (pv 0) ak (aP _)) (lZ (aY cI (pv 0) ak (aP _))))) (ax bS (pv 1) ak) (pv 1))),?_⟩
  refine ⟨_,rfl,rfl,_,rfl,?_⟩
  unfold iP at k
  have e:=f9 m 1
  have e3:=f9 m 3
  refine bL (fun hc=>?_) fun hc=>?_
  ·have hc:m=1:=of_decide_eq_true (e.symm.trans hc)
   rw[if_pos (.inl hc)] at k
   exact bf ⟨_,rfl,_,_,rfl,rfl,k⟩
  ·refine ⟨_,rfl,rfl,_,rfl,?_⟩
   have n1: ¬m=1:=fun z=>hc (e.trans (decide_eq_true z))
   refine bL (fun hc3=>?_) fun hc3=>?_
   ·have hc3:m=3:=of_decide_eq_true (e3.symm.trans hc3)
    rw[if_pos (.inr hc3)] at k
    exact ⟨_,rfl,_,_,rfl,rfl,k⟩
   ·rw[if_neg (fun z=>z.elim n1 fun z=>hc3 (e3.trans (decide_eq_true z)))] at k
    exact ⟨_,rfl,k⟩
def FP (K:PySem.W.Frag) (A:aK):Sp:=fun vs H Q E=> ∃(H0:Hp) (R:bt) (wd:Nat) (l:Sound.Bits),vs= [.ref R.r, .int wd]∧ae H0 H∧bX K H0 R∧aU A.aE H R l∧2≤wd∧
 bq A H0 R ((Sound.takeU 1 l).then_ fun (fl:Nat) (l:Sound.Bits)=>if fl=0 then Sound.Got.ok 0 l else (Sound.takeRun (wd-1) 0 l).then_ fun (q:Nat) (l:Sound.Bits)=> .ok (q+1) l) (fun x H'=>Q (.int (x:Nat)) H') E
theorem FE:aI ["reader", "width"] ["reader", "width"] (aD zz):=⟨rfl,rfl,rfl,by decide+kernel,rfl,by decide+kernel,by decide+kernel⟩
theorem G9 (T:Txt K mg A):az P w K mg base (aO P w) 3 A.lD A.jH ["reader", "width"] (FP K A):=by
 refine T.Ad.bF FE (fun vs H Q E h=>?_) (fun cdv Ar outer s H vs Q E hr h=>?_)
 ·obtain ⟨H0,R,wd,l,rfl,_⟩:=h
  rfl
 ·obtain ⟨H0,R,wd,l,rfl,s0,hI,hS,hw,k⟩:=h
  have hr1':aC 1 _:=hr.mono (by decide)
  refine ⟨_,ag (a9 (aY cI (aL (pv 0) T.bD T.dk (dc T) hr1' T.cW .nil aH (aa ak af)) ak (aP _)) (ah (aR ak)) bh)
   (ah (aR (ax bS (aL (pv 0) T.bD T.vf (xJ T) hr T.zV .nil aH (aa (ax cY (pv 1) ak) af)) ak))),?_⟩
  obtain ⟨p,hx⟩:=hS.obj
  refine ⟨_,rfl,R.r,R.dr,_,rfl,hx,rfl,H0,R,1,l,rfl,s0,hI,hS,by decide,k.seq fun fl l1 H1 _ s1 st1 k1=>?_⟩
  refine ⟨rfl,_,rfl,?_⟩
  have e:=f9 fl 0
  refine bL (fun hc=>?_) fun hc=>?_
  ·have hc:fl=0:=of_decide_eq_true (e.symm.trans hc)
   rw[if_pos hc] at k1
   exact k1 H1 s1 st1
  ·rw[if_neg (fun z=>hc (e.trans (decide_eq_true z)))] at k1
   obtain ⟨p1,hx1⟩:=st1.obj
   refine ⟨_,rfl,R.r,R.dr,_,rfl,hx1,rfl,_,rfl,_,_,rfl,rfl,H0,R,wd-2,l1,?_,s1,hI,st1,?_⟩
   ·show [V.ref R.r,V.int (((wd:Nat):Int)-2)]=_
    rw[show ((wd:Nat):Int)-2=((wd-2:Nat):Int) by omega]
   ·rw[show wd-2+1=wd-1 by omega]
    refine k1.seq fun q l2 H2 _ s2 st2 k2=>?_
    refine ⟨_,_,rfl,rfl,?_⟩
    have k3:Q (.int ((q+1:Nat):Int)) H2:=k2 H2 s2 st2
    rw[show ((q+1:Nat):Int)=((q:Nat):Int)+1 by omega] at k3
    exact k3
theorem then_assoc {α β γ:Type} (g:Sound.Got α) (f:α→Sound.Bits→Sound.Got β) (k:β→Sound.Bits→Sound.Got γ):(g.then_ f).then_ k=g.then_ fun x l=>(f x l).then_ k:=by
 cases g<;>rfl
structure cC where
 x:Addr
 dx:Addr
 t:Addr
 wd:Nat
 z:Nat
 n:Nat
 pn:V
 may:Nat→Int→Bool
def dO (K:PySem.W.Frag) (A:aK) (H0:Hp) (p:cC):Prop:=(H0 p.x=none∧H0 p.t=none)∧fZ K A H0 p.pn p.n p.may∧(1≤p.wd∧p.wd≤25∧p.z≤25∧p.n≤256)
abbrev bz (A:aK) (H:Hp) (p:cC) (g:V) (ys:List Int):Prop:=iJ A.aV H p.x p.dx p.t p.wd p.z p.pn g ys
theorem jR {H:Hp} {R:bt} {l:Sound.Bits} {p:cC} {g:V} {ys:List Int} (h:aU A.aE H R l) (q:bz A H p g ys):R.r∉ [p.x,p.t]:=fun z=>by
 obtain ⟨i,hx⟩:=h.obj
 rcases List.mem_cons.mp z with z|z
 ·rw[z,q.1] at hx
  injection hx with hx
  injection hx with _ _ hx
  exact absurd (congrArg List.length hx) (by show¬5=2;decide)
 ·rcases List.mem_cons.mp z with z|z
  ·rw[z,q.2.1] at hx;cases hx
  ·cases z
theorem dO.aw {H0 H:Hp} {p:cC} (h:dO K A H0 p) (s:ae H0 H):ae H0 (Wg.aw [p.x,p.t] H)∧dO K A (Wg.aw [p.x,p.t] H) p:=by
 have s1:ae H0 (Wg.aw [p.x,p.t] H):=s.aw fun b hb=>by
  rcases List.mem_cons.mp hb with rfl|hb
  ·exact h.1.1
  ·rcases List.mem_cons.mp hb with rfl|hb
   ·exact h.1.2
   ·cases hb
 exact ⟨s1,⟨fB (by simp),fB (by simp)⟩,h.2.1.same s1,h.2.2⟩
theorem aU.aw {H H':Hp} {R:bt} {l:Sound.Bits} {p:cC} {g:V} {ys:List Int} (h:aU A.aE H R l) (q:bz A H p g ys) (s:ae (Wg.aw [p.x,p.t] H) H'):aU A.aE H' R l:=by
 have n:=jR h q
 obtain ⟨i,e,hi,hx⟩:=h
 exact ⟨i,e,hi,s _ _ (by rw[b9 n];exact hx)⟩
def fv (x z:Nat) (may:Nat→Int→Bool) (acc:List Int) (l:Sound.Bits):Sound.Got Int:=(Sound.takeS x l).then_ fun (y:Int) (l:Sound.Bits)=>Sound.judged x z may acc.length y l
def fk (w z:Nat) (may:Nat→Int→Bool) (a:List Int) (h g v:Nat) (acc:List Int) (l:Sound.Bits):Sound.Got Int:=(Sound.takeRest g v l).then_ fun (e:Int) (l:Sound.Bits)=>Sound.judged w z may acc.length (Sound.guess a h acc+e) l
def fR (w z:Nat) (may:Nat→Int→Bool) (a:List Int) (h cnt:Nat) (ys:List Int) (l:Sound.Bits):Sound.Got (List Int):=(Sound.takeU 5 l).then_ fun (g:Nat) (l:Sound.Bits)=>
 if g=31 then (Sound.takeU 6 l).then_ fun (v:Nat) (l:Sound.Bits)=>if 40<v then .bad else Sound.takeMany (fk w z may a h g v) cnt ys l else Sound.takeMany (fk w z may a h g 0) cnt ys l
theorem jj {α:Type} (one:List α→Sound.Bits→Sound.Got α) (n:Nat) (acc:List α) (l:Sound.Bits):Sound.takeMany one (n+1) acc l=(one acc l).then_ fun (x:α) (r:Sound.Bits)=>Sound.takeMany one n (x::acc) r:=rfl
def mf (K:PySem.W.Frag) (A:aK) (H0:Hp) (R:bt) (p:cC) (gv:V) (m0 cnt:Nat) (one:List Int→Sound.Bits→Sound.Got Int) (Qf:List Int→Hp→Prop) (E:XK) (i:Nat) (H':Hp):Prop:= ∃(ys:List Int) (l:Sound.Bits),ae H0 H'∧aU A.aE H' R l∧bz A H' p gv ys∧ys.length=m0+i∧bq A H0 R (Sound.takeMany one (cnt-i) ys.reverse l) Qf E
theorem zx (w z:Nat) (may:Nat→Int→Bool) (n:Nat) (y:Int) (l:Sound.Bits) {β:Type} (k:Int→Sound.Bits→Sound.Got β):(Sound.judged w z may n y l).then_ k=if (Sound.fits w y&&may n (y*2^z))=true then k y l else .bad:=by
 unfold Sound.judged
 split<;>rfl
def Ks (K:PySem.W.Frag) (A:aK):Sp:=fun vs H Q E=> ∃(H0:Hp) (R:bt) (p:cC) (gv:V) (cnt:Nat) (ys:List Int) (l:Sound.Bits),vs= [.ref R.r, .int cnt, .ref p.x]∧ae H0 H∧bX K H0 R∧dO K A H0 p∧aU A.aE H R l∧bz A H p gv ys∧ys.length+cnt≤p.n∧
 bq A H0 R (Sound.takeMany (fv p.wd p.z p.may) cnt ys.reverse l) (fun acc H'=>bz A H' p gv acc.reverse→Q .aq H') E
theorem wk:aI ["reader", "count", "part", "place"] ["reader", "count", "part"] (aD AM):=⟨rfl,rfl,rfl,by decide+kernel,rfl,by decide+kernel,by decide+kernel⟩
theorem qL {H0 H':Hp} {R:bt} {p:cC} {gv:V} {m0 cnt:Nat} {one:List Int→Sound.Bits→Sound.Got Int} {Q:Hp→Prop} {E:XK} (h:mf K A H0 R p gv m0 cnt one (fun acc H'=>bz A H' p gv acc.reverse→Q H') E cnt H'):Q H':=by
 obtain ⟨ys,l,s1,st,hP,hl,k⟩:=h
 rw[Nat.sub_self] at k
 have k:bz A H' p gv ys.reverse.reverse→Q H':=k H' s1 st
 rw[List.reverse_reverse] at k
 exact k hP
theorem yy (T:Txt K mg A):az P w K mg base (aO P w) 4 A.kx A.k9 ["reader", "count", "part"] (Ks K A):=by
 refine T.qs.bF wk (fun vs H Q E h=>?_) (fun cdv Ar outer s H vs Q E hr h=>?_)
 ·obtain ⟨H0,R,p,gv,cnt,ys,l,rfl,_⟩:=h
  rfl
 ·obtain ⟨H0,R,p,gv,cnt,ys,l,rfl,s0,hI,hp,hS,hP,hc,k⟩:=h
  have hr2':aC 2 _:=hr.mono (by decide)
  refine ⟨_,ah (cq PassesOwn.leaving rfl (d7 rfl T.dN (aa (pv 1) af)) (bH (i:=3) wk.nd rfl (Or.inl rfl))
   (ah (bp (aL (pv 2) T.bP T.tT (sC T) hr T.rf .nil aH (aa (aL (pv 0) T.bD T.pK (nU T) hr2' T.pS .nil aH (aa (ay (pv 2) rfl) af)) af))))),?_⟩
  have hnn:=hp.2.2
  have e62:(2:Int)^62=4611686018427387904:=by decide
  refine ⟨_,rfl,((cnt:Nat):Int),rfl,by omega,by omega,?_⟩
  rw[Int.toNat_natCast]
  refine eR (lo:=0) (n:=cnt) (fun i σ H'=>mf K A H0 R p gv ys.length cnt (fv p.wd p.z p.may) (fun acc H'=>bz A H' p gv acc.reverse→Q .aq H') E i H'∧ ∃v3:Option V,σ= [some (.ref R.r),some (.int (cnt:Nat)),some (.ref p.x),v3]) ⟨⟨ys,l,s0,hS,hP,rfl,k⟩,none,rfl⟩ ?_ ?_
  ·rintro i σ H1 hi ⟨⟨ys1,l1,s1,st1,hP1,hl1,k1⟩,v3,rfl⟩
   obtain ⟨px,hx⟩:=st1.obj
   rw[show cnt-i=(cnt-(i+1))+1 by omega,jj,fv,then_assoc] at k1
   refine ⟨_,rfl,p.x,p.dx,_,rfl,hP1.1,rfl,_,rfl,R.r,R.dr,_,rfl,hx,rfl,_,rfl,p.x,A.aV,p.dx,_,_,rfl,hP1.1,T.bP,T.pB,rfl,Wg.aw [R.r] H1,R,p.wd,l1,rfl,bG _ _,?_,st1,by omega,?_⟩
   ·exact hI.same (s1.aw fun b hb=>by rw[List.mem_singleton.mp hb];exact hI.2.1) (fB (by simp))
   have sh:ae H0 (Wg.aw [R.r] H1):=s1.aw fun b hb=>by rw[List.mem_singleton.mp hb];exact hI.2.1
   refine k1.b8 sh fun y l2 H2 _ s2 st2 k2=>?_
   have n1:=jR st1 hP1
   have hP2:bz A H2 p gv ys1:=⟨s2 _ _ (by rw[b9 (fun z=>n1 (by rw[←List.mem_singleton.mp z];simp))];exact hP1.1),s2 _ _ (by rw[b9 (fun z=>n1 (by rw[←List.mem_singleton.mp z];simp))];exact hP1.2.1),hP1.2.2⟩
   have s02:=sh.trans s2
   obtain ⟨s3,hp3⟩:=hp.aw s02
   rw[zx] at k2
   refine ⟨Wg.aw [p.x,p.t] H2,p.x,p.dx,p.t,p.wd,p.z,p.n,p.pn,gv,ys1,p.may,y,rfl,bG _ _,hp3.1,hP2,hp3.2.1,⟨hnn.1,hnn.2.1,hnn.2.2.1,by omega,hnn.2.2.2⟩,?_⟩
   rw[List.length_reverse] at k2
   by_cases hj:(Sound.fits p.wd y&&p.may ys1.length (y*2^p.z))=true
   ·rw[if_pos hj] at k2⊢
    refine fun H3 s4 hP3=>⟨⟨ys1++ [y],l2,s3.trans s4,st2.aw hP2 s4,hP3,by rw[List.length_append,hl1];rfl,?_⟩,some (.int (0+(i:Nat))),rfl⟩
    rw[List.reverse_append]
    exact k2
   ·rw[if_neg hj] at k2⊢
    exact fun H3 s4=>k2 H3 (s3.trans s4)
  ·rintro σ H1 ⟨hm,v3,rfl⟩
   exact qL hm
theorem CO (v:Nat) (l:Sound.Bits):Sound.takeRest 31 v l=Sound.takeS v l:=by
 unfold Sound.takeRest
 rw[if_pos rfl]
 by_cases h:v=0
 ·subst h
  rw[if_pos rfl]
  unfold Sound.takeS
  rw[if_neg (fun z=>by have:=(iC _ _).mp z;omega)]
  rfl
 ·rw[if_neg h]
theorem vp {H0 H2:Hp} {R:bt} {p:cC} {ga:Addr} {a ys1:List Int} {h m0 cnt i:Nat} {l2:Sound.Bits} {one:List Int→Sound.Bits→Sound.Got Int} {Qf:List Int→Hp→Prop} {Qn:Hp→Prop} {E:XK} {e:Int} (hp:dO K A H0 p) (hG:fx K A.bU H0 ga a h) (hbd:Bd 2048 a) (hal:a.length≤ys1.length)
  (s2:ae H0 H2) (st2:aU A.aE H2 R l2) (hP2:bz A H2 p (.ref ga) ys1) (hl1:ys1.length=m0+i) (hn:ys1.length<p.n) (k2:bq A H0 R ((Sound.judged p.wd p.z p.may ys1.reverse.length (Sound.guess a h ys1.reverse+e) l2).then_ fun (x:Int) (r:Sound.Bits)=>Sound.takeMany one (cnt-(i+1)) (x::ys1.reverse) r) Qf E)
  (fin: ∀H3,mf K A H0 R p (.ref ga) m0 cnt one Qf E (i+1) H3→Qn H3):xW K A [.ref p.x, .int e] H2 (fun v H3=>Qn H3) E:=by
 obtain ⟨s3,hp3⟩:=hp.aw s2
 have hnn:=hp.2.2
 rw[zx,List.length_reverse] at k2
 refine ⟨Wg.aw [p.x,p.t] H2,p.x,p.dx,p.t,ga,p.wd,p.z,p.n,h,p.pn,ys1,a,p.may,e,rfl,bG _ _,hp3.1,hP2,hG.same s3,⟨hal,hbd⟩,hp3.2.1,⟨hnn.1,hnn.2.1,hnn.2.2.1,hn,hnn.2.2.2⟩,?_⟩
 by_cases hj:(Sound.fits p.wd (Sound.guess a h ys1.reverse+e)&&p.may ys1.length ((Sound.guess a h ys1.reverse+e)*2^p.z))=true
 ·rw[if_pos hj] at k2⊢
  refine fun H3 s4 hP3=>fin H3 ⟨ys1++ [Sound.guess a h ys1.reverse+e],l2,s3.trans s4,st2.aw hP2 s4,hP3,by rw[List.length_append,hl1];rfl,?_⟩
  rw[List.reverse_append]
  exact k2
 ·rw[if_neg hj] at k2⊢
  exact fun H3 s4=>k2 H3 (s3.trans s4)
def rz (K:PySem.W.Frag) (A:aK) (H0:Hp) (ga:Addr) (a:List Int) (h:Nat) (m:Nat):Prop:=fx K A.bU H0 ga a h∧Bd 2048 a∧a.length≤m
def Gf (K:PySem.W.Frag) (A:aK):Sp:=fun vs H Q E=> ∃(H0:Hp) (R:bt) (p:cC) (ga:Addr) (a:List Int) (h cnt:Nat) (ys:List Int) (l:Sound.Bits),vs= [.ref R.r, .int cnt, .ref p.x]∧ae H0 H∧bX K H0 R∧dO K A H0 p∧rz K A H0 ga a h ys.length∧aU A.aE H R l∧bz A H p (.ref ga) ys∧ys.length+cnt≤p.n∧
 bq A H0 R ((Sound.takeU 6 l).then_ fun (v:Nat) (l:Sound.Bits)=>if 40<v then .bad else Sound.takeMany (fk p.wd p.z p.may a h 31 v) cnt ys.reverse l) (fun acc H'=>bz A H' p (.ref ga) acc.reverse→Q .aq H') E
theorem qr:aI ["reader", "count", "part", "v", "place"] ["reader", "count", "part"] (aD w9):=⟨rfl,rfl,rfl,by decide+kernel,rfl,by decide+kernel,by decide+kernel⟩
theorem bX.aw {H0 H:Hp} {R:bt} (h:bX K H0 R) (s:ae H0 H):ae H0 (Wg.aw [R.r] H)∧bX K (Wg.aw [R.r] H) R:=by
 have s1:ae H0 (Wg.aw [R.r] H):=s.aw fun b hb=>by rw[List.mem_singleton.mp hb];exact h.2.1
 exact ⟨s1,h.same s1 (fB (by simp))⟩
theorem fq {H H':Hp} {R:bt} {l:Sound.Bits} {p:cC} {g:V} {ys:List Int} (st:aU A.aE H R l) (q:bz A H p g ys) (s:ae (Wg.aw [R.r] H) H'):bz A H' p g ys:=by
 have n1:=jR st q
 exact ⟨s _ _ (by rw[b9 (fun z=>n1 (by rw[←List.mem_singleton.mp z];simp))];exact q.1),s _ _ (by rw[b9 (fun z=>n1 (by rw[←List.mem_singleton.mp z];simp))];exact q.2.1),q.2.2⟩
theorem Io (T:Txt K mg A):az P w K mg base (aO P w) 5 A.mE A.kX ["reader", "count", "part"] (Gf K A):=by
 refine T.vg.bF qr (fun vs H Q E h=>?_) (fun cdv Ar outer s H vs Q E hr h=>?_)
 ·obtain ⟨H0,R,p,ga,a,h,cnt,ys,l,rfl,_⟩:=h
  rfl
 ·obtain ⟨H0,R,p,ga,a,h,cnt,ys,l,rfl,s0,hI,hp,⟨hG,hbd,hal⟩,hS,hP,hc,k⟩:=h
  have hr1':aC 1 _:=hr.mono (by decide)
  have hr2':aC 2 _:=hr.mono (by decide)
  refine ⟨_,ag (aF (i:=3) qr.nd rfl (Or.inl rfl) (aL (pv 0) T.bD T.dk (dc T) hr1' T.cW .nil aH (aa ak af)))
   (ag (a9 (aY cO (pv 3) (a8 rfl T.Iv) (aP _)) (ah (dn rfl rfl T.dE T.dw.exc dA)) bh)
   (ah (cq PassesOwn.leaving rfl (d7 rfl T.dN (aa (pv 1) af)) (bH (i:=4) qr.nd rfl (Or.inl rfl))
    (ah (bp (aL (pv 2) T.bP T.zm (vE T) hr T.Ax .nil aH (aa (aL (pv 0) T.bD T.pK (nU T) hr2' T.pS .nil aH (aa (pv 3) af)) af))))))),?_⟩
  have hnn:=hp.2.2
  have e62:(2:Int)^62=4611686018427387904:=by decide
  obtain ⟨px,hx⟩:=hS.obj
  obtain ⟨sh,hIh⟩:=hI.aw s0
  refine ⟨_,rfl,R.r,R.dr,_,rfl,hx,rfl,Wg.aw [R.r] H,R,6,l,rfl,bG _ _,hIh,hS,by decide,k.b8 sh fun v l1 H1 _ s1 st1 k1=>?_⟩
  have hP1:=fq hS hP s1
  have s01:=sh.trans s1
  refine ⟨_,rfl,_,_,rfl,rfl,_,rfl,?_⟩
  refine bL (fun hc=>?_) fun hc40=>?_
  ·have hc:(40:Int)<((v:Nat):Int):=of_decide_eq_true hc
   rw[if_pos (by omega)] at k1
   exact k1 H1 s01
  ·have hc40: ¬(40:Int)<((v:Nat):Int):=fun z=>hc40 (decide_eq_true z)
   rw[if_neg (by omega)] at k1
   refine ⟨_,rfl,((cnt:Nat):Int),rfl,by omega,by omega,?_⟩
   rw[Int.toNat_natCast]
   refine eR (lo:=0) (n:=cnt) (fun i σ H'=>mf K A H0 R p (.ref ga) ys.length cnt (fk p.wd p.z p.may a h 31 v) (fun acc H'=>bz A H' p (.ref ga) acc.reverse→Q .aq H') E i H'∧ ∃v4:Option V,σ= [some (.ref R.r),some (.int (cnt:Nat)),some (.ref p.x),some (.int (v:Nat)),v4]) ⟨⟨ys,l1,s01,st1,hP1,rfl,k1⟩,none,rfl⟩ ?_ ?_
   ·rintro i σ H2 hi ⟨⟨ys1,l2,s2,st2,hP2,hl2,k2⟩,v4,rfl⟩
    obtain ⟨px2,hx2⟩:=st2.obj
    rw[show cnt-i=(cnt-(i+1))+1 by omega,jj,fk,then_assoc,CO] at k2
    obtain ⟨sh2,hIh2⟩:=hI.aw s2
    refine ⟨_,rfl,p.x,p.dx,_,rfl,hP2.1,rfl,_,rfl,R.r,R.dr,_,rfl,hx2,rfl,_,rfl,Wg.aw [R.r] H2,R,v,l2,rfl,bG _ _,hIh2,st2,by omega,k2.b8 sh2 fun e l3 H3 _ s3 st3 k3=>?_⟩
    exact vp hp hG hbd (by omega) (sh2.trans s3) st3 (fq st2 hP2 s3) hl2 (by omega) k3 fun H4 hm=>⟨hm,some (.int (0+(i:Nat))),rfl⟩
   ·rintro σ H2 ⟨hm,v4,rfl⟩
    exact qL hm
def Il (K:PySem.W.Frag) (A:aK):Sp:=fun vs H Q E=> ∃(H0:Hp) (R:bt) (p:cC) (ga:Addr) (a:List Int) (h cnt:Nat) (ys:List Int) (l:Sound.Bits),vs= [.ref R.r, .int cnt, .ref p.x]∧ae H0 H∧bX K H0 R∧dO K A H0 p∧rz K A H0 ga a h ys.length∧aU A.aE H R l∧bz A H p (.ref ga) ys∧ys.length+cnt≤p.n∧
 bq A H0 R (fR p.wd p.z p.may a h cnt ys.reverse l) (fun acc H'=>bz A H' p (.ref ga) acc.reverse→Q .aq H') E
theorem og:aI ["reader", "count", "part", "g", "place", "run"] ["reader", "count", "part"] (aD vC):=⟨rfl,rfl,rfl,by decide+kernel,rfl,by decide+kernel,by decide+kernel⟩
theorem i6 {n:Nat} {l:Sound.Bits} {x:Nat} {r:Sound.Bits} (h:Sound.takeU n l= .ok x r):x<2^n:=by
 unfold Sound.takeU at h
 split at h
 ·cases h
 ·cases h
  have:=jE (l.take n)
  exact Nat.lt_of_lt_of_le this (Nat.pow_le_pow_right (by decide) (by rw[List.length_take];omega))
theorem Fs {g:Nat} (h:g<31):1099511627775/2^g+1=Sound.GREAT/2^g:=by
 have: ∀g:Nat,g<31→1099511627775/2^g+1=Sound.GREAT/2^g:=by decide
 exact this g h
theorem yN {m:Nat}: ∀{l:Sound.Bits} {q x:Nat} {r:Sound.Bits},Sound.takeRun m q l= .ok x r→x≤q+l.length
 | [],q,x,r,h=>by unfold Sound.takeRun at h;cases h
 |true::l,q,x,r,h=>by unfold Sound.takeRun at h;cases h;omega
 |false::l,q,x,r,h=>by
  have e:Sound.takeRun m q (false::l)=if m≤q+1 then .bad else Sound.takeRun m (q+1) l:=rfl
  rw[e] at h
  split at h
  ·cases h
  ·have:=yN h
   rw[List.length_cons];omega
theorem aU.len {H:Hp} {R:bt} {l:Sound.Bits} (h:aU A.aE H R l) (hI:R.B.length≤4096):l.length≤32768:=by
 obtain ⟨i,rfl,_⟩:=h
 rw[List.length_drop,iT];omega
theorem C0 (T:Txt K mg A):az P w K mg base (aO P w) 6 A.kU A.ly ["reader", "count", "part"] (Il K A):=by
 refine T.zR.bF og (fun vs H Q E h=>?_) (fun cdv Ar outer s H vs Q E hr h=>?_)
 ·obtain ⟨H0,R,p,ga,a,h,cnt,ys,l,rfl,_⟩:=h
  rfl
 ·obtain ⟨H0,R,p,ga,a,h,cnt,ys,l,rfl,s0,hI,hp,hGs,hS,hP,hc,k⟩:=h
  obtain ⟨hG,hbd,hal⟩:=id hGs
  have hr1':aC 1 _:=hr.mono (by decide)
  have hr2':aC 2 _:=hr.mono (by decide)
  have hr4':aC 4 _:=hr.mono (by decide)
  refine ⟨_,ag (aF (i:=3) og.nd rfl (Or.inl rfl) (aL (pv 0) T.bD T.dk (dc T) hr1' T.cW .nil aH (aa ak af)))
   (ag (a9 (aY cI (pv 3) (a8 rfl T.EA) (aP _)) (ag (bp (bc (Io T) hr rfl T.Cu T.vg.kp T.Bp .nil aH (aa (pv 0) (aa (pv 1) (aa (pv 2) af))))) (ah KN)) bh)
   (ah (cq PassesOwn.leaving rfl (d7 rfl T.dN (aa (pv 1) af)) (bH (i:=4) og.nd rfl (Or.inl rfl))
    (ag (aF (i:=5) og.nd rfl (Or.inl rfl) (aL (pv 0) T.bD T.vf (xJ T) hr2' T.zV .nil aH (aa (ax eO (a8 rfl T.Di) (pv 3)) af)))
    (ah (bp (aL (pv 2) T.bP T.zm (vE T) hr4' T.Ax .nil aH (aa (bc (Ls T) hr1' rfl T.Gh T.yt.kp T.J1 .nil bo
     (aa (ax bS (ax ib (pv 5) (pv 3)) (aL (pv 0) T.bD T.dk (dc T) hr1' T.cW .nil aH (aa (pv 3) af))) af)) af)))))))),?_⟩
  have hnn:=hp.2.2
  have e62:(2:Int)^62=4611686018427387904:=by decide
  obtain ⟨px,hx⟩:=hS.obj
  obtain ⟨sh,hIh⟩:=hI.aw s0
  unfold fR at k
  refine ⟨_,rfl,R.r,R.dr,_,rfl,hx,rfl,Wg.aw [R.r] H,R,5,l,rfl,bG _ _,hIh,hS,by decide,k.b8 sh fun g l1 H1 eg s1 st1 k1=>?_⟩
  have hP1:=fq hS hP s1
  have s01:=sh.trans s1
  have hg32:g<32:=i6 eg
  refine ⟨_,rfl,rfl,_,rfl,?_⟩
  have e31:=f9 g 31
  refine bL (fun hc=>?_) fun hc31=>?_
  ·have hc:g=31:=of_decide_eq_true (e31.symm.trans hc)
   subst hc
   rw[if_pos rfl] at k1
   exact ⟨_,rfl,_,rfl,_,rfl,H0,R,p,ga,a,h,cnt,ys,l1,rfl,s01,hI,hp,hGs,st1,hP1,by omega,k1⟩
  ·have hne:g≠31:=fun z=>hc31 (e31.trans (decide_eq_true z))
   rw[if_neg hne] at k1
   refine ⟨_,rfl,((cnt:Nat):Int),rfl,by omega,by omega,?_⟩
   rw[Int.toNat_natCast]
   refine eR (lo:=0) (n:=cnt) (fun i σ H'=>mf K A H0 R p (.ref ga) ys.length cnt (fk p.wd p.z p.may a h g 0) (fun acc H'=>bz A H' p (.ref ga) acc.reverse→Q .aq H') E i H'∧ ∃v4 v5:Option V,σ= [some (.ref R.r),some (.int (cnt:Nat)),some (.ref p.x),some (.int (g:Nat)),v4,v5]) ⟨⟨ys,l1,s01,st1,hP1,rfl,k1⟩,none,none,rfl⟩ ?_ ?_
   ·rintro i σ H2 hi ⟨⟨ys1,l2,s2,st2,hP2,hl2,k2⟩,v4,v5,rfl⟩
    obtain ⟨px2,hx2⟩:=st2.obj
    have er:Sound.takeRest g 0 l2=(Sound.takeRun (Sound.GREAT/2^g) 0 l2).then_ fun (q:Nat) (r:Sound.Bits)=>(Sound.takeU g r).then_ fun (x:Nat) (r:Sound.Bits)=> .ok (Sound.unfold (q*2^g+x)) r:=by
     unfold Sound.takeRest;rw[if_neg hne]
    rw[show cnt-i=(cnt-(i+1))+1 by omega,jj,fk,then_assoc,er,then_assoc] at k2
    obtain ⟨sh2,hIh2⟩:=hI.aw s2
    refine ⟨_,rfl,R.r,R.dr,_,rfl,hx2,rfl,_,rfl,_,_,rfl,rfl,(by omega),Wg.aw [R.r] H2,R,1099511627775/2^g,l2,?_,bG _ _,hIh2,st2,?_⟩
    ·show [V.ref R.r,V.int ((1099511627775:Int)/2^((g:Nat):Int).toNat)]=_
     rw[Int.toNat_natCast];rfl
    rw[Fs (by omega)]
    refine k2.b8 sh2 fun q l3 H3 eq s3 st3 k3=>?_
    have hql:=yN eq
    have hl2l:=st2.len hI.2.2
    rw[then_assoc] at k3
    have hP3:=fq st2 hP2 s3
    have s03:=sh2.trans s3
    obtain ⟨px3,hx3⟩:=st3.obj
    obtain ⟨sh3,hIh3⟩:=hI.aw s03
    have e64:(2:Nat)^64=18446744073709551616:=by decide
    refine ⟨_,rfl,p.x,p.dx,_,rfl,hP3.1,rfl,_,rfl,_,rfl,_,_,rfl,rfl,⟨by omega,by omega,by rw[Int.natAbs_natCast];omega⟩,_,rfl,R.r,R.dr,_,rfl,hx3,rfl,_,rfl,Wg.aw [R.r] H3,R,g,l3,rfl,bG _ _,hIh3,st3,by omega,k3.b8 sh3 fun x l4 H4 _ s4 st4 k4=>?_⟩
    refine ⟨_,_,rfl,rfl,q*2^g+x,?_,?_⟩
    ·show [V.int (((q:Nat):Int)*2^((g:Nat):Int).toNat+((x:Nat):Int))]=_
     rw[Int.toNat_natCast]
     simp
    ·exact vp hp hG hbd (by omega) (sh3.trans s4) st4 (fq st3 hP3 s4) hl2 (by omega) k4 fun H5 hm=>⟨hm,some (.int (0+(i:Nat))),some (.int (q:Nat)),rfl⟩
   ·rintro σ H2 ⟨hm,v4,v5,rfl⟩
    exact qL hm
theorem zT {J:It} {H1:Hp} {D:Addr} {σ:L2.St} {vs:List Nat} {g:TG} {te:TE} {Qf:Hp→Prop} (n:Nat) (hn:n≤sizeLine) (Pv:Nat→List V→Hp→Prop) (h0:Pv 0 [] (upd H1 D (.lst [])))
  (hgo: ∀i acc H,i<n→Pv i acc H→J.go i H) (hstop: ∀acc H,Pv n acc H→J.stop n H)
  (turn: ∀i acc H x H',i<n→Pv i acc H→H D=some (.lst acc)→acc.length=i→J.dS i H x H'→ ∀C:VK,(∀y H4,H4 D=some (.lst acc)→Pv (i+1) (acc++ [y]) (upd H4 D (.lst (acc++ [y])))→C y H4)→g x (wipe σ vs) H' fun σ2 H2=>wipe σ2 vs=wipe σ vs∧te σ2 H2 C)
  (fin: ∀acc H,Pv n acc H→H D=some (.lst acc)→acc.length=n→Qf H):
  ∃W:Nat→Nat→Hp→Prop,(∃m,W 0 m (upd H1 D (.lst [])))∧ ∀i m H,W i m H→
   (J.stop i H∧Qf H)∨(J.go i H∧ ∃Nx:Hp→Prop,(∀H',Nx H'→ ∃m',m'<m∧W (i+1) m' H')∧ ∀x H',J.dS i H x H'→g x (wipe σ vs) H' fun σ2 H2=>wipe σ2 vs=wipe σ vs∧jk σ2 H2 fun b H3=>
    if b=true then te σ2 H3 fun y H4=> ∃acc,H4 D=some (.lst acc)∧acc.length<sizeLine∧Nx (upd H4 D (.lst (acc++ [y]))) else Nx H3):=by
 refine ⟨fun i m H=>i+m=n∧ ∃acc,Pv i acc H∧H D=some (.lst acc)∧acc.length=i,⟨n,by omega, [],h0,ao,rfl⟩,?_⟩
 rintro i m H ⟨hm,acc,hp,hD,hl⟩
 by_cases hi:i=n
 ·subst hi
  exact .inl ⟨hstop acc H hp,fin acc H hp hD hl⟩
 ·refine .inr ⟨hgo i acc H (by omega) hp,fun H'=> ∃acc',Pv (i+1) acc' H'∧H' D=some (.lst acc')∧acc'.length=i+1,fun H' h=>⟨m-1,by omega,by omega,h⟩,fun x H' hy=>?_⟩
  refine turn i acc H x H' (by omega) hp hD hl hy _ fun y H4 hD4 hp4=>⟨acc,hD4,by omega,acc++ [y],hp4,ao,by rw[List.length_append,hl];rfl⟩
theorem eK {α:Type} {one:List α→Sound.Bits→Sound.Got α}: ∀{n:Nat} {acc xs:List α} {l r:Sound.Bits},Sound.takeMany one n acc l= .ok xs r→xs.length=acc.length+n
 |0,acc,xs,l,r,h=>by unfold Sound.takeMany at h;cases h;rfl
 |n+1,acc,xs,l,r,h=>by
  rw[jj] at h
  cases e:one acc l with
  |ok x l'=>
   rw[e] at h
   have:=eK (show Sound.takeMany one n (x::acc) l'= .ok xs r from h)
   rw[this,List.length_cons];omega
  |bad=>rw[e] at h;cases h
  |short=>rw[e] at h;cases h
theorem pM {w z:Nat} {may:Nat→Int→Bool} {a:List Int} {h cnt:Nat} {ys xs:List Int} {l r:Sound.Bits} (e:fR w z may a h cnt ys l= .ok xs r):xs.length=ys.length+cnt:=by
 unfold fR at e
 cases e1:Sound.takeU 5 l with
 |ok g l1=>
  rw[e1] at e
  have e:(if g=31 then (Sound.takeU 6 l1).then_ fun (v:Nat) (l:Sound.Bits)=>if 40<v then .bad else Sound.takeMany (fk w z may a h g v) cnt ys l else Sound.takeMany (fk w z may a h g 0) cnt ys l1)= .ok xs r:=e
  split at e
  ·cases e2:Sound.takeU 6 l1 with
   |ok v l2=>
    rw[e2] at e
    have e:(if 40<v then .bad else Sound.takeMany (fk w z may a h g v) cnt ys l2)= .ok xs r:=e
    split at e
    ·cases e
    ·exact eK e
   |bad=>rw[e2] at e;cases e
   |short=>rw[e2] at e;cases e
  ·exact eK e
 |bad=>rw[e1] at e;cases e
 |short=>rw[e1] at e;cases e
theorem pF (w z n p r:Nat) (a:List Int) (h:Nat) (may:Nat→Int→Bool) (k i:Nat) (ys:List Int) (l:Sound.Bits):Sound.takeGroups w z n p r a h may (k+1) i ys l=(fR w z may a h (n/2^r-(if i=0 then p else 0)) ys l).then_ fun (ys:List Int) (l:Sound.Bits)=>Sound.takeGroups w z n p r a h may k (i+1) ys l:=by
 conv=>lhs;unfold Sound.takeGroups
 unfold fR
 rw[then_assoc]
 congr 1
 funext g l
 by_cases hg:g=31
 ·rw[if_pos hg,if_pos hg,then_assoc]
  congr 1
  funext v l
  by_cases hv:40<v
  ·rw[if_pos hv,if_pos hv];rfl
  ·rw[if_neg hv,if_neg hv];rfl
 ·rw[if_neg hg,if_neg hg];rfl
def dB (w z n:Nat) (may:Nat→Int→Bool) (p:Nat) (a:List Int) (h:Nat) (ys:List Int) (l:Sound.Bits):Sound.Got (List Int):=(Sound.takeU 3 l).then_ fun (r:Nat) (l:Sound.Bits)=>if 6<r∨Sound.mayCut n p r=false then (.bad:Sound.Got (List Int)) else Sound.takeGroups w z n p r a h may (2^r) 0 ys l
theorem vU (n p r:Nat):jU n p r=true↔ ¬(6<r∨Sound.mayCut n p r=false):=by
 unfold jU Sound.mayCut
 have e:n/2^r*2^r=n↔n%2^r=0:=by
  have:=Nat.div_add_mod n (2^r)
  rw[Nat.mul_comm] at this
  omega
 simp only [Bool.and_eq_true,decide_eq_true_eq,not_or,Nat.not_lt,Bool.not_eq_false,beq_iff_eq,e]
def zP (K:PySem.W.Frag) (A:aK):Sp:=fun vs H Q E=> ∃(H0:Hp) (R:bt) (p:cC) (ga:Addr) (a:List Int) (h:Nat) (ys:List Int) (l:Sound.Bits),vs= [.ref R.r, .int p.n, .int (a.length:Nat), .ref p.x]∧ae H0 H∧bX K H0 R∧dO K A H0 p∧rz K A H0 ga a h ys.length∧aU A.aE H R l∧bz A H p (.ref ga) ys∧(ys.length=a.length∧a.length≤4)∧
 bq A H0 R (dB p.wd p.z p.n p.may a.length a h ys.reverse l) (fun acc H'=>bz A H' p (.ref ga) acc.reverse→Q .aq H') E
theorem jB:aI ["reader", "n", "order", "part", "r", "size", "count", "group"] ["reader", "n", "order", "part"] (aD AO):=⟨rfl,rfl,rfl,by decide+kernel,rfl,by decide+kernel,by decide+kernel⟩
theorem Lc (T:Txt K mg A):az P w K mg base (aO P w) 7 A.jV A.kr ["reader", "n", "order", "part"] (zP K A):=by
 refine T.ue.bF jB (fun vs H Q E h=>?_) (fun cdv Ar outer s H vs Q E hr h=>?_)
 ·obtain ⟨H0,R,p,ga,a,h,ys,l,rfl,_⟩:=h
  rfl
 ·obtain ⟨H0,R,p,ga,a,h,ys,l,rfl,s0,hI,hp,hGs,hS,hP,⟨hyl,ha4⟩,k⟩:=h
  have hr1':aC 1 _:=hr.mono (by decide)
  refine ⟨_,ag (aF (i:=4) jB.nd rfl (Or.inl rfl) (aL (pv 0) T.bD T.dk (dc T) hr1' T.cW .nil aH (aa ak af)))
   (ag (a9 (gk (iO (bc (BV T) hr1' rfl T.Ei T.xE.kp T.JM .nil bo (aa (pv 1) (aa (pv 2) (aa (pv 4) af)))))) (ah (dn rfl rfl T.dE T.dw.exc dA)) bh)
   (ag (aF (i:=5) jB.nd rfl (Or.inl rfl) (ax eO (pv 1) (pv 4)))
   (ag (aF (i:=6) jB.nd rfl (Or.inl rfl) (ax cY (pv 5) (pv 2)))
   (ah (cq PassesOwn.leaving rfl (d7 rfl T.dN (aa (ax ib ak (pv 4)) af)) (bH (i:=7) jB.nd rfl (Or.inl rfl))
    (ag (bp (bc (C0 T) hr rfl T.J6 T.zR.kp T.KR .nil aH (aa (pv 0) (aa (pv 6) (aa (pv 3) af)))))
    (ah (aF (i:=6) jB.nd rfl (Or.inl rfl) (pv 5))))))))),?_⟩
  have hnn:=hp.2.2
  have e62:(2:Int)^62=4611686018427387904:=by decide
  obtain ⟨px,hx⟩:=hS.obj
  obtain ⟨sh,hIh⟩:=hI.aw s0
  unfold dB at k
  refine ⟨_,rfl,R.r,R.dr,_,rfl,hx,rfl,Wg.aw [R.r] H,R,3,l,rfl,bG _ _,hIh,hS,by decide,k.b8 sh fun r l1 H1 er s1 st1 k1=>?_⟩
  have hP1:=fq hS hP s1
  have s01:=sh.trans s1
  have hr8:r<8:=i6 er
  refine ⟨_,rfl,_,rfl,_,rfl,p.n,a.length,r,rfl,⟨by omega,by omega⟩,_,rfl,?_⟩
  cases hcs:jU p.n a.length r with
  |false=>
   rw[if_pos (Classical.byContradiction fun z=>by rw[(vU _ _ _).mpr z] at hcs;cases hcs)] at k1
   exact bf (k1 H1 s01)
  |true=>
   have hcs2:=(vU _ _ _).mp hcs
   rw[if_neg hcs2] at k1
   have h6:r≤6:=Nat.le_of_not_lt fun z=>hcs2 (.inl z)
   have hmc:p.n%2^r=0∧a.length≤p.n/2^r:=by
    have:Sound.mayCut p.n a.length r=true:=by
     cases q:Sound.mayCut p.n a.length r with
     |true=>rfl
     |false=>exact absurd (.inr q) hcs2
    unfold Sound.mayCut at this
    rw[Bool.and_eq_true,beq_iff_eq,decide_eq_true_eq] at this
    exact this
   have hdiv:p.n/2^r*2^r=p.n:=Nat.div_mul_cancel (Nat.dvd_of_mod_eq_zero hmc.1)
   have e64:(2:Nat)^64=18446744073709551616:=by decide
   refine bw ⟨_,rfl,_,rfl,_,_,rfl,rfl,(by omega),?_⟩
   have e1:((p.n:Nat):Int)/2^((r:Nat):Int).toNat=((p.n/2^r:Nat):Int):=by rw[Int.toNat_natCast];simp
   dsimp only
   rw[e1]
   have h2r:2^r≤64:=Nat.le_trans (Nat.pow_le_pow_right (by decide) h6) (by decide)
   have h2p:0<2^r:=Nat.two_pow_pos r
   generalize hsz:p.n/2^r=sz at*
   refine ⟨_,rfl,_,rfl,_,_,rfl,rfl,?_⟩
   dsimp only
   rw[show ((sz:Nat):Int)-((a.length:Nat):Int)=((sz-a.length:Nat):Int) by omega]
   have e2:(1:Int)*2^((r:Nat):Int).toNat=((2^r:Nat):Int):=by rw[Int.one_mul,Int.toNat_natCast];simp
   refine ⟨_,rfl,_,_,rfl,rfl,⟨by omega,by omega,by decide⟩,((2^r:Nat):Int),(by show [V.int ((1:Int)*2^((r:Nat):Int).toNat)]=_;rw[e2]),by omega,by omega,?_⟩
   rw[Int.toNat_natCast]
   refine eR (lo:=0) (n:=2^r) (fun i σ H'=>(∃(ys1:List Int) (l2:Sound.Bits),ae H0 H'∧aU A.aE H' R l2∧bz A H' p (.ref ga) ys1∧ys1.length=(if i=0 then a.length else i*sz)∧bq A H0 R (Sound.takeGroups p.wd p.z p.n a.length r a h p.may (2^r-i) i ys1.reverse l2) (fun acc H'=>bz A H' p (.ref ga) acc.reverse→Q .aq H') E)∧
     ∃v7:Option V,σ= [some (.ref R.r),some (.int (p.n:Nat)),some (.int (a.length:Nat)),some (.ref p.x),some (.int (r:Nat)),some (.int (sz:Nat)),some (.int ((sz-(if i=0 then a.length else 0):Nat):Int)),v7]) ⟨⟨ys,l1,s01,st1,hP1,by rw[if_pos rfl];exact hyl,k1⟩,none,rfl⟩ ?_ ?_
   ·rintro i σ H2 hi ⟨⟨ys1,l2,s2,st2,hP2,hl2,k2⟩,v7,rfl⟩
    rw[show 2^r-i=(2^r-(i+1))+1 by omega,pF,hsz] at k2
    have hroom:ys1.length+(sz-(if i=0 then a.length else 0))≤p.n∧a.length≤ys1.length∧ys1.length+(sz-(if i=0 then a.length else 0))=(i+1)*sz:=by
     have hm:(i+1)*sz≤2^r*sz:=Nat.mul_le_mul_right _ (by omega)
     have hc:2^r*sz=p.n:=by rw[Nat.mul_comm];exact hdiv
     by_cases h0:i=0
     ·subst h0
      rw[if_pos rfl] at hl2⊢
      rw[Nat.zero_add,Nat.one_mul] at hm⊢
      omega
     ·rw[if_neg h0] at hl2⊢
      have:(i+1)*sz=i*sz+sz:=by rw[Nat.add_mul,Nat.one_mul]
      have h1:sz≤i*sz:=Nat.le_mul_of_pos_left sz (by omega)
      omega
    refine ⟨_,rfl,_,rfl,_,rfl,H0,R,p,ga,a,h,_,ys1,l2,rfl,s2,hI,hp,⟨hGs.1,hGs.2.1,hroom.2.1⟩,st2,hP2,hroom.1,k2.seq fun xs l3 H3 exs s3 st3 k3 hP3=>?_⟩
    have hxl:=pM exs
    rw[List.length_reverse] at hxl
    refine ⟨_,rfl,⟨xs.reverse,l3,s3,st3,hP3,?_,?_⟩,some (.int (0+(i:Nat))),?_⟩
    ·rw[List.length_reverse,hxl,if_neg (show¬i+1=0 by omega)];exact hroom.2.2
    ·rw[List.reverse_reverse];exact k3
    ·rw[if_neg (show¬i+1=0 by omega),Nat.sub_zero];rfl
   ·rintro σ H2 ⟨⟨ys1,l2,s2,st2,hP2,hl2,k2⟩,v7,rfl⟩
    rw[Nat.sub_self] at k2
    have k3:bz A H2 p (.ref ga) ys1.reverse.reverse→Q .aq H2:=k2 H2 s2 st2
    rw[List.reverse_reverse] at k3
    exact k3 hP2
def fI (x z n:Nat) (may:Nat→Int→Bool) (kind:Nat) (l:Sound.Bits):Sound.Got (List Int):=
 if kind≤6 then (if n<kind-2 then .bad else (Sound.takeMany (fv x z may) (kind-2) [] l).then_ fun (ys:List Int) (l:Sound.Bits)=>dB x z n may (kind-2) (Sound.FIXED.getD (kind-2) []) 0 ys l)
 else if n<kind-6 then .bad else (Sound.takeMany (fv x z may) (kind-6) [] l).then_ fun (ys:List Int) (l:Sound.Bits)=>(Sound.takeU 4 l).then_ fun (h:Nat) (l:Sound.Bits)=>(Sound.takeMany (fun (_:List Int) (l:Sound.Bits)=>Sound.takeS 12 l) (kind-6) [] l).then_ fun (a:List Int) (l:Sound.Bits)=>dB x z n may (kind-6) a.reverse h ys l
theorem JW {p:Nat} (h:p≤4):(Sound.FIXED.getD p []).length=p∧Bd 2048 (Sound.FIXED.getD p []):=by
 have: ∀p:Nat,p≤4→(Sound.FIXED.getD p []).length=p∧ ∀x∈Sound.FIXED.getD p [],-2048≤x∧x≤2048:=by decide
 exact this p h
theorem xK {n:Nat} {l:Sound.Bits} {x:Int} {r:Sound.Bits} (h:Sound.takeS n l= .ok x r) (h1:1≤n):Sound.fits n x=true:=by
 unfold Sound.takeS at h
 split at h
 ·cases h
 ·rename_i hl
  have hlen:(l.take n).length=n:=by
   rw[List.length_take]
   have: ¬l.length<n:=fun z=>hl ((iC n l).mpr z)
   omega
  cases h
  generalize l.take n=m at*
  cases m with
  |nil=>simp at hlen;omega
  |cons b m=>
   have v:=jE m
   rw[List.length_cons] at hlen
   have hn:n-1=m.length:=by omega
   unfold Sound.fits Sound.svalue
   rw[hn,p0]
   have e2:(2:Int)^(m.length+1)=2*2^m.length:=by rw[Int.pow_succ,Int.mul_comm]
   have ec:((2^m.length:Nat):Int)=(2:Int)^m.length:=by simp
   cases b with
   |true=>
    simp only [List.head?_cons,if_true,List.length_cons,Nat.one_mul,e2]
    rw[Bool.and_eq_true,decide_eq_true_eq,decide_eq_true_eq,←ec]
    omega
   |false=>
    simp only [List.head?_cons,Option.some.injEq,Bool.false_eq_true,if_false,Nat.zero_mul,Nat.zero_add]
    rw[Bool.and_eq_true,decide_eq_true_eq,decide_eq_true_eq,←ec]
    omega
theorem Bl {l:Sound.Bits} {x:Int} {r:Sound.Bits} (h:Sound.takeS 12 l= .ok x r): -2048≤x∧x≤2048:=by
 have:=xK h (by decide)
 unfold Sound.fits at this
 rw[Bool.and_eq_true,decide_eq_true_eq,decide_eq_true_eq] at this
 have e:(2:Int)^(12-1)=2048:=by decide
 omega
theorem DT {H0 H:Hp} {R:bt} {p:cC} (hI:bX K H0 R) (hp:dO K A H0 p) (s:ae H0 H):ae H0 (Wg.aw [R.r,p.x,p.t] H)∧bX K (Wg.aw [R.r,p.x,p.t] H) R∧dO K A (Wg.aw [R.r,p.x,p.t] H) p:=by
 have s1:ae H0 (Wg.aw [R.r,p.x,p.t] H):=s.aw fun b hb=>by
  rcases List.mem_cons.mp hb with rfl|hb
  ·exact hI.2.1
  ·rcases List.mem_cons.mp hb with rfl|hb
   ·exact hp.1.1
   ·rcases List.mem_cons.mp hb with rfl|hb
    ·exact hp.1.2
    ·cases hb
 exact ⟨s1,hI.same s1 (fB (by simp)),⟨fB (by simp),fB (by simp)⟩,hp.2.1.same s1,hp.2.2⟩
theorem yx (wd z pn g t g':V):br "guess" g' (dQ wd z pn g t)=dQ wd z pn g' t:=rfl
def Kz (K:PySem.W.Frag) (A:aK):Sp:=fun vs H Q E=> ∃(H0:Hp) (R:bt) (p:cC) (kind:Nat) (l:Sound.Bits),vs= [.ref R.r, .int p.n, .int kind, .ref p.x]∧ae H0 H∧bX K H0 R∧dO K A H0 p∧aU A.aE H R l∧bz A H p .aq []∧(2≤kind∧kind≤10)∧
 bq A H0 R (fI p.wd p.z p.n p.may kind l) (fun acc H'=>(∃g,bz A H' p g acc.reverse)→Q .aq H') E
theorem me:aI ["reader", "n", "kind", "part", "order", "shift", "place"] ["reader", "n", "kind", "part"] (aD xg):=⟨rfl,rfl,rfl,by decide+kernel,rfl,by decide+kernel,by decide+kernel⟩
theorem GN {H1:Hp} {R:bt} {p:cC} {g:V} {ys:List Int} {l:Sound.Bits} {o:HO} (st:aU A.aE H1 R l) (hP:bz A H1 p g ys) (H2:Hp):ae (newOf H1 H2) (Wg.aw [R.r,p.x,p.t] (upd H2 p.x o)):=fun b u h=>by
 obtain ⟨h1,h2⟩:=jq h
 obtain ⟨i,hx⟩:=st.obj
 have n1:b≠R.r:=fun z=>by rw[z,hx] at h1;cases h1
 have n2:b≠p.x:=fun z=>by rw[z,hP.1] at h1;cases h1
 have n3:b≠p.t:=fun z=>by rw[z,hP.2.1] at h1;cases h1
 rw[b9 (by simp [n1,n2,n3]),aB n2]
 exact h2
theorem vx {H0 H:Hp} {R:bt} {p:cC} {ga:Addr} {a ys:List Int} {h:Nat} {l:Sound.Bits} {Qn:Hp→Prop} {E:XK} (hI:bX K H0 R) (hp:dO K A H0 p) (s:ae H0 H) (st:aU A.aE H R l) (hP:bz A H p (.ref ga) ys) (hG:fx K A.bU (Wg.aw [R.r,p.x,p.t] H) ga a h) (hb:Bd 2048 a) (ha:ys.length=a.length∧a.length≤4)
  (k:bq A H0 R (dB p.wd p.z p.n p.may a.length a h ys.reverse l) (fun acc H'=>(∃g,bz A H' p g acc.reverse)→Qn H') E):zP K A [.ref R.r, .int p.n, .int (a.length:Nat), .ref p.x] H (fun v H'=>Qn H') E:=by
 obtain ⟨s1,hI1,hp1⟩:=DT hI hp s
 refine ⟨Wg.aw [R.r,p.x,p.t] H,R,p,ga,a,h,ys,l,rfl,bG _ _,hI1,hp1,⟨hG,hb,by omega⟩,st,hP,ha,?_⟩
 have k1:=k.low s1
 generalize dB p.wd p.z p.n p.may a.length a h ys.reverse l=g at*
 cases g with
 |ok x l=>exact fun H' s' st' hq=>k1 H' s' st' ⟨_,hq⟩
 |bad=>exact k1
 |short=>exact k1
theorem Ip (T:Txt K mg A):az P w K mg base (aO P w) 8 A.kv A.kj ["reader", "n", "kind", "part"] (Kz K A):=by
 refine T.vA.bF me (fun vs H Q E h=>?_) (fun cdv Ar outer s H vs Q E hr h=>?_)
 ·obtain ⟨H0,R,p,kind,l,rfl,_⟩:=h
  rfl
 ·obtain ⟨H0,R,p,kind,l,rfl,s0,hI,hp,hS,hP,⟨hk1,hk2⟩,k⟩:=h
  have hr1':aC 1 _:=hr.mono (by decide)
  have hr2':aC 2 _:=hr.mono (by decide)
  have hr3':aC 3 _:=hr.mono (by decide)
  have hr4':aC 4 _:=hr.mono (by decide)
  refine ⟨_,ag (aF (i:=4) me.nd rfl (Or.inl rfl) (bc (Ic T) hr1' rfl T.Gk T.yc.kp T.GD .nil bo (aa (pv 2) af)))
   (ag (a9 (aY cO (pv 4) (pv 1) (aP _)) (ah (dn rfl rfl T.dE T.dw.exc dA)) bh)
   (ag (bp (bc (yy T) hr4' rfl T.zY T.qs.kp T.AB .nil aH (aa (pv 0) (aa (pv 4) (aa (pv 3) af)))))
   (ag (a9 (aY rF (pv 2) (a8 rfl T.rP) (aP _)) (ah (aX (pv 3) (bc (GR T) hr3' rfl T.FQ T.x8.kp T.Fl .nil bo (aa (pv 4) af)) rfl))
    (ag (aF (i:=5) me.nd rfl (Or.inl rfl) (aL (pv 0) T.bD T.dk (dc T) hr1' T.cW .nil aH (aa ak af)))
    (ah (aX (pv 3) (eS T.xm (y9 T) hr2' rfl T.uB T.wC .nil bo (aa (K2 (own:= [("place",6)]) rfl rfl rfl ke rfl me.nd (d7 rfl T.dN (aa (pv 4) af)) (fc (by kernel_rfl)) (fun _ _ _ _ _ _=>bH (i:=6) me.nd rfl (Or.inl rfl)) (fun _ _ _ _ _ _=>e9)
     (fun _ _ _ _ _ _ hp=>aL (pv 0) T.bD T.pK (nU T) hr2' T.pS .nil hp (aa (a8 rfl T.Lk) af))) (aa (pv 5) af))) rfl))))
   (ah (bp (bc (Lc T) hr rfl T.DJ T.ue.kp T.CS .nil aH (aa (pv 0) (aa (pv 1) (aa (pv 4) (aa (pv 3) af)))))))))),?_⟩
  have hnn:=hp.2.2
  have e62:(2:Int)^62=4611686018427387904:=by decide
  refine ⟨_,rfl,kind,rfl,⟨hk1,hk2⟩,?_⟩
  generalize ho:(if kind≤6 then kind-2 else kind-6)=o at*
  have ho4:o≤4:=by rw[←ho];split<;>omega
  refine ⟨_,rfl,_,rfl,_,_,rfl,rfl,_,rfl,?_⟩
  unfold fI at k
  refine bL (fun hc=>?_) fun hc=>?_
  ·have hc:((p.n:Nat):Int)<((o:Nat):Int):=of_decide_eq_true hc
   by_cases h6:kind≤6
   ·rw[if_pos h6] at k ho
    rw[if_pos (by omega)] at k
    exact k H s0
   ·rw[if_neg h6] at k ho
    rw[if_pos (by omega)] at k
    exact k H s0
  ·have hc: ¬((p.n:Nat):Int)<((o:Nat):Int):=fun z=>hc (decide_eq_true z)
   by_cases h6:kind≤6
   ·rw[if_pos h6] at k ho
    rw[if_neg (by omega),ho] at k
    refine ⟨_,rfl,_,rfl,_,rfl,H0,R,p, .aq,o, [],l,rfl,s0,hI,hp,hS,hP,(by show 0+o≤_;omega),k.seq fun ys l1 H1 ey s1 st1 k1 hP1=>?_⟩
    have hyl:=eK ey
    have hyl:ys.length=o:=by rw[hyl];show 0+o=o;omega
    refine ⟨_,rfl,_,_,rfl,rfl,_,rfl,?_⟩
    rw[decide_eq_true (show ((kind:Nat):Int)<7 by omega)]
    refine bf ⟨_,rfl,o,rfl,ho4,fun ga H2 hga s2 hG=>?_⟩
    have hx2:=s2 _ _ hP1.1
    refine ⟨_,rfl,p.x,A.aV,p.dx,_,rfl,hx2,T.bP,T.o9,(by show 5<1000;decide),?_⟩
    rw[yx]
    have htx:=hP1.ne
    have hP3:bz A (upd H2 p.x (.ins A.aV p.dx (dQ (.int p.wd) (.int p.z) p.pn (.ref ga) (.ref p.t)))) p (.ref ga) ys.reverse:=⟨ao,by rw[aB htx];exact s2 _ _ hP1.2.1,hP1.2.2⟩
    have s3:ae H0 (upd H2 p.x (.ins A.aV p.dx (dQ (.int p.wd) (.int p.z) p.pn (.ref ga) (.ref p.t)))):=fH (s1.trans s2) hp.1.1
    have st3:aU A.aE (upd H2 p.x (.ins A.aV p.dx (dQ (.int p.wd) (.int p.z) p.pn (.ref ga) (.ref p.t)))) R l1:=by
     have n1:=jR st1 hP1
     obtain ⟨i,ei,hi,hxr⟩:=st1
     exact ⟨i,ei,hi,by rw[aB (fun z=>n1 (by rw[z];simp))];exact s2 _ _ hxr⟩
    have hG3:=hG.same (GN (o:= .ins A.aV p.dx (dQ (.int p.wd) (.int p.z) p.pn (.ref ga) (.ref p.t))) st1 hP1 H2)
    obtain ⟨fl,fb⟩:=JW ho4
    have:=vx (Qn:=fun H'=>Q .aq H') hI hp s3 st3 hP3 hG3 fb ⟨by rw[List.length_reverse,fl,hyl],by omega⟩ (by rw[List.reverse_reverse,fl];exact k1)
    rw[fl] at this
    exact ⟨_,rfl,_,rfl,_,rfl,_,rfl,this⟩
   ·rw[if_neg h6] at k ho
    rw[if_neg (by omega),ho] at k
    refine ⟨_,rfl,_,rfl,_,rfl,H0,R,p, .aq,o, [],l,rfl,s0,hI,hp,hS,hP,(by show 0+o≤_;omega),k.seq fun ys l1 H1 ey s1 st1 k1 hP1=>?_⟩
    have hyl:=eK ey
    have hyl:ys.length=o:=by rw[hyl];show 0+o=o;omega
    refine ⟨_,rfl,_,_,rfl,rfl,_,rfl,?_⟩
    rw[decide_eq_false (show¬((kind:Nat):Int)<7 by omega)]
    obtain ⟨px,hx⟩:=st1.obj
    obtain ⟨sh,hIh⟩:=hI.aw s1
    refine bw ⟨_,rfl,R.r,R.dr,_,rfl,hx,rfl,Wg.aw [R.r] H1,R,4,l1,rfl,bG _ _,hIh,st1,by decide,k1.b8 sh fun hh l2 H2 _ s2 st2 k2=>?_⟩
    have hP2:=fq st1 hP1 s2
    have s02:=sh.trans s2
    refine ⟨_,rfl,((o:Nat):Int),rfl,by omega,by omega,fun D hD=>?_⟩
    rw[Int.toNat_natCast]
    have hD0:H0 D=none:=s02.none hD
    refine zT o (by rw[sizeLine_eq];omega) (fun i acc H'=> ∃(as:List Int) (l':Sound.Bits),acc=as.reverse.map V.int∧ae (Wg.aw [R.r] H2) H'∧aU A.aE H' R l'∧as.length=i∧Bd 2048 as∧bq A H0 R ((Sound.takeMany (fun (_:List Int) (l:Sound.Bits)=>Sound.takeS 12 l) (o-i) as l').then_ fun (a:List Int) (l:Sound.Bits)=>dB p.wd p.z p.n p.may o a.reverse hh ys l) (fun acc H'=>(∃g,bz A H' p g acc.reverse)→Q .aq H') E) ?_ ?_ ?_ ?_ ?_
    ·refine ⟨[],l2,rfl,fun b u e=>?_,?_,rfl,(fun x hx=>by cases hx),k2⟩
     ·have:=bG _ _ b u e
      rw[aB (b6 this hD)];exact this
     ·obtain ⟨i,ei,hi,hxr⟩:=st2
      exact ⟨i,ei,hi,by rw[aB (b6 hxr hD)];exact hxr⟩
    ·exact fun i acc H' hi _=>hi
    ·exact fun acc H' _=>Nat.le_refl _
    ·rintro i acc H3 x H3' hi ⟨as,l3,rfl,s3,st3,hl3,hb3,k3⟩ hDx hal ⟨hH3,rfl⟩ C hC
     rw[hH3]
     obtain ⟨px3,hx3⟩:=st3.obj
     rw[show o-i=(o-(i+1))+1 by omega,jj,then_assoc] at k3
     obtain ⟨sh2,_⟩:=hI.aw s02
     obtain ⟨sh3,hIh3⟩:=hI.aw (sh2.trans s3)
     refine ⟨rfl,_,rfl,R.r,R.dr,_,rfl,hx3,rfl,Wg.aw [R.r] H3,R,12,l3,rfl,bG _ _,hIh3,st3,by decide,k3.b8 sh3 fun y l4 H4 ey4 s4 st4 k4=>?_⟩
     have nDr:D≠R.r:=fun z=>by rw[z,hx3] at hDx;cases hDx
     refine hC _ H4 (s4 _ _ (by rw[b9 (by simpa using nDr)];exact hDx)) ⟨y::as,l4,by simp,?_,?_,by rw[List.length_cons,hl3],?_,k4⟩
     ·intro b u e
      have e3:=s3 b u e
      by_cases hb:b=D
      ·subst hb
       have:=bG _ _ _ u e
       rw[hD] at this;cases this
      ·rw[aB hb]
       refine s4 _ _ ?_
       rw[b9 (fun z=>by
        rw[List.mem_singleton.mp z,fB (by simp)] at e;cases e)]
       exact e3
     ·obtain ⟨j,ej,hj,hxr⟩:=st4
      exact ⟨j,ej,hj,by rw[aB (Ne.symm nDr)];exact hxr⟩
     ·intro z hz
      rcases List.mem_cons.mp hz with rfl|hz
      ·exact Bl ey4
      ·exact hb3 z hz
    ·rintro acc H3 ⟨as,l3,rfl,s3,st3,hl3,hb3,k3⟩ hDx hal
     rw[Nat.sub_self] at k3
     have k3:bq A H0 R (dB p.wd p.z p.n p.may o as.reverse hh ys l3) (fun acc H'=>(∃g,bz A H' p g acc.reverse)→Q .aq H') E:=k3
     obtain ⟨sh2,_⟩:=hI.aw s02
     have s03:=sh2.trans s3
     have hP3:=fq st2 hP2 s3
     refine ⟨_,rfl,fun ga dga hga hdga hne=>⟨ga,dga,_,_,rfl,ao,rfl,?_⟩⟩
     rw[fF]
     have s4:ae H3 (upd (upd H3 dga (.own ga)) ga (.ins A.bU dga (gf (.ref D) (.int (hh:Nat))))):=dq hga hdga
     have hG4:upd (upd H3 dga (.own ga)) ga (.ins A.bU dga (gf (.ref D) (.int (hh:Nat)))) ga=some (.ins A.bU dga (gf (.ref D) (.int (hh:Nat)))):=ao
     have hD4:=s4 _ _ hDx
     generalize upd (upd H3 dga (.own ga)) ga (.ins A.bU dga (gf (.ref D) (.int (hh:Nat))))=H4 at*
     have hx4:=s4 _ _ hP3.1
     refine ⟨_,rfl,p.x,A.aV,p.dx,_,rfl,hx4,T.bP,T.o9,(by show 5<1000;decide),?_⟩
     rw[yx]
     have htx:=hP3.ne
     have n1:=jR st3 hP3
     obtain ⟨jr,ejr,hjr,hxr⟩:=id st3
     have gx:ga≠p.x:=fun z=>by rw[z,hP3.1] at hga;cases hga
     have gt:ga≠p.t:=fun z=>by rw[z,hP3.2.1] at hga;cases hga
     have gr:ga≠R.r:=fun z=>by rw[z,hxr] at hga;cases hga
     have Dx:D≠p.x:=fun z=>by rw[z,hP3.1] at hDx;cases hDx
     have Dr:D≠R.r:=fun z=>by rw[z,hxr] at hDx;cases hDx
     have Dt:D≠p.t:=fun z=>by
      have:=hP2.2.1
      rw[←z,hD] at this;cases this
     have hP5:bz A (upd H4 p.x (.ins A.aV p.dx (dQ (.int p.wd) (.int p.z) p.pn (.ref ga) (.ref p.t)))) p (.ref ga) ys.reverse:=⟨ao,by rw[aB htx];exact s4 _ _ hP3.2.1,hP3.2.2⟩
     have s5:ae H0 (upd H4 p.x (.ins A.aV p.dx (dQ (.int p.wd) (.int p.z) p.pn (.ref ga) (.ref p.t)))):=fH (s03.trans s4) hp.1.1
     have st5:aU A.aE (upd H4 p.x (.ins A.aV p.dx (dQ (.int p.wd) (.int p.z) p.pn (.ref ga) (.ref p.t)))) R l3:=⟨jr,ejr,hjr,by rw[aB (fun z=>n1 (by rw[z];simp))];exact s4 _ _ hxr⟩
     have hG5:fx K A.bU (Wg.aw [R.r,p.x,p.t] (upd H4 p.x (.ins A.aV p.dx (dQ (.int p.wd) (.int p.z) p.pn (.ref ga) (.ref p.t))))) ga as.reverse hh:=by
      refine ⟨dga,D,?_,ai.of ?_⟩
      ·rw[b9 (by simp [gr,gx,gt]),aB gx];exact hG4
      ·rw[b9 (by simp [Dr,Dx,Dt]),aB Dx];exact hD4
     have hal2:as.reverse.length=o:=by rw[List.length_reverse,hl3]
     have:=vx (Qn:=fun H'=>Q .aq H') hI hp s5 st5 hP5 hG5 (fun z hz=>hb3 z (List.mem_reverse.mp hz)) ⟨by rw[List.length_reverse,hal2,hyl],by omega⟩ (by rw[List.reverse_reverse,hal2];exact k3)
     rw[hal2] at this
     exact ⟨_,rfl,_,rfl,_,rfl,_,rfl,this⟩
def pX (w:Nat) (l:Sound.Bits):Sound.Got Nat:=(Sound.takeU 1 l).then_ fun (fl:Nat) (l:Sound.Bits)=>if fl=0 then Sound.Got.ok 0 l else (Sound.takeRun (w-1) 0 l).then_ fun (q:Nat) (l:Sound.Bits)=> .ok (q+1) l
def kindS (x n:Nat) (may:Nat→Int→Bool) (z kind:Nat) (l:Sound.Bits):Sound.Got (List Int):=
 if kind=0 then (Sound.takeS x l).then_ fun (y:Int) (l:Sound.Bits)=>if ((List.range n).all fun (i:Nat)=>may i (y*2^z))=true then .ok (List.replicate n y) l else .bad
 else if kind=1 then Sound.takeMany (fv x z may) n [] l else if 10<kind then .bad else fI x z n may kind l
theorem uU (w n:Nat) (may:Nat→Int→Bool) (l:Sound.Bits):Sound.takePart w n may l=(pX w l).then_ fun (z:Nat) (l:Sound.Bits)=>(Sound.takeU 4 l).then_ fun (kind:Nat) (l:Sound.Bits)=>(kindS (w-z) n may z kind l).then_ fun (ys:List Int) (l:Sound.Bits)=> .ok (ys.reverse.map fun (y:Int)=>y*2^z) l:=by
 unfold Sound.takePart pX
 rw[then_assoc]
 congr 1
 funext fl l
 congr 1
 funext z l
 congr 1
 funext kind l
 unfold kindS
 by_cases h0:kind=0
 ·rw[if_pos h0,if_pos h0]
 ·rw[if_neg h0,if_neg h0]
  by_cases h1:kind=1
  ·rw[if_pos h1,if_pos h1];rfl
  ·rw[if_neg h1,if_neg h1]
   by_cases h6:kind≤6
   ·rw[if_pos h6,if_neg (show¬10<kind by omega)]
    unfold fI
    rw[if_pos h6]
    by_cases hn:n<kind-2
    ·rw[if_pos hn,if_pos hn];rfl
    ·rw[if_neg hn,if_neg hn];rfl
   ·rw[if_neg h6]
    by_cases h10:10<kind
    ·rw[if_pos (.inl h10),if_pos h10];rfl
    ·rw[if_neg h10]
     unfold fI
     rw[if_neg h6]
     by_cases hn:n<kind-6
     ·rw[if_pos (.inr hn),if_pos hn];rfl
     ·rw[if_neg (fun z=>z.elim h10 hn),if_neg hn];rfl
theorem zW {m:Nat}: ∀{l:Sound.Bits} {q x:Nat} {r:Sound.Bits},Sound.takeRun m q l= .ok x r→q<m→x<m
 | [],q,x,r,h,hq=>by unfold Sound.takeRun at h;cases h
 |true::l,q,x,r,h,hq=>by unfold Sound.takeRun at h;cases h;exact hq
 |false::l,q,x,r,h,hq=>by
  have e:Sound.takeRun m q (false::l)=if m≤q+1 then .bad else Sound.takeRun m (q+1) l:=rfl
  rw[e] at h
  split at h
  ·cases h
  ·exact zW h (by omega)
theorem B2 {w:Nat} {l:Sound.Bits} {z:Nat} {r:Sound.Bits} (h:pX w l= .ok z r) (hw:2≤w):z<w:=by
 unfold pX at h
 cases e1:Sound.takeU 1 l with
 |ok fl l1=>
  rw[e1] at h
  have h:(if fl=0 then Sound.Got.ok 0 l1 else (Sound.takeRun (w-1) 0 l1).then_ fun (q:Nat) (l:Sound.Bits)=> .ok (q+1) l)= .ok z r:=h
  split at h
  ·cases h;omega
  ·cases e2:Sound.takeRun (w-1) 0 l1 with
   |ok q l2=>
    rw[e2] at h
    cases h
    have:=zW e2 (by omega)
    omega
   |bad=>rw[e2] at h;cases h
   |short=>rw[e2] at h;cases h
 |bad=>rw[e1] at h;cases h
 |short=>rw[e1] at h;cases h
theorem ze {w z n p r:Nat} {a:List Int} {h:Nat} {may:Nat→Int→Bool}: ∀{k i:Nat} {ys xs:List Int} {l l':Sound.Bits},Sound.takeGroups w z n p r a h may k i ys l= .ok xs l'→xs.length≤ys.length+k*n
 |0,i,ys,xs,l,l',e=>by unfold Sound.takeGroups at e;cases e;omega
 |k+1,i,ys,xs,l,l',e=>by
  rw[pF] at e
  cases e1:fR w z may a h (n/2^r-(if i=0 then p else 0)) ys l with
  |ok ys1 l1=>
   rw[e1] at e
   have h1:=pM e1
   have h2:=ze (show Sound.takeGroups w z n p r a h may k (i+1) ys1 l1= .ok xs l' from e)
   have h3:n/2^r≤n:=Nat.div_le_self _ _
   rw[Nat.add_mul,Nat.one_mul]
   omega
  |bad=>rw[e1] at e;cases e
  |short=>rw[e1] at e;cases e
theorem xk {w z n:Nat} {may:Nat→Int→Bool} {p:Nat} {a:List Int} {h:Nat} {ys xs:List Int} {l l':Sound.Bits} (e:dB w z n may p a h ys l= .ok xs l'):xs.length≤ys.length+64*n:=by
 unfold dB at e
 cases e1:Sound.takeU 3 l with
 |ok r l1=>
  rw[e1] at e
  have e:(if 6<r∨Sound.mayCut n p r=false then (.bad:Sound.Got (List Int)) else Sound.takeGroups w z n p r a h may (2^r) 0 ys l1)= .ok xs l':=e
  split at e
  ·cases e
  ·rename_i hr
   have h1:=ze e
   have h2:2^r≤64:=Nat.le_trans (Nat.pow_le_pow_right (by decide) (show r≤6 from Nat.le_of_not_lt fun z=>hr (.inl z))) (by decide)
   have h3:=Nat.mul_le_mul_right n h2
   omega
 |bad=>rw[e1] at e;cases e
 |short=>rw[e1] at e;cases e
theorem Ir {x z n:Nat} {may:Nat→Int→Bool} {kind:Nat} {l l':Sound.Bits} {xs:List Int} (e:fI x z n may kind l= .ok xs l') (hn:n≤256):xs.length≤100000:=by
 have go: ∀{o:Nat} {f:List Int→Sound.Bits→Sound.Got (List Int)},(∀ys l,f ys l= .ok xs l'→xs.length≤ys.length+64*n)→o≤n→(Sound.takeMany (fv x z may) o [] l).then_ f= .ok xs l'→xs.length≤100000:=fun {o f} hf ho e=>by
  cases e1:Sound.takeMany (fv x z may) o [] l with
  |ok ys l1=>
   rw[e1] at e
   have h1:=eK e1
   have h2:=hf ys l1 e
   have h1:ys.length=0+o:=h1
   omega
  |bad=>rw[e1] at e;cases e
  |short=>rw[e1] at e;cases e
 unfold fI at e
 split at e
 ·split at e
  ·cases e
  ·rename_i h
   exact go (fun ys l h=>xk h) (by omega) e
 ·split at e
  ·cases e
  ·rename_i h
   refine go (fun ys l h=>?_) (by omega) e
   cases e1:Sound.takeU 4 l with
   |ok hh l1=>
    rw[e1] at h
    have h:((Sound.takeMany (fun (_:List Int) (l:Sound.Bits)=>Sound.takeS 12 l) (kind-6) [] l1).then_ fun (a:List Int) (l:Sound.Bits)=>dB x z n may (kind-6) a.reverse hh ys l)= .ok xs l':=h
    cases e2:Sound.takeMany (fun (_:List Int) (l:Sound.Bits)=>Sound.takeS 12 l) (kind-6) [] l1 with
    |ok a l2=>
     rw[e2] at h
     exact xk h
    |bad=>rw[e2] at h;cases h
    |short=>rw[e2] at h;cases h
   |bad=>rw[e1] at h;cases h
   |short=>rw[e1] at h;cases h
def BB (K:PySem.W.Frag) (A:aK):Sp:=fun vs H Q E=> ∃(H0:Hp) (R:bt) (wd n:Nat) (pn:V) (may:Nat→Int→Bool) (l:Sound.Bits),vs= [.ref R.r, .int n, .int wd,pn]∧ae H0 H∧bX K H0 R∧fZ K A H0 pn n may∧aU A.aE H R l∧(2≤wd∧wd≤25∧n≤256)∧
 bq A H0 R (Sound.takePart wd n may l) (fun ys H'=> ∀D,H0 D=none→H' D=some (.lst (ys.map V.int))→Q (.ref D) H') E
theorem iI:aI ["reader", "n", "width", "partner", "part", "kind", "number", "place"] ["reader", "n", "width", "partner"] (aD wH):=⟨rfl,rfl,rfl,by decide+kernel,rfl,by decide+kernel,by decide+kernel⟩
theorem vK {n:Nat} {f:Nat→Bool}:((List.range n).all f)=true↔ ∀i,i<n→f i=true:=by
 rw[List.all_eq_true]
 exact ⟨fun h i hi=>h i (List.mem_range.mpr hi),fun h i hi=>h i (List.mem_range.mp hi)⟩
theorem rG (T:Txt K mg A):az P w K mg base (aO P w) 9 A.lx A.jF ["reader", "n", "width", "partner"] (BB K A):=by
 refine T.oJ.bF iI (fun vs H Q E h=>?_) (fun cdv Ar outer s H vs Q E hr h=>?_)
 ·obtain ⟨H0,R,wd,n,pn,may,l,rfl,_⟩:=h
  rfl
 ·obtain ⟨H0,R,wd,n,pn,may,l,rfl,s0,hI,hM,hS,⟨hw1,hw2,hn⟩,k⟩:=h
  have hr1':aC 1 _:=hr.mono (by decide)
  have hr2':aC 2 _:=hr.mono (by decide)
  have hr3':aC 3 _:=hr.mono (by decide)
  have hr4':aC 4 _:=hr.mono (by decide)
  refine ⟨_,ag (aF (i:=4) iI.nd rfl (Or.inr rfl) (eS T.CZ (BU T) hr2' rfl T.Kj T.Cr .nil bo (aa (pv 2) (aa (bc (G9 T) hr3' rfl T.IV T.Ad.kp T.KC .nil aH (aa (pv 0) (aa (pv 2) af))) (aa (pv 3) af)))))
   (ag (aF (i:=5) iI.nd rfl (Or.inl rfl) (aL (pv 0) T.bD T.dk (dc T) hr1' T.cW .nil aH (aa ak af)))
   (ag (a9 (aY cO (pv 5) (a8 rfl T.Cw) (aP _)) (ah (dn rfl rfl T.dE T.dw.exc dA)) bh)
   (ag (a9 (aY cI (pv 5) (a8 rfl T.Ci) (aP _))
    (ag (aF (i:=6) iI.nd rfl (Or.inl rfl) (aL (pv 0) T.bD T.pK (nU T) hr2' T.pS .nil aH (aa (ay (pv 4) rfl) af)))
    (ah (cq PassesOwn.leaving rfl (d7 rfl T.dN (aa (pv 1) af)) (bH (i:=7) iI.nd rfl (Or.inl rfl)) (ah (bp (aL (pv 4) T.bP T.tT (sC T) hr3' T.rf .nil aH (aa (pv 6) af)))))))
    (ah (a9 (aY cI (pv 5) (a8 rfl T.FG) (aP _)) (ah (bp (bc (yy T) hr4' rfl T.zY T.qs.kp T.AB .nil aH (aa (pv 0) (aa (pv 1) (aa (pv 4) af))))))
     (ah (bp (bc (Ip T) hr rfl T.Bg T.vA.kp T.ER .nil aH (aa (pv 0) (aa (pv 1) (aa (pv 5) (aa (pv 4) af))))))))))
   (ah (aR (iz (own:= [("number",6)]) rfl iI.nd (dI (ay (pv 4) rfl)) (fc (by kernel_rfl)) (fun _ _ _ _ _=>bH (i:=6) iI.nd rfl (Or.inl rfl)) (fun _ _ _ _ _=>e9) (fun _ _ _ _ _=>ax ib (pv 6) (AL (K:=K) rfl (pv 4) rfl)))))))),?_⟩
  have e62:(2:Int)^62=4611686018427387904:=by decide
  rw[uU] at k
  refine ⟨_,rfl,_,rfl,_,rfl,H0,R,wd,l,rfl,s0,hI,hS,hw1,k.seq fun z l1 H1 ez s1 st1 k1=>⟨_,rfl,fun x dx hx hdx hne=>?_⟩⟩
  have hzw:=B2 ez hw1
  refine ⟨x,dx,_,_,_,rfl,ao,fun t H2 ht hk hx2 ht2=>⟨rfl,?_⟩⟩
  have sm:=dq (o:= .own x) (u:= .ins A.aV dx []) hx hdx
  have s12:ae H1 H2:=fun b o e=>hk b o (sm b o e) (b6 e hx)
  have s2:=s1.trans s12
  have ht1:H1 t=none:=sm.none ht
  rw[show ((wd:Nat):Int)-((z:Nat):Int)=((wd-z:Nat):Int) by omega] at hx2
  obtain ⟨p,hpx,hpd,hpt,hpw,hpz,hpn,hpp,hpm⟩: ∃p:cC,p.x=x∧p.dx=dx∧p.t=t∧p.wd=wd-z∧p.z=z∧p.n=n∧p.pn=pn∧p.may=may:=⟨⟨x,dx,t,wd-z,z,n,pn,may⟩,rfl,rfl,rfl,rfl,rfl,rfl,rfl,rfl⟩
  have hP2:bz A H2 p .aq []:=⟨by rw[hpx,hpd,hpw,hpz,hpp,hpt];exact hx2,by rw[hpt];exact ht2,fun y hy=>by cases hy⟩
  have hp:dO K A H0 p:=⟨⟨by rw[hpx];exact s1.none hx,by rw[hpt];exact s1.none ht1⟩,by rw[hpp,hpn,hpm];exact hM,by omega⟩
  have st2:aU A.aE H2 R l1:=by
   obtain ⟨i,ei,hi,hxr⟩:=st1
   exact ⟨i,ei,hi,s12 _ _ hxr⟩
  clear hx2 ht2 hk sm
  subst hpx hpd hpt hpz hpn hpp hpm
  rw[←hpw] at k1
  obtain ⟨px,hxr⟩:=st2.obj
  obtain ⟨sh,hIh⟩:=hI.aw s2
  refine ⟨_,rfl,R.r,R.dr,_,rfl,hxr,rfl,Wg.aw [R.r] H2,R,4,l1,rfl,bG _ _,hIh,st2,by decide,k1.b8 sh fun kind l2 H3 _ s3 st3 k3=>?_⟩
  have hP3:=fq st2 hP2 s3
  have s03:=sh.trans s3
  have fin: ∀(v6 v7:Option V) (H':Hp) (acc:List Int) (g:V) (l':Sound.Bits),ae H0 H'→aU A.aE H' R l'→bz A H' p g acc.reverse→acc.length≤100000→bq A H0 R (.ok (acc.reverse.map fun (y:Int)=>y*2^p.z) l':Sound.Got (List Int)) (fun ys H'=> ∀D,H0 D=none→H' D=some (.lst (ys.map V.int))→Q (.ref D) H') E→
    sr (fV (pk K (ja K (eD 4) "taken")) (gA 6) jk (fg (rI qd fun i j=> .int (i*2^j.toNat)) (eD 6) (ja K (eD 4) "z")) [6]) {nx:=fun x H'=>Q V.aq H',rt:=Q} [some (.ref R.r),some (.int (p.n:Nat)),some (.int (wd:Nat)),some p.pn,some (.ref p.x),some (.int (kind:Nat)),v6,v7] H':=fun v6 v7 H' acc g l' sF stF hPF hal kF=>by
   refine ⟨_,rfl,p.x,A.aV,p.dx,_,_,rfl,hPF.1,T.bP,T.iU,rfl,p.t,rfl,⟨_,ai.of hPF.2.1⟩,fun D hD=>?_⟩
   refine gX (J:=eF K p.t) hD acc.reverse.length (by rw[List.length_reverse,sizeLine_eq];omega) (fun i=> .int (acc.reverse.getD i 0*2^p.z)) (fun i Hh hi t1=>⟨_,_,t1.seq (ai.of hPF.2.1),iY hi⟩) (fun Hh t1=>⟨_,t1.seq (ai.of hPF.2.1),by rw[List.length_map];exact Nat.le_refl _⟩) ?_ ?_
   ·rintro i Hh y H5 hi t1 ⟨rfl,hy⟩ C hC
    obtain ⟨rfl,_⟩:=pY (hy _ (t1.seq (ai.of hPF.2.1)))
    have hyf:=hPF.2.2 (acc.reverse.getD i 0) (by rw[List.getD_eq_getElem?_getD,List.getElem?_eq_getElem hi];exact List.getElem_mem hi)
    have hpb:=hp.2.2
    exact ⟨rfl,_,rfl,_,rfl,p.x,A.aV,p.dx,_,_,rfl,t1 _ _ hPF.1,T.bP,T.qJ,rfl,_,_,rfl,rfl,⟨by omega,by omega,zD hyf hpb.2.1⟩,hC _ (ae.refl _)⟩
   ·intro H5 s5 hx5
    have st5:aU A.aE H5 R l':=by
     obtain ⟨i,ei,hi,hxr⟩:=stF
     exact ⟨i,ei,hi,s5 _ _ hxr⟩
    refine kF H5 (sF.trans s5) st5 D (sF.none hD) (hx5.trans ?_)
    congr 2
    rw[List.map_map]
    refine List.ext_getElem (by simp) fun i h1 h2=>?_
    simp at h2
    simp [List.getD_eq_getElem?_getD,List.getElem?_eq_getElem (show i<acc.reverse.length by rw[List.length_reverse];exact h2)]
  refine ⟨_,rfl,_,_,rfl,rfl,_,rfl,?_⟩
  unfold kindS at k3
  have hpb:=hp.2.2
  refine bL (fun hc=>?_) fun hc10=>?_
  ·have hc:(10:Int)<((kind:Nat):Int):=of_decide_eq_true hc
   rw[if_neg (by omega),if_neg (by omega),if_pos (by omega)] at k3
   exact k3 H3 s03
  ·have hc10: ¬(10:Int)<((kind:Nat):Int):=fun z=>hc10 (decide_eq_true z)
   refine ⟨_,rfl,rfl,_,rfl,?_⟩
   have e0:=f9 kind 0
   refine bL (fun hc0=>?_) fun hc0=>?_
   ·have hc0:kind=0:=of_decide_eq_true (e0.symm.trans hc0)
    rw[if_pos hc0,then_assoc] at k3
    obtain ⟨px3,hx3⟩:=st3.obj
    obtain ⟨sh3,hIh3⟩:=hI.aw s03
    refine ⟨_,rfl,R.r,R.dr,_,rfl,hx3,rfl,_,rfl,p.x,A.aV,p.dx,_,_,rfl,hP3.1,T.bP,T.pB,rfl,Wg.aw [R.r] H3,R,p.wd,l2,rfl,bG _ _,hIh3,st3,by omega,k3.b8 sh3 fun y l4 H4 ey s4 st4 k4=>?_⟩
    have hP4:=fq st3 hP3 s4
    have s04:=sh3.trans s4
    have hfy:=xK ey hpb.1
    refine ⟨_,rfl,((p.n:Nat):Int),rfl,by omega,by omega,?_⟩
    rw[Int.toNat_natCast]
    refine eR (lo:=0) (n:=p.n) (fun i σ H'=>(ae H0 H'∧aU A.aE H' R l4∧bz A H' p .aq (List.replicate i y)∧ ∀j,j<i→p.may j (y*2^p.z)=true)∧ ∃v7:Option V,σ= [some (.ref R.r),some (.int (p.n:Nat)),some (.int (wd:Nat)),some p.pn,some (.ref p.x),some (.int (kind:Nat)),some (.int y),v7]) ⟨⟨s04,st4,hP4,fun j hj=>by omega⟩,none,rfl⟩ ?_ ?_
    ·rintro i σ H5 hi ⟨⟨s5,st5,hP5,hall⟩,v7,rfl⟩
     obtain ⟨s6,hp6⟩:=hp.aw s5
     refine ⟨_,rfl,p.x,p.dx,_,rfl,hP5.1,rfl,_,rfl,Wg.aw [p.x,p.t] H5,p.x,p.dx,p.t,p.wd,p.z,p.n,p.pn, .aq,List.replicate i y,p.may,y,rfl,bG _ _,hp6.1,hP5,hp6.2.1,⟨hpb.1,hpb.2.1,hpb.2.2.1,by rw[List.length_replicate];exact hi,hpb.2.2.2⟩,?_⟩
     rw[hfy,Bool.true_and,List.length_replicate]
     by_cases hm:p.may i (y*2^p.z)=true
     ·rw[if_pos hm]
      refine fun H6 s7 hP6=>⟨⟨s6.trans s7,st5.aw hP5 s7,?_,fun j hj=>?_⟩,some (.int (0+(i:Nat))),rfl⟩
      ·rw[List.replicate_succ'];exact hP6
      ·rcases (by omega:j<i∨j=i) with q|rfl
       ·exact hall j q
       ·exact hm
     ·rw[if_neg hm]
      rw[if_neg (fun z=>hm (vK.mp z i hi))] at k4
      exact fun H6 s7=>k4 H6 (s6.trans s7)
    ·rintro σ H5 ⟨⟨s5,st5,hP5,hall⟩,v7,rfl⟩
     rw[if_pos (vK.mpr hall)] at k4
     exact fin _ _ H5 (List.replicate p.n y) .aq l4 s5 st5 (by rw[List.reverse_replicate];exact hP5) (by rw[List.length_replicate];omega) k4
   ·have n0: ¬kind=0:=fun z=>hc0 (e0.trans (decide_eq_true z))
    rw[if_neg n0] at k3
    refine ⟨_,rfl,rfl,_,rfl,?_⟩
    have e1:=f9 kind 1
    refine bL (fun hc1=>?_) fun hc1=>?_
    ·have hc1:kind=1:=of_decide_eq_true (e1.symm.trans hc1)
     rw[if_pos hc1] at k3
     refine ⟨_,rfl,_,rfl,_,rfl,H0,R,p, .aq,p.n, [],l2,rfl,s03,hI,hp,st3,hP3,(by show 0+p.n≤_;omega),k3.seq fun ys l4 H4 ey s4 st4 k4 hP4=>?_⟩
     have hyl:=eK ey
     exact fin _ _ H4 ys .aq l4 s4 st4 hP4 (by rw[hyl];show 0+p.n≤_;omega) k4
    ·have n1: ¬kind=1:=fun z=>hc1 (e1.trans (decide_eq_true z))
     rw[if_neg n1,if_neg (by omega)] at k3
     refine ⟨_,rfl,_,rfl,_,rfl,_,rfl,H0,R,p,kind,l2,rfl,s03,hI,hp,st3,hP3,⟨by omega,by omega⟩,k3.seq fun ys l4 H4 ey s4 st4 k4 ⟨g,hP4⟩=>?_⟩
     exact fin _ _ H4 ys g l4 s4 st4 hP4 (Ir ey hn) k4
theorem xB {w z n p r:Nat} {a:List Int} {h:Nat} {may:Nat→Int→Bool}: ∀{k i:Nat} {ys xs:List Int} {l l':Sound.Bits},Sound.takeGroups w z n p r a h may k (i+1) ys l= .ok xs l'→xs.length=ys.length+k*(n/2^r)
 |0,i,ys,xs,l,l',e=>by unfold Sound.takeGroups at e;cases e;omega
 |k+1,i,ys,xs,l,l',e=>by
  rw[pF,if_neg (by omega),Nat.sub_zero] at e
  cases e1:fR w z may a h (n/2^r) ys l with
  |ok ys1 l1=>
   rw[e1] at e
   have h1:=pM e1
   have h2:=xB (show Sound.takeGroups w z n p r a h may k (i+1+1) ys1 l1= .ok xs l' from e)
   rw[Nat.add_mul,Nat.one_mul]
   omega
  |bad=>rw[e1] at e;cases e
  |short=>rw[e1] at e;cases e
theorem wx {w z n:Nat} {may:Nat→Int→Bool} {p:Nat} {a:List Int} {h:Nat} {ys xs:List Int} {l l':Sound.Bits} (e:dB w z n may p a h ys l= .ok xs l') (hy:ys.length=p):xs.length=n:=by
 unfold dB at e
 cases e1:Sound.takeU 3 l with
 |ok r l1=>
  rw[e1] at e
  have e:(if 6<r∨Sound.mayCut n p r=false then (.bad:Sound.Got (List Int)) else Sound.takeGroups w z n p r a h may (2^r) 0 ys l1)= .ok xs l':=e
  split at e
  ·cases e
  ·rename_i hr
   have hmc:n%2^r=0∧p≤n/2^r:=by
    have:Sound.mayCut n p r=true:=by
     cases q:Sound.mayCut n p r with
     |true=>rfl
     |false=>exact absurd (.inr q) hr
    unfold Sound.mayCut at this
    rw[Bool.and_eq_true,beq_iff_eq,decide_eq_true_eq] at this
    exact this
   have hdiv:n/2^r*2^r=n:=Nat.div_mul_cancel (Nat.dvd_of_mod_eq_zero hmc.1)
   have h2p:0<2^r:=Nat.two_pow_pos r
   obtain ⟨m,hm⟩: ∃m,2^r=m+1:=⟨2^r-1,by omega⟩
   rw[hm,pF,if_pos rfl] at e
   cases e2:fR w z may a h (n/2^r-p) ys l1 with
   |ok ys1 l2=>
    rw[e2] at e
    have h1:=pM e2
    have h2:=xB (show Sound.takeGroups w z n p r a h may m (0+1) ys1 l2= .ok xs l' from e)
    have hdiv2:(m+1)*(n/2^r)=n:=by rw[←hm,Nat.mul_comm];exact hdiv
    rw[Nat.add_mul,Nat.one_mul] at hdiv2
    have hp:=hmc.2
    generalize n/2^r=sz at*
    omega
   |bad=>rw[e2] at e;cases e
   |short=>rw[e2] at e;cases e
 |bad=>rw[e1] at e;cases e
 |short=>rw[e1] at e;cases e
theorem DX {x z n:Nat} {may:Nat→Int→Bool} {kind:Nat} {l l':Sound.Bits} {xs:List Int} (e:fI x z n may kind l= .ok xs l'):xs.length=n:=by
 have go: ∀{o:Nat} {f:List Int→Sound.Bits→Sound.Got (List Int)},(∀ys l,ys.length=o→f ys l= .ok xs l'→xs.length=n)→(Sound.takeMany (fv x z may) o [] l).then_ f= .ok xs l'→xs.length=n:=fun {o f} hf e=>by
  cases e1:Sound.takeMany (fv x z may) o [] l with
  |ok ys l1=>
   rw[e1] at e
   have h1:=eK e1
   exact hf ys l1 (by rw[h1];show 0+o=o;omega) e
  |bad=>rw[e1] at e;cases e
  |short=>rw[e1] at e;cases e
 unfold fI at e
 split at e
 ·split at e
  ·cases e
  ·exact go (fun ys l hy h=>wx h hy) e
 ·split at e
  ·cases e
  ·refine go (fun ys l hy h=>?_) e
   cases e1:Sound.takeU 4 l with
   |ok hh l1=>
    rw[e1] at h
    have h:((Sound.takeMany (fun (_:List Int) (l:Sound.Bits)=>Sound.takeS 12 l) (kind-6) [] l1).then_ fun (a:List Int) (l:Sound.Bits)=>dB x z n may (kind-6) a.reverse hh ys l)= .ok xs l':=h
    cases e2:Sound.takeMany (fun (_:List Int) (l:Sound.Bits)=>Sound.takeS 12 l) (kind-6) [] l1 with
    |ok a l2=>
     rw[e2] at h
     exact wx h hy
    |bad=>rw[e2] at h;cases h
    |short=>rw[e2] at h;cases h
   |bad=>rw[e1] at h;cases h
   |short=>rw[e1] at h;cases h
theorem cn {α β:Type} {g:Sound.Got α} {f:α→Sound.Bits→Sound.Got β} {y:β} {r:Sound.Bits} (h:g.then_ f= .ok y r): ∃x l,g= .ok x l∧f x l= .ok y r:=by
 cases g with
 |ok x l=>exact ⟨x,l,rfl,h⟩
 |bad=>cases h
 |short=>cases h
theorem lF {w n:Nat} {may:Nat→Int→Bool} {l l':Sound.Bits} {ys:List Int} (e:Sound.takePart w n may l= .ok ys l'):ys.length=n:=by
 rw[uU] at e
 obtain ⟨z,l1,_,e⟩:=cn e
 obtain ⟨kind,l2,_,e⟩:=cn e
 obtain ⟨xs,l3,e3,e⟩:=cn e
 cases e
 rw[List.length_map,List.length_reverse]
 unfold kindS at e3
 split at e3
 ·obtain ⟨y,l4,_,e4⟩:=cn e3
  split at e4
  ·cases e4;rw[List.length_replicate]
  ·cases e4
 ·split at e3
  ·have:=eK e3
   rw[this];show 0+n=n;omega
  ·split at e3
   ·cases e3
   ·exact DX e3
def iZ (d n m:Nat) (l:Sound.Bits):Sound.Got (List (Int×Int)):=(Sound.takePart (ie m d) n (fun _ _=>true) l).then_ fun (a:List Int) (l:Sound.Bits)=>(Sound.takePart (iP m d) n (ji m d a) l).then_ fun (b:List Int) (l:Sound.Bits)=> .ok (List.zipWith (Sound.unpair m) a b) l
def Kb (K:PySem.W.Frag) (A:aK):Sp:=fun vs H Q E=> ∃(H0:Hp) (R:bt) (d n m:Nat) (l:Sound.Bits),vs= [.int d, .int n, .int m, .ref R.r]∧ae H0 H∧bX K H0 R∧aU A.aE H R l∧(4≤d∧d≤24∧m<4∧n≤256)∧
 bq A H0 R (iZ d n m l) (fun ps H'=> ∀D a b,(H0 D=none∧H0 a=none∧H0 b=none)→H' D=some (.lst [.ref a, .ref b])→H' a=some (.lst ((ps.map fun x=>x.1).map V.int))→H' b=some (.lst ((ps.map fun x=>x.2).map V.int))→Q (.ref D) H') E
theorem eT:aI ["depth", "n", "mode", "reader", "first", "partner", "second", "pairs", "x", "y", "pair"] ["depth", "n", "mode", "reader"] (aD zI):=⟨rfl,rfl,rfl,by decide+kernel,rfl,by decide+kernel,by decide+kernel⟩
theorem aU.same {H H':Hp} {R:bt} {l:Sound.Bits} (h:aU A.aE H R l) (s:ae H H'):aU A.aE H' R l:=by
 obtain ⟨i,ei,hi,hxr⟩:=h
 exact ⟨i,ei,hi,s _ _ hxr⟩
theorem Ka (T:Txt K mg A):az P w K mg base (aO P w) 10 A.m7 A.mw ["depth", "n", "mode", "reader"] (Kb K A):=by
 refine T.xc.bF eT (fun vs H Q E h=>?_) (fun cdv Ar outer s H vs Q E hr h=>?_)
 ·obtain ⟨H0,R,d,n,m,l,rfl,_⟩:=h
  rfl
 ·obtain ⟨H0,R,d,n,m,l,rfl,s0,hI,hS,⟨hd1,hd2,hm,hn⟩,k⟩:=h
  have hr1':aC 1 _:=hr.mono (by decide)
  have hr2':aC 2 _:=hr.mono (by decide)
  refine ⟨_,ag (aF (i:=4) eT.nd rfl (Or.inl rfl) (bc (rG T) hr rfl T.sk T.oJ.kp T.si .nil aH (aa (pv 3) (aa (pv 1) (aa (bc (Lq T) hr1' rfl T.GI T.wV.kp T.CJ .nil bo (aa (pv 2) (aa (pv 0) af))) (aa eu af))))))
   (ag (aF (i:=5) eT.nd rfl (Or.inl rfl) (eS T.LH (LI T) hr2' rfl T.LN T.Ki .nil bo (aa (pv 2) (aa (pv 0) (aa (pv 4) af)))))
   (ag (aF (i:=6) eT.nd rfl (Or.inl rfl) (bc (rG T) hr rfl T.sk T.oJ.kp T.si .nil aH (aa (pv 3) (aa (pv 1) (aa (bc (K8 T) hr1' rfl T.BN T.vy.kp T.Jk .nil bo (aa (pv 2) (aa (pv 0) af))) (aa (pv 5) af))))))
   (ag (Gx (i:=7) (own:= [("x",8),("y",9)]) rfl eT.nd rfl rfl rfl (JA rfl T.yn (aa (pv 4) (aa (pv 6) af))) (fc (by kernel_rfl))
    (fun _ _ _ _ _=>yT (K:=K) (n:=2) rfl rfl (pC (bH (i:=8) eT.nd rfl (Or.inl rfl)) (pC (bH (i:=9) eT.nd rfl (Or.inl rfl)) xO))) (fun _ _ _ _ _=>e9)
    (fun _ _ _ _ _=>bc (wU T) hr1' rfl T.uE T.rl.kp T.z9 .nil bo (aa (pv 2) (aa (pv 8) (aa (pv 9) af)))))
   (ah (aR (cJ (aa (iz (own:= [("pair",10)]) rfl eT.nd (dI (pv 7)) (fc (by kernel_rfl)) (fun _ _ _ _ _=>bH (i:=10) eT.nd rfl (Or.inl rfl)) (fun _ _ _ _ _=>e9) (fun _ _ _ _ _=>bZ (p6 (K:=K) rfl) (pv 10) ak (fun _ _=>rfl)))
    (aa (iz (own:= [("pair",10)]) rfl eT.nd (dI (pv 7)) (fc (by kernel_rfl)) (fun _ _ _ _ _=>bH (i:=10) eT.nd rfl (Or.inl rfl)) (fun _ _ _ _ _=>e9) (fun _ _ _ _ _=>bZ (p6 (K:=K) rfl) (pv 10) ak (fun _ _=>rfl))) af)))))))),?_⟩
  have hw1:2≤ie m d∧ie m d≤25:=by unfold ie;split<;>omega
  have hw2:2≤iP m d∧iP m d≤25:=by unfold iP;split<;>omega
  unfold iZ at k
  refine ⟨_,rfl,_,rfl,_,rfl,_,rfl,m,d,rfl,H0,R,ie m d,n, .aq,_,l,rfl,s0,hI, .inl ⟨rfl,rfl⟩,hS,⟨hw1.1,hw1.2,hn⟩,k.seq fun a l1 H1 ea s1 st1 k1 D1 hD1 hx1=>?_⟩
  have hal:=lF ea
  refine ⟨_,rfl,_,rfl,_,rfl,fun pa dpa hpa hdpa hne=>⟨pa,dpa,_,_,_,rfl,ao,rfl,?_⟩⟩
  rw[fF]
  have s2:ae H1 (upd (upd H1 dpa (.own pa)) pa (.ins A.b7 dpa (jt (.int (m:Nat)) (.int (d:Nat)) (.ref D1)))):=dq hpa hdpa
  have hpa2:upd (upd H1 dpa (.own pa)) pa (.ins A.b7 dpa (jt (.int (m:Nat)) (.int (d:Nat)) (.ref D1))) pa=some (.ins A.b7 dpa (jt (.int (m:Nat)) (.int (d:Nat)) (.ref D1))):=ao
  generalize upd (upd H1 dpa (.own pa)) pa (.ins A.b7 dpa (jt (.int (m:Nat)) (.int (d:Nat)) (.ref D1)))=H2 at*
  have s02:=s1.trans s2
  have st2:=st1.same s2
  obtain ⟨sh,hIh⟩:=hI.aw s02
  obtain ⟨ir,hxr⟩:=st2.obj
  have hD12:=s2 _ _ hx1
  have nD:D1≠R.r:=fun z=>by rw[z,hxr] at hD12;cases hD12
  have nP:pa≠R.r:=fun z=>by rw[z,(st1.obj).choose_spec] at hpa;cases hpa
  have hM:fZ K A (Wg.aw [R.r] H2) (.ref pa) n (ji m d a):= .inr ⟨pa,m,d,a,rfl,⟨dpa,D1,by rw[b9 (by simpa using nP)];exact hpa2,ai.of (by rw[b9 (by simpa using nD)];exact hD12)⟩,⟨hm,hd1,hd2,hal⟩,rfl⟩
  refine ⟨_,rfl,_,rfl,_,rfl,_,rfl,m,d,rfl,_,rfl,Wg.aw [R.r] H2,R,iP m d,n, .ref pa,_,l1,rfl,bG _ _,hIh,hM,st2,⟨hw2.1,hw2.2,hn⟩,k1.b8 sh fun b l2 H3 eb s3 st3 k3 D2 hD2 hx3=>?_⟩
  have hbl:=lF eb
  have hD13:H3 D1=some (.lst (a.map V.int)):=s3 _ _ (by rw[b9 (by simpa using nD)];exact hD12)
  have s03:=sh.trans s3
  have q1:ai K H3 D1 (a.map V.int):=ai.of hD13
  have q2:ai K H3 D2 (b.map V.int):=ai.of hx3
  refine ⟨_,rfl,_,rfl,D1,D2,_,_,rfl,q1,q2,fun D hD=>?_⟩
  refine ug (J:=tG K D1 D2) hD n (by rw[sizeLine_eq];omega) (fun i v H'=> ∃t,v= .ref t∧H' t=some (.tup [.int (Sound.unpair m (a.getD i 0) (b.getD i 0)).1, .int (Sound.unpair m (a.getD i 0) (b.getD i 0)).2])) (fun i v H' H'' _ s ⟨t,e,h⟩=>⟨t,e,s _ _ h⟩)
   (fun i Hh hi t1=>⟨_,_,_,_,t1.seq q1,t1.seq q2,iY (by omega),iY (by omega)⟩) (fun Hh t1=>⟨_,_,t1.seq q1,t1.seq q2, .inl (by rw[List.length_map];omega)⟩) ?_ ?_
  ·rintro i Hh z H' hi t1 ⟨lst,hlst⟩ ⟨t,x1,y1,rfl,ht,rfl,hxx,hyy⟩ C hC
   obtain ⟨rfl,_⟩:=pY (hxx _ (t1.seq q1))
   obtain ⟨rfl,_⟩:=pY (hyy _ (t1.seq q2))
   have st:ae Hh (upd Hh t (.tup [V.int (a.getD i 0),V.int (b.getD i 0)])):=aQ ht
   refine ⟨t,_,rfl,aS.of ao,rfl,_,_,rfl,_,_,rfl,rfl,rfl,_,rfl,_,rfl,_,rfl,m,_,_,rfl,hm,fun D5 H5 hD5 s5 hx5=>?_⟩
   refine hC _ H5 (st.trans s5) ⟨D5,rfl,?_⟩
   have n5:D5≠D:=fun z=>by
    have:=st _ _ hlst
    rw[←z,hD5] at this;cases this
   rw[hide_ne n5];exact hx5
  intro H4 xs s4 hxl hxp hDx
  have st4:=st3.same s4
  have s04:=s03.trans s4
  have hD4:ai K H4 D xs:=ai.of hDx
  have zl:(List.zipWith (Sound.unpair m) a b).length=n:=by rw[List.length_zipWith];omega
  have zg: ∀i,i<n→(List.zipWith (Sound.unpair m) a b)[i]?=some (Sound.unpair m (a.getD i 0) (b.getD i 0)):=fun i hi=>by
   rw[List.getElem?_zipWith,List.getElem?_eq_getElem (show i<a.length by omega),List.getElem?_eq_getElem (show i<b.length by omega),List.getD_eq_getElem?_getD,List.getD_eq_getElem?_getD,List.getElem?_eq_getElem (show i<a.length by omega),List.getElem?_eq_getElem (show i<b.length by omega)];rfl
  have item: ∀i,i<n→ ∃t,xs[i]?=some (.ref t)∧H4 t=some (.tup [.int (Sound.unpair m (a.getD i 0) (b.getD i 0)).1, .int (Sound.unpair m (a.getD i 0) (b.getD i 0)).2]):=fun i hi=>by
   have e:=List.getElem?_eq_getElem (l:=xs) (i:=i) (by omega)
   obtain ⟨t,et,ht⟩:=hxp i _ e
   exact ⟨t,by rw[e,et],ht⟩
  have vals: ∀(f:Int×Int→Int),(List.range n).map (fun i=>V.int (f (Sound.unpair m (a.getD i 0) (b.getD i 0))))=((List.zipWith (Sound.unpair m) a b).map f).map V.int:=fun f=>by
   refine List.ext_getElem? fun i=>?_
   by_cases hi:i<n
   ·rw[List.getElem?_map,List.getElem?_range hi,List.getElem?_map,List.getElem?_map,zg i hi];rfl
   ·rw[List.getElem?_eq_none (by rw[List.length_map,List.length_range];omega),List.getElem?_eq_none (by rw[List.length_map,List.length_map,zl];omega)]
  refine ⟨_,rfl,D,rfl,⟨_,hD4⟩,fun E1 hE1=>?_⟩
  refine gX (J:=eF K D) hE1 n (by rw[sizeLine_eq];omega) (fun i=> .int (Sound.unpair m (a.getD i 0) (b.getD i 0)).1) (fun i Hh hi t1=>by
   obtain ⟨t,e,_⟩:=item i hi
   exact ⟨_,_,t1.seq hD4,e⟩) (fun Hh t1=>⟨_,t1.seq hD4,by omega⟩) ?_ ?_
  ·rintro i Hh z H' hi t1 ⟨rfl,hz⟩ C hC
   obtain ⟨t,e,ht⟩:=item i hi
   have ez:=hz _ (t1.seq hD4)
   rw[e] at ez;cases ez
   exact ⟨rfl,_,rfl,t,_,_,_,rfl,rfl,aS.of (t1 _ _ ht),bQ (j:=0) rfl,hC _ (ae.refl _)⟩
  intro H5 s5 hE1x
  rw[vals (fun x=>x.1)] at hE1x
  refine ⟨_,rfl,D,rfl,⟨_,s5.seq hD4⟩,fun E2 hE2=>?_⟩
  refine gX (J:=eF K D) hE2 n (by rw[sizeLine_eq];omega) (fun i=> .int (Sound.unpair m (a.getD i 0) (b.getD i 0)).2) (fun i Hh hi t1=>by
   obtain ⟨t,e,_⟩:=item i hi
   exact ⟨_,_,(s5.trans t1).seq hD4,e⟩) (fun Hh t1=>⟨_,(s5.trans t1).seq hD4,by omega⟩) ?_ ?_
  ·rintro i Hh z H' hi t1 ⟨rfl,hz⟩ C hC
   obtain ⟨t,e,ht⟩:=item i hi
   have ez:=hz _ ((s5.trans t1).seq hD4)
   rw[e] at ez;cases ez
   exact ⟨rfl,_,rfl,t,_,_,_,rfl,rfl,aS.of ((s5.trans t1) _ _ ht),bQ (j:=1) rfl,hC _ (ae.refl _)⟩
  intro H6 s6 hE2x
  rw[vals (fun x=>x.2)] at hE2x
  refine ⟨by rw[sizeLine_eq];show 2≤_;omega,fun D7 hD7=>?_⟩
  have s7:=aQ (o:= .lst [V.ref E1,V.ref E2]) hD7
  have s06:=s04.trans (s5.trans s6)
  exact k3 _ (s06.trans s7) ((st4.same (s5.trans s6)).same s7) D7 E1 E2 ⟨s06.none hD7,s04.none hE1,(s04.trans s5).none hE2⟩ ao (s7 _ _ (s6 _ _ hE1x)) (s7 _ _ hE2x)
def jW (c d b o g s:V):List (Str×V):= [("channels",c),("depth",d),("block",b),("order",o),("group",g),("spare",s)]
def fC (C:Addr) (H:Hp) (f:Addr) (F:Sound.Form):Prop:= ∃dx,H f=some (.ins C dx (jW (.int F.channels) (.int F.depth) (.int F.block) (.int F.order) (.int F.group) (.int F.spare)))
theorem fC.same {C:Addr} {H H':Hp} {f:Addr} {F:Sound.Form} (h:fC C H f F) (s:ae H H'):fC C H' f F:=by
 obtain ⟨dx,h⟩:=h
 exact ⟨dx,s _ _ h⟩
def CM (K:PySem.W.Frag) (C:Addr):Sp:=fun vs H Q _=> ∃(p dx q:Addr) (c d b o g s:Int),vs= [.ref p, .ref q]∧H p=some (.ins C dx [])∧ai K H q [.int c, .int d, .int b, .int o, .int g, .int s]∧Q .aq (upd H p (.ins C dx (jW (.int c) (.int d) (.int b) (.int o) (.int g) (.int s))))
theorem IB:aI ["self", "form"] ["self", "form"] (aD yw):=⟨rfl,rfl,rfl,by decide+kernel,rfl,by decide+kernel,by decide+kernel⟩
theorem Cb (T:Txt K mg A):az P w K mg base bx 1 A.jQ A.kR ["self", "form"] (CM K A.aW):=by
 refine T.B0.ok IB (fun vs H Q E h=>?_) (fun cdv Ar outer s H vs Q E hr h=>?_)
 ·obtain ⟨p,dx,q,c,d,b,o,g,s,rfl,_⟩:=h
  rfl
 ·obtain ⟨p,dx,q,c,d,b,o,g,s,rfl,hp,hq,k⟩:=h
  refine ⟨_,ag (aX (pv 0) (bZ cU (pv 1) ak (fun _ _=>rfl)) rfl) (ag (aX (pv 0) (bZ cU (pv 1) ak (fun _ _=>rfl)) rfl) (ag (aX (pv 0) (bZ cU (pv 1) ak (fun _ _=>rfl)) rfl)
   (ag (aX (pv 0) (bZ cU (pv 1) ak (fun _ _=>rfl)) rfl) (ag (aX (pv 0) (bZ cU (pv 1) ak (fun _ _=>rfl)) rfl) (ah (aX (pv 0) (bZ cU (pv 1) ak (fun _ _=>rfl)) rfl)))))),?_⟩
  have sq: ∀fs,ai K (upd H p (.ins A.aW dx fs)) q [.int c, .int d, .int b, .int o, .int g, .int s]:=fun fs=>by
   rcases hq with (h|⟨ob,h⟩)|h
   ·exact .inl (.inl (by rw[aB (oK h hp (by intro e;cases e))];exact h))
   ·exact .inl (.inr ⟨ob,by rw[aB (oK h hp (by intro e;cases e))];exact h⟩)
   ·exact .inr h
  refine ⟨_,rfl,q,_,_,_,rfl,rfl,hq,bQ (j:=0) rfl,_,rfl,p,A.aW,dx, [],rfl,hp,T.bW,T.i3,(by show 0<1000;decide),?_⟩
  refine ⟨_,rfl,q,_,_,_,rfl,rfl,sq _,bQ (j:=1) rfl,_,rfl,p,A.aW,dx,_,rfl,ao,T.bW,T.sE,(by show 1<1000;decide),?_⟩
  rw[bV]
  refine ⟨_,rfl,q,_,_,_,rfl,rfl,sq _,bQ (j:=2) rfl,_,rfl,p,A.aW,dx,_,rfl,ao,T.bW,T.gG,(by show 2<1000;decide),?_⟩
  rw[bV]
  refine ⟨_,rfl,q,_,_,_,rfl,rfl,sq _,bQ (j:=3) rfl,_,rfl,p,A.aW,dx,_,rfl,ao,T.bW,T.Lm,(by show 3<1000;decide),?_⟩
  rw[bV]
  refine ⟨_,rfl,q,_,_,_,rfl,rfl,sq _,bQ (j:=4) rfl,_,rfl,p,A.aW,dx,_,rfl,ao,T.bW,T.J0,(by show 4<1000;decide),?_⟩
  rw[bV]
  refine ⟨_,rfl,q,_,_,_,rfl,rfl,sq _,bQ (j:=5) rfl,_,rfl,p,A.aW,dx,_,rfl,ao,T.bW,T.FO,(by show 5<1000;decide),?_⟩
  rw[bV]
  exact k
theorem yr (F:Sound.Form) (n m:Nat) (ms:List Nat) (acc:List (List Int)) (l:Sound.Bits):Sound.takeChannels F n (m::ms) acc l=(iZ F.depth n m l).then_ fun (ps:List (Int×Int)) (l:Sound.Bits)=>Sound.takeChannels F n ms (acc++ [ps.map fun (x:Int×Int)=>x.1,ps.map fun (x:Int×Int)=>x.2]) l:=by
 unfold iZ
 rw[then_assoc]
 conv=>lhs;unfold Sound.takeChannels
 congr 1
 funext a l
 rw[then_assoc]
 rfl
def cS (H:Hp) (D:Addr) (cs:List (List Int)):Prop:= ∃as:List Addr,H D=some (.lst (as.map V.ref))∧as.length=cs.length∧ ∀(k:Nat) (a:Addr),as[k]?=some a→a≠D∧H a=some (.lst ((cs.getD k []).map V.int))
theorem cS.same {H H':Hp} {D:Addr} {cs:List (List Int)} (h:cS H D cs) (s:ae H H'):cS H' D cs:=by
 obtain ⟨as,h1,h2,h3⟩:=h
 exact ⟨as,s _ _ h1,h2,fun k a e=>⟨(h3 k a e).1,s _ _ (h3 k a e).2⟩⟩
theorem cS.add {H:Hp} {D:Addr} {cs:List (List Int)} {bs:List Addr} {ds:List (List Int)} (h:cS H D cs) (hl:bs.length=ds.length) (hb: ∀(k:Nat) (a:Addr),bs[k]?=some a→a≠D∧H a=some (.lst ((ds.getD k []).map V.int))): ∃as:List Addr,H D=some (.lst (as.map V.ref))∧cS (upd H D (.lst (as.map V.ref++bs.map V.ref))) D (cs++ds):=by
 obtain ⟨as,h1,h2,h3⟩:=h
 refine ⟨as,h1,as++bs,by rw[ao,List.map_append],by rw[List.length_append,List.length_append,h2,hl],fun k a e=>?_⟩
 by_cases hk:k<as.length
 ·rw[List.getElem?_append_left hk] at e
  obtain ⟨z1,z2⟩:=h3 k a e
  refine ⟨z1,?_⟩
  rw[aB z1,z2,List.getD_eq_getElem?_getD,List.getD_eq_getElem?_getD,List.getElem?_append_left (by omega)]
 ·rw[List.getElem?_append_right (by omega)] at e
  obtain ⟨z1,z2⟩:=hb _ a e
  refine ⟨z1,?_⟩
  rw[aB z1,z2,List.getD_eq_getElem?_getD,List.getD_eq_getElem?_getD,List.getElem?_append_right (by omega),h2]
theorem cS.aw {H H':Hp} {D:Addr} {cs:List (List Int)} {R:bt} {l:Sound.Bits} (h:cS H D cs) (st:aU A.aE H R l) (s:ae (Wg.aw [R.r] H) H'):cS H' D cs:=by
 obtain ⟨as,h1,h2,h3⟩:=h
 obtain ⟨i,hx⟩:=st.obj
 have keep: ∀b xs,H b=some (.lst xs)→H' b=some (.lst xs):=fun b xs e=>s _ _ (by rw[b9 (fun z=>by rw[List.mem_singleton.mp z,hx] at e;cases e)];exact e)
 exact ⟨as,keep _ _ h1,h2,fun k a e=>⟨(h3 k a e).1,keep _ _ (h3 k a e).2⟩⟩
def JO (K:PySem.W.Frag) (A:aK):Sp:=fun vs H Q E=> ∃(H0:Hp) (R:bt) (f:Addr) (F:Sound.Form) (n:Nat) (l:Sound.Bits),vs= [.ref f, .int n, .ref R.r]∧ae H0 H∧bX K H0 R∧fC A.aW H0 f F∧aU A.aE H R l∧(F.ok=true∧n≤256)∧
 bq A H0 R ((Sound.takeMany (fun (_:List Nat) (l:Sound.Bits)=>Sound.takeU 2 l) (Sound.pairs F) [] l).then_ fun (ms:List Nat) (l:Sound.Bits)=>Sound.takeChannels F n ms.reverse [] l) (fun cs H'=> ∀D,H0 D=none→cS H' D cs→Q (.ref D) H') E
theorem ni:aI ["form", "n", "reader", "modes", "channels", "mode", "pair"] ["form", "n", "reader"] (aD wO):=⟨rfl,rfl,rfl,by decide+kernel,rfl,by decide+kernel,by decide+kernel⟩
theorem fN {F:Sound.Form} (h:F.ok=true):(1≤F.channels∧F.channels≤4)∧(4≤F.depth∧F.depth≤24)∧(16≤F.block∧F.block≤256)∧F.order≤4∧(1≤F.group∧F.group≤8)∧F.spare≤4:=by
 unfold Sound.Form.ok at h
 simp only [Bool.and_eq_true,decide_eq_true_eq] at h
 omega
theorem IQ (T:Txt K mg A):az P w K mg base (aO P w) 11 A.nA A.m9 ["form", "n", "reader"] (JO K A):=by
 refine T.Al.bF ni (fun vs H Q E h=>?_) (fun cdv Ar outer s H vs Q E hr h=>?_)
 ·obtain ⟨H0,R,f,F,n,l,rfl,_⟩:=h
  rfl
 ·obtain ⟨H0,R,f,F,n,l,rfl,s0,hI,hF,hS,⟨aj,hn⟩,k⟩:=h
  have hr1':aC 1 _:=hr.mono (by decide)
  have hr9':aC 9 _:=hr.mono (by decide)
  refine ⟨_,ag (AS (i:=3) (own:= [("pair",6)]) rfl rfl rfl ke rfl ni.nd rfl rfl rfl (d7 rfl T.dN (aa (ax ic (ay (pv 0) rfl) ak) af)) (fc (by kernel_rfl)) (fun _ _ _ _ _ _=>bH (i:=6) ni.nd rfl (Or.inl rfl)) (fun _ _ _ _ _ _=>e9)
    (fun _ _ _ _ _ _ hp=>aL (pv 2) T.bD T.dk (dc T) hr1' T.cW .nil hp (aa ak af)))
   (ag (aF (i:=4) ni.nd rfl (Or.inl rfl) (cJ af))
   (ag (cq PassesOwn.leaving rfl (dI (pv 3)) (bH (i:=5) ni.nd rfl (Or.inl rfl))
    (ah (bp (gU PySem.F.plainAttrs_list PySem.F.slot_list_extend PySem.F.type_list_extend qv (pv 4) (aa (bc (Ka T) hr rfl T.A7 T.xc.kp T.DW .nil aH (aa (ay (pv 0) rfl) (aa (pv 1) (aa (pv 5) (aa (pv 2) af))))) af)))))
   (ag (a9 (aY cI (ax ng (ay (pv 0) rfl) ak) ak (aP _)) (ah (bp (gU PySem.F.plainAttrs_list PySem.F.slot_list_append PySem.F.type_list_append oq (pv 4) (aa (bc (rG T) hr9' rfl T.sk T.oJ.kp T.si .nil aH (aa (pv 2) (aa (pv 1) (aa (ay (pv 0) rfl) (aa eu af))))) af)))) bh)
   (ah (aR (pv 4)))))),?_⟩
  obtain ⟨⟨hc1,hc2⟩,⟨hd1,hd2⟩,_⟩:=fN aj
  have e62:(2:Int)^62=4611686018427387904:=by decide
  obtain ⟨df,hf⟩:=hF
  have hfH:=s0 _ _ hf
  refine ⟨_,rfl,f,A.aW,df,_,_,rfl,hfH,T.bW,T.i3,rfl,_,_,rfl,rfl,⟨by decide,by decide⟩,((F.channels/2:Nat):Int),(by show [V.int (((F.channels:Nat):Int)/2)]=_;congr 2),by omega,by omega,fun D hD=>?_⟩
  rw[Int.toNat_natCast]
  have hD0:H0 D=none:=s0.none hD
  have hpr:Sound.pairs F=F.channels/2:=rfl
  rw[hpr] at k
  refine zT (F.channels/2) (by rw[sizeLine_eq];omega) (fun i acc H'=> ∃(ms:List Nat) (l':Sound.Bits),acc=vN ms.reverse∧ae (Wg.aw [R.r] H) H'∧aU A.aE H' R l'∧ms.length=i∧(∀m∈ms,m<4)∧bq A H0 R ((Sound.takeMany (fun (_:List Nat) (l:Sound.Bits)=>Sound.takeU 2 l) (F.channels/2-i) ms l').then_ fun (ms:List Nat) (l:Sound.Bits)=>Sound.takeChannels F n ms.reverse [] l) (fun cs H'=> ∀D,H0 D=none→cS H' D cs→Q (.ref D) H') E) ?_ ?_ ?_ ?_ ?_
  ·refine ⟨[],l,rfl,fun b u e=>?_,?_,rfl,(fun m hm=>by cases hm),k⟩
   ·have:=bG _ _ b u e
    rw[aB (b6 this hD)];exact this
   ·obtain ⟨i,ei,hi,hxr⟩:=hS
    exact ⟨i,ei,hi,by rw[aB (b6 hxr hD)];exact hxr⟩
  ·exact fun i acc H' hi _=>hi
  ·exact fun acc H' _=>Nat.le_refl _
  ·rintro i acc H3 x H3' hi ⟨ms,l3,rfl,s3,st3,hl3,hm3,k3⟩ hDx hal ⟨hH3,rfl⟩ C hC
   rw[hH3]
   obtain ⟨px3,hx3⟩:=st3.obj
   rw[show F.channels/2-i=(F.channels/2-(i+1))+1 by omega,jj,then_assoc] at k3
   obtain ⟨sh2,_⟩:=hI.aw s0
   obtain ⟨sh3,hIh3⟩:=hI.aw (sh2.trans s3)
   refine ⟨rfl,_,rfl,R.r,R.dr,_,rfl,hx3,rfl,Wg.aw [R.r] H3,R,2,l3,rfl,bG _ _,hIh3,st3,by decide,k3.b8 sh3 fun y l4 H4 ey4 s4 st4 k4=>?_⟩
   have nDr:D≠R.r:=fun z=>by rw[z,hx3] at hDx;cases hDx
   refine hC _ H4 (s4 _ _ (by rw[b9 (by simpa using nDr)];exact hDx)) ⟨y::ms,l4,?_,?_,?_,by rw[List.length_cons,hl3],?_,k4⟩
   ·rw[List.reverse_cons,LP];rfl
   ·intro b u e
    have e3:=s3 b u e
    by_cases hb:b=D
    ·subst hb
     have:=bG _ _ _ u e
     rw[hD] at this;cases this
    ·rw[aB hb]
     refine s4 _ _ ?_
     rw[b9 (fun z=>by
      rw[List.mem_singleton.mp z,fB (by simp)] at e;cases e)]
     exact e3
   ·obtain ⟨j,ej,hj,hxr⟩:=st4
    exact ⟨j,ej,hj,by rw[aB (Ne.symm nDr)];exact hxr⟩
   ·intro z hz
    rcases List.mem_cons.mp hz with rfl|hz
    ·exact i6 ey4
    ·exact hm3 z hz
  ·rintro acc H3 ⟨ms,l3,rfl,s3,st3,hl3,hm3,k3⟩ hDx hal
   rw[Nat.sub_self] at k3
   have k3:bq A H0 R (Sound.takeChannels F n ms.reverse [] l3) (fun cs H'=> ∀D,H0 D=none→cS H' D cs→Q (.ref D) H') E:=k3
   obtain ⟨sh2,_⟩:=hI.aw s0
   have s03:=sh2.trans s3
   have hml:ms.reverse.length≤2:=by rw[List.length_reverse,hl3];omega
   have hm4: ∀m∈ms.reverse,m<4:=fun m hm=>hm3 m (List.mem_reverse.mp hm)
   generalize ms.reverse=mr at*
   refine ⟨by rw[sizeLine_eq];show 0≤_;omega,fun D2 hD2=>?_⟩
   have s4:=aQ (o:= .lst []) hD2
   have hD20:H0 D2=none:=s03.none hD2
   have hDx4:upd H3 D2 (.lst []) D=some (.lst (vN mr)):=s4 _ _ hDx
   have hCh:cS (upd H3 D2 (.lst [])) D2 []:=⟨[],ao,rfl,fun k a e=>by simp at e⟩
   have st4:=st3.same s4
   have s04:=s03.trans s4
   have nD2:D≠D2:=fun z=>by rw[←z,hDx] at hD2;cases hD2
   generalize upd H3 D2 (.lst [])=H4 at*
   refine ⟨_,rfl,D,rfl,⟨_,ai.of hDx4⟩,?_⟩
   refine iQ (K:=K) (a:=D) (xs:=vN mr) (fun i σ H'=>(ae H0 H'∧H' D=some (.lst (vN mr))∧ ∃(l':Sound.Bits) (cs:List (List Int)),aU A.aE H' R l'∧cS H' D2 cs∧cs.length=2*i∧bq A H0 R (Sound.takeChannels F n (mr.drop i) cs l') (fun cs H'=> ∀D,H0 D=none→cS H' D cs→Q (.ref D) H') E)∧ ∃v5 v6:Option V,σ= [some (.ref f),some (.int (n:Nat)),some (.ref R.r),some (.ref D),some (.ref D2),v5,v6])
    ⟨⟨s04,hDx4,l3, [],st4,hCh,rfl,k3⟩,none,none,rfl⟩ (fun i σ H' _ ⟨⟨_,e,_⟩,_⟩=>ai.of e) ?_ ?_
   ·rintro i x σ H5 hi ⟨⟨s5,hDx5,l5,cs,st5,hC5,hcl,k5⟩,v5,v6,rfl⟩
    obtain ⟨rfl,hil⟩:=iE hi
    have hmi:mr.getD i 0<4:=rN hm4 hil
    have ed:mr.drop i=mr.getD i 0::mr.drop (i+1):=by
     rw[List.drop_eq_getElem_cons hil,getD_at hil]
    rw[ed,yr] at k5
    obtain ⟨as,has,_⟩:=id hC5
    obtain ⟨sh5,hIh5⟩:=hI.aw s5
    obtain ⟨ir,hxr⟩:=st5.obj
    have hf5:=s5 _ _ hf
    refine ⟨_,rfl, .inl ⟨rfl,_,ai.of has⟩,_,rfl,f,A.aW,df,_,_,rfl,hf5,T.bW,T.sE,rfl,_,rfl,_,rfl,_,rfl,Wg.aw [R.r] H5,R,F.depth,n,mr.getD i 0,l5,rfl,bG _ _,hIh5,st5,⟨hd1,hd2,hmi,hn⟩,k5.b8 sh5 fun ps l6 H6 _ s6 st6 k6 E1 a b ⟨hE1,ha,hb⟩ hxE hxa hxb=>?_⟩
    have hC6:=hC5.aw st5 s6
    have nr: ∀c xs,H5 c=some (.lst xs)→H6 c=some (.lst xs):=fun c xs e=>s6 _ _ (by rw[b9 (fun z=>by rw[List.mem_singleton.mp z,hxr] at e;cases e)];exact e)
    have na:a≠D2:=fun z=>by
     have:Wg.aw [R.r] H5 D2=some (.lst (as.map V.ref)):=by rw[b9 (fun z=>by rw[List.mem_singleton.mp z,hxr] at has;cases has)];exact has
     rw[←z,ha] at this;cases this
    have nb:b≠D2:=fun z=>by
     have:Wg.aw [R.r] H5 D2=some (.lst (as.map V.ref)):=by rw[b9 (fun z=>by rw[List.mem_singleton.mp z,hxr] at has;cases has)];exact has
     rw[←z,hb] at this;cases this
    obtain ⟨as2,h2,hC7⟩:=hC6.add (bs:= [a,b]) (ds:= [ps.map fun x=>x.1,ps.map fun x=>x.2]) rfl (fun k c e=>by
     match k,e with
     |0,e=>cases e;exact ⟨na,hxa⟩
     |1,e=>cases e;exact ⟨nb,hxb⟩)
    have hal2:as2.length=cs.length:=by
     obtain ⟨as3,h3,h4,_⟩:=hC6
     rw[h2] at h3
     injection h3 with h3
     injection h3 with h3
     have:=congrArg List.length h3
     rw[List.length_map,List.length_map] at this
     omega
    have hil2:i<2:=by omega
    refine ⟨D2,E1,_,_,rfl,rfl,h2,hxE,(by rw[List.length_map,hal2,hcl,sizeLine_eq];show _+2≤_;omega),⟨⟨fH (sh5.trans s6) hD20,?_,l6,cs++ [ps.map fun x=>x.1,ps.map fun x=>x.2],?_,hC7,by rw[List.length_append,hcl];show 2*i+2=_;omega,k6⟩,some (.int (mr.getD i 0:Nat)),v6,rfl⟩⟩
    ·rw[aB nD2];exact nr _ _ hDx5
    ·obtain ⟨j,ej,hj,hxr6⟩:=st6
     exact ⟨j,ej,hj,by rw[aB (fun z=>by rw[←z,hxr6] at h2;cases h2)];exact hxr6⟩
   ·rintro σ H5 ⟨⟨s5,hDx5,l5,cs,st5,hC5,hcl,k5⟩,v5,v6,rfl⟩
    rw[cK,List.drop_length] at k5
    rw[cK] at hcl
    have hf5:=s5 _ _ hf
    refine ⟨_,rfl,f,A.aW,df,_,_,rfl,hf5,T.bW,T.i3,rfl,_,_,rfl,rfl,(by show (0:Int)<2;decide),rfl,_,rfl,?_⟩
    unfold Sound.takeChannels at k5
    refine bL (fun hc=>?_) fun hc=>?_
    ·have hc:=V.int.inj (of_decide_eq_true hc)
     rw[if_pos (by omega)] at k5
     obtain ⟨as,has,_⟩:=id hC5
     obtain ⟨sh5,hIh5⟩:=hI.aw s5
     obtain ⟨ir,hxr⟩:=st5.obj
     refine ⟨_,rfl, .inl ⟨rfl,_,ai.of has⟩,_,rfl,_,rfl,_,rfl,f,A.aW,df,_,_,rfl,hf5,T.bW,T.sE,rfl,Wg.aw [R.r] H5,R,F.depth,n, .aq,_,l5,rfl,bG _ _,hIh5, .inl ⟨rfl,rfl⟩,st5,⟨by omega,by omega,hn⟩,k5.b8 sh5 fun ys l6 H6 _ s6 st6 k6 E1 hE1 hxE=>?_⟩
     have hC6:=hC5.aw st5 s6
     have na:E1≠D2:=fun z=>by
      have:Wg.aw [R.r] H5 D2=some (.lst (as.map V.ref)):=by rw[b9 (fun z=>by rw[List.mem_singleton.mp z,hxr] at has;cases has)];exact has
      rw[←z,hE1] at this;cases this
     obtain ⟨as2,h2,hC7⟩:=hC6.add (bs:= [E1]) (ds:= [ys]) rfl (fun k c e=>by
      match k,e with
      |0,e=>cases e;exact ⟨na,hxE⟩)
     have hal2:as2.length=cs.length:=by
      obtain ⟨as3,h3,h4,_⟩:=hC6
      rw[h2] at h3
      injection h3 with h3
      injection h3 with h3
      have:=congrArg List.length h3
      rw[List.length_map,List.length_map] at this
      omega
     refine ⟨D2,_,_,rfl,rfl,h2,(by rw[List.length_map,hal2,hcl,sizeLine_eq];omega),_,rfl,?_⟩
     refine k6 _ (fH (sh5.trans s6) hD20) ?_ D2 hD20 hC7
     obtain ⟨j,ej,hj,hxr6⟩:=st6
     exact ⟨j,ej,hj,by rw[aB (fun z=>by rw[←z,hxr6] at h2;cases h2)];exact hxr6⟩
    ·have hc: ¬((F.channels:Nat):Int)%2=1:=fun z=>hc (decide_eq_true (show V.int (((F.channels:Nat):Int)%2)=V.int 1 by rw[z]))
     rw[if_neg (by omega)] at k5
     exact ⟨_,rfl,k5 H5 s5 st5 D2 hD20 hC5⟩
theorem sP {a b:Nat} (h:(!decide (V.int ((a:Nat):Int)=V.int ((b:Nat):Int)))=true):a≠b:=fun q=>by
 rw[q,decide_eq_true rfl] at h;cases h
theorem rh {a b:Nat} (h: ¬(!decide (V.int ((a:Nat):Int)=V.int ((b:Nat):Int)))=true):a=b:=Classical.byContradiction fun q=>h (by rw[f9,decide_eq_false q];rfl)
def oS (B:Sound.Bytes) (l:Sound.Bits):Sound.Got Nat:=(Sound.takeU (l.length%8) l).then_ fun (z:Nat) (l:Sound.Bits)=>if z≠0 then .bad else (Sound.takeU 16 l).then_ fun (c:Nat) (l':Sound.Bits)=>if c≠Sound.crc16 (B.take (B.length-l.length/8)) then .bad else .ok (B.length-l.length/8+2) l'
def Ky (K:PySem.W.Frag) (A:aK):Sp:=fun vs H Q E=> ∃(H0:Hp) (R:bt) (l:Sound.Bits),vs= [.ref R.r]∧ae H0 H∧bX K H0 R∧aU A.aE H R l∧bq A H0 R (oS R.B l) (fun z H'=>H' R.r=some (.ins A.aE R.dr (dX (.ref R.q) (.int ((8*z:Nat):Int))))→Q .aq H') E
theorem AH:aI ["reader", "check"] ["reader"] (aD uW):=⟨rfl,rfl,rfl,by decide+kernel,rfl,by decide+kernel,by decide+kernel⟩
theorem zw {n:Nat} {l:Sound.Bits} {x:Nat} {r:Sound.Bits} (h:Sound.takeU n l= .ok x r):r=l.drop n∧n≤l.length:=by
 unfold Sound.takeU at h
 split at h
 ·cases h
 ·rename_i hc
  cases h
  exact ⟨rfl,Nat.le_of_not_lt fun z=>hc ((iC _ _).mpr z)⟩
theorem qm {H:Hp} {R:bt} {l:Sound.Bits} (h:aU A.aE H R l):l.length≤8*R.B.length∧H R.r=some (.ins A.aE R.dr (dX (.ref R.q) (.int ((8*R.B.length-l.length:Nat):Int)))):=by
 obtain ⟨i,rfl,hi,hx⟩:=h
 rw[List.length_drop,iT]
 exact ⟨by omega,by rw[hx];congr 6;omega⟩
theorem Jb (T:Txt K mg A):az P w K mg base (aO P w) 2 A.j9 A.lW ["reader"] (Ky K A):=by
 refine T.yh.bF AH (fun vs H Q E h=>?_) (fun cdv Ar outer s H vs Q E hr h=>?_)
 ·obtain ⟨H0,R,l,rfl,_⟩:=h
  rfl
 ·obtain ⟨H0,R,l,rfl,s0,hI,hS,k⟩:=h
  refine ⟨_,ag (a9 (aY fQ (aL (pv 0) T.bD T.dk (dc T) hr T.cW .nil aH (aa (ax ng (fJ fU (ay (pv 0) rfl)) ak) af)) ak (aP _)) (ah (dn rfl rfl T.dE T.dw.exc dA)) bh)
   (ag (aF (i:=1) AH.nd rfl (Or.inl rfl) (bc (Dg T) hr rfl T.JQ T.wa.kp T.Bu .nil bo (aa (eC ek (ay (pv 0) rfl) rB (cv (ax ic (ay (pv 0) rfl) ak))) af)))
   (ah (a9 (aY fQ (aL (pv 0) T.bD T.dk (dc T) hr T.cW .nil aH (aa ak af)) (pv 1) (aP _)) (ah (dn rfl rfl T.dE T.dw.exc dA)) bh))),?_⟩
  obtain ⟨hle,hx⟩:=qm hS
  obtain ⟨sh,hIh⟩:=hI.aw s0
  unfold oS at k
  refine ⟨_,rfl,R.r,R.dr,_,rfl,hx,rfl,_,rfl,R.r,A.aE,R.dr,_,_,rfl,hx,T.bD,T.iF,rfl,_,rfl,_,_,rfl,rfl,(by show (0:Int)<8;decide),Wg.aw [R.r] H,R,l.length%8,l,?_,bG _ _,hIh,hS,by omega,?_⟩
  ·show [V.ref R.r,V.int ((-((8*R.B.length-l.length:Nat):Int))%8)]=_
   congr 3;omega
  refine k.b8 sh fun z l1 H1 ez s1 st1 k1=>?_
  obtain ⟨rfl,hz8⟩:=zw ez
  refine ⟨rfl,_,rfl,?_⟩
  have s01:=sh.trans s1
  refine bL (fun hc=>?_) fun hc=>?_
  ·have hc: ¬z=0:=sP hc
   rw[if_pos hc] at k1
   exact k1 H1 s01
  ·have hc:z=0:=rh hc
   rw[if_neg (fun q=>q hc)] at k1
   obtain ⟨hle1,hx1⟩:=qm st1
   generalize hl1:l.drop (l.length%8)=l1 at*
   have hl18:l1.length%8=0:=by rw[←hl1,List.length_drop];omega
   have hq1:=s01.seq hI.1
   refine ⟨_,rfl,R.r,A.aE,R.dr,_,_,rfl,hx1,T.bD,T.pI,rfl,_,rfl,R.r,A.aE,R.dr,_,_,rfl,hx1,T.bD,T.iF,rfl,_,_,rfl,rfl,⟨by decide,by decide⟩,_,rfl,R.q,_,rfl,hq1,fun p hp=>?_⟩
   have e1:((8*R.B.length-l1.length:Nat):Int)/8=((R.B.length-l1.length/8:Nat):Int):=by omega
   have e2:cx (vN (bn R.B)) none (some (((8*R.B.length-l1.length:Nat):Int)/8))=vN (bn (R.B.take (R.B.length-l1.length/8))):=by rw[e1,zL,gD]
   rw[e2]
   have s2:=aQ (o:= .lst (vN (bn (R.B.take (R.B.length-l1.length/8))))) hp
   refine ⟨p,_,rfl,ai.of ao,fe _,?_⟩
   have ec:pP (bn (R.B.take (R.B.length-l1.length/8)))=Sound.crc16 (R.B.take (R.B.length-l1.length/8)):=D9 _
   rw[ec]
   have st2:=st1.same s2
   have s02:=s01.trans s2
   obtain ⟨sh2,hIh2⟩:=hI.aw s02
   obtain ⟨i2,hx2⟩:=st2.obj
   generalize upd H1 p (.lst (vN (bn (R.B.take (R.B.length-l1.length/8)))))=H2 at*
   refine ⟨_,rfl,R.r,R.dr,_,rfl,hx2,rfl,Wg.aw [R.r] H2,R,16,l1,rfl,bG _ _,hIh2,st2,by decide,k1.b8 sh2 fun c l3 H3 e3 s3 st3 k3=>?_⟩
   obtain ⟨rfl,hl16⟩:=zw e3
   obtain ⟨hle3,hx3⟩:=qm st3
   have s03:=sh2.trans s3
   refine ⟨_,rfl,rfl,_,rfl,?_⟩
   refine bL (fun hc2=>?_) fun hc2=>?_
   ·have hc2:c≠Sound.crc16 (R.B.take (R.B.length-l1.length/8)):=sP hc2
    rw[if_pos hc2] at k3
    exact k3 H3 s03
   ·have hc2:c=Sound.crc16 (R.B.take (R.B.length-l1.length/8)):=rh hc2
    rw[if_neg (fun q=>q hc2)] at k3
    refine k3 H3 s03 st3 ?_
    rw[hx3,List.length_drop]
    congr 6;omega
def sS (s k n d:V):List (Str×V):= [("size",s),("k",k),("n",n),("numbers",d)]
def tL (C:Addr) (H:Hp) (o:Addr) (x:Sound.Frame):Prop:= ∃dx D,H o=some (.ins C dx (sS (.int x.size) (.int x.k) (.int x.n) (.ref D)))∧H D=some (.lst (x.s.map V.int))
def GU (C:Addr):Sp:=fun vs H Q _=> ∃(p dx:Addr) (a b c d:V),vs= [.ref p,a,b,c,d]∧H p=some (.ins C dx [])∧Q .aq (upd H p (.ins C dx (sS a b c d)))
theorem FZ:aI ["self", "size", "k", "n", "numbers"] ["self", "size", "k", "n", "numbers"] (aD zf):=⟨rfl,rfl,rfl,by decide+kernel,rfl,by decide+kernel,by decide+kernel⟩
theorem Lr (T:Txt K mg A):az P w K mg base bx 1 A.l9 A.mj ["self", "size", "k", "n", "numbers"] (GU A.b5):=by
 refine T.Ey.ok FZ (fun vs H Q E h=>?_) (fun cdv Ar outer s H vs Q E hr h=>?_)
 ·obtain ⟨p,dx,a,b,c,d,rfl,_⟩:=h
  rfl
 ·obtain ⟨p,dx,a,b,c,d,rfl,hp,k⟩:=h
  refine ⟨_,ag (aX (pv 0) (pv 1) rfl) (ag (aX (pv 0) (pv 2) rfl) (ag (aX (pv 0) (pv 3) rfl) (ah (aX (pv 0) (pv 4) rfl)))),?_⟩
  refine ⟨_,rfl,_,rfl,p,A.b5,dx, [],rfl,hp,T.gF,T.Eu,(by show 0<1000;decide),?_⟩
  refine ⟨_,rfl,_,rfl,p,A.b5,dx,_,rfl,ao,T.gF,T.rD,(by show 1<1000;decide),?_⟩
  refine ⟨_,rfl,_,rfl,p,A.b5,dx,_,rfl,ao,T.gF,T.yi,(by show 2<1000;decide),?_⟩
  refine ⟨_,rfl,_,rfl,p,A.b5,dx,_,rfl,ao,T.gF,T.xZ,(by show 3<1000;decide),?_⟩
  rw[bV,bV,bV]
  exact k
theorem De {d n m:Nat} {l l':Sound.Bits} {ps:List (Int×Int)} (h:iZ d n m l= .ok ps l'):ps.length=n:=by
 unfold iZ at h
 obtain ⟨a,l1,e1,h⟩:=cn h
 obtain ⟨b,l2,e2,h⟩:=cn h
 cases h
 rw[List.length_zipWith,lF e1,lF e2];omega
theorem sV {F:Sound.Form} {n:Nat}: ∀{ms:List Nat} {acc cs:List (List Int)} {l l':Sound.Bits},Sound.takeChannels F n ms acc l= .ok cs l'→(∀c∈acc,c.length=n)→(∀c∈cs,c.length=n)∧cs.length≤acc.length+2*ms.length+1
 | [],acc,cs,l,l',h,ha=>by
  unfold Sound.takeChannels at h
  split at h
  ·obtain ⟨y,l1,e1,h⟩:=cn h
   cases h
   refine ⟨fun c hc=>?_,by rw[List.length_append];show _+1≤_;omega⟩
   rcases List.mem_append.mp hc with hc|hc
   ·exact ha c hc
   ·rw[List.mem_singleton.mp hc];exact lF e1
  ·cases h
   exact ⟨ha,by omega⟩
 |m::ms,acc,cs,l,l',h,ha=>by
  rw[yr] at h
  obtain ⟨ps,l1,e1,h⟩:=cn h
  have hp:=De e1
  obtain ⟨h1,h2⟩:=sV h (fun c hc=>by
   rcases List.mem_append.mp hc with hc|hc
   ·exact ha c hc
   ·rcases List.mem_cons.mp hc with rfl|hc
    ·rw[List.length_map];exact hp
    ·rw[List.mem_singleton.mp hc,List.length_map];exact hp)
  refine ⟨h1,?_⟩
  rw[List.length_append] at h2
  have h2:cs.length≤acc.length+2+2*ms.length+1:=h2
  rw[List.length_cons];omega
theorem oE: ∀(n:Nat) (cs:List (List Int)),Sound.woven n cs=(List.range n).flatMap fun t=>cs.map fun (c:List Int)=>c.getD t 0
 |0,cs=>rfl
 |n+1,cs=>by
  unfold Sound.woven
  rw[oE n,List.range_succ_eq_map,List.flatMap_cons,List.flatMap_map]
  congr 1
  ·refine List.map_congr_left fun c _=>?_
   cases c<;>rfl
  ·congr 1
   funext t
   rw[List.map_map]
   refine List.map_congr_left fun c _=>?_
   cases c<;>simp
theorem vW (cs:List (List Int)) (t:Nat):((List.range (t+1)).flatMap fun t=>cs.map fun (c:List Int)=>c.getD t 0)=((List.range t).flatMap fun t=>cs.map fun (c:List Int)=>c.getD t 0)++cs.map fun (c:List Int)=>c.getD t 0:=by
 rw[List.range_succ,List.flatMap_append]
 congr 1
 rw[List.flatMap_cons,List.flatMap_nil,List.append_nil]
theorem qN (cs:List (List Int)): ∀n,(Sound.woven n cs).length=n*cs.length
 |0=>by rw[Nat.zero_mul];rfl
 |n+1=>by
  have h:=qN cs n
  rw[oE] at h⊢
  rw[vW,List.length_append,h,List.length_map,Nat.add_mul,Nat.one_mul]
theorem sT (F:Sound.Form) (B:Sound.Bytes):Sound.takeFrame F B=(Sound.takeU 16 (Sound.bitsOf B)).then_ fun (x:Nat) (l:Sound.Bits)=>if x≠0x4B57 then .bad else
  (Sound.takeU 20 l).then_ fun (k:Nat) (l:Sound.Bits)=>(Sound.takeU 8 l).then_ fun (n:Nat) (l:Sound.Bits)=>if F.block<n+1 then .bad else
  ((Sound.takeMany (fun (_:List Nat) (l:Sound.Bits)=>Sound.takeU 2 l) (Sound.pairs F) [] l).then_ fun (ms:List Nat) (l:Sound.Bits)=>Sound.takeChannels F (n+1) ms.reverse [] l).then_ fun (cs:List (List Int)) (l:Sound.Bits)=>(oS B l).then_ fun (z:Nat) (l:Sound.Bits)=> .ok ⟨k,n+1,Sound.woven (n+1) cs,z⟩ l:=by
 unfold Sound.takeFrame
 congr 1
 funext x l
 split
 ·rfl
 ·congr 1
  funext k l
  congr 1
  funext n l
  split
  ·rfl
  ·rw[then_assoc]
   congr 1
   funext ms l
   congr 1
   funext cs l
   unfold oS
   rw[then_assoc]
   congr 1
   funext z l
   split
   ·rfl
   ·show ((Sound.takeU 16 l).then_ fun (c:Nat) (l':Sound.Bits)=>if c≠Sound.crc16 (B.take (B.length-l.length/8)) then (.bad:Sound.Got Sound.Frame) else .ok (⟨k,n+1,Sound.woven (n+1) cs,B.length-l.length/8+2⟩:Sound.Frame) l')=_
    rw[then_assoc]
    congr 1
    funext c l'
    split<;>rfl
def Jw (K:PySem.W.Frag) (A:aK):Sp:=fun vs H Q E=> ∃(H0:Hp) (R:bt) (f:Addr) (F:Sound.Form),vs= [.ref f, .ref R.r]∧ae H0 H∧bX K H0 R∧fC A.aW H0 f F∧aU A.aE H R (Sound.bitsOf R.B)∧F.ok=true∧
 bq A H0 R (Sound.takeFrame F R.B) (fun x H'=> ∀o,H0 o=none→tL A.b5 H' o x→Q (.ref o) H') E
theorem fY:aI ["form", "reader", "k", "n", "channels", "numbers", "t", "channel"] ["form", "reader"] (aD um):=⟨rfl,rfl,rfl,by decide+kernel,rfl,by decide+kernel,by decide+kernel⟩
theorem EY (T:Txt K mg A):az P w K mg base (aO P w) 12 A.lR A.mM ["form", "reader"] (Jw K A):=by
 refine T.uh.bF fY (fun vs H Q E h=>?_) (fun cdv Ar outer s H vs Q E hr h=>?_)
 ·obtain ⟨H0,R,f,F,rfl,_⟩:=h
  rfl
 ·obtain ⟨H0,R,f,F,rfl,s0,hI,hF,hS,aj,k⟩:=h
  have hr1':aC 1 _:=hr.mono (by decide)
  have hr2':aC 2 _:=hr.mono (by decide)
  refine ⟨_,ag (a9 (aY fQ (aL (pv 1) T.bD T.dk (dc T) hr1' T.cW .nil aH (aa ak af)) (a8 rfl T.JI) (aP _)) (ah (dn rfl rfl T.dE T.dw.exc dA)) bh)
   (ag (aF (i:=2) fY.nd rfl (Or.inl rfl) (aL (pv 1) T.bD T.dk (dc T) hr1' T.cW .nil aH (aa ak af)))
   (ag (aF (i:=3) fY.nd rfl (Or.inl rfl) (ax bS (aL (pv 1) T.bD T.dk (dc T) hr1' T.cW .nil aH (aa ak af)) ak))
   (ag (a9 (aY cO (pv 3) (ay (pv 0) rfl) (aP _)) (ah (dn rfl rfl T.dE T.dw.exc dA)) bh)
   (ag (aF (i:=4) fY.nd rfl (Or.inl rfl) (bc (IQ T) hr rfl T.Ea T.Al.kp T.JK .nil aH (aa (pv 0) (aa (pv 3) (aa (pv 1) af)))))
   (ag (bp (bc (Jb T) hr2' rfl T.BM T.yh.kp T.Fw .nil aH (aa (pv 1) af)))
   (ag (aF (i:=5) fY.nd rfl (Or.inl rfl) (cJ af))
   (ag (cq PassesOwn.leaving rfl (d7 rfl T.dN (aa (pv 3) af)) (bH (i:=6) fY.nd rfl (Or.inr rfl))
    (ah (bp (gU PySem.F.plainAttrs_list PySem.F.slot_list_extend PySem.F.type_list_extend qv (pv 5) (aa (iz (own:= [("channel",7)]) rfl fY.nd (dI (pv 4)) (fc (by kernel_rfl)) (fun _ _ _ _ _=>bH (i:=7) fY.nd rfl (Or.inl rfl)) (fun _ _ _ _ _=>e9) (fun _ _ _ _ _=>bZ (K9 (K:=K) rfl) (pv 7) (pv 6) (fun _ _=>rfl))) af)))))
   (ah (aR (eS T.Bj (Lr T) hr2' rfl T.KI T.AZ .nil bo (aa (ax ic (ay (pv 1) rfl) ak) (aa (pv 2) (aa (pv 3) (aa (pv 5) af)))))))))))))),?_⟩
  obtain ⟨⟨hc1,hc2⟩,_,⟨hb1,hb2⟩,_⟩:=fN aj
  have e62:(2:Int)^62=4611686018427387904:=by decide
  obtain ⟨df,hf⟩:=id hF
  obtain ⟨i0,hx⟩:=hS.obj
  obtain ⟨sh,hIh⟩:=hI.aw s0
  rw[sT] at k
  refine ⟨_,rfl,R.r,R.dr,_,rfl,hx,rfl,Wg.aw [R.r] H,R,16,_,rfl,bG _ _,hIh,hS,by decide,k.b8 sh fun x l1 H1 _ s1 st1 k1=>?_⟩
  have s01:=sh.trans s1
  refine ⟨rfl,_,rfl,?_⟩
  refine bL (fun hc=>?_) fun hc=>?_
  ·have hc:x≠0x4B57:=sP hc
   rw[if_pos hc] at k1
   exact k1 H1 s01
  have hc:x=0x4B57:=rh hc
  rw[if_neg (fun q=>q hc)] at k1
  obtain ⟨i1,hx1⟩:=st1.obj
  obtain ⟨sh1,hIh1⟩:=hI.aw s01
  refine ⟨_,rfl,R.r,R.dr,_,rfl,hx1,rfl,Wg.aw [R.r] H1,R,20,_,rfl,bG _ _,hIh1,st1,by decide,k1.b8 sh1 fun kk l2 H2 _ s2 st2 k2=>?_⟩
  have s02:=sh1.trans s2
  obtain ⟨i2,hx2⟩:=st2.obj
  obtain ⟨sh2,hIh2⟩:=hI.aw s02
  refine ⟨_,rfl,R.r,R.dr,_,rfl,hx2,rfl,Wg.aw [R.r] H2,R,8,_,rfl,bG _ _,hIh2,st2,by decide,k2.b8 sh2 fun n l3 H3 e3 s3 st3 k3=>?_⟩
  have s03:=sh2.trans s3
  have hn8:n<256:=i6 e3
  refine ⟨_,_,rfl,rfl,?_⟩
  dsimp only
  rw[show ((n:Nat):Int)+1=((n+1:Nat):Int) by omega]
  have hf3:=s03 _ _ hf
  refine ⟨_,rfl,_,rfl,f,A.aW,df,_,_,rfl,hf3,T.bW,T.gG,rfl,_,_,rfl,rfl,_,rfl,?_⟩
  refine bL (fun hcb=>?_) fun hcb=>?_
  ·have hcb:((F.block:Nat):Int)<((n+1:Nat):Int):=of_decide_eq_true hcb
   rw[if_pos (by omega)] at k3
   exact k3 H3 s03
  have hcb: ¬((F.block:Nat):Int)<((n+1:Nat):Int):=fun q=>hcb (decide_eq_true q)
  rw[if_neg (by omega)] at k3
  refine ⟨_,rfl,_,rfl,_,rfl,H0,R,f,F,n+1,l3,rfl,s03,hI,hF,st3,⟨aj,by omega⟩,k3.seq fun cs l4 H4 e4 s4 st4 k4 C4 hC40 hCh=>?_⟩
  have hcs:(∀c∈cs,c.length=n+1)∧cs.length≤10:=by
   obtain ⟨ms,l5,e5,e6⟩:=cn e4
   have h1:=eK e5
   obtain ⟨h2,h3⟩:=sV e6 (fun c hc=>by cases hc)
   rw[List.length_reverse,h1] at h3
   unfold Sound.pairs at h3
   have h3:cs.length≤0+2*(0+F.channels/2)+1:=h3
   exact ⟨h2,by omega⟩
  obtain ⟨sh4,hIh4⟩:=hI.aw s4
  refine ⟨_,rfl,Wg.aw [R.r] H4,R,l4,rfl,bG _ _,hIh4,st4,k4.b8 sh4 fun z l5 H5 _ s5 st5 k5 hx5=>?_⟩
  have hCh5:=hCh.aw st4 s5
  have s05:=sh4.trans s5
  refine ⟨by rw[sizeLine_eq];show 0≤_;omega,fun D hD=>?_⟩
  have s6:=aQ (o:= .lst []) hD
  have hD0:H0 D=none:=s05.none hD
  refine ⟨_,rfl,((n+1:Nat):Int),rfl,by omega,by omega,?_⟩
  rw[Int.toNat_natCast]
  have hx6:=s6 _ _ hx5
  have hCh6:=hCh5.same s6
  have st6:=st5.same s6
  have s06:=s05.trans s6
  have nDC:C4≠D:=fun q=>by
   obtain ⟨as,h1,_⟩:=hCh5
   rw[q,hD] at h1;cases h1
  have nAs: ∀as:List Addr,H5 C4=some (.lst (as.map V.ref))→True:=fun _ _=>trivial
  refine eR (lo:=0) (n:=n+1) (fun t σ H'=>(ae H0 H'∧aU A.aE H' R l5∧H' R.r=some (.ins A.aE R.dr (dX (.ref R.q) (.int ((8*z:Nat):Int))))∧ae H5 (Wg.aw [D] H')∧H' D=some (.lst ((Sound.woven t cs).map V.int)))∧ ∃v6 v7:Option V,σ= [some (.ref f),some (.ref R.r),some (.int (kk:Nat)),some (.int ((n+1:Nat):Int)),some (.ref C4),some (.ref D),v6,v7])
   ⟨⟨s06,st6,hx6,s6.aw (fun b hb=>by rw[List.mem_singleton.mp hb];exact hD),ao⟩,none,none,rfl⟩ ?_ ?_
  ·rintro t σ H7 ht ⟨⟨s7,st7,hx7,sh7,hD7⟩,v6,v7,rfl⟩
   have hCh7:cS H7 C4 cs:=(hCh5.same sh7).same (bG _ _)
   obtain ⟨as,ha1,ha2,ha3⟩:=id hCh7
   have hwl:=qN cs t
   have hwl2:t*cs.length≤256*10:=Nat.mul_le_mul (by omega) hcs.2
   refine ⟨_,rfl, .inl ⟨rfl,_,ai.of hD7⟩,_,rfl,C4,rfl,⟨_,ai.of ha1⟩,fun D2 hD2=>?_⟩
   refine gX (J:=eF K C4) hD2 cs.length (by rw[sizeLine_eq];omega) (fun i=> .int ((cs.getD i []).getD t 0)) (fun i Hh hi t1=>?_) (fun Hh t1=>⟨_,t1.seq (ai.of ha1),by rw[List.length_map];omega⟩) ?_ ?_
   ·obtain ⟨a,h1,_⟩:=xf (as:=as) (i:=i) (by omega)
    exact ⟨_,_,t1.seq (ai.of ha1),h1⟩
   ·rintro i Hh y H8 hi t1 ⟨rfl,hy⟩ C hC
    obtain ⟨a,rfl,hai⟩:=vi (hy _ (t1.seq (ai.of ha1)))
    have hci:(cs.getD i []).length=n+1:=hcs.1 _ (by rw[List.getD_eq_getElem?_getD,List.getElem?_eq_getElem hi];exact List.getElem_mem hi)
    refine ⟨rfl,_,rfl,_,rfl,a,_,_,_,rfl,rfl,ai.of (t1 _ _ (ha3 i a hai).2),?_,hC _ (ae.refl _)⟩
    rw[Int.zero_add]
    exact bQ (iY (by omega))
   ·intro H8 s8 hx8
    have e8:(List.range cs.length).map (fun i=>V.int ((cs.getD i []).getD t 0))=(cs.map fun c=>c.getD t 0).map V.int:=by
     rw[List.map_map]
     refine List.ext_getElem (by simp) fun i h1 h2=>?_
     simp at h2
     simp [List.getD_eq_getElem?_getD,List.getElem?_eq_getElem h2]
    rw[e8] at hx8
    have hD8:=s8 _ _ hD7
    refine ⟨D,D2,_,_,rfl,rfl,hD8,hx8,(by rw[List.length_map,List.length_map,List.length_map,hwl,sizeLine_eq];omega),⟨⟨fH (s7.trans s8) hD0,?_,?_,?_,?_⟩,some (.int (0+(t:Nat))),v7,rfl⟩⟩
    ·obtain ⟨j,ej,hj,hxr⟩:=st7
     exact ⟨j,ej,hj,by rw[aB (fun q=>by rw[q,hD7] at hxr;cases hxr)];exact s8 _ _ hxr⟩
    ·rw[aB (fun q=>by rw[q,hD7] at hx7;cases hx7)];exact s8 _ _ hx7
    ·intro b o e
     have e7:=sh7 b o e
     have nb:b≠D:=fun q=>by rw[q,fB (by simp)] at e7;cases e7
     rw[b9 (by simpa using nb),aB nb]
     exact s8 _ _ (bG _ _ _ _ e7)
    ·rw[ao,oE,oE,vW,List.map_append]
  ·rintro σ H7 ⟨⟨s7,st7,hx7,sh7,hD7⟩,v6,v7,rfl⟩
   refine ⟨_,rfl,R.r,A.aE,R.dr,_,_,rfl,hx7,T.bD,T.iF,rfl,_,_,rfl,rfl,⟨by decide,by decide⟩,_,rfl,_,rfl,_,rfl,fun o dx ho hdx hne=>⟨o,dx,_,_,_,_,rfl,ao,rfl,?_⟩⟩
   rw[fF]
   have s8:ae H7 (upd (upd H7 dx (.own o)) o (.ins A.b5 dx (sS (.int (((8*z:Nat):Int)/8)) (.int (kk:Nat)) (.int ((n+1:Nat):Int)) (.ref D)))):=dq ho hdx
   refine k5 _ (s7.trans s8) (st7.same s8) o (s7.none ho) ⟨dx,D,?_,s8 _ _ hD7⟩
   rw[ao]
   congr 5
   show ((8*z:Nat):Int)/8=((z:Nat):Int)
   omega
theorem Cn {X:Cx} {K:PySem.W.Frag} (h:X.K=K):qW X (qC K):=by subst h;exact ek
theorem BZ {F:Sound.Form} {B:Sound.Bytes} {x:Sound.Frame} {l:Sound.Bits} (aj:F.ok=true) (h:Sound.takeFrame F B= .ok x l):x.s.length≤2560:=by
 rw[sT] at h
 obtain ⟨m,l1,_,h⟩:=cn h
 split at h
 ·cases h
 obtain ⟨k,l2,_,h⟩:=cn h
 obtain ⟨n,l3,e3,h⟩:=cn h
 have hn8:n<256:=i6 e3
 split at h
 ·cases h
 obtain ⟨cs,l4,e4,h⟩:=cn h
 obtain ⟨z,l5,_,h⟩:=cn h
 cases h
 obtain ⟨ms,l6,e5,e6⟩:=cn e4
 have h1:=eK e5
 obtain ⟨h2,h3⟩:=sV e6 (fun c hc=>by cases hc)
 rw[List.length_reverse,h1] at h3
 unfold Sound.pairs at h3
 have h3:cs.length≤0+2*(0+F.channels/2)+1:=h3
 obtain ⟨⟨hc1,hc2⟩,_⟩:=fN aj
 show (Sound.woven (n+1) cs).length≤_
 rw[qN]
 exact Nat.mul_le_mul (n₁:=n+1) (n₂:=256) (m₁:=cs.length) (m₂:=10) (by omega) (by omega)
theorem Jg {F:Sound.Form} {B:Sound.Bytes} {x:Sound.Frame} (aj:F.ok=true) (h:Sound.unframe F B= .frame x):x.s.length≤2560:=by
 unfold Sound.unframe at h
 split at h
 ·rename_i e;cases h;exact BZ aj e
 ·cases h
 ·split at h<;>cases h
def vP (A:aK) (H:Hp) (r:Sound.Read) (Q:VK) (E:XK):Prop:=match r with
 | .frame x=> ∀o H',H o=none→ae H H'→tL A.b5 H' o x→Q (.ref o) H'
 | .bad=> ∀H',ae H H'→E (.ref A.dD) none H'
 | .short=> ∀H',ae H H'→E (.ref A.fE) none H'
def K5 (K:PySem.W.Frag) (A:aK):Sp:=fun vs H Q E=> ∃(f q:Addr) (F:Sound.Form) (B:Sound.Bytes),vs= [.ref f, .ref q]∧fC A.aW H f F∧ai K H q (vN (bn B))∧F.ok=true∧vP A H (Sound.unframe F B) Q E
theorem Ie:aI ["form", "data"] ["form", "data"] (aD xV):=⟨rfl,rfl,rfl,by decide+kernel,rfl,by decide+kernel,by decide+kernel⟩
theorem Bt (T:Txt K mg A):az P w K mg base (aO P w) 13 A.m8 A.mG ["form", "data"] (K5 K A):=by
 refine T.uf.bF Ie (fun vs H Q E h=>?_) (fun cdv Ar outer s H vs Q E hr h=>?_)
 ·obtain ⟨f,q,F,B,rfl,_⟩:=h
  rfl
 ·obtain ⟨f,q,F,B,rfl,hF,hq,aj,k⟩:=h
  have hr2':aC 2 _:=hr.mono (by decide)
  refine ⟨_,ah (oG rfl rfl rfl (fun E pn xe hp ho=>ah (aR (rp (EY T) hr rfl T.Cp T.uh.kp T.Bv .nil hp (aa (pv 0) (aa (eS T.DQ (Eh T) hr2' rfl T.C6 T.Gu .nil bo (aa (eC (Cn (K:=K) rfl) (pv 1) rB (cv (a8 rfl T.qe))) af)) af)))))
   (Bo rfl ke T.o6 rfl T.o4 (fun x ps n hpc=>ag (a9 (aY vR (dj (KO (K:=K) rfl) (by rfl) T.eW PySem.boot_len (aa (pv 1) af)) (a8 rfl T.qe) (aP _)) (ah (yF (vt hpc) rfl T.dE T.dw.exc (yP hr.hd rfl rfl rfl ke))) bh)
    (ah (yF (vt hpc) rfl T.o4 T.o6.exc (yP hr.hd rfl rfl rfl ke)))))),?_⟩
  refine ⟨_,rfl,_,rfl,_,rfl,q,_,rfl,hq,fun p hp=>?_⟩
  have e0:cx (vN (bn B)) none (some 4096)=vN (bn (B.take 4096)):=by
   rw[show (4096:Int)=((4096:Nat):Int) from rfl,zL,gD]
  rw[e0]
  have s1:=aQ (o:= .lst (vN (bn (B.take 4096)))) hp
  have hx1:upd H p (.lst (vN (bn (B.take 4096)))) p=some (.lst (vN (bn (B.take 4096)))):=ao
  generalize upd H p (.lst (vN (bn (B.take 4096))))=H1 at*
  intro o dx ho hdx hne
  refine ⟨o,dx,_,rfl,ao,rfl,?_⟩
  rw[fF]
  have s2:ae H1 (upd (upd H1 dx (.own o)) o (.ins A.aE dx (dX (.ref p) (.int 0)))):=dq ho hdx
  refine ⟨H1,⟨o,dx,p,B.take 4096⟩,f,F,rfl,s2,⟨ai.of hx1,ho,by rw[List.length_take];omega⟩,hF.same s1,⟨0,rfl,by omega,ao⟩,aj,?_⟩
  unfold Sound.unframe at k
  show bq A H1 _ (Sound.takeFrame F (B.take Sound.LONGEST)) _ _
  cases e:Sound.takeFrame F (B.take Sound.LONGEST) with
  |ok x l=>
   rw[e] at k
   exact fun H' s3 _ o' ho' hI=>k o' H' (s1.none ho') (s1.trans s3) hI
  |bad=>
   rw[e] at k
   exact fun H' s3=> .inr ⟨⟨_,rfl,T.dw⟩,fun z=>T.AA.symm (by injection z),k H' (s1.trans s3)⟩
  |short=>
   rw[e] at k
   dsimp only at k
   refine fun H' s3=> .inl ⟨rfl,?_⟩
   have hq':=(s1.trans s3).seq hq
   refine ⟨_,rfl,q,_,rfl, .inl hq',_,_,rfl,rfl,_,rfl,?_⟩
   rw[cK,dG]
   refine bL (fun hc=>?_) fun hc=>?_
   ·have hc:(4096:Int)≤((B.length:Nat):Int):=of_decide_eq_true hc
    rw[if_pos (show Sound.LONGEST≤B.length by show 4096≤_;omega)] at k
    exact k H' (s1.trans s3)
   ·have hc: ¬(4096:Int)≤((B.length:Nat):Int):=fun q=>hc (decide_eq_true q)
    rw[if_neg (show¬Sound.LONGEST≤B.length by show¬4096≤_;omega)] at k
    exact k H' (s1.trans s3)
structure Rg where
 r:Addr
 dr:Addr
 q:Addr
 B:Sound.Bytes
def bB (d p f o:V):List (Str×V):= [("data",d),("place",p),("fault",f),("fault_place",o)]
theorem BF (d p f o p':V):br "place" p' (bB d p f o)=bB d p' f o:=by
 have n1: ¬("data" :Str)= "place" :=by decide
 simp only [bB,br,if_neg n1];rfl
theorem LL (d p f o f':V):br "fault" f' (bB d p f o)=bB d p f' o:=by
 have n1: ¬("data" :Str)= "fault" :=by decide
 have n2: ¬("place" :Str)= "fault" :=by decide
 simp only [bB,br,if_neg n1,if_neg n2];rfl
theorem KA (d p f o o':V):br "fault_place" o' (bB d p f o)=bB d p f o':=by
 have n1: ¬("data" :Str)= "fault_place" :=by decide
 have n2: ¬("place" :Str)= "fault_place" :=by decide
 have n3: ¬("fault" :Str)= "fault_place" :=by decide
 simp only [bB,br,if_neg n1,if_neg n2,if_neg n3];rfl
def aJ (C:Addr) (H:Hp) (R:Rg) (pl:Nat):Prop:=H R.r=some (.ins C R.dr (bB (.ref R.q) (.int (pl:Nat)) (.int 0) (.int (R.B.length:Nat))))
def ee (C:Addr) (H:Hp) (R:Rg) (k p:Nat):Prop:= ∃pl:V,H R.r=some (.ins C R.dr (bB (.ref R.q) pl (.int (k:Nat)) (.int (p:Nat))))
def cH (K:PySem.W.Frag) (H:Hp) (R:Rg):Prop:=ai K (hide R.r H) R.q (vN (bn R.B))∧R.B.length≤16384
theorem nW {r:Addr} {H H':Hp} (s:ae (hide r H) H'):ae (hide r H) (hide r H'):=fun b o e=>by
 rw[hide_ne (cB e).2];exact s b o e
theorem bu {r:Addr} {H H' H'':Hp} (s:ae (hide r H) H') (s':ae (hide r H') H''):ae (hide r H) H'':=(nW s).trans s'
theorem tJ {r:Addr} {H H':Hp} (s:ae H H'):ae (hide r H) H':=(dZ r H).trans s
theorem cP {r:Addr} {H:Hp} {o:HO}:ae (hide r H) (upd H r o):=fun b u e=>by
 obtain ⟨e1,e2⟩:=cB e
 rw[aB e2];exact e1
theorem cH.go {H H':Hp} {R:Rg} (h:cH K H R) (s:ae (hide R.r H) H'):cH K H' R:=⟨(nW s).seq h.1,h.2⟩
theorem cH.sq {H:Hp} {R:Rg} (h:cH K H R):ai K H R.q (vN (bn R.B)):=(dZ _ _).seq h.1
def cw (A:aK) (H:Hp) (R:Rg) {α:Type} (o:Except (Nat×Nat) (α×Nat)) (Q:α→Hp→Prop) (E:XK):Prop:=match o with
 | .ok (a,pl)=> ∀H',ae (hide R.r H) H'→aJ A.au H' R pl→Q a H'
 | .error (k,p)=> ∀H',ae (hide R.r H) H'→ee A.au H' R k p→E (.ref A.ck) none H'
def dz (B:Sound.Bytes) (pl n:Nat):Except (Nat×Nat) (Sound.Bytes×Nat):=if B.length<pl+n then .error (1,B.length) else .ok ((B.drop pl).take n,pl+n)
def lz (B:Sound.Bytes) (begin_ pl f:Nat):Except (Nat×Nat) (Unit×Nat):=if B.length<pl+4 then .error (1,B.length) else if Sound.fromHigh ((B.drop pl).take 4)≠Sound.crc32 ((B.drop begin_).take (pl-begin_)) then .error (f,pl) else .ok ((),pl+4)
def Kn (K:PySem.W.Frag) (C:Addr):Sp:=fun vs H Q _=> ∃(p dx q:Addr) (xs:List V),vs= [.ref p, .ref q]∧H p=some (.ins C dx [])∧ai K H q xs∧Q .aq (upd H p (.ins C dx (bB (.ref q) (.int 0) (.int 0) (.int (xs.length:Nat)))))
theorem JB:aI ["self", "data"] ["self", "data"] (aD uK):=⟨rfl,rfl,rfl,by decide+kernel,rfl,by decide+kernel,by decide+kernel⟩
theorem xD {H:Hp} {p q C dx:Addr} {fs fs':List (Str×V)} {xs:List V} (hp:H p=some (.ins C dx fs)) (hq:ai K H q xs):ai K (upd H p (.ins C dx fs')) q xs:=by
 rcases hq with (h|⟨ob,h⟩)|h
 ·exact .inl (.inl (by rw[aB (oK h hp (by intro e;cases e))];exact h))
 ·exact .inl (.inr ⟨ob,by rw[aB (oK h hp (by intro e;cases e))];exact h⟩)
 ·exact .inr h
theorem IL (T:Txt K mg A):az P w K mg base bx 1 A.jK A.nM ["self", "data"] (Kn K A.au):=by
 refine T.EG.ok JB (fun vs H Q E h=>?_) (fun cdv Ar outer s H vs Q E hr h=>?_)
 ·obtain ⟨p,dx,q,xs,rfl,_⟩:=h
  rfl
 ·obtain ⟨p,dx,q,xs,rfl,hp,hq,k⟩:=h
  refine ⟨_,ag (aX (pv 0) (pv 1) rfl) (ag (aX (pv 0) ak rfl) (ag (aX (pv 0) ak rfl) (ah (aX (pv 0) (dj eM (by rfl) T.eW PySem.boot_len (aa (pv 1) af)) rfl)))),?_⟩
  refine ⟨_,rfl,_,rfl,p,A.au,dx, [],rfl,hp,T.aN,T.ij,(by show 0<1000;decide),?_⟩
  refine ⟨_,rfl,p,A.au,dx,_,rfl,ao,T.aN,T.cX,(by show 1<1000;decide),?_⟩
  rw[bV]
  refine ⟨_,rfl,p,A.au,dx,_,rfl,ao,T.aN,T.qb,(by show 2<1000;decide),?_⟩
  rw[bV]
  refine ⟨_,rfl,q,xs,rfl, .inl (xD hp hq),_,rfl,p,A.au,dx,_,rfl,ao,T.aN,T.wD,(by show 3<1000;decide),?_⟩
  rw[bV]
  exact k
def IU (A:aK):Sp:=fun vs H _ E=> ∃(p dx:Addr) (d pl f0 o0:V) (k q:Nat),vs= [.ref p, .int (k:Nat), .int (q:Nat)]∧H p=some (.ins A.au dx (bB d pl f0 o0))∧E (.ref A.ck) none (upd H p (.ins A.au dx (bB d pl (.int (k:Nat)) (.int (q:Nat)))))
theorem EW:aI ["self", "fault", "place"] ["self", "fault", "place"] (aD xy):=⟨rfl,rfl,rfl,by decide+kernel,rfl,by decide+kernel,by decide+kernel⟩
theorem eZ (T:Txt K mg A):az P w K mg base (aO P w) 1 A.kZ A.mm ["self", "fault", "place"] (IU A):=by
 refine T.Kk.bF EW (fun vs H Q E h=>?_) (fun cdv Ar outer s H vs Q E hr h=>?_)
 ·obtain ⟨p,dx,d,pl,f0,o0,k,q,rfl,_⟩:=h
  rfl
 ·obtain ⟨p,dx,d,pl,f0,o0,k,q,rfl,hp,e⟩:=h
  refine ⟨_,ag (aX (pv 0) (pv 1) rfl) (ag (aX (pv 0) (pv 2) rfl) (ah (dn rfl rfl T.yX T.wY.exc dA))),?_⟩
  refine ⟨_,rfl,_,rfl,p,A.au,dx,_,rfl,hp,T.aN,T.qb,(by show 4<1000;decide),?_⟩
  rw[LL]
  refine ⟨_,rfl,_,rfl,p,A.au,dx,_,rfl,ao,T.aN,T.wD,(by show 4<1000;decide),?_⟩
  rw[bV,KA]
  exact e
def CP (K:PySem.W.Frag) (A:aK):Sp:=fun vs H _ E=> ∃(p dx q:Addr) (pl f0 o0:V) (xs:List V),vs= [.ref p]∧H p=some (.ins A.au dx (bB (.ref q) pl f0 o0))∧ai K H q xs∧E (.ref A.ck) none (upd H p (.ins A.au dx (bB (.ref q) pl (.int ((1:Nat):Int)) (.int (xs.length:Nat)))))
theorem CY:aI ["self"] ["self"] (aD ur):=⟨rfl,rfl,rfl,by decide+kernel,rfl,by decide+kernel,by decide+kernel⟩
theorem FD (T:Txt K mg A):az P w K mg base (aO P w) 2 A.mI A.lV ["self"] (CP K A):=by
 refine T.EE.bF CY (fun vs H Q E h=>?_) (fun cdv Ar outer s H vs Q E hr h=>?_)
 ·obtain ⟨p,dx,q,pl,f0,o0,xs,rfl,_⟩:=h
  rfl
 ·obtain ⟨p,dx,q,pl,f0,o0,xs,rfl,hp,hq,e⟩:=h
  refine ⟨_,ah (bp (aL (pv 0) T.aN T.eG (eZ T) hr T.eU .nil aH (aa (a8 rfl T.Gy) (aa (dj eM (by rfl) T.eW PySem.boot_len (aa (ay (pv 0) rfl) af)) af)))),?_⟩
  exact ⟨_,rfl,p,dx,_,rfl,hp,rfl,_,rfl,p,A.au,dx,_,_,rfl,hp,T.aN,T.ij,rfl,q,xs,rfl, .inl hq,p,dx,_,_,_,_,1,xs.length,rfl,hp,e⟩
def Gp (K:PySem.W.Frag) (A:aK):Sp:=fun vs H Q E=> ∃(R:Rg) (pl n:Nat),vs= [.ref R.r, .int (n:Nat)]∧cH K H R∧aJ A.au H R pl∧cw A H R (dz R.B pl n) (fun b H'=> ∀D,H D=none→H' D=some (.lst (vN (bn b)))→Q (.ref D) H') E
theorem wQ:aI ["self", "count", "begin"] ["self", "count"] (aD Ae):=⟨rfl,rfl,rfl,by decide+kernel,rfl,by decide+kernel,by decide+kernel⟩
theorem lH (T:Txt K mg A):az P w K mg base (aO P w) 3 A.mY A.mq ["self", "count"] (Gp K A):=by
 refine T.DO.bF wQ (fun vs H Q E h=>?_) (fun cdv Ar outer s H vs Q E hr h=>?_)
 ·obtain ⟨R,pl,n,rfl,_⟩:=h
  rfl
 ·obtain ⟨R,pl,n,rfl,hI,hx,k⟩:=h
  refine ⟨_,ag (aF (i:=2) wQ.nd rfl (Or.inl rfl) (ay (pv 0) rfl))
   (ag (a9 (aY cO (ax bS (pv 2) (pv 1)) (dj eM (by rfl) T.eW PySem.boot_len (aa (ay (pv 0) rfl) af)) (aP _)) (ah (bp (K6 (pv 0) T.aN T.Kg (FD T) hr T.EZ .nil aH))) bh)
   (ag (aX (pv 0) (ax bS (pv 2) (pv 1)) rfl)
   (ah (aR (eC ek (ay (pv 0) rfl) (cv (pv 2)) (cv (ay (pv 0) rfl))))))),?_⟩
  have hq:=hI.sq
  unfold aJ at hx
  refine ⟨_,rfl,R.r,A.au,R.dr,_,_,rfl,hx,T.aN,T.cX,rfl,?_⟩
  refine ⟨_,rfl,_,rfl,_,_,rfl,rfl,_,rfl,R.r,A.au,R.dr,_,_,rfl,hx,T.aN,T.ij,rfl,R.q,_,rfl, .inl hq,_,_,rfl,rfl,_,rfl,?_⟩
  rw[cK,dG]
  dsimp only
  rw[show ((pl:Nat):Int)+((n:Nat):Int)=((pl+n:Nat):Int) by omega]
  unfold dz cw at k
  refine bL (fun c=>?_) fun c=>?_
  ·have c:((R.B.length:Nat):Int)<((pl+n:Nat):Int):=of_decide_eq_true c
   rw[if_pos (by omega)] at k
   refine ⟨_,rfl,R.r,R.dr,_,rfl,hx,rfl,R.r,R.dr,R.q,_,_,_,_,rfl,hx,hq,k _ cP ⟨.int (pl:Nat),?_⟩⟩
   rw[ao,cK,dG]
  ·have c: ¬((R.B.length:Nat):Int)<((pl+n:Nat):Int):=fun z=>c (decide_eq_true z)
   rw[if_neg (by omega)] at k
   refine ⟨_,rfl,_,rfl,_,_,rfl,rfl,_,rfl,R.r,A.au,R.dr,_,rfl,hx,T.aN,T.cX,(by show 4<1000;decide),?_⟩
   dsimp only
   rw[BF,show ((pl:Nat):Int)+((n:Nat):Int)=((pl+n:Nat):Int) by omega]
   refine ⟨_,rfl,R.r,A.au,R.dr,_,_,rfl,ao,T.aN,T.ij,rfl,_,rfl,_,rfl,_,rfl,R.r,A.au,R.dr,_,_,rfl,ao,T.aN,T.cX,rfl,_,rfl,R.q,_,rfl,xD hx hq,fun D hD=>?_⟩
   have hDr:D≠R.r:=fun z=>by rw[z,ao] at hD;cases hD
   have hD0:H D=none:=by rw[aB hDr] at hD;exact hD
   have s1:ae (hide R.r H) (upd (upd H R.r (.ins A.au R.dr (bB (.ref R.q) (.int ((pl+n:Nat):Int)) (.int 0) (.int (R.B.length:Nat))))) D (.lst (cx (vN (bn R.B)) (some ((pl:Nat):Int)) (some ((pl+n:Nat):Int))))):=cP.trans (aQ hD)
   refine k _ s1 ?_ D hD0 ?_
   ·unfold aJ
    rw[aB (Ne.symm hDr),ao]
   ·rw[ao,iV,show pl+n-pl=n by omega,iK,gD]
def K3 (K:PySem.W.Frag) (A:aK):Sp:=fun vs H Q E=> ∃(R:Rg) (pl n:Nat),vs= [.ref R.r, .int (n:Nat)]∧cH K H R∧aJ A.au H R pl∧n≤1000∧cw A H R (dz R.B pl n) (fun b H'=>Q (.int (Sound.fromHigh b:Nat)) H') E
theorem Ge:aI ["self", "count"] ["self", "count"] (aD we):=⟨rfl,rfl,rfl,by decide+kernel,rfl,by decide+kernel,by decide+kernel⟩
theorem jf (T:Txt K mg A):az P w K mg base (aO P w) 4 A.kq A.l0 ["self", "count"] (K3 K A):=by
 refine T.En.bF Ge (fun vs H Q E h=>?_) (fun cdv Ar outer s H vs Q E hr h=>?_)
 ·obtain ⟨R,pl,n,rfl,_⟩:=h
  rfl
 ·obtain ⟨R,pl,n,rfl,hI,hx,hn,k⟩:=h
  have hr1':aC 1 _:=hr.mono (by decide)
  refine ⟨_,ah (aR (bc (pb T) hr1' rfl T.pV T.lU.kp T.oI .nil bo (aa (aL (pv 0) T.aN T.lu (lH T) hr T.kO .nil aH (aa (pv 1) af)) af))),?_⟩
  refine ⟨_,rfl,R.r,R.dr,_,rfl,hx,rfl,_,rfl,R,pl,n,rfl,hI,hx,?_⟩
  unfold cw dz at k⊢
  by_cases c:R.B.length<pl+n
  ·rw[if_pos c] at k⊢
   exact k
  ·rw[if_neg c] at k⊢
   dsimp only at k⊢
   intro H' s' hS D hD hxD
   refine ⟨D,_,rfl,ai.of hxD,(by rw[dG,List.length_take];omega),fe _,?_⟩
   have e:bA (bn ((R.B.drop pl).take n))=Sound.fromHigh ((R.B.drop pl).take n):=(jT _).symm
   rw[e]
   exact k H' s' hS
def DR (K:PySem.W.Frag) (A:aK):Sp:=fun vs H Q E=> ∃(R:Rg) (pl b f:Nat),vs= [.ref R.r, .int (b:Nat), .int (f:Nat)]∧cH K H R∧aJ A.au H R pl∧cw A H R (lz R.B b pl f) (fun _ H'=>Q .aq H') E
theorem uD:aI ["self", "begin", "fault", "place"] ["self", "begin", "fault"] (aD vI):=⟨rfl,rfl,rfl,by decide+kernel,rfl,by decide+kernel,by decide+kernel⟩
theorem qh (T:Txt K mg A):az P w K mg base (aO P w) 5 A.kb A.lX ["self", "begin", "fault"] (DR K A):=by
 refine T.IA.bF uD (fun vs H Q E h=>?_) (fun cdv Ar outer s H vs Q E hr h=>?_)
 ·obtain ⟨R,pl,b,f,rfl,_⟩:=h
  rfl
 ·obtain ⟨R,pl,b,f,rfl,hI,hx,k⟩:=h
  have hr1':aC 1 _:=hr.mono (by decide)
  refine ⟨_,ag (aF (i:=3) uD.nd rfl (Or.inl rfl) (ay (pv 0) rfl))
   (ah (a9 (aY fQ (aL (pv 0) T.aN T.jc (jf T) hr T.i8 .nil aH (aa (a8 rfl T.uu) af)) (bc (CW T) hr1' rfl T.Jt T.xY.kp T.Gs .nil bo (aa (eC ek (ay (pv 0) rfl) (cv (pv 1)) (cv (pv 3))) af)) (aP _))
    (ah (bp (aL (pv 0) T.aN T.eG (eZ T) hr1' T.eU .nil aH (aa (pv 2) (aa (pv 3) af))))) bh)),?_⟩
  have hx':=hx
  unfold aJ at hx'
  refine ⟨_,rfl,R.r,A.au,R.dr,_,_,rfl,hx',T.aN,T.cX,rfl,?_⟩
  refine ⟨_,rfl,R.r,R.dr,_,rfl,hx',rfl,R,pl,4,rfl,hI,hx,by decide,?_⟩
  unfold cw lz at k
  unfold cw dz
  by_cases c:R.B.length<pl+4
  ·rw[if_pos c] at k⊢
   exact k
  ·rw[if_neg c] at k⊢
   dsimp only
   intro H1 s1 hS
   have hS':=hS
   unfold aJ at hS'
   refine ⟨_,rfl,R.r,A.au,R.dr,_,_,rfl,hS',T.aN,T.ij,rfl,_,rfl,_,rfl,_,rfl,_,rfl,R.q,_,rfl,(hI.go s1).sq,fun p hp=>?_⟩
   rw[iV,iK,gD]
   have s2:=aQ (o:= .lst (vN (bn ((R.B.drop b).take (pl-b))))) hp
   have hS2:=s2 _ _ hS'
   refine ⟨p,_,rfl,ai.of ao,fe _,rfl,_,rfl,?_⟩
   have ec:o7 (bn ((R.B.drop b).take (pl-b)))=Sound.crc32 ((R.B.drop b).take (pl-b)):=A5 _
   rw[ec]
   generalize upd H1 p (.lst (vN (bn ((R.B.drop b).take (pl-b)))))=H2 at*
   by_cases c2:Sound.fromHigh ((R.B.drop pl).take 4)=Sound.crc32 ((R.B.drop b).take (pl-b))
   ·rw[decide_eq_true (by rw[c2])]
    rw[if_neg (fun z=>z c2)] at k
    exact bw (k H2 (s1.trans s2) hS2)
   ·rw[decide_eq_false (fun z=>c2 (by have:=V.int.inj z;omega))]
    rw[if_pos c2] at k
    refine bf ⟨_,rfl,R.r,R.dr,_,rfl,hS2,rfl,_,rfl,_,rfl,R.r,R.dr,_,_,_,_,f,pl,rfl,hS2,k _ (bu (s1.trans s2) cP) ⟨_,ao⟩⟩
def ju (a b:V):List (Str×V):= [("key",a),("value",b)]
def Cm (C:Addr):Sp:=fun vs H Q _=> ∃(p dx:Addr) (a b:V),vs= [.ref p,a,b]∧H p=some (.ins C dx [])∧Q .aq (upd H p (.ins C dx (ju a b)))
theorem Ed:aI ["self", "key", "value"] ["self", "key", "value"] (aD tZ):=⟨rfl,rfl,rfl,by decide+kernel,rfl,by decide+kernel,by decide+kernel⟩
theorem Fe (T:Txt K mg A):az P w K mg base bx 1 A.mK A.jM ["self", "key", "value"] (Cm A.bK):=by
 refine T.DH.ok Ed (fun vs H Q E h=>?_) (fun cdv Ar outer s H vs Q E hr h=>?_)
 ·obtain ⟨p,dx,a,b,rfl,_⟩:=h
  rfl
 ·obtain ⟨p,dx,a,b,rfl,hp,k⟩:=h
  refine ⟨_,ag (aX (pv 0) (pv 1) rfl) (ah (aX (pv 0) (pv 2) rfl)),?_⟩
  refine ⟨_,rfl,_,rfl,p,A.bK,dx, [],rfl,hp,T.qA,T.wg,(by show 0<1000;decide),?_⟩
  refine ⟨_,rfl,_,rfl,p,A.bK,dx,_,rfl,ao,T.qA,T.Bs,(by show 1<1000;decide),?_⟩
  rw[bV]
  exact k
def kB (n:Nat):Bool:=decide (33≤n)&&(decide (n≤126)&&n !=61)
theorem EJ (b:Sound.Bytes):Sound.mayKey b=(bn b).all kB:=by
 unfold Sound.mayKey bn
 rw[List.all_map]
 congr 1
 funext c
 unfold kB
 show _=(decide (33≤c.toNat)&&(decide (c.toNat≤126)&&c.toNat !=61))
 congr 2
 by_cases h:c=61
 ·subst h;rfl
 ·have h2: ¬c.toNat=61:=fun z=>h (UInt8.toNat_inj.mp z)
  rw[show (c !=61)=true from bne_iff_ne.mpr h,show (c.toNat !=61)=true from bne_iff_ne.mpr h2]
def CV (K:PySem.W.Frag):Sp:=fun vs H Q _=> ∃(q:Addr) (b:Sound.Bytes),vs= [.ref q]∧ai K H q (vN (bn b))∧b.length≤1000∧ ∀H',ae H H'→Q (.bl (Sound.mayKey b)) H'
theorem r8:aI ["key", "byte"] ["key"] (aD Ai):=⟨rfl,rfl,rfl,by decide+kernel,rfl,by decide+kernel,by decide+kernel⟩
theorem DM (T:Txt K mg A):az P w K mg base bx 1 A.my A.jN ["key"] (CV K):=by
 refine T.za.ok r8 (fun vs H Q E h=>?_) (fun cdv Ar outer s H vs Q E hr h=>?_)
 ·obtain ⟨q,b,rfl,_⟩:=h
  rfl
 ·obtain ⟨q,b,rfl,hq,hl,k⟩:=h
  refine ⟨_,ah (aR (dj (u4 rfl) rfl T.xl (by decide+kernel:bootBuiltins "all" =some (.builtin "all")) (aa (iz (own:= [("byte",1)]) rfl r8.nd (dI (pv 0)) (fc (by kernel_rfl)) (fun _ _ _ _ _=>bH (i:=1) r8.nd rfl (Or.inl rfl)) (fun _ _ _ _ _=>e9)
   (fun _ _ _ _ _=>tw (tM fy fy ak (pv 1) ak) (Ao (iM fQ (pv 1) (a8 rfl T.DZ) (aP _))))) af))),?_⟩
  refine ⟨_,rfl,q,rfl,⟨_,hq⟩,fun D hD=>?_⟩
  refine gX (J:=eF K q) hD (bn b).length (by rw[dG,sizeLine_eq];omega) (fun i=> .bl (kB ((bn b).getD i 0))) (fun i Hh hi t1=>⟨_,_,t1.seq hq,iR hi⟩) (fun Hh t1=>⟨_,t1.seq hq,by rw[cK];exact Nat.le_refl _⟩) ?_ ?_
  ·rintro i Hh z H' hi t1 ⟨rfl,hz⟩ C hC
   obtain ⟨rfl,_⟩:=iE (hz _ (t1.seq hq))
   have hC:=hC _ (ae.refl _)
   generalize (bn b).getD i 0=c at*
   refine ⟨rfl,_,rfl,_,_,rfl,rfl,_,rfl,?_⟩
   unfold kB at hC
   by_cases c1:33≤c
   ·rw[decide_eq_true c1,Bool.true_and] at hC
    rw[decide_eq_true (show (33:Int)≤((c:Nat):Int) by omega)]
    refine bf ⟨_,_,rfl,rfl,_,rfl,?_⟩
    by_cases c2:c≤126
    ·rw[decide_eq_true c2,Bool.true_and] at hC
     rw[decide_eq_true (show ((c:Nat):Int)≤126 by omega)]
     refine bf ⟨_,rfl,rfl,?_⟩
     have e:(!decide (V.int ((c:Nat):Int)=V.int 61))=(c !=61):=by
      by_cases c3:c=61
      ·subst c3;rfl
      ·rw[decide_eq_false (fun z=>c3 (by have:=V.int.inj z;omega)),show (c !=61)=true from bne_iff_ne.mpr c3];rfl
     rw[e]
     exact hC
    ·rw[decide_eq_false c2,Bool.false_and] at hC
     rw[decide_eq_false (show¬((c:Nat):Int)≤126 by omega)]
     exact bw hC
   ·rw[decide_eq_false c1,Bool.false_and] at hC
    rw[decide_eq_false (show¬(33:Int)≤((c:Nat):Int) by omega)]
    exact bw ⟨_,rfl,bw hC⟩
  ·intro H2 s2 hx2
   have e:(List.range (bn b).length).map (fun i=>V.bl (kB ((bn b).getD i 0)))=((bn b).map kB).map V.bl:=by
    rw[List.map_map]
    refine List.ext_getElem (by simp) fun i h1 h2=>?_
    simp at h1
    simp [List.getD_eq_getElem?_getD,List.getElem?_eq_getElem h1]
   rw[e] at hx2
   refine ⟨D,_,rfl,ai.of hx2,?_⟩
   have e2:((bn b).map kB).all id=Sound.mayKey b:=by rw[EJ,List.all_map];rfl
   rw[e2]
   exact k H2 s2
def valOf (t:Sound.Bytes):Sound.Bytes:=t.drop ((Sound.keyOf t).length+3)
def iW (C:Addr) (H:Hp) (x:Addr) (t:Sound.Bytes):Prop:= ∃dx a b,H x=some (.ins C dx (ju (.ref a) (.ref b)))∧H a=some (.lst (vN (bn (Sound.keyOf t))))∧H b=some (.lst (vN (bn (valOf t))))
theorem iW.same {C:Addr} {H H':Hp} {x:Addr} {t:Sound.Bytes} (h:iW C H x t) (s:ae H H'):iW C H' x t:=by
 obtain ⟨dx,a,b,h1,h2,h3⟩:=h
 exact ⟨dx,a,b,s _ _ h1,s _ _ h2,s _ _ h3⟩
theorem zy {Z H H':Hp} (s:ae H H'):ae (newOf Z H) (newOf Z H'):=fun b o e=>by
 obtain ⟨e1,e2⟩:=jq e
 rw[fD e1];exact s b o e2
def cV (C:Addr) (Z H:Hp) (r D:Addr) (l:List Sound.Bytes):Prop:= ∃as:List Addr,hide r H D=some (.lst (as.map V.ref))∧as.length=l.length∧(∀(k:Nat) (a:Addr),as[k]?=some a→iW C (newOf Z (hide D (hide r H))) a (l.getD k []))∧ ∀b,H b=none→b≠D→b≠r→Z b=none
theorem cV.go {C:Addr} {Z H H':Hp} {r D:Addr} {l:List Sound.Bytes} (h:cV C Z H r D l) (s:ae (hide r H) H'):cV C Z H' r D l:=by
 obtain ⟨as,h1,h2,h3,h4⟩:=h
 refine ⟨as,nW s _ _ h1,h2,fun k a e=>(h3 k a e).same (zy (oP (nW s))),fun b hb hD hr=>h4 b ?_ hD hr⟩
 cases e:H b with
 |none=>rfl
 |some o=>rw[s b o (by rw[hide_ne hr];exact e)] at hb;cases hb
def cT (at_ n:Nat) (seen:List Sound.Bytes) (b:Sound.Bytes):Sound.Stand⊕Nat:=
 if n=0 then .inl (.fault 5 at_) else if b.length<1 then .inl .more else
 let m:=Sound.fromHigh (b.take 1)
 if m=0∨32<m∨n<m+3 then .inl (.fault 5 at_)
 else if b.length<1+m then .inl .more
 else if (Sound.mayKey ((b.drop 1).take m)&&!(seen.any fun (x:Sound.Bytes)=>Sound.keyOf x==(b.drop 1).take m))=false then .inl (.fault 5 at_)
 else if b.length<m+3 then .inl .more
 else
  let v:=Sound.fromHigh ((b.drop (1+m)).take 2)
  if n<m+3+v then .inl (.fault 5 at_) else if b.length<m+3+v then .inl .more else .inr (m+3+v)
theorem oA (c:UInt8) (r:Sound.Bytes):Sound.fromHigh ((c::r).take 1)=c.toNat:=by
 rw[jT]
 show 256*0+c.toNat=_
 omega
theorem oB (k at_ n:Nat) (seen:List Sound.Bytes) (b:Sound.Bytes):Sound.tagItems (k+1) at_ n seen b=match cT at_ n seen b with
  | .inl s=>(seen, .inl s)
  | .inr z=>Sound.tagItems k (at_+z) (n-z) (seen++ [b.take z]) (b.drop z):=by
 conv=>lhs;unfold Sound.tagItems
 unfold cT
 by_cases h0:n=0
 ·rw[if_pos h0,if_pos h0]
 ·rw[if_neg h0,if_neg h0]
  cases b with
  |nil=>rfl
  |cons c r=>
   rw[if_neg (by simp)]
   simp only [oA]
   split
   ·rfl
   ·split
    ·rfl
    ·split
     ·rfl
     ·split
      ·rfl
      ·split
       ·rfl
       ·split
        ·rfl
        ·simp only [Nat.add_assoc]
def yz (len:Nat):Sound.Stand→Nat×Nat
 | .more=>(1,len)
 | .whole=>(0,len)
 | .fault k p=>(k,p)
theorem oF {B:Sound.Bytes} {pl N i j:Nat} (h:i+j≤N):(((B.drop pl).take N).drop i).take j=(B.drop (pl+i)).take j:=by
 rw[List.drop_take,List.take_take,List.drop_drop,Nat.min_eq_left (by omega)]
theorem ou {B:Sound.Bytes} {pl N j:Nat} (h:j≤N) (hp:pl≤B.length):((B.drop pl).take N).length<j↔B.length<pl+j:=by
 rw[List.length_take,List.length_drop]
 omega
def vV (A:aK) (H:Hp) (R:Rg) (Z:Hp) (D:Addr) (pl:Nat) (seen:List Sound.Bytes) (b:Sound.Bytes) (o:Sound.Stand⊕Nat) (Q:VK) (E:XK):Prop:=match o with
 | .inl st=> ∀H',ae (hide D (hide R.r H)) H'→ee A.au H' R (yz R.B.length st).1 (yz R.B.length st).2→cV A.bK Z H' R.r D seen→E (.ref A.ck) none H'
 | .inr z=> ∀H',ae (hide D (hide R.r H)) H'→aJ A.au H' R (pl+z)→cV A.bK Z H' R.r D (seen++ [b.take z])→Q .aq H'
def Jc (K:PySem.W.Frag) (A:aK):Sp:=fun vs H Q E=> ∃(R:Rg) (Z:Hp) (D:Addr) (pl n:Nat) (seen:List Sound.Bytes),vs= [.ref R.r, .int ((pl+n:Nat):Int), .ref D]∧cH K H R∧aJ A.au H R pl∧cV A.bK Z H R.r D seen∧(pl≤R.B.length∧seen.length≤100000)∧
 vV A H R Z D pl seen ((R.B.drop pl).take (n+4)) (cT pl n seen ((R.B.drop pl).take (n+4))) Q E
theorem iH:aI ["reading", "end", "tags", "begin", "key_size", "key", "value_size", "tag"] ["reading", "end", "tags"] (aD u6):=⟨rfl,rfl,rfl,by decide+kernel,rfl,by decide+kernel,by decide+kernel⟩
theorem LD {a c:Sound.Bytes} (z:bn a=bn c):a=c:=by
 unfold bn at z
 exact (List.map_inj_right fun _ _=>UInt8.toNat_inj.mp).mp z
theorem oX {a c:Sound.Bytes}:((bn a).map (fun (n:Nat)=>(n:Int))=(bn c).map fun (n:Nat)=>(n:Int))↔a=c:=by
 constructor
 ·intro z
  exact LD ((List.map_inj_right fun _ _ h=>Int.ofNat.inj h).mp z)
 ·rintro rfl;rfl
theorem Jj (T:Txt K mg A):az P w K mg base (aO P w) 6 A.kS A.mW ["reading", "end", "tags"] (Jc K A):=by
 refine T.xo.bF iH (fun vs H Q E h=>?_) (fun cdv Ar outer s H vs Q E hr h=>?_)
 ·obtain ⟨R,Z,D,pl,n,seen,rfl,_⟩:=h
  rfl
 ·obtain ⟨R,Z,D,pl,n,seen,rfl,hI,hx,ht,⟨hplB,hseen⟩,k⟩:=h
  have hr1':aC 1 _:=hr.mono (by decide)
  have hr2':aC 2 _:=hr.mono (by decide)
  have hr3':aC 3 _:=hr.mono (by decide)
  have hr4':aC 4 _:=hr.mono (by decide)
  refine ⟨_,ag (aF (i:=3) iH.nd rfl (Or.inl rfl) (ay (pv 0) rfl))
   (ag (a9 (aY cI (pv 3) (pv 1) (aP _)) (ah (bp (aL (pv 0) T.aN T.eG (eZ T) hr1' T.eU .nil aH (aa (a8 rfl T.iX) (aa (pv 3) af))))) bh)
   (ag (aF (i:=4) iH.nd rfl (Or.inl rfl) (aL (pv 0) T.aN T.jc (jf T) hr4' T.i8 .nil aH (aa ak af)))
   (ag (a9 (PW.pt (lS (gk (xq fy fy ak (pv 4) (a8 rfl T.Ca))) (lZ (aY cO (ax bS (ax bS (ay (pv 0) rfl) (pv 4)) (a8 rfl T.wo)) (pv 1) (aP _))))) (ah (bp (aL (pv 0) T.aN T.eG (eZ T) hr1' T.eU .nil aH (aa (a8 rfl T.iX) (aa (pv 3) af))))) bh)
   (ag (aF (i:=5) iH.nd rfl (Or.inr rfl) (aL (pv 0) T.aN T.lu (lH T) hr3' T.kO .nil aH (aa (pv 4) af)))
   (ag (a9 (PW.pt (lS (gk (iO (bc (DM T) hr1' rfl T.A8 T.za.kp T.Kw .nil bo (aa (pv 5) af)))) (lZ (iO (dj (Iq rfl) rfl T.BJ (by decide+kernel:bootBuiltins "any" =some (.builtin "any")) (aa (iz (own:= [("tag",7)]) rfl iH.nd (dI (pv 2)) (fc (by kernel_rfl)) (fun _ _ _ _ _=>bH (i:=7) iH.nd rfl (Or.inl rfl)) (fun _ _ _ _ _=>e9)
     (fun _ _ _ _ _=>iM (BS (K:=K) rfl hr.units) (AL (K:=K) rfl (pv 7) rfl) (pv 5) (aP _))) af)))))) (ah (bp (aL (pv 0) T.aN T.eG (eZ T) hr1' T.eU .nil aH (aa (a8 rfl T.iX) (aa (pv 3) af))))) bh)
   (ag (aF (i:=6) iH.nd rfl (Or.inl rfl) (aL (pv 0) T.aN T.jc (jf T) hr4' T.i8 .nil aH (aa (a8 rfl T.wo) af)))
   (ag (a9 (aY cO (ax bS (ay (pv 0) rfl) (pv 6)) (pv 1) (aP _)) (ah (bp (aL (pv 0) T.aN T.eG (eZ T) hr1' T.eU .nil aH (aa (a8 rfl T.iX) (aa (pv 3) af))))) bh)
   (ah (bp (gU PySem.F.plainAttrs_list PySem.F.slot_list_append PySem.F.type_list_append oq (pv 2) (aa (eS T.Ck (Fe T) hr2' rfl T.Iw T.Lp .nil bo (aa (pv 5) (aa (aL (pv 0) T.aN T.lu (lH T) hr3' T.kO .nil aH (aa (pv 6) af)) af))) af))))))))))),?_⟩
  generalize hb:(R.B.drop pl).take (n+4)=b at*
  have hblen: ∀j,j≤n+4→(b.length<j↔R.B.length<pl+j):=fun j hj=>by rw[←hb];exact ou hj hplB
  have hcut: ∀i j,i+j≤n+4→(b.drop i).take j=(R.B.drop (pl+i)).take j:=fun i j hj=>by rw[←hb];exact oF hj
  unfold cT at k
  have stop: ∀(H1:Hp) (p1:Nat),ae (hide R.r H) H1→aJ A.au H1 R p1→(∀H',ae (hide D (hide R.r H)) H'→ee A.au H' R 5 pl→cV A.bK Z H' R.r D seen→E (.ref A.ck) none H')→
    E (.ref A.ck) none (upd H1 R.r (.ins A.au R.dr (bB (.ref R.q) (.int (p1:Nat)) (.int ((5:Nat):Int)) (.int (pl:Nat))))):=fun H1 p1 s1 h1 kk=>by
   have s2:ae (hide R.r H) (upd H1 R.r (.ins A.au R.dr (bB (.ref R.q) (.int (p1:Nat)) (.int ((5:Nat):Int)) (.int (pl:Nat))))):=bu s1 cP
   exact kk _ ((dZ D _).trans s2) ⟨_,ao⟩ (ht.go s2)
  have hx':=hx
  unfold aJ at hx'
  refine ⟨_,rfl,R.r,A.au,R.dr,_,_,rfl,hx',T.aN,T.cX,rfl,?_⟩
  refine ⟨_,rfl,_,rfl,rfl,_,rfl,?_⟩
  by_cases c0:n=0
  ·rw[decide_eq_true (by rw[c0];rfl)]
   rw[if_pos c0] at k
   exact bf ⟨_,rfl,R.r,R.dr,_,rfl,hx',rfl,_,rfl,R.r,R.dr,_,_,_,_,5,pl,rfl,hx',stop H pl (tJ (ae.refl _)) hx k⟩
  rw[decide_eq_false (fun z=>c0 (by have:=V.int.inj z;omega)),if_neg c0] at*
  refine bw ⟨_,rfl,R.r,R.dr,_,rfl,hx',rfl,R,pl,1,rfl,hI,hx,by decide,?_⟩
  unfold cw dz
  by_cases c1:R.B.length<pl+1
  ·rw[if_pos c1]
   rw[if_pos ((hblen 1 (by omega)).mpr c1)] at k
   exact fun H' s' hF=>k H' ((dZ D _).trans s') hF (ht.go s')
  rw[if_neg c1]
  rw[if_neg (fun z=>c1 ((hblen 1 (by omega)).mp z))] at k
  dsimp only at k⊢
  intro H1 s1 hS1
  have e1:(R.B.drop pl).take 1=b.take 1:=by
   have:=hcut 0 1 (by omega)
   rw[List.drop_zero,Nat.add_zero] at this
   exact this.symm
  rw[e1]
  have hm256:Sound.fromHigh (b.take 1)<256:=by
   rw[jT]
   have h1:=oo (l:=(b.take 1).map UInt8.toNat) (fun x hx=>fe (b.take 1) x hx)
   have h2:256^((b.take 1).map UInt8.toNat).length≤256^1:=Nat.pow_le_pow_right (by decide) (by rw[List.length_map,List.length_take];omega)
   omega
  generalize hm:Sound.fromHigh (b.take 1)=m at*
  have hS1':=hS1
  unfold aJ at hS1'
  have I1:=hI.go s1
  refine ⟨_,rfl,_,_,rfl,rfl,_,rfl,?_⟩
  have bad1:(m=0∨32<m∨n<m+3)→ ∀H',ae (hide D (hide R.r H)) H'→ee A.au H' R 5 pl→cV A.bK Z H' R.r D seen→E (.ref A.ck) none H':=fun c=>by
   rw[if_pos c] at k
   exact k
  by_cases c2:(1:Int)≤((m:Nat):Int)
  case neg=>
   rw[decide_eq_false c2]
   exact bw ⟨_,rfl,bf (bf ⟨_,rfl,R.r,R.dr,_,rfl,hS1',rfl,_,rfl,R.r,R.dr,_,_,_,_,5,pl,rfl,hS1',stop H1 _ s1 hS1 (bad1 (.inl (by omega)))⟩)⟩
  rw[decide_eq_true c2]
  refine bf ⟨_,_,rfl,rfl,_,rfl,?_⟩
  by_cases c3:((m:Nat):Int)≤32
  case neg=>
   rw[decide_eq_false c3]
   exact bf (bf ⟨_,rfl,R.r,R.dr,_,rfl,hS1',rfl,_,rfl,R.r,R.dr,_,_,_,_,5,pl,rfl,hS1',stop H1 _ s1 hS1 (bad1 (.inr (.inl (by omega))))⟩)
  rw[decide_eq_true c3]
  refine bw ⟨_,rfl,R.r,A.au,R.dr,_,_,rfl,hS1',T.aN,T.cX,rfl,_,rfl,_,_,rfl,rfl,_,_,rfl,rfl,_,rfl,_,_,rfl,rfl,_,rfl,?_⟩
  dsimp only
  refine bL (fun c4=>?_) fun c4=>?_
  ·have c4:((pl+n:Nat):Int)<((pl+1:Nat):Int)+((m:Nat):Int)+2:=of_decide_eq_true c4
   exact ⟨_,rfl,R.r,R.dr,_,rfl,hS1',rfl,_,rfl,R.r,R.dr,_,_,_,_,5,pl,rfl,hS1',stop H1 _ s1 hS1 (bad1 (.inr (.inr (by omega))))⟩
  have c4: ¬((pl+n:Nat):Int)<((pl+1:Nat):Int)+((m:Nat):Int)+2:=fun z=>c4 (decide_eq_true z)
  rw[if_neg (by rintro (z|z|z)<;>omega)] at k
  refine ⟨_,rfl,R.r,R.dr,_,rfl,hS1',rfl,_,rfl,R,pl+1,m,rfl,I1,hS1,?_⟩
  unfold cw dz
  by_cases c5:R.B.length<pl+1+m
  ·rw[if_pos c5]
   rw[if_pos ((hblen (1+m) (by omega)).mpr (by omega))] at k
   exact fun H' s' hF=>k H' ((dZ D _).trans (bu s1 s')) hF (ht.go (bu s1 s'))
  rw[if_neg c5]
  rw[if_neg (fun z=>c5 (by have:=(hblen (1+m) (by omega)).mp z;omega))] at k
  dsimp only
  intro H2 s2 hS2 Dk hDk hDkx
  rw[←hcut 1 m (by omega)] at hDkx
  have s12:=bu s1 s2
  have hDkr:Dk≠R.r:=fun z=>by rw[z,hS1'] at hDk;cases hDk
  generalize hkey:(b.drop 1).take m=key at*
  have hkl:key.length=m:=by
   rw[←hkey,List.length_take,List.length_drop]
   have:=(hblen (1+m) (by omega))
   omega
  refine ⟨_,rfl,Dk,key,rfl,ai.of hDkx,by omega,fun H3 s3=>⟨_,rfl,?_⟩⟩
  have hS3:aJ A.au H3 R (pl+1+m):=s3 _ _ hS2
  have hS3':=hS3
  unfold aJ at hS3'
  have s13:ae (hide R.r H) H3:=s12.trans s3
  have hDk3:=s3 _ _ hDkx
  have bad2:(Sound.mayKey key&&!(seen.any fun (x:Sound.Bytes)=>Sound.keyOf x==key))=false→ ∀H',ae (hide D (hide R.r H)) H'→ee A.au H' R 5 pl→cV A.bK Z H' R.r D seen→E (.ref A.ck) none H':=fun c=>by
   rw[if_pos c] at k
   exact k
  cases c6:Sound.mayKey key with
  |false=>
   exact bf (bf ⟨_,rfl,R.r,R.dr,_,rfl,hS3',rfl,_,rfl,R.r,R.dr,_,_,_,_,5,pl,rfl,hS3',stop H3 _ s13 hS3 (bad2 (by rw[c6];rfl))⟩)
  |true=>
  refine bw ?_
  obtain ⟨as,ht1,ht2,ht3,_⟩:=ht.go s13
  have hD3:H3 D=some (.lst (as.map V.ref)):=(cB ht1).1
  have hDr:D≠R.r:=(cB ht1).2
  refine ⟨_,rfl,D,rfl,⟨_,ai.of hD3⟩,fun D4 hD4=>?_⟩
  refine gX (J:=eF K D) hD4 seen.length (by rw[sizeLine_eq];omega) (fun i=> .bl (Sound.keyOf (seen.getD i [])==key)) (fun i Hh hi t1=>?_) (fun Hh t1=>⟨_,t1.seq (ai.of hD3),by rw[List.length_map];omega⟩) ?_ ?_
  ·obtain ⟨a,ha1,_⟩:=xf (as:=as) (i:=i) (by omega)
   exact ⟨_,_,t1.seq (ai.of hD3),ha1⟩
  ·rintro i Hh z H' hi t1 ⟨rfl,hz⟩ C hC
   obtain ⟨a,rfl,ha⟩:=vi (hz _ (t1.seq (ai.of hD3)))
   obtain ⟨da,ka,va,hq1,hq2,hq3⟩:=((ht3 i a ha).same (((FC _ _).trans (dZ _ _)).trans (dZ _ _))).same t1
   refine ⟨rfl,_,rfl,a,A.bK,da,_,_,rfl,hq1,T.qA,T.wg,rfl,_,rfl,ka,Dk,(bn (Sound.keyOf (seen.getD i []))).map (fun (n:Nat)=>(n:Int)),(bn key).map (fun (n:Nat)=>(n:Int)),rfl,rfl,(by rw[←tH];exact ai.of hq2),(by rw[←tH];exact ai.of (t1 _ _ hDk3)),?_⟩
   have e:decide ((bn (Sound.keyOf (seen.getD i []))).map (fun (n:Nat)=>(n:Int))=(bn key).map fun (n:Nat)=>(n:Int))=(Sound.keyOf (seen.getD i [])==key):=by
    by_cases c:Sound.keyOf (seen.getD i [])=key
    ·rw[decide_eq_true (oX.mpr c),beq_iff_eq.mpr c]
    ·rw[decide_eq_false (fun z=>c (oX.mp z)),beq_eq_false_iff_ne.mpr c]
   rw[e]
   exact hC _ (ae.refl _)
  ·intro H4 s4 hx4
   have ebs:(List.range seen.length).map (fun i=>V.bl (Sound.keyOf (seen.getD i [])==key))=(seen.map fun x=>Sound.keyOf x==key).map V.bl:=by
    rw[List.map_map]
    refine List.ext_getElem (by simp) fun i h1 h2=>?_
    simp at h1
    simp [List.getD_eq_getElem?_getD,List.getElem?_eq_getElem h1]
   rw[ebs] at hx4
   refine ⟨D4,_,rfl,ai.of hx4,_,rfl,?_⟩
   have eany:(seen.map fun x=>Sound.keyOf x==key).any id=seen.any fun x=>Sound.keyOf x==key:=by rw[List.any_map];rfl
   rw[eany]
   have s14:ae (hide R.r H) H4:=s13.trans s4
   have hS4:aJ A.au H4 R (pl+1+m):=s4 _ _ hS3
   have hS4':=hS4
   unfold aJ at hS4'
   cases c7:seen.any fun x=>Sound.keyOf x==key with
   |true=>
    exact bf ⟨_,rfl,R.r,R.dr,_,rfl,hS4',rfl,_,rfl,R.r,R.dr,_,_,_,_,5,pl,rfl,hS4',stop H4 _ s14 hS4 (bad2 (by rw[c6,c7];rfl))⟩
   |false=>
    refine bw ?_
    rw[if_neg (by rw[c6,c7];decide)] at k
    refine ⟨_,rfl,R.r,R.dr,_,rfl,hS4',rfl,R,pl+1+m,2,rfl,hI.go s14,hS4,by decide,?_⟩
    unfold cw dz
    by_cases c8:R.B.length<pl+1+m+2
    ·rw[if_pos c8]
     rw[if_pos ((hblen (m+3) (by omega)).mpr (by omega))] at k
     exact fun H' s' hF=>k H' ((dZ D _).trans (bu s14 s')) hF (ht.go (bu s14 s'))
    rw[if_neg c8]
    rw[if_neg (fun z=>c8 (by have:=(hblen (m+3) (by omega)).mp z;omega))] at k
    dsimp only at k⊢
    intro H5 s5 hS5
    have e5:(R.B.drop (pl+1+m)).take 2=(b.drop (1+m)).take 2:=by rw[hcut (1+m) 2 (by omega),Nat.add_assoc]
    rw[e5]
    generalize Sound.fromHigh ((b.drop (1+m)).take 2)=v at*
    have s15:=bu s14 s5
    have hS5':=hS5
    unfold aJ at hS5'
    refine ⟨_,rfl,R.r,A.au,R.dr,_,_,rfl,hS5',T.aN,T.cX,rfl,_,rfl,_,_,rfl,rfl,_,rfl,_,_,rfl,rfl,_,rfl,?_⟩
    dsimp only
    refine bL (fun c9=>?_) fun c9=>?_
    ·have c9:((pl+n:Nat):Int)<((pl+1+m+2:Nat):Int)+((v:Nat):Int):=of_decide_eq_true c9
     rw[if_pos (by omega)] at k
     exact ⟨_,rfl,R.r,R.dr,_,rfl,hS5',rfl,_,rfl,R.r,R.dr,_,_,_,_,5,pl,rfl,hS5',stop H5 _ s15 hS5 k⟩
    have c9: ¬((pl+n:Nat):Int)<((pl+1+m+2:Nat):Int)+((v:Nat):Int):=fun z=>c9 (decide_eq_true z)
    rw[if_neg (by omega)] at k
    have ht5:=ht.go s15
    obtain ⟨as5,hu1,hu2,hu3,hu4⟩:=id ht5
    refine ⟨_,rfl, .inl ⟨rfl,_,ai.of (cB hu1).1⟩,_,rfl,_,rfl,R.r,R.dr,_,rfl,hS5',rfl,_,rfl,R,pl+1+m+2,v,rfl,hI.go s15,hS5,?_⟩
    unfold cw dz
    by_cases cA:R.B.length<pl+1+m+2+v
    ·rw[if_pos cA]
     rw[if_pos ((hblen (m+3+v) (by omega)).mpr (by omega))] at k
     exact fun H' s' hF=>k H' ((dZ D _).trans (bu s15 s')) hF (ht.go (bu s15 s'))
    rw[if_neg cA]
    rw[if_neg (fun z=>cA (by have:=(hblen (m+3+v) (by omega)).mp z;omega))] at k
    dsimp only at k⊢
    intro H6 s6 hS6 Dv hDv hDvx
    have eV:(R.B.drop (pl+1+m+2)).take v=(b.drop (m+3)).take v:=by rw[hcut (m+3) v (by omega),show pl+1+m+2=pl+(m+3) by omega]
    rw[eV] at hDvx
    have s16:=bu s15 s6
    obtain ⟨as6,hw1,hw2,hw3,hw4⟩:=ht.go s16
    have hD6:H6 D=some (.lst (as6.map V.ref)):=(cB hw1).1
    have hDk5:H5 Dk=some (.lst (vN (bn key))):=s5 _ _ (by rw[hide_ne hDkr];exact s4 _ _ hDk3)
    have hDk6:H6 Dk=some (.lst (vN (bn key))):=s6 _ _ (by rw[hide_ne hDkr];exact hDk5)
    have hDkD:Dk≠D:=fun z=>by
     have:H1 D=some _:=(cB (ht.go s1).choose_spec.1).1
     rw[z,this] at hDk;cases hDk
    have hDvr:Dv≠R.r:=fun z=>by rw[z,hS5'] at hDv;cases hDv
    have hDvD:Dv≠D:=fun z=>by rw[z,(cB hu1).1] at hDv;cases hDv
    intro x dx hx0 hdx hne
    refine ⟨x,dx,_,_,rfl,ao,rfl,?_⟩
    rw[fF]
    have s7:ae H6 (upd (upd H6 dx (.own x)) x (.ins A.bK dx (ju (.ref Dk) (.ref Dv)))):=dq hx0 hdx
    have hx7:upd (upd H6 dx (.own x)) x (.ins A.bK dx (ju (.ref Dk) (.ref Dv))) x=some (.ins A.bK dx (ju (.ref Dk) (.ref Dv))):=ao
    have hxr:x≠R.r:=fun z=>by rw[z] at hx0;unfold aJ at hS6;rw[hS6] at hx0;cases hx0
    have hxD:x≠D:=fun z=>by rw[z,hD6] at hx0;cases hx0
    generalize upd (upd H6 dx (.own x)) x (.ins A.bK dx (ju (.ref Dk) (.ref Dv)))=H7 at*
    refine ⟨D,_,_,rfl,rfl,s7 _ _ hD6,(by rw[List.length_map,sizeLine_eq];omega),?_⟩
    have s17:ae (hide R.r H) H7:=s16.trans s7
    have hup: ∀o,hide D (hide R.r (upd H7 D o))=hide D (hide R.r H7):=fun o=>by
     funext y
     by_cases hy:y=D
     ·rw[hy];unfold hide;rw[if_pos rfl,if_pos rfl]
     ·rw[hide_ne hy,hide_ne hy]
      by_cases hy2:y=R.r
      ·rw[hy2];unfold hide;rw[if_pos rfl,if_pos rfl]
      ·rw[hide_ne hy2,hide_ne hy2,aB hy]
    refine k _ ?_ ?_ ⟨as6++ [x],?_,?_,fun kk a e=>?_,fun y hy hyD hyr=>hw4 y (s7.none (by rw[aB hyD] at hy;exact hy)) hyD hyr⟩
    ·intro y o ey
     obtain ⟨e1,e2⟩:=cB ey
     rw[aB e2]
     exact s17 _ _ e1
    ·have e:pl+(m+3+v)=pl+1+m+2+v:=by omega
     rw[e]
     unfold aJ
     rw[aB (Ne.symm hDr)]
     exact s7 _ _ hS6
    ·rw[hide_ne hDr,ao];simp
    ·rw[List.length_append,List.length_append,hw2];rfl
    ·rw[hup]
     by_cases hk:kk<as6.length
     ·rw[List.getElem?_append_left hk] at e
      rw[List.getD_eq_getElem?_getD,List.getElem?_append_left (by omega),←List.getD_eq_getElem?_getD]
      exact (hw3 kk a e).same (zy (oP (oP s7)))
     ·rw[List.getElem?_append_right (by omega)] at e
      have hk0:kk-as6.length=0:=by
       have:=(List.getElem?_eq_some_iff.mp e).1
       simp at this;omega
      rw[hk0] at e
      obtain rfl:x=a:=Option.some.inj e
      rw[List.getD_eq_getElem?_getD,List.getElem?_append_right (by omega),show kk-seen.length=0 by omega]
      show iW _ _ x (b.take (m+3+v))
      have hb1:1≤b.length:=by
       have:=hblen (1+m) (by omega)
       omega
      have hbl2:m+3+v≤b.length:=by
       have:=hblen (m+3+v) (by omega)
       omega
      have hkey2:Sound.keyOf (b.take (m+3+v))=key:=by
       have hh:((b.take (m+3+v)).headD 0).toNat=m:=by
        rw[←hm]
        obtain ⟨c,r,hcr⟩:=List.exists_cons_of_ne_nil (List.length_pos_iff.mp (show 0<b.length by omega))
        rw[hcr,oA]
        obtain ⟨q,hq⟩: ∃q,Sound.fromHigh ((c::r).take 1)+3+v=q+1:=⟨Sound.fromHigh ((c::r).take 1)+2+v,by omega⟩
        rw[oA] at hq
        rw[hq]
        rfl
       unfold Sound.keyOf
       rw[hh,List.drop_take,List.take_take,Nat.min_eq_left (by omega)]
       exact hkey
      have hval2:valOf (b.take (m+3+v))=(b.drop (m+3)).take v:=by
       unfold valOf
       rw[hkey2,hkl,List.drop_take,show m+3+v-(m+3)=v by omega]
      refine ⟨dx,Dk,Dv,?_,?_,?_⟩
      ·rw[fD (hw4 x hx0 hxD hxr),hide_ne hxD,hide_ne hxr];exact hx7
      ·rw[hkey2,fD ((ht.go s1).choose_spec.2.2.2 Dk hDk hDkD hDkr),hide_ne hDkD,hide_ne hDkr];exact s7 _ _ hDk6
      ·rw[hval2,fD (hu4 Dv hDv hDvD hDvr),hide_ne hDvD,hide_ne hDvr];exact s7 _ _ hDvx
theorem ux {at_ n:Nat} {seen:List Sound.Bytes} {b:Sound.Bytes} {z:Nat} (h:cT at_ n seen b= .inr z):z≤n∧z≤b.length:=by
 unfold cT at h
 simp only at h
 split at h
 ·cases h
 ·split at h
  ·cases h
  ·split at h
   ·cases h
   ·split at h
    ·cases h
    ·split at h
     ·cases h
     ·split at h
      ·cases h
      ·split at h
       ·cases h
       ·split at h
        ·cases h
        ·cases h
         omega
theorem yu {at_ n:Nat} {seen:List Sound.Bytes} {b:Sound.Bytes} (h:cT at_ n seen b= .inl .whole):False:=by
 unfold cT at h
 simp only at h
 split at h
 ·cases h
 ·split at h
  ·cases h
  ·split at h
   ·cases h
   ·split at h
    ·cases h
    ·split at h
     ·cases h
     ·split at h
      ·cases h
      ·split at h
       ·cases h
       ·split at h
        ·cases h
        ·cases h
def nY (A:aK) (H:Hp) (R:Rg) (Z:Hp) (D:Addr) (pl:Nat) (o:List Sound.Bytes×Sound.Stand) (Q:VK) (E:XK):Prop:=match o with
 |(l, .whole)=> ∀H',ae (hide D (hide R.r H)) H'→aJ A.au H' R pl→cV A.bK Z H' R.r D l→Q .aq H'
 |(l, .more)=> ∀H',ae (hide D (hide R.r H)) H'→ee A.au H' R 1 R.B.length→cV A.bK Z H' R.r D l→E (.ref A.ck) none H'
 |(l, .fault k p)=> ∀H',ae (hide D (hide R.r H)) H'→ee A.au H' R k p→cV A.bK Z H' R.r D l→E (.ref A.ck) none H'
def Le (K:PySem.W.Frag) (A:aK):Sp:=fun vs H Q E=> ∃(R:Rg) (Z:Hp) (D:Addr) (t:Nat),vs= [.ref R.r, .int (t:Nat), .ref D]∧cH K H R∧aJ A.au H R 26∧cV A.bK Z H R.r D []∧(6≤t∧t≤1024∧26≤R.B.length∧ai K (hide D (hide R.r H)) R.q (vN (bn R.B)))∧
 nY A H R Z D (26+t) (Sound.areaOf t ((R.B.drop 26).take t)) Q E
theorem jn:aI ["reading", "size", "tags", "begin", "end", "count", "step", "place"] ["reading", "size", "tags"] (aD uS):=⟨rfl,rfl,rfl,by decide+kernel,rfl,by decide+kernel,by decide+kernel⟩
theorem gI {D r:Addr} {H H' H'':Hp} (s:ae (hide D (hide r H)) H') (s':ae (hide D (hide r H')) H''):ae (hide D (hide r H)) H'':=fun b o e=>by
 obtain ⟨e1,e2⟩:=cB e
 obtain ⟨e3,e4⟩:=cB e1
 refine s' b o ?_
 rw[hide_ne e2,hide_ne e4]
 exact s b o e
theorem gb {D r:Addr} {H H':Hp} (s:ae (hide r H) H'):ae (hide D (hide r H)) H':=(dZ D _).trans s
theorem yB {B:Sound.Bytes} {pl:Nat} (h:pl<B.length):Sound.fromHigh ((B.drop pl).take 1)=(B[pl]).toNat:=by
 rw[List.drop_eq_getElem_cons h,oA]
theorem cH.of2 {H H':Hp} {R:Rg} {D:Addr} (h:ai K (hide D (hide R.r H)) R.q (vN (bn R.B))) (hl:R.B.length≤16384) (s:ae (hide D (hide R.r H)) H'):cH K H' R:=by
 refine ⟨?_,hl⟩
 have s2:ae (hide D (hide R.r H)) (hide R.r H'):=fun b o e=>by
  obtain ⟨e1,e2⟩:=cB e
  rw[hide_ne (cB e1).2];exact s b o e
 exact s2.seq h
theorem GJ (T:Txt K mg A):az P w K mg base (aO P w) 7 A.mB A.m6 ["reading", "size", "tags"] (Le K A):=by
 refine T.vQ.bF jn (fun vs H Q E h=>?_) (fun cdv Ar outer s H vs Q E hr h=>?_)
 ·obtain ⟨R,Z,D,t,rfl,_⟩:=h
  rfl
 ·obtain ⟨R,Z,D,t,rfl,hI,hx,ht,⟨ht6,ht10,hB26,hqD⟩,k⟩:=h
  have hr1':aC 1 _:=hr.mono (by decide)
  have hr4':aC 4 _:=hr.mono (by decide)
  have hr5':aC 5 _:=hr.mono (by decide)
  refine ⟨_,ag (aF (i:=3) jn.nd rfl (Or.inl rfl) (ay (pv 0) rfl))
   (ag (aF (i:=4) jn.nd rfl (Or.inl rfl) (ax cY (ax bS (pv 3) (pv 1)) (a8 rfl T.uu)))
   (ag (aF (i:=5) jn.nd rfl (Or.inl rfl) (aL (pv 0) T.aN T.jc (jf T) hr4' T.i8 .nil aH (aa (a8 rfl T.Gm) af)))
   (ag (a9 (aY cO (pv 5) (a8 rfl T.BX) (aP _)) (ah (bp (aL (pv 0) T.aN T.eG (eZ T) hr1' T.eU .nil aH (aa (a8 rfl T.iX) (aa (pv 3) af))))) bh)
   (ag (cq PassesOwn.leaving rfl (d7 rfl T.dN (aa (pv 5) af)) (bH (i:=6) jn.nd rfl (Or.inl rfl))
    (ah (bp (bc (Jj T) hr rfl T.Bz T.xo.kp T.J5 .nil aH (aa (pv 0) (aa (pv 4) (aa (pv 2) af)))))))
   (ag (cq PassesOwn.leaving rfl (AF rfl T.dN (aa (ay (pv 0) rfl) (aa (pv 4) af))) (bH (i:=7) jn.nd rfl (Or.inl rfl))
    (ah (a9 (aY fQ (aL (pv 0) T.aN T.jc (jf T) hr4' T.i8 .nil aH (aa ak af)) ak (aP _)) (ah (bp (aL (pv 0) T.aN T.eG (eZ T) hr1' T.eU .nil aH (aa (a8 rfl T.iX) (aa (pv 7) af))))) bh)))
   (ah (bp (aL (pv 0) T.aN T.qj (qh T) hr5' T.qu .nil aH (aa (pv 3) (aa (a8 rfl T.Er) af)))))))))),?_⟩
  have hx':=hx
  unfold aJ at hx'
  generalize hb:(R.B.drop 26).take t=b at*
  have hblen: ∀j,j≤t→(b.length<j↔R.B.length<26+j):=fun j hj=>by rw[←hb];exact ou hj hB26
  have hcut: ∀i j,i+j≤t→(b.drop i).take j=(R.B.drop (26+i)).take j:=fun i j hj=>by rw[←hb];exact oF hj
  obtain ⟨as0,ha1,ha2,ha3,ha4⟩:=id ht
  have has0:as0= []:=List.length_eq_zero_iff.mp ha2
  subst has0
  have hDr:D≠R.r:=(cB ha1).2
  refine ⟨_,rfl,R.r,A.au,R.dr,_,_,rfl,hx',T.aN,T.cX,rfl,?_⟩
  refine ⟨_,rfl,_,rfl,_,_,rfl,rfl,_,_,rfl,rfl,?_⟩
  dsimp only
  rw[show ((26:Nat):Int)+((t:Nat):Int)-4=((26+t-4:Nat):Int) by omega]
  refine ⟨_,rfl,R.r,R.dr,_,rfl,hx',rfl,R,26,2,rfl,hI,hx,by decide,?_⟩
  unfold nY Sound.areaOf Sound.TAGS Sound.HEAD at k
  unfold cw dz
  by_cases c1:R.B.length<26+2
  ·rw[if_pos c1]
   rw[if_pos ((hblen 2 (by omega)).mpr c1)] at k
   exact fun H' s' hF=>k H' (gb s') hF (ht.go s')
  rw[if_neg c1]
  rw[if_neg (fun z=>c1 ((hblen 2 (by omega)).mp z))] at k
  dsimp only
  intro H1 s1 hS1
  have e1:(R.B.drop 26).take 2=b.take 2:=by
   have:=hcut 0 2 (by omega)
   rw[List.drop_zero,Nat.add_zero] at this
   exact this.symm
  rw[e1]
  generalize Sound.fromHigh (b.take 2)=cnt at*
  have hS1':=hS1
  unfold aJ at hS1'
  refine ⟨_,rfl,_,_,rfl,rfl,_,rfl,?_⟩
  refine bL (fun c2=>?_) fun c2=>?_
  ·have c2:(16:Int)<((cnt:Nat):Int):=of_decide_eq_true c2
   rw[if_pos (show 16<cnt by omega)] at k
   refine ⟨_,rfl,R.r,R.dr,_,rfl,hS1',rfl,_,rfl,R.r,R.dr,_,_,_,_,5,26,rfl,hS1',?_⟩
   have s2:=bu s1 (cP (r:=R.r) (H:=H1) (o:= .ins A.au R.dr (bB (.ref R.q) (.int ((26+2:Nat):Int)) (.int ((5:Nat):Int)) (.int ((26:Nat):Int)))))
   exact k _ (gb s2) ⟨_,ao⟩ (ht.go s2)
  have c2: ¬(16:Int)<((cnt:Nat):Int):=fun z=>c2 (decide_eq_true z)
  rw[if_neg (show¬16<cnt by omega)] at k
  refine ⟨_,rfl,_,rfl,by omega,by omega,?_⟩
  have eb2:b.drop 2=(R.B.drop 28).take (t-6+4):=by
   rw[←hb,List.drop_take,List.drop_drop,show t-2=t-6+4 by omega]
  rw[eb2] at k
  refine eR (lo:=0) (n:=((cnt:Nat):Int).toNat) (fun i σ H'=> ∃(pl n:Nat) (seen:List Sound.Bytes) (v6 v7:Option V),Sound.tagItems cnt (26+2) (t-6) [] ((R.B.drop 28).take (t-6+4))=Sound.tagItems (cnt-i) pl n seen ((R.B.drop pl).take (n+4))∧pl+n=26+t-4∧pl≤R.B.length∧seen.length=i∧
    ae (hide D (hide R.r H)) H'∧cH K H' R∧aJ A.au H' R pl∧cV A.bK Z H' R.r D seen∧σ= [some (.ref R.r),some (.int (t:Nat)),some (.ref D),some (.int ((26:Nat):Int)),some (.int ((26+t-4:Nat):Int)),some (.int (cnt:Nat)),v6,v7])
   ⟨28,t-6, [],none,none,rfl,by omega,by omega,rfl,gb s1,hI.go s1,hS1,ht.go s1,rfl⟩ ?_ ?_
  ·rintro i σ H2 hi ⟨pl,n,seen,v6,v7,heq,hpn,hpB,hsl,s2,hI2,hS2,ht2,rfl⟩
   rw[Int.toNat_natCast] at hi
   obtain ⟨j,hj⟩: ∃j,cnt-i=j+1:=⟨cnt-i-1,by omega⟩
   rw[hj,oB] at heq
   refine ⟨_,rfl,_,rfl,_,rfl,R,Z,D,pl,n,seen,(by rw[hpn];rfl),hI2,hS2,ht2,⟨hpB,by omega⟩,?_⟩
   unfold vV
   cases eo:cT pl n seen ((R.B.drop pl).take (n+4)) with
   |inl st=>
    rw[eo] at heq
    rw[heq] at k
    dsimp only at k⊢
    intro H3 s3 hF ht3
    have s23:=gI s2 s3
    cases st with
    |more=>exact k H3 s23 hF ht3
    |whole=>exact (yu eo).elim
    |fault kk p=>exact k H3 s23 hF ht3
   |inr z=>
    rw[eo] at heq
    dsimp only at heq⊢
    obtain ⟨hzn,hzb⟩:=ux eo
    rw[List.length_take,List.length_drop] at hzb
    intro H3 s3 hS3 ht3
    refine ⟨pl+z,n-z,_,_,_,?_,by omega,by omega,by rw[List.length_append,hsl];rfl,gI s2 s3,?_,hS3,ht3,rfl⟩
    ·rw[heq,show cnt-(i+1)=j by omega,List.drop_take,List.drop_drop,show n+4-z=n-z+4 by omega]
    ·exact cH.of2 hqD hI.2 (gI s2 s3)
  ·rintro σ H2 ⟨pl,n,seen,v6,v7,heq,hpn,hpB,hsl,s2,hI2,hS2,ht2,rfl⟩
   rw[Int.toNat_natCast,Nat.sub_self] at heq
   have h0:Sound.tagItems 0 pl n seen ((R.B.drop pl).take (n+4))=(seen, .inr (pl,n,(R.B.drop pl).take (n+4))):=by unfold Sound.tagItems;rfl
   rw[h0] at heq
   rw[heq] at k
   dsimp only at k
   generalize hr4:(R.B.drop pl).take (n+4)=r4 at*
   have hrlen: ∀j,j≤n+4→(r4.length<j↔R.B.length<pl+j):=fun j hj=>by rw[←hr4];exact ou hj hpB
   have hrget: ∀i,i<r4.length→ ∃h:pl+i<R.B.length,r4[i]?=some (R.B[pl+i]):=fun i hi=>by
    rw[←hr4,List.length_take,List.length_drop] at hi
    refine ⟨by omega,?_⟩
    rw[←hr4,List.getElem?_take,if_pos (by omega),List.getElem?_drop,List.getElem?_eq_getElem (by omega)]
   have hS2':=hS2
   unfold aJ at hS2'
   refine ⟨_,rfl,R.r,A.au,R.dr,_,_,rfl,hS2',T.aN,T.cX,rfl,_,rfl,_,_,rfl,⟨by omega,by omega,by omega,by omega⟩,?_⟩
   refine eR (lo:=((pl:Nat):Int)) (n:=(((26+t-4:Nat):Int)-((pl:Nat):Int)).toNat) (fun j σ H'=> ∃(v7:Option V),(∀i,i<j→r4[i]?=some 0)∧ae (hide R.r H2) H'∧aJ A.au H' R (pl+j)∧σ= [some (.ref R.r),some (.int (t:Nat)),some (.ref D),some (.int ((26:Nat):Int)),some (.int ((26+t-4:Nat):Int)),some (.int (cnt:Nat)),v6,v7])
    ⟨v7,fun i hi=>by omega,tJ (ae.refl _),hS2,rfl⟩ ?_ ?_
   ·rintro j σ H3 hj ⟨v7,hz,s3,hS3,rfl⟩
    have hjn:j<n:=by omega
    have hS3':=hS3
    unfold aJ at hS3'
    refine ⟨_,rfl,R.r,R.dr,_,rfl,hS3',rfl,R,pl+j,1,rfl,hI2.go s3,hS3,by decide,?_⟩
    unfold cw dz
    by_cases c3:R.B.length<pl+j+1
    ·rw[if_pos c3]
     have hlt:r4.length<j+1:=(hrlen (j+1) (by omega)).mpr (by omega)
     have hnone:(r4.take n).findIdx? (fun (x:UInt8)=>x !=0)=none:=by
      rw[List.findIdx?_eq_none_iff]
      intro x hx
      obtain ⟨i,hi,rfl⟩:=List.getElem_of_mem (List.mem_of_mem_take hx)
      have:=hz i (by omega)
      rw[List.getElem?_eq_getElem hi] at this
      rw[Option.some.inj this];rfl
     rw[hnone] at k
     dsimp only at k
     rw[if_pos ((hblen t (by omega)).mpr (by omega))] at k
     exact fun H' s' hF=>k H' (gI s2 (gb (bu s3 s'))) hF (ht2.go (bu s3 s'))
    rw[if_neg c3]
    dsimp only
    intro H4 s4 hS4
    have s24:=bu s3 s4
    have hS4':=hS4
    unfold aJ at hS4'
    rw[yB (by omega)]
    have hjr:j<r4.length:=by
     have:=hrlen (j+1) (by omega)
     omega
    obtain ⟨hh,hgj⟩:=hrget j hjr
    refine ⟨rfl,_,rfl,?_⟩
    by_cases c4:R.B[pl+j]=0
    ·rw[decide_eq_true (by rw[c4];rfl)]
     refine bw ⟨_,fun i hi=>?_,s24,hS4,rfl⟩
     by_cases hij:i=j
     ·rw[hij,hgj,c4]
     ·exact hz i (by omega)
    ·have c4': ¬(R.B[pl+j]).toNat=0:=fun z=>c4 (UInt8.toNat_inj.mp z)
     rw[decide_eq_false (fun z=>c4' (by have:=V.int.inj z;omega))]
     have hsome:(r4.take n).findIdx? (fun (x:UInt8)=>x !=0)=some j:=by
      rw[List.findIdx?_eq_some_iff_getElem]
      have hjl:j<(r4.take n).length:=by rw[List.length_take];omega
      refine ⟨hjl,?_,fun i hi=>?_⟩
      ·rw[List.getElem_take]
       have:=hgj
       rw[List.getElem?_eq_getElem hjr] at this
       rw[Option.some.inj this]
       simpa using c4
      ·rw[List.getElem_take]
       have:=hz i hi
       rw[List.getElem?_eq_getElem (by omega)] at this
       rw[Option.some.inj this]
       decide
     rw[hsome] at k
     dsimp only at k
     refine bf ⟨_,rfl,R.r,R.dr,_,rfl,hS4',rfl,_,rfl,R.r,R.dr,_,_,_,_,5,pl+j,?_,hS4',?_⟩
     ·show [V.ref R.r,V.int 5,V.int (((pl:Nat):Int)+((j:Nat):Int))]=_
      rw[show ((pl:Nat):Int)+((j:Nat):Int)=((pl+j:Nat):Int) by omega];rfl
     ·have s5:=bu s24 (cP (r:=R.r) (H:=H4) (o:= .ins A.au R.dr (bB (.ref R.q) (.int ((pl+j+1:Nat):Int)) (.int ((5:Nat):Int)) (.int ((pl+j:Nat):Int)))))
      exact k _ (gI s2 (gb s5)) ⟨_,ao⟩ (ht2.go s5)
   ·rintro σ H3 ⟨v7,hz,s3,hS3,rfl⟩
    have hnn:(((26+t-4:Nat):Int)-((pl:Nat):Int)).toNat=n:=by omega
    rw[hnn] at hz hS3
    have hS3':=hS3
    unfold aJ at hS3'
    have hnone:(r4.take n).findIdx? (fun (x:UInt8)=>x !=0)=none:=by
     rw[List.findIdx?_eq_none_iff]
     intro x hx
     obtain ⟨i,hi,rfl⟩:=List.getElem_of_mem hx
     rw[List.length_take] at hi
     rw[List.getElem_take]
     have:=hz i (by omega)
     rw[List.getElem?_eq_getElem (by omega)] at this
     rw[Option.some.inj this];rfl
    rw[hnone] at k
    dsimp only at k
    refine ⟨_,rfl,R.r,R.dr,_,rfl,hS3',rfl,_,rfl,R,pl+n,26,6,rfl,hI2.go s3,hS3,?_⟩
    unfold cw lz
    rw[hpn]
    by_cases c5:R.B.length<26+t-4+4
    ·rw[if_pos c5]
     rw[if_pos ((hblen t (by omega)).mpr (by omega))] at k
     exact fun H' s' hF=>k H' (gI s2 (gb (bu s3 s'))) hF (ht2.go (bu s3 s'))
    rw[if_neg c5]
    rw[if_neg (fun z=>c5 (by have:=(hblen t (by omega)).mp z;omega))] at k
    have ec1:(b.drop (t-4)).take 4=(R.B.drop (26+t-4)).take 4:=by rw[hcut (t-4) 4 (by omega),show 26+(t-4)=26+t-4 by omega]
    have ec2:b.take (t-4)=(R.B.drop 26).take (26+t-4-26):=by
     have:=hcut 0 (t-4) (by omega)
     rw[List.drop_zero,Nat.add_zero] at this
     rw[this,show 26+t-4-26=t-4 by omega]
    rw[ec1,ec2] at k
    by_cases c6:Sound.fromHigh ((R.B.drop (26+t-4)).take 4)=Sound.crc32 ((R.B.drop 26).take (26+t-4-26))
    ·rw[if_neg (fun z=>z c6)]
     rw[if_pos c6] at k
     dsimp only at k⊢
     intro H' s' hS'
     rw[show 26+t-4+4=26+t by omega] at hS'
     exact k H' (gI s2 (gb (bu s3 s'))) hS' (ht2.go (bu s3 s'))
    ·rw[if_pos c6]
     rw[if_neg c6] at k
     dsimp only at k⊢
     exact fun H' s' hF=>k H' (gI s2 (gb (bu s3 s'))) hF (ht2.go (bu s3 s'))
def jh (f n t:V):List (Str×V):= [("form",f),("samples",n),("tags_size",t)]
def gW (A:aK) (H:Hp) (x:Addr) (h:Sound.Head):Prop:= ∃dx f,H x=some (.ins A.b4 dx (jh (.ref f) (.int (h.n:Nat)) (.int (h.t:Nat))))∧fC A.aW H f (Sound.eager h.form)
theorem gW.same {H H':Hp} {x:Addr} {h:Sound.Head} (i:gW A H x h) (s:ae H H'):gW A H' x h:=by
 obtain ⟨dx,f,h1,h2⟩:=i
 exact ⟨dx,f,s _ _ h1,h2.same s⟩
def EL (C:Addr):Sp:=fun vs H Q _=> ∃(p dx:Addr) (a b c:V),vs= [.ref p,a,b,c]∧H p=some (.ins C dx [])∧Q .aq (upd H p (.ins C dx (jh a b c)))
theorem B8:aI ["self", "form", "samples", "tags_size"] ["self", "form", "samples", "tags_size"] (aD An):=⟨rfl,rfl,rfl,by decide+kernel,rfl,by decide+kernel,by decide+kernel⟩
theorem JY (T:Txt K mg A):az P w K mg base bx 1 A.mn A.mZ ["self", "form", "samples", "tags_size"] (EL A.b4):=by
 refine T.Fm.ok B8 (fun vs H Q E h=>?_) (fun cdv Ar outer s H vs Q E hr h=>?_)
 ·obtain ⟨p,dx,a,b,c,rfl,_⟩:=h
  rfl
 ·obtain ⟨p,dx,a,b,c,rfl,hp,k⟩:=h
  refine ⟨_,ag (aX (pv 0) (pv 1) rfl) (ag (aX (pv 0) (pv 2) rfl) (ah (aX (pv 0) (pv 3) rfl))),?_⟩
  refine ⟨_,rfl,_,rfl,p,A.b4,dx, [],rfl,hp,T.eX,T.kH,(by show 0<1000;decide),?_⟩
  refine ⟨_,rfl,_,rfl,p,A.b4,dx,_,rfl,ao,T.eX,T.pR,(by show 1<1000;decide),?_⟩
  refine ⟨_,rfl,_,rfl,p,A.b4,dx,_,rfl,ao,T.eX,T.zq,(by show 2<1000;decide),?_⟩
  rw[bV,bV]
  exact k
def jP (d:Sound.Bytes):Sound.Head:=⟨⟨Sound.fromHigh (d.take 1),Sound.fromHigh ((d.drop 1).take 1),Sound.fromHigh ((d.drop 2).take 2),0,Sound.fromHigh ((d.drop 4).take 1),Sound.fromHigh ((d.drop 5).take 1)⟩,Sound.fromHigh ((d.drop 6).take 4),Sound.fromHigh ((d.drop 10).take 4)⟩
theorem JZ (B:Sound.Bytes):Sound.fields B=jP ((B.drop 8).take 14):=by
 unfold Sound.fields jP
 have c: ∀i j,i+j≤14→(((B.drop 8).take 14).drop i).take j=(B.drop (8+i)).take j:=fun i j h=>oF h
 have c0:((B.drop 8).take 14).take 1=(B.drop 8).take 1:=by rw[List.take_take];rfl
 rw[c0,c 1 1 (by decide),c 2 2 (by decide),c 4 1 (by decide),c 5 1 (by decide),c 6 4 (by decide),c 10 4 (by decide)]
theorem CB (F:Sound.Form) (h:F.order=0):(Sound.eager F).ok=F.ok:=by
 unfold Sound.eager Sound.Form.ok
 rw[h];rfl
theorem zQ {l:Sound.Bytes} {k:Nat} (h:l.length≤k):Sound.fromHigh l<256^k:=by
 rw[jT]
 have h1:=oo (l:=l.map UInt8.toNat) (fun x hx=>fe l x hx)
 have h2:256^(l.map UInt8.toNat).length≤256^k:=Nat.pow_le_pow_right (by decide) (by rw[List.length_map];exact h)
 omega
theorem pL {d:Sound.Bytes} {i:Nat} (h:i<d.length):(vN (bn d))[i]?=some (.int (Sound.fromHigh ((d.drop i).take 1):Nat)):=by
 rw[iR (by rw[dG];exact h),yB h]
 unfold bn
 rw[List.getD_eq_getElem?_getD,List.getElem?_map,List.getElem?_eq_getElem h]
 rfl
def ET (K:PySem.W.Frag) (A:aK):Sp:=fun vs H Q _=> ∃(q:Addr) (d:Sound.Bytes),vs= [.ref q]∧ai K H q (vN (bn d))∧d.length=14∧(if Sound.mayHead (jP d)=true then∀x H',ae H H'→gW A (newOf H H') x (jP d)→Q (.ref x) H' else∀H',ae H H'→Q .aq H')
theorem qa:aI ["data", "form", "samples", "tags_size"] ["data"] (aD yE):=⟨rfl,rfl,rfl,by decide+kernel,rfl,by decide+kernel,by decide+kernel⟩
theorem GV (T:Txt K mg A):az P w K mg base bx 3 A.mz A.kE ["data"] (ET K A):=by
 refine T.Aq.ok qa (fun vs H Q E h=>?_) (fun cdv Ar outer s H vs Q E hr h=>?_)
 ·obtain ⟨q,d,rfl,_⟩:=h
  rfl
 ·obtain ⟨q,d,rfl,hq,hd,k⟩:=h
  have hr1':aC 1 _:=hr.mono (by decide)
  have hr2':aC 2 _:=hr.mono (by decide)
  refine ⟨_,ag (aF (i:=1) qa.nd rfl (Or.inl rfl) (cJ (aa (bZ cU (pv 0) ak (fun _ _=>rfl)) (aa (bZ cU (pv 0) ak (fun _ _=>rfl)) (aa (bc (pb T) hr1' rfl T.pV T.lU.kp T.oI .nil bo (aa (eC ek (pv 0) (cv ak) (cv ak)) af))
    (aa (a8 rfl T.F8) (aa (bZ cU (pv 0) ak (fun _ _=>rfl)) (aa (bZ cU (pv 0) ak (fun _ _=>rfl)) af))))))))
   (ag (aF (i:=2) qa.nd rfl (Or.inl rfl) (bc (pb T) hr1' rfl T.pV T.lU.kp T.oI .nil bo (aa (eC ek (pv 0) (cv ak) (cv ak)) af)))
   (ag (aF (i:=3) qa.nd rfl (Or.inl rfl) (bc (pb T) hr1' rfl T.pV T.lU.kp T.oI .nil bo (aa (eC ek (pv 0) (cv ak) rB) af)))
   (ag (a9 (PW.pt (lS (gk (iO (bc (Cq T) hr1' rfl T.B9 T.uJ.kp T.Fj .nil bo (aa (pv 1) af)))) (lZ (aY cO (ax gE (pv 2) (bZ cU (pv 1) ak (fun _ _=>rfl))) (a8 rfl T.Du) (aP _))))) (ah (aR eu)) bh)
   (ag (a9 (gk (xq fy fy (a8 rfl T.Kt) (pv 3) (a8 rfl T.Em))) (ah (aR eu)) bh)
   (ah (aR (eS T.Bc (JY T) hr2' rfl T.K0 T.IJ .nil bo (aa (eS T.Ll (Cb T) hr2' rfl T.G4 T.BY .nil bo (aa (pv 1) af)) (aa (pv 2) (aa (pv 3) af)))))))))),?_⟩
  have fr: ∀l:Sound.Bytes,bA (bn l)=Sound.fromHigh l:=fun l=>(jT l).symm
  have c2: ∀(a b:Nat),cx (vN (bn d)) (some (a:Int)) (some (b:Int))=vN (bn ((d.drop a).take (b-a))):=fun a b=>by rw[iV,iK,gD]
  have h0:(vN (bn d))[0]?=some (.int (Sound.fromHigh (d.take 1):Nat)):=by
   have:=pL (d:=d) (i:=0) (by omega)
   rwa [List.drop_zero] at this
  refine ⟨_,rfl,q,_,_,_,rfl,rfl,hq,bQ (j:=0) h0,_,rfl,q,_,_,_,rfl,rfl,hq,bQ (j:=1) (pL (by omega)),_,rfl,_,rfl,_,rfl,q,_,rfl,hq,fun p1 hp1=>?_⟩
  have e1:cx (vN (bn d)) (some (2:Int)) (some (4:Int))=vN (bn ((d.drop 2).take 2)):=c2 2 4
  rw[e1]
  have s1:=aQ (o:= .lst (vN (bn ((d.drop 2).take 2)))) hp1
  refine ⟨p1,bn ((d.drop 2).take 2),rfl,ai.of ao,(by rw[dG,List.length_take];omega),fe _,?_⟩
  rw[fr]
  generalize upd H p1 (.lst (vN (bn ((d.drop 2).take 2))))=H1 at*
  refine ⟨_,rfl,q,_,_,_,rfl,rfl,s1.seq hq,bQ (j:=4) (pL (by omega)),_,rfl,q,_,_,_,rfl,rfl,s1.seq hq,bQ (j:=5) (pL (by omega)),by rw[sizeLine_eq];show 6≤_;omega,fun F hF=>?_⟩
  have efm:([V.int (Sound.fromHigh (d.take 1):Nat),V.int (Sound.fromHigh ((d.drop 1).take 1):Nat),V.int (Sound.fromHigh ((d.drop 2).take 2):Nat),V.int 4,V.int (Sound.fromHigh ((d.drop 4).take 1):Nat),V.int (Sound.fromHigh ((d.drop 5).take 1):Nat)]:List V)=
   vN [Sound.fromHigh (d.take 1),Sound.fromHigh ((d.drop 1).take 1),Sound.fromHigh ((d.drop 2).take 2),4,Sound.fromHigh ((d.drop 4).take 1),Sound.fromHigh ((d.drop 5).take 1)]:=rfl
  rw[efm]
  have s2:=s1.trans (aQ (o:= .lst (vN [Sound.fromHigh (d.take 1),Sound.fromHigh ((d.drop 1).take 1),Sound.fromHigh ((d.drop 2).take 2),4,Sound.fromHigh ((d.drop 4).take 1),Sound.fromHigh ((d.drop 5).take 1)])) hF)
  have hFx:upd H1 F (.lst (vN [Sound.fromHigh (d.take 1),Sound.fromHigh ((d.drop 1).take 1),Sound.fromHigh ((d.drop 2).take 2),4,Sound.fromHigh ((d.drop 4).take 1),Sound.fromHigh ((d.drop 5).take 1)])) F=some (.lst (vN [Sound.fromHigh (d.take 1),Sound.fromHigh ((d.drop 1).take 1),Sound.fromHigh ((d.drop 2).take 2),4,Sound.fromHigh ((d.drop 4).take 1),Sound.fromHigh ((d.drop 5).take 1)])):=ao
  have nF:H F=none:=s1.none hF
  generalize upd H1 F (.lst (vN [Sound.fromHigh (d.take 1),Sound.fromHigh ((d.drop 1).take 1),Sound.fromHigh ((d.drop 2).take 2),4,Sound.fromHigh ((d.drop 4).take 1),Sound.fromHigh ((d.drop 5).take 1)]))=H2 at*
  refine ⟨_,rfl,_,rfl,_,rfl,q,_,rfl,s2.seq hq,fun p3 hp3=>?_⟩
  have e3:cx (vN (bn d)) (some (6:Int)) (some (10:Int))=vN (bn ((d.drop 6).take 4)):=c2 6 10
  rw[e3]
  have s3:=aQ (o:= .lst (vN (bn ((d.drop 6).take 4)))) hp3
  refine ⟨p3,bn ((d.drop 6).take 4),rfl,ai.of ao,(by rw[dG,List.length_take];omega),fe _,?_⟩
  rw[fr]
  have s03:=s2.trans s3
  have hF3:=s3 _ _ hFx
  generalize upd H2 p3 (.lst (vN (bn ((d.drop 6).take 4))))=H3 at*
  refine ⟨_,rfl,_,rfl,q,_,rfl,s03.seq hq,fun p4 hp4=>?_⟩
  have e4:cx (vN (bn d)) (some (10:Int)) none=vN (bn ((d.drop 10).take 4)):=by
   rw[show (some (10:Int))=some ((10:Nat):Int) from rfl,DS,iK,List.take_of_length_le (by rw[List.length_drop];omega)]
  rw[e4]
  have s4:=aQ (o:= .lst (vN (bn ((d.drop 10).take 4)))) hp4
  refine ⟨p4,bn ((d.drop 10).take 4),rfl,ai.of ao,(by rw[dG,List.length_take];omega),fe _,?_⟩
  rw[fr]
  have s04:=s03.trans s4
  have hF4:=s4 _ _ hF3
  generalize upd H3 p4 (.lst (vN (bn ((d.drop 10).take 4))))=H4 at*
  have hn32:Sound.fromHigh ((d.drop 6).take 4)<256^4:=zQ (by rw[List.length_take];omega)
  have hc8:Sound.fromHigh (d.take 1)<256^1:=zQ (by rw[List.length_take];omega)
  have ehd:jP d=⟨⟨Sound.fromHigh (d.take 1),Sound.fromHigh ((d.drop 1).take 1),Sound.fromHigh ((d.drop 2).take 2),0,Sound.fromHigh ((d.drop 4).take 1),Sound.fromHigh ((d.drop 5).take 1)⟩,Sound.fromHigh ((d.drop 6).take 4),Sound.fromHigh ((d.drop 10).take 4)⟩:=rfl
  rw[ehd] at k
  generalize Sound.fromHigh (d.take 1)=c at*
  generalize Sound.fromHigh ((d.drop 1).take 1)=de at*
  generalize Sound.fromHigh ((d.drop 2).take 2)=bl at*
  generalize Sound.fromHigh ((d.drop 4).take 1)=gr at*
  generalize Sound.fromHigh ((d.drop 5).take 1)=sp at*
  generalize Sound.fromHigh ((d.drop 6).take 4)=n at*
  generalize Sound.fromHigh ((d.drop 10).take 4)=t at*
  have aj:(Sound.formOf [c,de,bl,4,gr,sp]).isSome=(⟨c,de,bl,0,gr,sp⟩:Sound.Form).ok:=by
   rw[←CB ⟨c,de,bl,0,gr,sp⟩ rfl]
   unfold Sound.formOf Sound.eager
   simp only
   cases (⟨c,de,bl,4,gr,sp⟩:Sound.Form).ok<;>rfl
  have hmay:Sound.mayHead ⟨⟨c,de,bl,0,gr,sp⟩,n,t⟩=((⟨c,de,bl,0,gr,sp⟩:Sound.Form).ok&&(decide (n*c≤2048)&&(decide (6≤t)&&decide (t≤1024)))):=rfl
  rw[hmay] at k
  refine ⟨_,rfl,F,_,rfl,ai.of hF4,fun H5 s5=>⟨_,rfl,?_⟩⟩
  rw[aj]
  have s05:=s04.trans s5
  have hF5:=s5 _ _ hF4
  cases hk:(⟨c,de,bl,0,gr,sp⟩:Sound.Form).ok with
  |false=>
   rw[hk,if_neg (by simp)] at k
   exact bf (bf (k _ s05))
  |true=>
   rw[hk,Bool.true_and] at k
   refine bw ⟨_,rfl,_,rfl,F,_,_,_,rfl,rfl,ai.of hF5,bQ (j:=0) rfl,_,_,rfl,rfl, .inl ⟨by omega,by omega⟩,_,_,rfl,rfl,_,rfl,?_⟩
   have emul:((n:Nat):Int)*((c:Nat):Int)=((n*c:Nat):Int):=by simp
   dsimp only
   rw[emul]
   refine bL (fun c1=>?_) fun c1=>?_
   ·have c1:(2048:Int)<((n*c:Nat):Int):=of_decide_eq_true c1
    rw[decide_eq_false (show¬n*c≤2048 by omega),if_neg (by simp)] at k
    exact k _ s05
   have c1: ¬(2048:Int)<((n*c:Nat):Int):=fun z=>c1 (decide_eq_true z)
   rw[decide_eq_true (show n*c≤2048 by omega),Bool.true_and] at k
   refine ⟨_,rfl,_,_,rfl,rfl,_,rfl,?_⟩
   by_cases c3:(6:Int)≤((t:Nat):Int)
   ·rw[decide_eq_true c3]
    refine bf ⟨_,_,rfl,rfl,_,rfl,?_⟩
    by_cases c4:((t:Nat):Int)≤1024
    ·rw[decide_eq_true c4]
     rw[decide_eq_true (show 6≤t by omega),decide_eq_true (show t≤1024 by omega),if_pos (by rfl)] at k
     refine bw ⟨_,rfl,fun x dx hx hdx hne=>?_⟩
     have sm:ae H5 (upd (upd H5 dx (.own x)) x (.ins A.aW dx [])):=dq hx hdx
     refine ⟨x,dx,F,_,_,_,_,_,_,rfl,ao,sm.seq (ai.of hF5),rfl,_,rfl,_,rfl,?_⟩
     rw[fF]
     have s6:ae H5 (upd (upd H5 dx (.own x)) x (.ins A.aW dx (jW (.int (c:Nat)) (.int (de:Nat)) (.int (bl:Nat)) (.int ((4:Nat):Int)) (.int (gr:Nat)) (.int (sp:Nat))))):=dq hx hdx
     have hx6:upd (upd H5 dx (.own x)) x (.ins A.aW dx (jW (.int (c:Nat)) (.int (de:Nat)) (.int (bl:Nat)) (.int ((4:Nat):Int)) (.int (gr:Nat)) (.int (sp:Nat)))) x=some (.ins A.aW dx (jW (.int (c:Nat)) (.int (de:Nat)) (.int (bl:Nat)) (.int ((4:Nat):Int)) (.int (gr:Nat)) (.int (sp:Nat)))):=ao
     have nx:H x=none:=s05.none hx
     show∀y dy,_
     intro y dy hy hdy hney
     refine ⟨y,dy,_,_,_,rfl,ao,rfl,?_⟩
     rw[fF]
     have s06:=s05.trans s6
     have s7:=dq (o:= .own y) (u:= .ins A.b4 dy (jh (.ref x) (.int (n:Nat)) (.int (t:Nat)))) hy hdy
     refine k y _ (s06.trans s7) ⟨dy,x,?_,⟨dx,?_⟩⟩
     ·rw[fD (s06.none hy),ao]
     ·rw[fD nx]
      exact s7 _ _ hx6
    ·rw[decide_eq_false c4]
     rw[decide_eq_false (show¬t≤1024 by omega),Bool.and_false,if_neg (by simp)] at k
     exact bf (k _ s05)
   ·rw[decide_eq_false c3]
    rw[decide_eq_false (show¬6≤t by omega),Bool.false_and,if_neg (by simp)] at k
    exact bw ⟨_,rfl,bf (k _ s05)⟩
def cD (B:Sound.Bytes):Except (Nat×Nat) Sound.Head:=if B.length<8 then .error (1,B.length) else if B.take 8≠Sound.MAGIC then .error (2,0) else if B.length<22 then .error (1,B.length) else if Sound.mayHead (Sound.fields B)=false then .error (3,8)
 else if B.length<26 then .error (1,B.length) else if Sound.fromHigh ((B.drop 22).take 4)≠Sound.crc32 (B.take 22) then .error (4,22) else .ok (Sound.fields B)
def pJ (A:aK) (H:Hp) (R:Rg) (o:Except (Nat×Nat) Sound.Head) (Q:Sound.Head→Addr→Hp→Prop) (E:XK):Prop:=match o with
 | .ok h=> ∀x H',ae (hide R.r H) H'→aJ A.au H' R 26→gW A (newOf H H') x h→Q h x H'
 | .error (k,p)=> ∀H',ae (hide R.r H) H'→ee A.au H' R k p→E (.ref A.ck) none H'
def IW (K:PySem.W.Frag) (A:aK):Sp:=fun vs H Q E=> ∃(R:Rg),vs= [.ref R.r]∧cH K H R∧aJ A.au H R 0∧pJ A H R (cD R.B) (fun _ x H'=>Q (.ref x) H') E
theorem qF:aI ["reading", "place", "head"] ["reading"] (aD yd):=⟨rfl,rfl,rfl,by decide+kernel,rfl,by decide+kernel,by decide+kernel⟩
theorem JL (T:Txt K mg A):az P w K mg base (aO P w) 6 A.kl A.lI ["reading"] (IW K A):=by
 refine T.uL.bF qF (fun vs H Q E h=>?_) (fun cdv Ar outer s H vs Q E hr h=>?_)
 ·obtain ⟨R,rfl,_⟩:=h
  rfl
 ·obtain ⟨R,rfl,hI,hx,k⟩:=h
  have hr1':aC 1 _:=hr.mono (by decide)
  have hr3':aC 3 _:=hr.mono (by decide)
  refine ⟨_,ag (a9 (aY (J8 hr.units) (aL (pv 0) T.aN T.lu (lH T) hr3' T.kO .nil aH (aa (dj eM (by rfl) T.eW PySem.boot_len (aa (fA rfl T.uI) af)) af)) (wG Ac rfl T.yl (by decide+kernel:bootBuiltins "list" =some (.type "list")) (aa (fA rfl T.uI) af)) (aP _))
    (ah (bp (aL (pv 0) T.aN T.eG (eZ T) hr1' T.eU .nil aH (aa (a8 rfl T.D8) (aa ak af))))) bh)
   (ag (aF (i:=1) qF.nd rfl (Or.inl rfl) (ay (pv 0) rfl))
   (ag (aF (i:=2) qF.nd rfl (Or.inl rfl) (bc (GV T) hr3' rfl T.IC T.Aq.kp T.A6 .nil bo (aa (aL (pv 0) T.aN T.lu (lH T) hr3' T.kO .nil aH (aa ak af)) af)))
   (ag (a9 (aY yL (pv 2) eu (aP _)) (ah (bp (aL (pv 0) T.aN T.eG (eZ T) hr1' T.eU .nil aH (aa (a8 rfl T.Lg) (aa (pv 1) af))))) bh)
   (ag (bp (aL (pv 0) T.aN T.qj (qh T) hr T.qu .nil aH (aa ak (aa (a8 rfl T.B6) af))))
   (ah (aR (pv 2))))))),?_⟩
  have hx':=hx
  unfold aJ at hx'
  unfold cD at k
  refine ⟨_,rfl,R.r,R.dr,_,rfl,hx',rfl,A.i4,_,rfl, .inr (T.xR _),R,0,8,rfl,hI,hx,?_⟩
  unfold cw dz
  rw[Nat.zero_add]
  by_cases c1:R.B.length<8
  ·rw[if_pos c1] at k⊢
   exact k
  rw[if_neg c1] at k⊢
  dsimp only
  intro H1 s1 hS1 D1 hD1 hx1
  rw[List.drop_zero] at hx1
  refine ⟨A.i4,_,rfl, .inr (T.xR _),fun L hL=>?_⟩
  have s2:=aQ (o:= .lst [V.int (83),V.int (75),V.int (69),V.int (69),V.int (80),V.int (1),V.int (13),V.int (10)]) hL
  refine ⟨D1,L,(bn (R.B.take 8)).map (fun (n:Nat)=>(n:Int)),(bn Sound.MAGIC).map (fun (n:Nat)=>(n:Int)),rfl,rfl,(by rw[←tH];exact s2.seq (ai.of hx1)),ai.of ao,_,rfl,?_⟩
  have hS2:aJ A.au _ R 8:=s2 _ _ hS1
  have s12:=s1.trans s2
  generalize upd H1 L (.lst [V.int (83),V.int (75),V.int (69),V.int (69),V.int (80),V.int (1),V.int (13),V.int (10)])=H2 at*
  have hS2':=hS2
  unfold aJ at hS2'
  by_cases c2:R.B.take 8=Sound.MAGIC
  case neg=>
   rw[if_pos c2] at k
   rw[decide_eq_false (fun z=>c2 (oX.mp z))]
   exact bf ⟨_,rfl,R.r,R.dr,_,rfl,hS2',rfl,R.r,R.dr,_,_,_,_,2,0,rfl,hS2',k _ (bu s12 cP) ⟨_,ao⟩⟩
  rw[if_neg (fun z=>z c2)] at k
  rw[decide_eq_true (oX.mpr c2)]
  refine bw ⟨_,rfl,R.r,A.au,R.dr,_,_,rfl,hS2',T.aN,T.cX,rfl,?_⟩
  refine ⟨_,rfl,R.r,R.dr,_,rfl,hS2',rfl,R,8,14,rfl,hI.go s12,hS2,?_⟩
  unfold cw dz
  by_cases c3:R.B.length<8+14
  ·rw[if_pos c3]
   rw[if_pos (show R.B.length<22 by omega)] at k
   exact fun H' s' hF=>k H' (bu s12 s') hF
  rw[if_neg c3]
  rw[if_neg (show¬R.B.length<22 by omega)] at k
  dsimp only
  intro H3 s3 hS3 D3 hD3 hx3
  have s13:=bu s12 s3
  refine ⟨D3,(R.B.drop 8).take 14,rfl,ai.of hx3,(by rw[List.length_take,List.length_drop];omega),?_⟩
  rw[←JZ]
  have sealed: ∀(x:V) (H4:Hp) (HQ:Hp→Prop),ae (hide R.r H) H4→aJ A.au H4 R 22→(∀kk p,cD R.B= .error (kk,p)→ ∀H',ae (hide R.r H) H'→ee A.au H' R kk p→E (.ref A.ck) none H')→True:=fun _ _ _ _ _ _=>trivial
  cases hm:Sound.mayHead (Sound.fields R.B) with
  |false=>
   rw[if_neg (by decide)]
   rw[if_pos hm] at k
   intro H4 s4
   have hS4:=s4 _ _ hS3
   refine ⟨_,rfl,rfl,_,rfl,bf ⟨_,rfl,R.r,R.dr,_,rfl,hS4,rfl,_,rfl,R.r,R.dr,_,_,_,_,3,8,rfl,hS4,k _ (bu (s13.trans s4) cP) ⟨_,ao⟩⟩⟩
  |true=>
   rw[if_pos rfl]
   rw[if_neg (by rw[hm];decide)] at k
   intro x H4 s4 hH
   have hS4:aJ A.au H4 R 22:=s4 _ _ hS3
   have hS4':=hS4
   unfold aJ at hS4'
   have s14:=s13.trans s4
   refine ⟨_,rfl,rfl,_,rfl,bw ⟨_,rfl,R.r,R.dr,_,rfl,hS4',rfl,R,22,0,4,rfl,hI.go s14,hS4,?_⟩⟩
   unfold cw lz
   by_cases c4:R.B.length<22+4
   ·rw[if_pos c4]
    rw[if_pos (show R.B.length<26 by omega)] at k
    exact fun H' s' hF=>k H' (bu s14 s') hF
   rw[if_neg c4]
   rw[if_neg (show¬R.B.length<26 by omega)] at k
   rw[List.drop_zero,Nat.sub_zero]
   by_cases c5:Sound.fromHigh ((R.B.drop 22).take 4)=Sound.crc32 (R.B.take 22)
   ·rw[if_neg (fun z=>z c5)] at k⊢
    dsimp only at k⊢
    intro H5 s5 hS5
    refine ⟨_,rfl,k x H5 (bu s14 s5) hS5 (hH.same fun b o e=>?_)⟩
    obtain ⟨e1,e2⟩:=jq e
    have hbr:b≠R.r:=fun z=>by
     unfold aJ at hS3
     rw[z,hS3] at e1;cases e1
    have h0:H b=none:=by
     cases q:H b with
     |none=>rfl
     |some u=>rw[s13 b u (by rw[hide_ne hbr];exact q)] at e1;cases e1
    rw[fD h0]
    exact s5 _ _ (by rw[hide_ne hbr];exact e2)
   ·rw[if_pos c5] at k⊢
    exact fun H' s' hF=>k H' (bu s14 s') hF
def cE (l:List Addr) (H:Hp):Hp:=fun b=>if b∈l then none else H b
theorem js {l:List Addr} {H:Hp} {b:Addr} (h:b∉l):cE l H b=H b:=by unfold cE;rw[if_neg h]
theorem dh {l:List Addr} {H:Hp} {b:Addr} {o:HO} (h:cE l H b=some o):H b=some o∧b∉l:=by
 unfold cE at h
 by_cases e:b∈l
 ·rw[if_pos e] at h;cases h
 ·rw[if_neg e] at h;exact ⟨h,e⟩
theorem fP {l:List Addr} {b r:Addr} (h:r∈l) (e:b∉l):b≠r:=fun z=>by rw[z] at e;exact e h
theorem qo (l:List Addr) (H:Hp):ae (cE l H) H:=fun b o h=>(dh h).1
theorem jy {l:List Addr} {H H':Hp} (s:ae (cE l H) H'):ae (cE l H) (cE l H'):=fun b o e=>by
 rw[js (dh e).2];exact s b o e
theorem eE {l:List Addr} {H H' H'':Hp} (s:ae (cE l H) H') (s':ae (cE l H') H''):ae (cE l H) H'':=(jy s).trans s'
theorem uy {l:List Addr} {H H':Hp} (s:ae H H'):ae (cE l H) H':=(qo l H).trans s
theorem pd {l:List Addr} {H:Hp} {r:Addr} {o:HO} (h:r∈l):ae (cE l H) (upd H r o):=fun b u e=>by
 obtain ⟨e1,e2⟩:=dh e
 rw[aB (fP h e2)];exact e1
theorem d8 {l:List Addr} {H H':Hp} {r:Addr} (h:r∈l) (s:ae (hide r H) H'):ae (cE l H) H':=fun b u e=>by
 obtain ⟨e1,e2⟩:=dh e
 exact s b u (by rw[hide_ne (fP h e2)];exact e1)
theorem pj {l:List Addr} {H H':Hp} {r t:Addr} (hr:r∈l) (ht:t∈l) (s:ae (hide t (hide r H)) H'):ae (cE l H) H':=fun b u e=>by
 obtain ⟨e1,e2⟩:=dh e
 exact s b u (by rw[hide_ne (fP ht e2),hide_ne (fP hr e2)];exact e1)
theorem Es {l:List Addr} {H H':Hp} (h: ∀x∈l,H x=none) (s:ae H H'):ae H (cE l H'):=fun b o e=>by
 rw[js (fun z=>by rw[h b z] at e;cases e)];exact s b o e
def dF (r h t s i f n:V):List (Str×V):= [("reading",r),("head",h),("tags",t),("starts",s),("index_bytes",i),("frames_taken",f),("numbers",n)]
theorem EX (r h t s i f n h':V):br "head" h' (dF r h t s i f n)=dF r h' t s i f n:=by
 have n1: ¬("reading" :Str)= "head" :=by decide
 simp only [dF,br,if_neg n1];rfl
structure Hg where
 p:Addr
 dp:Addr
 t:Addr
 s:V
 i:V
 f:V
 n:V
def iv (A:aK) (H:Hp) (G:Hg) (R:Rg) (h:V):Prop:=H G.p=some (.ins A.aM G.dp (dF (.ref R.r) h (.ref G.t) G.s G.i G.f G.n))
def F5 (K:PySem.W.Frag) (A:aK):Sp:=fun vs H Q _=> ∃(p dp q:Addr) (B:Sound.Bytes),vs= [.ref p, .ref q]∧H p=some (.ins A.aM dp [])∧ai K H q (vN (bn B))∧
 ∀H' r dr t a b c,ae (hide p H) H'→(H r=none∧H t=none∧H a=none∧H b=none∧H c=none)→ [p,r,t,a,c].Nodup→iv A H' ⟨p,dp,t, .ref a, .ref b, .int 0, .ref c⟩ ⟨r,dr,q,B⟩ .aq→aJ A.au H' ⟨r,dr,q,B⟩ 0→(H' t=some (.lst [])∧H' a=some (.lst [])∧cE [p,r,t,a,c] H' b=some (.lst [])∧H' c=some (.lst []))→Q .aq H'
theorem Cz:aI ["self", "data"] ["self", "data"] (aD xU):=⟨rfl,rfl,rfl,by decide+kernel,rfl,by decide+kernel,by decide+kernel⟩
theorem bO {H:Hp} {p b:Addr} {o u:HO} (hb:b≠p) (h:H b=some u):upd H p o b=some u:=by rw[aB hb];exact h
theorem JT (T:Txt K mg A):az P w K mg base bx 3 A.kQ A.nE ["self", "data"] (F5 K A):=by
 refine T.IP.ok Cz (fun vs H Q E h=>?_) (fun cdv Ar outer s H vs Q E hr h=>?_)
 ·obtain ⟨p,dp,q,B,rfl,_⟩:=h
  rfl
 ·obtain ⟨p,dp,q,B,rfl,hp,hq,k⟩:=h
  refine ⟨_,ag (aX (pv 0) (eS T.DL (IL T) hr rfl T.EK T.FK .nil bo (aa (pv 1) af)) rfl) (ag (aX (pv 0) eu rfl) (ag (aX (pv 0) (cJ af) rfl) (ag (aX (pv 0) (cJ af) rfl) (ag (aX (pv 0) (cJ af) rfl) (ag (aX (pv 0) ak rfl) (ah (aX (pv 0) (cJ af) rfl))))))),?_⟩
  have z0:([]:List V).length≤sizeLine:=by rw[sizeLine_eq];exact Nat.zero_le _
  refine ⟨_,rfl,fun r dr hr0 hdr hne=>?_⟩
  have sm:ae H (upd (upd H dr (.own r)) r (.ins A.au dr [])):=dq hr0 hdr
  refine ⟨r,dr,q,_,rfl,ao,sm.seq hq,rfl,?_⟩
  rw[fF]
  have s1:ae H (upd (upd H dr (.own r)) r (.ins A.au dr (bB (.ref q) (.int 0) (.int 0) (.int ((vN (bn B)).length:Nat))))):=dq hr0 hdr
  have hr1:upd (upd H dr (.own r)) r (.ins A.au dr (bB (.ref q) (.int 0) (.int 0) (.int ((vN (bn B)).length:Nat)))) r=some (.ins A.au dr (bB (.ref q) (.int 0) (.int 0) (.int ((vN (bn B)).length:Nat)))):=ao
  generalize upd (upd H dr (.own r)) r (.ins A.au dr (bB (.ref q) (.int 0) (.int 0) (.int ((vN (bn B)).length:Nat))))=H1 at*
  have hrp:r≠p:=fun z=>by rw[z,hp] at hr0;cases hr0
  refine ⟨_,rfl,p,A.aM,dp, [],rfl,s1 _ _ hp,T.bM,T.gp,(by show 0<1000;decide),?_⟩
  generalize hH1b:upd H1 p _=H1b
  have s1b:ae (hide p H) H1b:=by rw[←hH1b];exact bu (tJ s1) cP
  have hp1b:H1b p=some (.ins A.aM dp [("reading", .ref r)]):=by rw[←hH1b];exact ao
  have hr1b:H1b r=some (.ins A.au dr (bB (.ref q) (.int 0) (.int 0) (.int ((vN (bn B)).length:Nat)))):=by rw[←hH1b];exact bO hrp hr1
  refine ⟨_,rfl,p,A.aM,dp,_,rfl,hp1b,T.bM,T.fh,(by show 1<1000;decide),?_⟩
  generalize hH2:upd H1b p _=H2
  have hp2:H2 p=some (.ins A.aM dp [("reading", .ref r),("head", .aq)]):=by rw[←hH2];exact ao
  have hr2:H2 r=some (.ins A.au dr (bB (.ref q) (.int 0) (.int 0) (.int ((vN (bn B)).length:Nat)))):=by rw[←hH2];exact bO hrp hr1b
  have s2:ae (hide p H) H2:=by rw[←hH2];exact bu s1b cP
  have fresh: ∀(Hx:Hp) (y:Addr) (fs:List (Str×V)),Hx p=some (.ins A.aM dp fs)→ae (hide p H) Hx→Hx y=none→y≠p∧H y=none:=fun Hx y fs h1 h2 h3=>by
   have e1:y≠p:=fun z=>by rw[z,h1] at h3;cases h3
   refine ⟨e1,?_⟩
   cases e:H y with
   |none=>rfl
   |some u=>rw[h2 _ _ (by rw[hide_ne e1];exact e)] at h3;cases h3
  have apart: ∀(Hx:Hp) (y z:Addr) (o:HO),Hx y=none→Hx z=some o→z≠y:=fun Hx y z o h1 h2 e=>by rw[e,h1] at h2;cases h2
  refine ⟨z0,fun t ht=>⟨_,rfl,p,A.aM,dp,_,rfl,aQ ht _ _ hp2,T.bM,T.ui,(by show 2<1000;decide),?_⟩⟩
  obtain ⟨htp,ht0⟩:=fresh H2 t _ hp2 s2 ht
  have hrt:=apart H2 t r _ ht hr2
  generalize hH3:upd (upd H2 t (.lst [])) p _=H3
  have hp3:H3 p=some (.ins A.aM dp [("reading", .ref r),("head", .aq),("tags", .ref t)]):=by rw[←hH3];exact ao
  have hr3:H3 r=some (.ins A.au dr (bB (.ref q) (.int 0) (.int 0) (.int ((vN (bn B)).length:Nat)))):=by rw[←hH3];exact bO hrp (aQ ht _ _ hr2)
  have ht3:H3 t=some (.lst []):=by rw[←hH3];exact bO htp ao
  have s3:ae (hide p H) H3:=by rw[←hH3];exact bu (s2.trans (aQ ht)) cP
  refine ⟨z0,fun a ha=>⟨_,rfl,p,A.aM,dp,_,rfl,aQ ha _ _ hp3,T.bM,T.pz,(by show 3<1000;decide),?_⟩⟩
  obtain ⟨hap,ha0⟩:=fresh H3 a _ hp3 s3 ha
  have hra:=apart H3 a r _ ha hr3
  have hta:=apart H3 a t _ ha ht3
  generalize hH4:upd (upd H3 a (.lst [])) p _=H4
  have hp4:H4 p=some (.ins A.aM dp [("reading", .ref r),("head", .aq),("tags", .ref t),("starts", .ref a)]):=by rw[←hH4];exact ao
  have hr4:H4 r=some (.ins A.au dr (bB (.ref q) (.int 0) (.int 0) (.int ((vN (bn B)).length:Nat)))):=by rw[←hH4];exact bO hrp (aQ ha _ _ hr3)
  have ht4:H4 t=some (.lst []):=by rw[←hH4];exact bO htp (aQ ha _ _ ht3)
  have ha4:H4 a=some (.lst []):=by rw[←hH4];exact bO hap ao
  have s4:ae (hide p H) H4:=by rw[←hH4];exact bu (s3.trans (aQ ha)) cP
  refine ⟨z0,fun b hb=>⟨_,rfl,p,A.aM,dp,_,rfl,aQ hb _ _ hp4,T.bM,T.vT,(by show 4<1000;decide),?_⟩⟩
  obtain ⟨hbp,hb0⟩:=fresh H4 b _ hp4 s4 hb
  have hrb:=apart H4 b r _ hb hr4
  have htb:=apart H4 b t _ hb ht4
  have hab:=apart H4 b a _ hb ha4
  generalize hH5:upd (upd H4 b (.lst [])) p _=H5
  have hp5:H5 p=some (.ins A.aM dp [("reading", .ref r),("head", .aq),("tags", .ref t),("starts", .ref a),("index_bytes", .ref b)]):=by rw[←hH5];exact ao
  have hr5:H5 r=some (.ins A.au dr (bB (.ref q) (.int 0) (.int 0) (.int ((vN (bn B)).length:Nat)))):=by rw[←hH5];exact bO hrp (aQ hb _ _ hr4)
  have ht5:H5 t=some (.lst []):=by rw[←hH5];exact bO htp (aQ hb _ _ ht4)
  have ha5:H5 a=some (.lst []):=by rw[←hH5];exact bO hap (aQ hb _ _ ha4)
  have hb5:H5 b=some (.lst []):=by rw[←hH5];exact bO hbp ao
  have s5:ae (hide p H) H5:=by rw[←hH5];exact bu (s4.trans (aQ hb)) cP
  refine ⟨_,rfl,p,A.aM,dp,_,rfl,hp5,T.bM,T.Fg,(by show 5<1000;decide),?_⟩
  generalize hH6:upd H5 p _=H6
  have hp6:H6 p=some (.ins A.aM dp [("reading", .ref r),("head", .aq),("tags", .ref t),("starts", .ref a),("index_bytes", .ref b),("frames_taken", .int 0)]):=by rw[←hH6];exact ao
  have hr6:H6 r=some (.ins A.au dr (bB (.ref q) (.int 0) (.int 0) (.int ((vN (bn B)).length:Nat)))):=by rw[←hH6];exact bO hrp hr5
  have ht6:H6 t=some (.lst []):=by rw[←hH6];exact bO htp ht5
  have ha6:H6 a=some (.lst []):=by rw[←hH6];exact bO hap ha5
  have hb6:H6 b=some (.lst []):=by rw[←hH6];exact bO hbp hb5
  have s6:ae (hide p H) H6:=by rw[←hH6];exact bu s5 cP
  refine ⟨z0,fun c hc=>⟨_,rfl,p,A.aM,dp,_,rfl,aQ hc _ _ hp6,T.bM,T.FV,(by show 6<1000;decide),?_⟩⟩
  obtain ⟨hcp,hc0⟩:=fresh H6 c _ hp6 s6 hc
  have hrc:=apart H6 c r _ hc hr6
  have htc:=apart H6 c t _ hc ht6
  have hac:=apart H6 c a _ hc ha6
  have hbc:=apart H6 c b _ hc hb6
  refine k _ r dr t a b c (bu (s6.trans (aQ hc)) cP) ⟨hr0,ht0,ha0,hb0,hc0⟩ ?_ ?_ ?_ ⟨bO htp (aQ hc _ _ ht6),bO hap (aQ hc _ _ ha6),?_,bO hcp ao⟩
  ·simp only [List.nodup_cons,List.mem_cons,List.not_mem_nil,or_false,not_or,not_false_eq_true,List.nodup_nil,and_true]
   exact ⟨⟨hrp.symm,htp.symm,hap.symm,hcp.symm⟩,⟨hrt,hra,hrc⟩,⟨hta,htc⟩,hac⟩
  ·unfold iv
   rw[ao]
   rfl
  ·unfold aJ
   have:=bO (o:= .ins A.aM dp (dF (.ref r) .aq (.ref t) (.ref a) (.ref b) (.int 0) (.ref c))) hrp (aQ (o:= .lst []) hc _ _ hr6)
   rw[cK,dG] at this
   exact this
  ·rw[js (by simp only [List.mem_cons,List.not_mem_nil,or_false,not_or];exact ⟨hbp,hrb.symm,htb.symm,hab.symm,hbc⟩)]
   exact bO hbp (aQ hc _ _ hb6)
def GL (K:PySem.W.Frag) (A:aK):Sp:=fun vs H Q E=> ∃(G:Hg) (R:Rg) (h0:V),vs= [.ref G.p]∧iv A H G R h0∧cH K H R∧aJ A.au H R 0∧
 pJ A H R (cD R.B) (fun h x H'=> ∀H'',ae (hide G.p H') H''→iv A H'' G R (.ref x)→Q .aq H'') E
theorem Eo:aI ["hearing"] ["hearing"] (aD uC):=⟨rfl,rfl,rfl,by decide+kernel,rfl,by decide+kernel,by decide+kernel⟩
theorem A2 (T:Txt K mg A):az P w K mg base (aO P w) 8 A.gu A.jz ["hearing"] (GL K A):=by
 refine T.xQ.bF Eo (fun vs H Q E h=>?_) (fun cdv Ar outer s H vs Q E hr h=>?_)
 ·obtain ⟨G,R,h0,rfl,_⟩:=h
  rfl
 ·obtain ⟨G,R,h0,rfl,hG,hI,hx,k⟩:=h
  have hr6':aC 6 _:=hr.mono (by decide)
  refine ⟨_,ah (aX (pv 0) (bc (JL T) hr6' rfl T.KS T.uL.kp T.Kc .nil aH (aa (ay (pv 0) rfl) af)) rfl),?_⟩
  have hG':=hG
  unfold iv at hG'
  refine ⟨_,rfl,G.p,A.aM,G.dp,_,_,rfl,hG',T.bM,T.gp,rfl,R,rfl,hI,hx,?_⟩
  unfold pJ at k⊢
  cases e:cD R.B with
  |error z=>rw[e] at k;exact k
  |ok h=>
   rw[e] at k
   dsimp only at k⊢
   intro x H1 s1 hS1 hH1
   have hpr:G.p≠R.r:=fun z=>by
    unfold aJ at hx
    rw[z,hx] at hG'
    have e:=congrArg List.length (HO.ins.inj (Option.some.inj hG')).2.2
    simp [bB,dF] at e
   have hG1:H1 G.p=some (.ins A.aM G.dp (dF (.ref R.r) h0 (.ref G.t) G.s G.i G.f G.n)):=s1 _ _ (by rw[hide_ne hpr];exact hG')
   refine ⟨_,rfl,G.p,A.aM,G.dp,_,rfl,hG1,T.bM,T.fh,(by show 7<1000;decide),?_⟩
   rw[EX]
   exact k x H1 s1 hS1 hH1 _ cP ao
def Dj (K:PySem.W.Frag) (A:aK):Sp:=fun vs H Q E=> ∃(G:Hg) (R:Rg) (Z:Hp) (x:Addr) (h:Sound.Head),vs= [.ref G.p]∧iv A H G R (.ref x)∧gW A H x h∧cH K H R∧aJ A.au H R 26∧cV A.bK Z H R.r G.t []∧(6≤h.t∧h.t≤1024∧26≤R.B.length∧ai K (hide G.t (hide R.r H)) R.q (vN (bn R.B)))∧
 nY A H R Z G.t (26+h.t) (Sound.areaOf h.t ((R.B.drop 26).take h.t)) Q E
theorem Jp:aI ["hearing"] ["hearing"] (aD z8):=⟨rfl,rfl,rfl,by decide+kernel,rfl,by decide+kernel,by decide+kernel⟩
theorem Jm (T:Txt K mg A):az P w K mg base (aO P w) 8 A.f7 A.jC ["hearing"] (Dj K A):=by
 refine T.xt.bF Jp (fun vs H Q E h=>?_) (fun cdv Ar outer s H vs Q E hr h=>?_)
 ·obtain ⟨G,R,Z,x,h,rfl,_⟩:=h
  rfl
 ·obtain ⟨G,R,Z,x,h,rfl,hG,⟨dx,f,hh1,hh2⟩,hI,hx,ht,hb,k⟩:=h
  refine ⟨_,ah (bp (bc (GJ T) hr rfl T.CA T.vQ.kp T.CN .nil aH (aa (ay (pv 0) rfl) (aa (ay (ay (pv 0) rfl) rfl) (aa (ay (pv 0) rfl) af))))),?_⟩
  unfold iv at hG
  exact ⟨_,rfl,G.p,A.aM,G.dp,_,_,rfl,hG,T.bM,T.gp,rfl,_,rfl,G.p,A.aM,G.dp,_,_,rfl,hG,T.bM,T.fh,rfl,x,A.b4,dx,_,_,rfl,hh1,T.eX,T.zq,rfl,_,rfl,G.p,A.aM,G.dp,_,_,rfl,hG,T.bM,T.ui,rfl,R,Z,G.t,h.t,rfl,hI,hx,ht,hb,k⟩
theorem AX {at_ n:Nat} {seen:List Sound.Bytes} {b:Sound.Bytes} (hb:b.length=n+4):cT at_ n seen b≠ .inl .more:=by
 intro h
 unfold cT at h
 simp only at h
 split at h
 ·cases h
 ·split at h
  ·omega
  ·split at h
   ·cases h
   ·rename_i hc
    have hc3: ¬n<Sound.fromHigh (b.take 1)+3:=fun z=>hc (.inr (.inr z))
    split at h
    ·omega
    ·split at h
     ·cases h
     ·split at h
      ·omega
      ·split at h
       ·cases h
       ·split at h
        ·omega
        ·cases h
theorem AE: ∀(k at_ n:Nat) (seen:List Sound.Bytes) (b:Sound.Bytes),b.length=n+4→(∀l,Sound.tagItems k at_ n seen b≠(l, .inl .more))∧ ∀l a m r,Sound.tagItems k at_ n seen b=(l, .inr (a,m,r))→r.length=m+4
 |0,at_,n,seen,b,hb=>by
  unfold Sound.tagItems
  refine ⟨fun l z=>(by cases z),fun l a m r z=>?_⟩
  cases z;exact hb
 |k+1,at_,n,seen,b,hb=>by
  rw[oB]
  cases e:cT at_ n seen b with
  |inl st=>
   dsimp only
   refine ⟨fun l z=>?_,fun l a m r z=>by cases z⟩
   cases z
   exact AX hb e
  |inr z=>
   dsimp only
   obtain ⟨h1,h2⟩:=ux e
   exact AE k _ _ _ _ (by rw[List.length_drop];omega)
theorem Km {t:Nat} {b:Sound.Bytes} (ht:6≤t) (hb:b.length=t):(Sound.areaOf t b).2≠ .more:=by
 unfold Sound.areaOf
 rw[if_neg (by omega)]
 split
 ·intro z;cases z
 ·have hi:=AE (Sound.fromHigh (b.take 2)) (Sound.HEAD+2) (t-6) [] (b.drop 2) (by rw[List.length_drop];omega)
  split
  ·rename_i l a e
   intro z
   dsimp only at z
   subst z
   exact hi.1 l e
  ·split
   ·intro z;cases z
   ·rw[if_neg (by omega)]
    split<;>(intro z;cases z)
theorem tW {t:Nat} {b l:_} (h:Sound.areaOf t b=(l, .whole)):t≤b.length:=by
 unfold Sound.areaOf at h
 split at h
 ·cases h
 ·split at h
  ·cases h
  ·split at h
   ·rename_i l' a e
    cases h
    exfalso
    revert e
    generalize Sound.fromHigh (b.take 2)=k
    generalize Sound.HEAD+2=a0
    generalize t-6=n0
    generalize ([]:List Sound.Bytes)=s0
    generalize b.drop 2=b0
    induction k generalizing a0 n0 s0 b0 with
    |zero=>unfold Sound.tagItems;intro e;cases e
    |succ k ih=>
     rw[oB]
     cases e1:cT a0 n0 s0 b0 with
     |inl st=>
      intro e
      cases e
      exact yu e1
     |inr z=>exact ih _ _ _ _
   ·split at h
    ·cases h
    ·split at h
     ·cases h
     ·omega
def jD (B:Sound.Bytes):Option (Sound.Head×List Sound.Bytes):=match cD B with
 | .error _=>none
 | .ok h=>match Sound.areaOf h.t ((B.drop 26).take h.t) with
  |(l, .whole)=>some (h,l)
  |_=>none
theorem fO {B:Sound.Bytes} {N i j:Nat} (h:i+j≤N):((B.take N).drop i).take j=(B.drop i).take j:=by
 rw[List.drop_take,List.take_take,Nat.min_eq_left (by omega)]
theorem C5 (B:Sound.Bytes) (N:Nat) (h:22≤N):Sound.fields (B.take N)=Sound.fields B:=by
 unfold Sound.fields
 rw[fO (by omega),fO (by omega),fO (by omega),fO (by omega),fO (by omega),fO (by omega),fO (by omega)]
theorem qk {B:Sound.Bytes} {N k:Nat} (h:k≤N):(B.take N).length<k↔B.length<k:=by
 rw[List.length_take];omega
theorem front_eq (B:Sound.Bytes):Sound.front B=(jD B).map fun x=>⟨some x.1,x.2, [],0⟩:=by
 unfold Sound.front jD cD Sound.judge
 have hT:(B.take (Sound.HEAD+(Sound.fields B).t)).take 8=B.take 8:=by rw[List.take_take,Nat.min_eq_left (by unfold Sound.HEAD;omega)]
 have h22:(B.take (Sound.HEAD+(Sound.fields B).t)).take 22=B.take 22:=by rw[List.take_take,Nat.min_eq_left (by unfold Sound.HEAD;omega)]
 have hf:=C5 B (Sound.HEAD+(Sound.fields B).t) (by unfold Sound.HEAD;omega)
 have h4:((B.take (Sound.HEAD+(Sound.fields B).t)).drop 22).take 4=(B.drop 22).take 4:=fO (by unfold Sound.HEAD;omega)
 have ha:((B.take (Sound.HEAD+(Sound.fields B).t)).drop Sound.HEAD).take (Sound.fields B).t=(B.drop 26).take (Sound.fields B).t:=fO (by omega)
 have l8:=qk (B:=B) (N:=Sound.HEAD+(Sound.fields B).t) (k:=8) (by unfold Sound.HEAD;omega)
 have l22:=qk (B:=B) (N:=Sound.HEAD+(Sound.fields B).t) (k:=22) (by unfold Sound.HEAD;omega)
 have l26:=qk (B:=B) (N:=Sound.HEAD+(Sound.fields B).t) (k:=Sound.HEAD) (by omega)
 simp only [hT,h22,hf,h4,ha]
 by_cases c1:B.length<8
 ·rw[if_pos (l8.mpr c1),if_pos c1];rfl
 rw[if_neg (fun z=>c1 (l8.mp z)),if_neg c1]
 by_cases c2:B.take 8=Sound.MAGIC
 case neg=>
  have n2:B.take 8≠Sound.MAGIC:=c2
  rw[if_pos n2,if_pos n2];rfl
 have n2: ¬B.take 8≠Sound.MAGIC:=fun z=>z c2
 rw[if_neg n2,if_neg n2]
 by_cases c3:B.length<22
 ·rw[if_pos (l22.mpr c3),if_pos c3];rfl
 rw[if_neg (fun z=>c3 (l22.mp z)),if_neg c3]
 cases hm:Sound.mayHead (Sound.fields B) with
 |false=>
  have n3:false=false:=rfl
  rw[if_pos n3,if_pos n3];rfl
 |true=>
 have n3: ¬true=false:=by decide
 rw[if_neg n3,if_neg n3]
 by_cases c4:B.length<26
 ·rw[if_pos (l26.mpr c4),if_pos c4];rfl
 rw[if_neg (fun z=>c4 (l26.mp z)),if_neg c4]
 by_cases c5:Sound.fromHigh ((B.drop 22).take 4)=Sound.crc32 (B.take 22)
 case neg=>
  have n5:Sound.fromHigh ((B.drop 22).take 4)≠Sound.crc32 (B.take 22):=c5
  rw[if_pos n5,if_pos n5];rfl
 have n5: ¬Sound.fromHigh ((B.drop 22).take 4)≠Sound.crc32 (B.take 22):=fun z=>z c5
 rw[if_neg n5,if_neg n5]
 have hmay:6≤(Sound.fields B).t∧(Sound.fields B).t≤1024:=by
  unfold Sound.mayHead at hm
  simp only [Bool.and_eq_true,decide_eq_true_eq] at hm
  exact ⟨hm.2.2.1,hm.2.2.2⟩
 dsimp only
 cases e:Sound.areaOf (Sound.fields B).t ((B.drop 26).take (Sound.fields B).t) with
 |mk l st=>
  cases st with
  |fault k p=>rfl
  |more=>
   have: ¬26+(Sound.fields B).t≤B.length:=fun z=>by
    have:=Km (t:=(Sound.fields B).t) (b:=(B.drop 26).take (Sound.fields B).t) hmay.1 (by rw[List.length_take,List.length_drop];omega)
    rw[e] at this
    exact this rfl
   dsimp only
   rw[if_neg (fun z=>this z.1)]
   rfl
  |whole=>
   have hl:=tW e
   rw[List.length_take,List.length_drop] at hl
   have hx:((B.take (Sound.HEAD+(Sound.fields B).t)).drop (Sound.HEAD+(Sound.fields B).t))= []:=by
    rw[List.drop_eq_nil_iff,List.length_take];omega
   dsimp only
   rw[hx,List.take_nil]
   have hi:Sound.indexFault (Sound.framesOf (Sound.fields B).form (Sound.fields B).n) []=none:=by
    unfold Sound.indexFault
    rw[show ([]:Sound.Bytes).length/3=0 from rfl,Nat.min_zero];rfl
   rw[hi]
   dsimp only
   rw[if_pos (by rw[List.length_take];omega)]
   dsimp only
   rw[if_pos ⟨by unfold Sound.HEAD;omega,hmay.2⟩]
   rfl
structure Hs where
 w:Sound.Told
 starts:List Nat
 idx:Sound.Bytes
 pl:Nat
structure Hx where
 p:Addr
 dp:Addr
 r:Addr
 dr:Addr
 q:Addr
 t:Addr
 a:Addr
 c:Addr
 B:Sound.Bytes
def Hx.R (X:Hx):Rg:=⟨X.r,X.dr,X.q,X.B⟩
def Hx.l (X:Hx):List Addr:= [X.p,X.r,X.t,X.a,X.c]
def Hx.f (X:Hx) (H:Hp):Hp:=cE X.l H
theorem Hx.mp (X:Hx):X.p∈X.l:= .head _
theorem Hx.mr (X:Hx):X.r∈X.l:= .tail _ (.head _)
theorem Hx.mt (X:Hx):X.t∈X.l:= .tail _ (.tail _ (.head _))
theorem Hx.ma (X:Hx):X.a∈X.l:= .tail _ (.tail _ (.tail _ (.head _)))
theorem jd {p r t a c:Addr} (h: [p,r,t,a,c].Nodup):(p≠r∧p≠t∧p≠a∧p≠c)∧(r≠t∧r≠a∧r≠c)∧(t≠a∧t≠c)∧a≠c:=by
 simp only [List.nodup_cons,List.mem_cons,List.not_mem_nil,or_false,not_or,not_false_eq_true,List.nodup_nil,and_true] at h
 exact h
def pw (A:aK) (F:Hp) (o:Option Sound.Head) (hv:V):Prop:=match o with
 |none=>hv= .aq
 |some h=> ∃x,hv= .ref x∧gW A F x h
def oi (A:aK) (H F:Hp) (t:Addr) (l:List Sound.Bytes):Prop:= ∃as:List Addr,H t=some (.lst (as.map V.ref))∧as.length=l.length∧ ∀(k:Nat) (a:Addr),as[k]?=some a→iW A.bK F a (l.getD k [])
structure HI (K:PySem.W.Frag) (A:aK) (H:Hp) (X:Hx) (S:Hs) (hv:V) (b:Addr):Prop where
 nd:X.l.Nodup
 hp:H X.p=some (.ins A.aM X.dp (dF (.ref X.r) hv (.ref X.t) (.ref X.a) (.ref b) (.int (S.w.frames:Nat)) (.ref X.c)))
 hh:pw A (X.f H) S.w.head hv
 ht:oi A H (X.f H) X.t S.w.tags
 ha:H X.a=some (.lst (vN S.starts))
 hc:H X.c=some (.lst (S.w.s.map V.int))
 hb:X.f H b=some (.lst (vN (bn S.idx)))
 hq:ai K (X.f H) X.q (vN (bn X.B))
 hl:X.B.length≤16384
theorem pw.same {F F':Hp} {o:Option Sound.Head} {hv:V} (h:pw A F o hv) (s:ae F F'):pw A F' o hv:=by
 cases o with
 |none=>exact h
 |some x=>
  obtain ⟨y,h1,h2⟩:=h
  exact ⟨y,h1,h2.same s⟩
theorem oi.same {H H' F F':Hp} {t:Addr} {l:List Sound.Bytes} (h:oi A H F t l) (e:H' t=H t) (s:ae F F'):oi A H' F' t l:=by
 obtain ⟨as,h1,h2,h3⟩:=h
 exact ⟨as,by rw[e];exact h1,h2,fun k a q=>(h3 k a q).same s⟩
theorem HI.go {H H':Hp} {X:Hx} {S:Hs} {hv:V} {b:Addr} (h:HI K A H X S hv b) (s:ae (hide X.r H) H'):HI K A H' X S hv b:=by
 obtain ⟨⟨n1,n2,n3,n4⟩,⟨n5,n6,n7⟩,⟨n8,n9⟩,n10⟩:=jd h.nd
 have sf:ae (X.f H) (X.f H'):=jy (d8 X.mr s)
 have keep: ∀y o,y≠X.r→H y=some o→H' y=some o:=fun y o hy e=>s y o (by rw[hide_ne hy];exact e)
 obtain ⟨as,t1,t2,t3⟩:=h.ht
 exact ⟨h.nd,keep _ _ n1 h.hp,h.hh.same sf,⟨as,keep _ _ n5.symm t1,t2,fun k a q=>(t3 k a q).same sf⟩,keep _ _ n6.symm h.ha,keep _ _ n7.symm h.hc,sf _ _ h.hb,sf.seq h.hq,h.hl⟩
theorem HI.jw {H:Hp} {X:Hx} {S:Hs} {hv:V} {b:Addr} (h:HI K A H X S hv b):cH K H X.R:=by
 refine ⟨?_,h.hl⟩
 have s:ae (X.f H) (hide X.r H):=fun y o e=>by
  obtain ⟨e1,e2⟩:=dh e
  rw[hide_ne (fP X.mr e2)];exact e1
 exact s.seq h.hq
theorem HI.off {H:Hp} {X:Hx} {S:Hs} {hv:V} {b:Addr} {y:Addr} {pl:Nat} (h:HI K A H X S hv b) (hS:H X.r≠none) (hy:H y=none):y∉X.l:=by
 intro z
 obtain ⟨as,t1,_⟩:=h.ht
 simp only [Hx.l,List.mem_cons,List.not_mem_nil,or_false] at z
 rcases z with z|z|z|z|z
 ·rw[z,h.hp] at hy;cases hy
 ·rw[z] at hy;exact hS hy
 ·rw[z,t1] at hy;cases hy
 ·rw[z,h.ha] at hy;cases hy
 ·rw[z,h.hc] at hy;cases hy
structure dJ where
 pre:Sound.Bytes→Hs→Prop
 f:Sound.Bytes→Hs→Except (Sound.Told×Nat×Nat) Hs
def kT (K:PySem.W.Frag) (A:aK) (H:Hp) (X:Hx) (o:Except (Sound.Told×Nat×Nat) Hs) (Q:VK) (E:XK):Prop:=match o with
 | .ok S=> ∀H' hv b,ae (X.f H) H'→HI K A H' X S hv b→aJ A.au H' X.R S.pl→Q .aq H'
 | .error (w,k,p)=> ∀H' S hv b,ae (X.f H) H'→HI K A H' X S hv b→S.w=w→ee A.au H' X.R k p→E (.ref A.ck) none H'
def jv (K:PySem.W.Frag) (A:aK) (s:dJ):Sp:=fun vs H Q E=> ∃(X:Hx) (S:Hs) (hv:V) (b:Addr),vs= [.ref X.p]∧HI K A H X S hv b∧aJ A.au H X.R S.pl∧s.pre X.B S∧kT K A H X (s.f X.B S) Q E
def jl:dJ:=⟨fun _ S=>S.pl=0,fun B S=>match cD B with
 | .error (k,p)=> .error (S.w,k,p)
 | .ok h=> .ok ⟨⟨some h,S.w.tags,S.w.s,S.w.frames⟩,S.starts,S.idx,26⟩⟩
def sY (X:Hx) (S:Hs) (b:Addr):Hg:=⟨X.p,X.dp,X.t, .ref X.a, .ref b, .int (S.w.frames:Nat), .ref X.c⟩
theorem Cy (T:Txt K mg A):az P w K mg base (aO P w) 8 A.gu A.jz ["hearing"] (jv K A jl):=by
 refine (A2 T).imp fun vs H Q E h=>?_
 obtain ⟨X,S,hv,b,rfl,hi,hS,hp0,k⟩:=h
 have hp0:S.pl=0:=hp0
 obtain ⟨⟨n1,n2,n3,n4⟩,⟨n5,n6,n7⟩,⟨n8,n9⟩,n10⟩:=jd hi.nd
 refine ⟨sY X S b,X.R,hv,rfl,hi.hp,hi.jw,by rw[←hp0];exact hS,?_⟩
 unfold kT jl at k
 dsimp only at k
 unfold pJ
 show match cD X.B with
  | .ok h=>_
  | .error (k,p)=>_
 cases e:cD X.B with
 |error z=>
  obtain ⟨kk,pp⟩:=z
  rw[e] at k
  exact fun H' s' hF=>k H' S hv b (d8 X.mr s') (hi.go s') rfl hF
 |ok h=>
  rw[e] at k
  dsimp only at k⊢
  intro x H1 s1 hS1 hH1 H2 s2 hG2
  have i1:=hi.go s1
  have keep: ∀y o,y≠X.p→H1 y=some o→H2 y=some o:=fun y o hy e=>s2 y o (by rw[show (sY X S b).p=X.p from rfl,hide_ne hy];exact e)
  have sf:ae (X.f H1) (X.f H2):=jy (d8 X.mp s2)
  obtain ⟨as,t1,t2,t3⟩:=i1.ht
  refine k H2 (.ref x) b (eE (d8 X.mr s1) (d8 X.mp s2)) ⟨hi.nd,hG2,⟨x,rfl,hH1.same fun y o e=>?_⟩,⟨as,keep _ _ n2.symm t1,t2,fun k a q=>(t3 k a q).same sf⟩,keep _ _ n3.symm i1.ha,keep _ _ n4.symm i1.hc,sf _ _ i1.hb,sf.seq i1.hq,hi.hl⟩ (keep _ _ n1.symm hS1)
  obtain ⟨e1,e2⟩:=jq e
  have ho:=hi.off (pl:=0) (by unfold aJ at hS;rw[show X.r=X.R.r from rfl,hS];exact fun z=>by cases z) e1
  rw[show X.f H2 y=H2 y from js ho]
  exact keep _ _ (fP X.mp ho) e2
def fW:dJ:=⟨fun B S=>S.pl=26∧S.w.tags= []∧ ∃h,S.w.head=some h∧6≤h.t∧h.t≤1024∧26≤B.length,fun B S=>match S.w.head with
 |none=> .ok S
 |some h=>match Sound.areaOf h.t ((B.drop 26).take h.t) with
  |(l, .whole)=> .ok ⟨⟨some h,l,S.w.s,S.w.frames⟩,S.starts,S.idx,26+h.t⟩
  |(l, .more)=> .error (⟨some h,l,S.w.s,S.w.frames⟩,1,B.length)
  |(l, .fault k p)=> .error (⟨some h,l,S.w.s,S.w.frames⟩,k,p)⟩
theorem FT (T:Txt K mg A):az P w K mg base (aO P w) 8 A.f7 A.jC ["hearing"] (jv K A fW):=by
 refine (Jm T).imp fun vs H Q E h=>?_
 obtain ⟨X,S,hv,b,rfl,hi,hS,⟨hp0,hts,h,eh,hh⟩,k⟩:=h
 obtain ⟨⟨n1,n2,n3,n4⟩,⟨n5,n6,n7⟩,⟨n8,n9⟩,n10⟩:=jd hi.nd
 have hx:=hi.hh
 rw[eh] at hx
 obtain ⟨x,rfl,hx⟩:=hx
 obtain ⟨as,t1,t2,t3⟩:=hi.ht
 rw[hts] at t2
 have has:as= []:=List.length_eq_zero_iff.mp t2
 subst has
 have sff:ae (X.f H) (hide X.t (hide X.r H)):=fun y o e=>by
  obtain ⟨e1,e2⟩:=dh e
  rw[hide_ne (fP X.mt e2),hide_ne (fP X.mr e2)];exact e1
 refine ⟨sY X S b,X.R,H,x,h,rfl,hi.hp,hx.same (qo _ _),hi.jw,by rw[←hp0];exact hS,⟨[],by show hide X.r H X.t=_;rw[hide_ne n5.symm];exact t1,rfl,fun k a e=>by simp at e,fun y hy _ _=>hy⟩,⟨hh.1,hh.2.1,hh.2.2,sff.seq hi.hq⟩,?_⟩
 unfold kT fW at k
 dsimp only at k
 rw[eh] at k
 dsimp only at k
 have fin: ∀(l:List Sound.Bytes) (H':Hp) (pl':Nat),ae (hide X.t (hide X.r H)) H'→cV A.bK H H' X.r X.t l→HI K A H' X ⟨⟨some h,l,S.w.s,S.w.frames⟩,S.starts,S.idx,pl'⟩ (.ref x) b:=fun l H' pl' s' ht'=>by
  have keep: ∀y o,y≠X.r→y≠X.t→H y=some o→H' y=some o:=fun y o hy hy2 e=>s' y o (by rw[hide_ne hy2,hide_ne hy];exact e)
  have sf:ae (X.f H) (X.f H'):=jy (pj X.mr X.mt s')
  obtain ⟨as',u1,u2,u3,_⟩:=ht'
  refine ⟨hi.nd,keep _ _ n1 n2 hi.hp,⟨x,rfl,hx.same sf⟩,⟨as',(cB u1).1,u2,fun k a e=>(u3 k a e).same fun y o e=>?_⟩,keep _ _ n6.symm n8.symm hi.ha,keep _ _ n7.symm n9.symm hi.hc,sf _ _ hi.hb,sf.seq hi.hq,hi.hl⟩
  obtain ⟨e1,e2⟩:=jq e
  have ho:=hi.off (pl:=0) (by unfold aJ at hS;rw[show X.r=X.R.r from rfl,hS];exact fun z=>by cases z) e1
  rw[show X.f H' y=H' y from js ho]
  exact (cB (cB e2).1).1
 unfold nY
 show match Sound.areaOf h.t ((X.B.drop 26).take h.t) with
  |(l, .whole)=>_
  |(l, .more)=>_
  |(l, .fault k p)=>_
 cases ea:Sound.areaOf h.t ((X.B.drop 26).take h.t) with
 |mk l st=>
  rw[ea] at k
  cases st with
  |whole=>exact fun H' s' hS' ht'=>k H' (.ref x) b (pj X.mr X.mt s') (fin l H' _ s' ht') hS'
  |more=>exact fun H' s' hF ht'=>k H' _ (.ref x) b (pj X.mr X.mt s') (fin l H' 0 s' ht') rfl hF
  |fault kk pp=>exact fun H' s' hF ht'=>k H' _ (.ref x) b (pj X.mr X.mt s') (fin l H' 0 s' ht') rfl hF
theorem ite_val {c:Prop} [Decidable c] {ta tb:TE} {σ:L2.St} {H:Hp} {Q:VK} (v:V) (H1:Hp) (hA:c→ ∀Q:VK,Q v H1→ta σ H Q) (hB: ¬c→ ∀Q:VK,Q v H1→tb σ H Q) (r:Q v H1):if c then ta σ H Q else tb σ H Q:=by
 by_cases h:c
 ·rw[if_pos h];exact hA h Q r
 ·rw[if_neg h];exact hB h Q r
theorem uq {F:Sound.Form} (n:Nat) (hb:1≤F.block):Sound.framesOf F n≤n:=by
 unfold Sound.framesOf
 rcases Nat.eq_zero_or_pos n with h|h
 ·rw[h,Nat.div_eq_of_lt (by omega)];exact Nat.le_refl _
 ·refine Nat.div_le_of_le_mul ?_
  have:=Nat.mul_le_mul (show 1≤F.block from hb) (show 1≤n from h)
  obtain ⟨b,hb'⟩: ∃b,F.block=b+1:=⟨F.block-1,by omega⟩
  obtain ⟨m,hm⟩: ∃m,n=m+1:=⟨n-1,by omega⟩
  rw[hb',hm,Nat.add_mul,Nat.mul_add]
  omega
def IM (C:Addr):Sp:=fun vs H Q _=> ∃(f:Addr) (F:Sound.Form) (n:Nat),vs= [.ref f, .int (n:Nat)]∧fC C H f F∧(1≤F.block∧F.block≤256)∧Q (.int (Sound.framesOf F n:Nat)) H
theorem Ew:aI ["self", "samples"] ["self", "samples"] (aD zj):=⟨rfl,rfl,rfl,by decide+kernel,rfl,by decide+kernel,by decide+kernel⟩
theorem vv (T:Txt K mg A):az P w K mg base bx 1 A.mT A.kJ ["self", "samples"] (IM A.aW):=by
 refine T.Je.ok Ew (fun vs H Q E h=>?_) (fun cdv Ar outer s H vs Q E hr h=>?_)
 ·obtain ⟨f,F,n,rfl,_⟩:=h
  rfl
 ·obtain ⟨f,F,n,rfl,⟨df,hf⟩,hb,k⟩:=h
  refine ⟨_,ah (aR (ax ic (ax cY (ax bS (pv 1) (ay (pv 0) rfl)) ak) (ay (pv 0) rfl))),?_⟩
  refine ⟨_,rfl,_,rfl,f,A.aW,df,_,_,rfl,hf,T.bW,T.gG,rfl,_,_,rfl,rfl,_,_,rfl,rfl,_,rfl,f,A.aW,df,_,_,rfl,hf,T.bW,T.gG,rfl,_,_,rfl,rfl,⟨by omega,by omega⟩,?_⟩
  have e:((n:Nat):Int)+((F.block:Nat):Int)-1=((n+F.block-1:Nat):Int):=by omega
  dsimp only
  rw[e,←Int.natCast_ediv]
  exact k
def dU (x:Sound.Bytes) (k:Nat):Bool:=if k=0 then Sound.entry x 0 !=0 else decide (Sound.entry x k≤Sound.entry x (k-1))
theorem EM {n k:Nat} {x:Sound.Bytes} (h:k<n) (hx:3*k+3≤x.length) (h1:dU x k=true) (h2: ∀j,j<k→dU x j=false):Sound.indexFault n x=some k:=by
 unfold Sound.indexFault
 refine List.find?_range_eq_some.mpr ⟨h1,List.mem_range.mpr (by omega),fun j hj=>?_⟩
 have:=h2 j hj
 unfold dU at this
 rw[this];rfl
theorem uH {n:Nat} {x:Sound.Bytes} (h2: ∀j,j<n→3*j+3≤x.length→dU x j=false):Sound.indexFault n x=none:=by
 unfold Sound.indexFault
 refine List.find?_range_eq_none.mpr fun j hj=>?_
 have:=h2 j (by omega) (by omega)
 unfold dU at this
 rw[this];rfl
def iw (B:Sound.Bytes) (at_ n:Nat):Except (Nat×Nat) Unit:=match Sound.indexFault n ((B.drop at_).take (3*n)) with
 |some k=> .error (7,at_+3*k)
 |none=>if B.length<at_+3*n+4 then .error (1,B.length) else if Sound.fromHigh ((B.drop (at_+3*n)).take 4)≠Sound.crc32 ((B.drop at_).take (3*n)) then .error (8,at_+3*n) else .ok ()
def entries (B:Sound.Bytes) (at_ n:Nat):List Nat:=(List.range n).map (Sound.entry ((B.drop at_).take (3*n)))
def gJ:dJ:=⟨fun B S=>S.starts= []∧S.pl≤B.length∧ ∃h,S.w.head=some h∧Sound.mayHead h=true∧S.pl=26+h.t,fun B S=>match S.w.head with
 |none=> .ok S
 |some h=>match iw B (26+h.t) (Sound.framesOf h.form h.n) with
  | .error (k,p)=> .error (S.w,k,p)
  | .ok _=> .ok ⟨S.w,entries B (26+h.t) (Sound.framesOf h.form h.n),(B.drop (26+h.t)).take (3*Sound.framesOf h.form h.n+4),26+h.t+3*Sound.framesOf h.form h.n+4⟩⟩
theorem gY {h:Sound.Head} (e:Sound.mayHead h=true):h.form.ok=true∧h.n*h.form.channels≤2048∧6≤h.t∧h.t≤1024:=by
 unfold Sound.mayHead at e
 simp only [Bool.and_eq_true,decide_eq_true_eq] at e
 exact ⟨e.1,e.2.1,e.2.2.1,e.2.2.2⟩
theorem yH {h:Sound.Head} (e:Sound.mayHead h=true):h.n≤2048:=by
 obtain ⟨e1,e2,_⟩:=gY e
 have hc:=(fN e1).1.1
 exact Nat.le_trans (Nat.le_mul_of_pos_right _ hc) e2
theorem Ik (r h t s i f n i':V):br "index_bytes" i' (dF r h t s i f n)=dF r h t s i' f n:=by
 have n1: ¬("reading" :Str)= "index_bytes" :=by decide
 have n2: ¬("head" :Str)= "index_bytes" :=by decide
 have n3: ¬("tags" :Str)= "index_bytes" :=by decide
 have n4: ¬("starts" :Str)= "index_bytes" :=by decide
 simp only [dF,br,if_neg n1,if_neg n2,if_neg n3,if_neg n4];rfl
theorem HI.starts {H:Hp} {X:Hx} {S:Hs} {hv:V} {b:Addr} (h:HI K A H X S hv b) (l:List Nat) (pl:Nat):HI K A (upd H X.a (.lst (vN l))) X ⟨S.w,l,S.idx,pl⟩ hv b:=by
 obtain ⟨⟨n1,n2,n3,n4⟩,⟨n5,n6,n7⟩,⟨n8,n9⟩,n10⟩:=jd h.nd
 have sf:ae (X.f H) (X.f (upd H X.a (.lst (vN l)))):=jy (pd X.ma)
 exact ⟨h.nd,bO n3 h.hp,h.hh.same sf,h.ht.same (aB n8) sf,ao,bO n10.symm h.hc,sf _ _ h.hb,sf.seq h.hq,h.hl⟩
theorem HI.KU {H:Hp} {X:Hx} {S:Hs} {hv:V} {b:Addr} (h:HI K A H X S hv b) (pl:Nat):HI K A H X ⟨S.w,S.starts,S.idx,pl⟩ hv b:=⟨h.nd,h.hp,h.hh,h.ht,h.ha,h.hc,h.hb,h.hq,h.hl⟩
theorem HI.Kl {H:Hp} {X:Hx} {S:Hs} {hv:V} {b D:Addr} (h:HI K A H X S hv b) (hD:H D=none) (ho:D∉X.l) (l:Sound.Bytes) (pl:Nat):HI K A (upd (upd H D (.lst (vN (bn l)))) X.p (.ins A.aM X.dp (dF (.ref X.r) hv (.ref X.t) (.ref X.a) (.ref D) (.int (S.w.frames:Nat)) (.ref X.c)))) X ⟨S.w,S.starts,l,pl⟩ hv D:=by
 obtain ⟨⟨n1,n2,n3,n4⟩,⟨n5,n6,n7⟩,⟨n8,n9⟩,n10⟩:=jd h.nd
 generalize hG:HO.ins A.aM X.dp (dF (.ref X.r) hv (.ref X.t) (.ref X.a) (.ref D) (.int (S.w.frames:Nat)) (.ref X.c))=o
 have sf:ae (X.f H) (X.f (upd (upd H D (.lst (vN (bn l)))) X.p o)):=jy (eE (uy (aQ hD)) (pd X.mp))
 have keep: ∀y u,y≠X.p→H y=some u→upd (upd H D (.lst (vN (bn l)))) X.p o y=some u:=fun y u hy e=>bO hy (aQ hD _ _ e)
 obtain ⟨as,t1,t2,t3⟩:=h.ht
 refine ⟨h.nd,by rw[ao,←hG],h.hh.same sf,⟨as,keep _ _ n2.symm t1,t2,fun k a q=>(t3 k a q).same sf⟩,keep _ _ n3.symm h.ha,keep _ _ n4.symm h.hc,?_,sf.seq h.hq,h.hl⟩
 rw[show X.f (upd (upd H D (.lst (vN (bn l)))) X.p o) D=_ from js ho]
 exact bO (fP X.mp ho) ao
theorem gP:aI ["hearing", "reading", "begin", "k", "place", "start", "right"] ["hearing"] (aD vY):=⟨rfl,rfl,rfl,by decide+kernel,rfl,by decide+kernel,by decide+kernel⟩
theorem uZ (l:List Nat) (n:Nat):vN l++ [V.int (n:Nat)]=vN (l++ [n]):=by unfold vN;simp
theorem entry_at {B:Sound.Bytes} {at_ n i:Nat} (h:i<n):Sound.entry ((B.drop at_).take (3*n)) i=Sound.fromHigh ((B.drop (at_+3*i)).take 3):=by
 unfold Sound.entry
 rw[oF (by omega)]
theorem K1 (T:Txt K mg A):az P w K mg base (aO P w) 6 A.gN A.jO ["hearing"] (jv K A gJ):=by
 refine T.uM.bF gP (fun vs H Q E h=>?_) (fun cdv Ar outer s H vs Q E hr h=>?_)
 ·obtain ⟨X,S,hv,b,rfl,_⟩:=h
  rfl
 ·obtain ⟨X,S,hv,b,rfl,hi,hS,⟨hs0,hplB,h,eh,hm,hpl⟩,k⟩:=h
  have hr1':aC 1 _:=hr.mono (by decide)
  have hr4':aC 4 _:=hr.mono (by decide)
  have hr5':aC 5 _:=hr.mono (by decide)
  refine ⟨_,ag (aF (i:=1) gP.nd rfl (Or.inl rfl) (ay (pv 0) rfl))
   (ag (aF (i:=2) gP.nd rfl (Or.inl rfl) (ay (pv 1) rfl))
   (ag (cq PassesOwn.leaving rfl (d7 rfl T.dN (aa (aL (ay (ay (pv 0) rfl) rfl) T.bW T.wZ (vv T) hr1' T.uk .nil bo (aa (ay (ay (pv 0) rfl) rfl) af)) af)) (bH (i:=3) gP.nd rfl (Or.inl rfl))
    (ag (aF (i:=4) gP.nd rfl (Or.inl rfl) (ay (pv 1) rfl))
    (ag (aF (i:=5) gP.nd rfl (Or.inl rfl) (aL (pv 1) T.aN T.jc (jf T) hr4' T.i8 .nil aH (aa (a8 rfl T.Ej) af)))
    (ag (aF (i:=6) gP.nd rfl (Or.inl rfl) (iB (aY cO (pv 3) ak (aP _)) (iM cO (pv 5) (bZ cU (ay (pv 0) rfl) (fJ fU ak) (fun _ _=>rfl)) (aP _)) (iM cI (pv 5) ak (aP _))))
    (ag (a9 (gk (iO (pv 6))) (ah (bp (aL (pv 1) T.aN T.eG (eZ T) hr1' T.eU .nil aH (aa (a8 rfl T.IK) (aa (pv 4) af))))) bh)
    (ah (bp (gU PySem.F.plainAttrs_list PySem.F.slot_list_append PySem.F.type_list_append oq (ay (pv 0) rfl) (aa (pv 5) af)))))))))
   (ag (bp (aL (pv 1) T.aN T.qj (qh T) hr5' T.qu .nil aH (aa (pv 2) (aa (a8 rfl T.B3) af))))
   (ah (aX (pv 0) (eC ek (ay (pv 1) rfl) (cv (pv 2)) (cv (ay (pv 1) rfl))) rfl))))),?_⟩
  obtain ⟨⟨n1,n2,n3,n4⟩,⟨n5,n6,n7⟩,⟨n8,n9⟩,n10⟩:=jd hi.nd
  have hx:=hi.hh
  rw[eh] at hx
  obtain ⟨x,rfl,dx,f,hx1,df,hf⟩:=hx
  have hx1':=(dh hx1).1
  have hf':=(dh hf).1
  have aj:=(gY hm).1
  have hn:=yH hm
  obtain ⟨_,_,⟨hb1,hb2⟩,_⟩:=fN aj
  have e62:(2:Int)^62=4611686018427387904:=by decide
  have hSr:=hS
  unfold aJ at hSr
  refine ⟨_,rfl,X.p,A.aM,X.dp,_,_,rfl,hi.hp,T.bM,T.gp,rfl,?_⟩
  refine ⟨_,rfl,X.r,A.au,X.dr,_,_,rfl,hSr,T.aN,T.cX,rfl,?_⟩
  refine ⟨_,rfl,X.p,A.aM,X.dp,_,_,rfl,hi.hp,T.bM,T.fh,rfl,x,A.b4,dx,_,_,rfl,hx1',T.eX,T.kH,rfl,f,df,_,rfl,hf',rfl,_,rfl,X.p,A.aM,X.dp,_,_,rfl,hi.hp,T.bM,T.fh,rfl,x,A.b4,dx,_,_,rfl,hx1',T.eX,T.pR,rfl,f,Sound.eager h.form,h.n,rfl,⟨df,hf'⟩,⟨by show 1≤h.form.block;omega,by show h.form.block≤256;omega⟩,?_⟩
  have eN:Sound.framesOf (Sound.eager h.form) h.n=Sound.framesOf h.form h.n:=rfl
  rw[eN]
  have hNn:=uq h.n (F:=h.form) (by omega)
  unfold kT gJ at k
  dsimp only at k
  rw[eh] at k
  dsimp only at k
  generalize hN:Sound.framesOf h.form h.n=N at*
  refine ⟨_,rfl,by omega,by omega,?_⟩
  rw[←hpl] at k
  generalize hat:S.pl=at_ at*
  clear hpl
  generalize hxb:(X.B.drop at_).take (3*N)=xb at*
  have hxl: ∀j,j≤3*N→(xb.length<j↔X.B.length<at_+j):=fun j hj=>by rw[←hxb];exact ou hj hplB
  have hxe: ∀i,i<N→Sound.entry xb i=Sound.fromHigh ((X.B.drop (at_+3*i)).take 3):=fun i hi=>by rw[←hxb];exact entry_at hi
  refine eR (lo:=0) (n:=((N:Nat):Int).toNat) (fun i σ H'=> ∃v3 v4 v5 v6:Option V,σ= [some (.ref X.p),some (.ref X.r),some (.int (at_:Nat)),v3,v4,v5,v6]∧ae (X.f H) H'∧HI K A H' X ⟨S.w,(List.range i).map (Sound.entry xb),S.idx,at_+3*i⟩ (.ref x) b∧aJ A.au H' X.R (at_+3*i)∧(∀j,j<i→dU xb j=false)∧at_+3*i≤X.B.length)
   ⟨none,none,none,none,rfl,qo _ _,by have:=hi.KU at_;rw[hs0] at this;exact this,hS,fun j hj=>by omega,hplB⟩ ?_ ?_
  ·rintro i σ H1 hiN ⟨v3,v4,v5,v6,rfl,s1,i1,hS1,hg1,hB1⟩
   rw[Int.toNat_natCast] at hiN
   have hS1r:=hS1
   unfold aJ at hS1r
   refine ⟨_,rfl,X.r,A.au,X.dr,_,_,rfl,hS1r,T.aN,T.cX,rfl,?_⟩
   refine ⟨_,rfl,X.r,X.dr,_,rfl,hS1r,rfl,X.R,at_+3*i,3,rfl,i1.jw,hS1,by decide,?_⟩
   unfold cw dz
   by_cases c1:X.R.B.length<at_+3*i+3
   ·rw[if_pos c1]
    have c1:X.B.length<at_+3*i+3:=c1
    have e1:Sound.indexFault N xb=none:=uH fun j hj hl=>hg1 j (by have:=hxl (3*i+3) (by omega);omega)
    have e2:iw X.B at_ N= .error (1,X.B.length):=by
     unfold iw
     rw[hxb,e1]
     dsimp only
     rw[if_pos (by omega)]
    rw[e2] at k
    exact fun H' s' hF=>k H' _ _ _ (eE s1 (d8 X.mr s')) (i1.go s') rfl hF
   rw[if_neg c1]
   have c1: ¬X.B.length<at_+3*i+3:=c1
   dsimp only
   intro H2 s2 hS2
   have i2:=i1.go s2
   have s12:=eE s1 (d8 X.mr s2)
   have hS2r:=hS2
   unfold aJ at hS2r
   rw[show X.R.B=X.B from rfl,←hxe i hiN]
   have hlx: ¬xb.length<3*i+3:=fun z=>c1 (by have:=(hxl (3*i+3) (by omega)).mp z;omega)
   refine ⟨_,rfl,_,_,rfl,rfl,_,rfl,?_⟩
   refine ite_val (.bl (!dU xb i)) H2 (fun c Q' r=>?A) (fun c Q' r=>?B) ?C
   case A=>
    have c:(0:Int)<0+((i:Nat):Int):=of_decide_eq_true c
    obtain ⟨j,rfl⟩: ∃j,i=j+1:=⟨i-1,by omega⟩
    refine ⟨_,rfl,_,rfl,X.p,A.aM,X.dp,_,_,rfl,i2.hp,T.bM,T.pz,rfl,_,rfl,X.a,_,_,_,rfl,rfl,ai.of i2.ha,(by
     show eH (vN ((List.range (j+1)).map (Sound.entry xb))) (-1)=some (V.int ((Sound.entry xb j:Nat):Int))
     rw[List.range_succ,List.map_append,List.map_cons,List.map_nil,←uZ]
     exact KL _ _),_,_,rfl,rfl,?_⟩
    have e:decide (((Sound.entry xb j:Nat):Int)<((Sound.entry xb (j+1):Nat):Int))=!dU xb (j+1):=by
     unfold dU
     rw[if_neg (by omega),Nat.add_sub_cancel]
     by_cases q:Sound.entry xb (j+1)≤Sound.entry xb j
     ·rw[decide_eq_true q,decide_eq_false (by omega)];rfl
     ·rw[decide_eq_false q,decide_eq_true (by omega)];rfl
    dsimp only
    rw[e]
    exact r
   case B=>
    have c: ¬(0:Int)<0+((i:Nat):Int):=fun z=>c (decide_eq_true z)
    obtain rfl:i=0:=by omega
    refine ⟨_,rfl,rfl,?_⟩
    have e:decide (V.int ((Sound.entry xb 0:Nat):Int)=V.int 0)=!dU xb 0:=by
     unfold dU
     rw[if_pos rfl]
     by_cases q:Sound.entry xb 0=0
     ·rw[q];rfl
     ·rw[decide_eq_false (fun z=>q (by have:=V.int.inj z;omega)),bne_iff_ne.mpr q];rfl
    rw[e]
    exact r
   case C=>
    refine ⟨_,rfl,_,rfl,?_⟩
    cases hbad:dU xb i with
    |true=>
     have e2:iw X.B at_ N= .error (7,at_+3*i):=by
      unfold iw
      rw[hxb,EM hiN (by omega) hbad hg1]
     rw[e2] at k
     refine bf ⟨_,rfl,X.r,X.dr,_,rfl,hS2r,rfl,_,rfl,X.r,X.dr,_,_,_,_,7,at_+3*i,rfl,hS2r,?_⟩
     have s3:=cP (r:=X.r) (H:=H2) (o:= .ins A.au X.dr (bB (.ref X.R.q) (.int ((at_+3*i+3:Nat):Int)) (.int ((7:Nat):Int)) (.int ((at_+3*i:Nat):Int))))
     exact k _ _ _ _ (eE s12 (d8 X.mr s3)) (i2.go s3) rfl ⟨_,ao⟩
    |false=>
     refine bw ⟨_,rfl,X.p,A.aM,X.dp,_,_,rfl,i2.hp,T.bM,T.pz,rfl, .inl ⟨rfl,_,ai.of i2.ha⟩,_,rfl,X.a,_,_,rfl,rfl,i2.ha,(by rw[cK,List.length_map,List.length_range,sizeLine_eq];omega),?_⟩
     rw[uZ,show (List.range i).map (Sound.entry xb)++ [Sound.entry xb i]=(List.range (i+1)).map (Sound.entry xb) by rw[List.range_succ,List.map_append];rfl]
     refine ⟨_,_,_,_,rfl,eE s12 (pd X.ma),i2.starts _ _,?_,fun j hj=>?_,by omega⟩
     ·unfold aJ
      rw[show X.R.r=X.r from rfl,aB n6]
      exact hS2r
     ·by_cases hj2:j<i
      ·exact hg1 j hj2
      ·rw[show j=i by omega];exact hbad
  ·rintro σ H1 ⟨v3,v4,v5,v6,rfl,s1,i1,hS1,hg1,hB1⟩
   rw[Int.toNat_natCast] at i1 hS1 hg1 hB1
   have hS1r:=hS1
   unfold aJ at hS1r
   have e1:Sound.indexFault N xb=none:=uH fun j hj hl=>hg1 j hj
   refine ⟨_,rfl,X.r,X.dr,_,rfl,hS1r,rfl,_,rfl,X.R,at_+3*N,at_,8,rfl,i1.jw,hS1,?_⟩
   unfold cw lz
   unfold iw at k
   rw[hxb,e1] at k
   dsimp only at k
   by_cases c1:X.R.B.length<at_+3*N+4
   ·rw[if_pos c1]
    rw[if_pos (show X.B.length<at_+3*N+4 from c1)] at k
    exact fun H' s' hF=>k H' _ _ _ (eE s1 (d8 X.mr s')) (i1.go s') rfl hF
   rw[if_neg c1]
   rw[if_neg (show¬X.B.length<at_+3*N+4 from c1)] at k
   rw[show at_+3*N-at_=3*N by omega,show X.R.B=X.B from rfl,hxb]
   by_cases c2:Sound.fromHigh ((X.B.drop (at_+3*N)).take 4)≠Sound.crc32 xb
   ·rw[if_pos c2]
    rw[if_pos c2] at k
    exact fun H' s' hF=>k H' _ _ _ (eE s1 (d8 X.mr s')) (i1.go s') rfl hF
   rw[if_neg c2]
   rw[if_neg c2] at k
   dsimp only at k⊢
   intro H2 s2 hS2
   have i2:=i1.go s2
   have s12:=eE s1 (d8 X.mr s2)
   have hS2r:=hS2
   unfold aJ at hS2r
   refine ⟨_,rfl,X.r,A.au,X.dr,_,_,rfl,hS2r,T.aN,T.ij,rfl,_,rfl,_,rfl,_,rfl,X.r,A.au,X.dr,_,_,rfl,hS2r,T.aN,T.cX,rfl,_,rfl,X.q,_,rfl,i2.jw.sq,fun D hD=>?_⟩
   refine ⟨_,rfl,X.p,A.aM,X.dp,_,rfl,aQ hD _ _ i2.hp,T.bM,T.vT,(by show 7<1000;decide),?_⟩
   rw[Ik,show X.R.B=X.B from rfl,iV,show at_+3*N+4-at_=3*N+4 by omega,iK,gD]
   have hrn:H2 X.r≠none:=fun z=>by rw[show X.r=X.R.r from rfl,hS2r] at z;cases z
   have hDo:=i2.off (pl:=0) hrn hD
   refine k _ (.ref x) D (eE s12 (eE (uy (aQ hD)) (pd X.mp))) ?_ ?_
   ·have:=i2.Kl hD hDo ((X.B.drop at_).take (3*N+4)) (at_+3*N+4)
    unfold entries
    rw[hxb]
    exact this
   ·unfold aJ
    exact bO n1.symm (aQ hD _ _ hS2r)
theorem Jr {X:Cx} {K:PySem.W.Frag} {tg l:Expr} {tl:TE} (h:X.K=K) (hl:PE X l tl):PI X tg l (pk K tl):=by subst h;exact dI hl
def S0:Hs:=⟨Sound.nothing, [], [],0⟩
def eP:List dJ→Sound.Bytes→Hs→Except (Sound.Told×Nat×Nat) Hs
 | [],_,S=> .ok S
 |s::l,B,S=>match s.f B S with
  | .ok S'=>eP l B S'
  | .error z=> .error z
theorem oM (s:dJ) (l:List dJ) (B:Sound.Bytes) (S:Hs):eP (s::l) B S=match s.f B S with
  | .ok S'=>eP l B S'
  | .error z=> .error z:=rfl
def je:List dJ→Sound.Bytes→Hs→Prop
 | [],_,_=>True
 |s::l,B,S=>s.pre B S∧ ∀S',s.f B S= .ok S'→je l B S'
def qy (K:PySem.W.Frag) (A:aK) (H:Hp) (X:Hx) (o:Except (Sound.Told×Nat×Nat) Hs):Prop:=match o with
 | .ok S=> ∃hv b,HI K A H X S hv b∧aJ A.au H X.R S.pl
 | .error (w,k,p)=> ∃S hv b,HI K A H X S hv b∧S.w=w∧ee A.au H X.R k p
def GH (K:PySem.W.Frag) (A:aK) (L:List (Addr×dJ)):Sp:=fun vs H Q _=> ∃(q g:Addr) (B:Sound.Bytes),vs= [.ref q, .ref g]∧ai K H q (vN (bn B))∧ai K H g (L.map fun x=> .ref x.1)∧B.length≤16384∧je (L.map Prod.snd) B S0∧ ∀X H',X.B=B→ae H H'→(∀y∈X.l,H y=none)→qy K A H' X (eP (L.map Prod.snd) B S0)→Q (.ref X.p) H'
theorem rk:aI ["data", "stages", "hearing", "stage"] ["data", "stages"] (aD wL):=⟨rfl,rfl,rfl,by decide+kernel,rfl,by decide+kernel,by decide+kernel⟩
theorem Ii (T:Txt K mg A) {N:Nat} (hN:4≤N) (L:List (Addr×dJ)) (hL: ∀x∈L,∃d,az P w K mg base (aO P w) N x.1 d ["hearing"] (jv K A x.2)∧PySem.W.keepIn K (.ref x.1)=true∧Binds K d ["hearing"] []):az P w K mg base bx (N+1) A.lq A.ll ["data", "stages"] (GH K A L):=by
 refine T.w6.ok rk (fun vs H Q E h=>?_) (fun cdv Ar outer s H vs Q E hr h=>?_)
 ·obtain ⟨q,g,B,rfl,_⟩:=h
  rfl
 ·obtain ⟨q,g,B,rfl,hq,hg,hB,hf0,k⟩:=h
  have hr4':aC 4 _:=hr.mono hN
  refine ⟨_,ag (aF (i:=2) rk.nd rfl (Or.inl rfl) (eS T.Dn (JT T) hr4' rfl T.AU T.JG .nil bo (aa (pv 0) af)))
   (ag (oG rfl rfl rfl (fun E pn xe hp ho=>ah (cq (X:=Cx.tr _ pn xe) ho rfl (Jr (K:=K) rfl (pv 1)) (bH (i:=3) rk.nd rfl (Or.inl rfl))
     (ah (bp (Ke (i:=3) (tab:=fun f sp=> ∃x∈L,f=x.1∧sp=jv K A x.2) (pv 3) (fun f sp ht=>by
      obtain ⟨x,hx,rfl,rfl⟩:=ht
      obtain ⟨d,h1,h2,h3⟩:=hL x hx
      exact ⟨_,_,h1,h2,h3⟩) hr hp (aa (pv 2) af))))))
    (Az rfl T.wY rfl T.yX (fun x ps n _=>ah (aR (pv 2)))))
   (ah (aR (pv 2)))),?_⟩
  refine ⟨_,rfl,fun p dp hp0 hdp hne=>?_⟩
  have sm:ae H (upd (upd H dp (.own p)) p (.ins A.aM dp [])):=dq hp0 hdp
  refine ⟨p,dp,q,B,rfl,ao,sm.seq hq,fun H1 r dr t a b c s1 ⟨r0,t0,a0,b0,c0⟩ nd hG hS ⟨ht1,ha1,hb1,hc1⟩=>⟨rfl,?_⟩⟩
  have sH:ae H H1:=fun b o e=>s1 b o (by rw[hide_ne (b6 e hp0)];exact sm b o e)
  obtain ⟨X,hX⟩: ∃X:Hx,X=⟨p,dp,r,dr,q,t,a,c,B⟩:=⟨_,rfl⟩
  have hfree: ∀y∈X.l,H y=none:=fun y hy=>by
   rw[hX] at hy
   simp only [Hx.l,List.mem_cons,List.not_mem_nil,or_false] at hy
   rcases hy with rfl|rfl|rfl|rfl|rfl
   ·exact hp0
   ·exact sm.none r0
   ·exact sm.none t0
   ·exact sm.none a0
   ·exact sm.none c0
  have sF: ∀H',ae H H'→ae H (X.f H'):=fun H' s'=>Es hfree s'
  have hi:HI K A H1 X S0 .aq b:=by
   have hq1:=(sF H1 sH).seq hq
   rw[hX] at hq1⊢
   exact ⟨nd,hG,rfl,⟨[],ht1,rfl,fun k a e=>by simp at e⟩,ha1,hc1,hb1,hq1,hB⟩
  have hS':aJ A.au H1 X.R S0.pl:=by rw[hX];exact hS
  have hXp:X.p=p:=by rw[hX]
  have hXB:X.B=B:=by rw[hX]
  clear hX hG hS ht1 ha1 hb1 hc1
  refine ⟨_,rfl,g,rfl,⟨_,sH.seq hg⟩,?_⟩
  refine iQ (K:=K) (a:=g) (xs:=L.map fun x=> .ref x.1) (fun i σ H'=>(∃v3:Option V,σ= [some (.ref q),some (.ref g),some (.ref p),v3])∧ae H H'∧ ∃S hv b,HI K A H' X S hv b∧aJ A.au H' X.R S.pl∧je ((L.map Prod.snd).drop i) B S∧eP (L.map Prod.snd) B S0=eP ((L.map Prod.snd).drop i) B S) ⟨⟨none,rfl⟩,sH,S0,_,_,hi,hS',hf0,rfl⟩ (fun i σ H' _ ⟨_,s',_⟩=>s'.seq hg) ?_ ?_
  ·rintro i x σ H2 hiL ⟨⟨v3,rfl⟩,s2,S,hv,b2,i2,hS2,hf2,hrun⟩
   rw[List.getElem?_map] at hiL
   cases ei:L[i]? with
   |none=>rw[ei] at hiL;cases hiL
   |some y=>
    rw[ei] at hiL
    obtain rfl:V.ref y.1=x:=Option.some.inj hiL
    have hyL:y∈L:=List.mem_of_getElem? ei
    have ed:(L.map Prod.snd).drop i=y.2::(L.map Prod.snd).drop (i+1):=by
     obtain ⟨hlt,hy⟩:=List.getElem?_eq_some_iff.mp ei
     rw[List.drop_eq_getElem_cons (by rw[List.length_map];exact hlt),List.getElem_map,hy]
    rw[ed] at hf2 hrun
    refine ⟨y.1,_,rfl,⟨y,hyL,rfl,rfl⟩,_,rfl,X,S,hv,b2,by rw[hXp],i2,hS2,by rw[hXB];exact hf2.1,?_⟩
    unfold kT
    rw[hXB]
    rw[oM] at hrun
    cases es:y.2.f B S with
    |error z=>
     obtain ⟨w',kk,pp⟩:=z
     rw[es] at hrun
     dsimp only at hrun⊢
     intro H' S' hv' b' s' i' ew hF
     refine ⟨rfl,_,rfl,?_⟩
     rw[←hXp]
     refine k X H' hXB ((sF H2 s2).trans s') hfree ?_
     rw[hrun]
     exact ⟨S',hv',b',i',ew,hF⟩
    |ok S'=>
     rw[es] at hrun
     dsimp only at hrun⊢
     intro H' hv' b' s' i' hS3
     exact ⟨⟨_,rfl⟩,(sF H2 s2).trans s',S',hv',b',i',hS3,hf2.2 S' es,hrun⟩
  ·rintro σ H2 ⟨⟨v3,rfl⟩,s2,S,hv,b2,i2,hS2,hf2,hrun⟩
   refine ⟨_,rfl,?_⟩
   rw[←hXp]
   refine k X H2 hXB s2 hfree ?_
   rw[hrun,List.length_map,List.drop_eq_nil_of_le (by rw[List.length_map];exact Nat.le_refl _)]
   exact ⟨hv,b2,i2,hS2⟩
theorem HI.same {H H':Hp} {X:Hx} {S:Hs} {hv:V} {b:Addr} (h:HI K A H X S hv b) (s:ae H H'):HI K A H' X S hv b:=h.go ((dZ _ _).trans s)
theorem vm (f:Sound.Form) (n:Nat): ∀(ms:List Nat) (acc:List (List Int)) (l:Sound.Bits),Sound.takeChannels (Sound.eager f) n ms acc l=Sound.takeChannels f n ms acc l
 | [],_,_=>rfl
 |m::ms,acc,l=>by
  unfold Sound.takeChannels
  simp only [vm f n ms]
  rfl
theorem Co (f:Sound.Form) (b:Sound.Bytes):Sound.takeFrame (Sound.eager f) b=Sound.takeFrame f b:=by
 unfold Sound.takeFrame
 simp only [vm]
 rfl
theorem FY (f:Sound.Form) (b:Sound.Bytes):Sound.unframe (Sound.eager f) b=Sound.unframe f b:=by
 unfold Sound.unframe
 rw[Co]
theorem F9 (f:Sound.Form) (b:Sound.Bytes):Sound.unframe f (b.take 4096)=Sound.unframe f b:=by
 unfold Sound.unframe Sound.LONGEST
 rw[List.take_take,Nat.min_self]
 have:4096≤(b.take 4096).length↔4096≤b.length:=by rw[List.length_take];omega
 simp only [this]
theorem Gq {F:Sound.Form} {B:Sound.Bytes} {x:Sound.Frame} {l:Sound.Bits} (h:Sound.takeFrame F B= .ok x l):1≤x.n∧x.k<2^20:=by
 rw[sT] at h
 obtain ⟨m,l1,_,h⟩:=cn h
 split at h
 ·cases h
 obtain ⟨k,l2,e2,h⟩:=cn h
 obtain ⟨n,l3,e3,h⟩:=cn h
 split at h
 ·cases h
 obtain ⟨cs,l4,e4,h⟩:=cn h
 obtain ⟨z,l5,_,h⟩:=cn h
 cases h
 exact ⟨by show 1≤n+1;omega,i6 e2⟩
theorem DY {F:Sound.Form} {B:Sound.Bytes} {x:Sound.Frame} (h:Sound.unframe F B= .frame x):1≤x.n∧x.k<2^20:=by
 unfold Sound.unframe at h
 split at h
 ·rename_i e;cases h;exact Gq e
 ·cases h
 ·split at h<;>cases h
def Et (C:Addr):Sp:=fun vs H Q _=> ∃(f:Addr) (F:Sound.Form) (k n:Nat),vs= [.ref f, .int (k:Nat), .int (n:Nat)]∧fC C H f F∧F.block≤256∧Q (.int (min (F.block:Int) ((n:Int)-(k:Int)*(F.block:Int)))) H
theorem Jn:aI ["self", "k", "samples"] ["self", "k", "samples"] (aD vF):=⟨rfl,rfl,rfl,by decide+kernel,rfl,by decide+kernel,by decide+kernel⟩
theorem IF (T:Txt K mg A):az P w K mg base bx 1 A.nR A.j8 ["self", "k", "samples"] (Et A.aW):=by
 refine T.Ig.ok Jn (fun vs H Q E h=>?_) (fun cdv Ar outer s H vs Q E hr h=>?_)
 ·obtain ⟨f,F,k,n,rfl,_⟩:=h
  rfl
 ·obtain ⟨f,F,k,n,rfl,⟨df,hf⟩,hb,q⟩:=h
  refine ⟨_,ah (aR (dj (FU rfl) (by rfl) T.Ep (by decide+kernel:bootBuiltins "min" =some (.builtin "min")) (aa (ay (pv 0) rfl) (aa (ax cY (pv 2) (ax gE (pv 1) (ay (pv 0) rfl))) af)))),?_⟩
  have e64:(2:Int)^64=18446744073709551616:=by decide
  refine ⟨_,rfl,f,A.aW,df,_,_,rfl,hf,T.bW,T.gG,rfl,_,rfl,_,rfl,_,rfl,f,A.aW,df,_,_,rfl,hf,T.bW,T.gG,rfl,_,_,rfl,rfl, .inr ⟨by omega,by omega⟩,_,_,rfl,rfl,_,_,rfl,?_⟩
  have e:(if (n:Int)-(k:Int)*(F.block:Int)<(F.block:Int) then (n:Int)-(k:Int)*(F.block:Int) else (F.block:Int))=min (F.block:Int) ((n:Int)-(k:Int)*(F.block:Int)):=by
   split<;>omega
  dsimp only
  rw[e]
  exact q
def gM (F:Sound.Form) (n:Nat) (B:Sound.Bytes):Option Sound.Frame:=match Sound.unframe F B with
 | .frame x=>if x.n=Sound.frameLen F n x.k then some x else none
 |_=>none
def yW (A:aK) (H:Hp) (r:Option Sound.Frame) (Q:VK):Prop:=match r with
 |some x=> ∀o H',H o=none→ae H H'→tL A.b5 H' o x→Q (.ref o) H'
 |none=> ∀H',ae H H'→Q .aq H'
def LO (K:PySem.W.Frag) (A:aK):Sp:=fun vs H Q _=> ∃(f q:Addr) (F:Sound.Form) (n:Nat) (B:Sound.Bytes),vs= [.ref f, .int (n:Nat), .ref q]∧fC A.aW H f F∧ai K H q (vN (bn B))∧F.ok=true∧yW A H (gM F n B) Q
theorem zu:aI ["form", "samples", "data", "taken"] ["form", "samples", "data"] (aD Av):=⟨rfl,rfl,rfl,by decide+kernel,rfl,by decide+kernel,by decide+kernel⟩
theorem Ly (T:Txt K mg A):az P w K mg base bx 14 A.kL A.kG ["form", "samples", "data"] (LO K A):=by
 refine T.ya.ok zu (fun vs H Q E h=>?_) (fun cdv Ar outer s H vs Q E hr h=>?_)
 ·obtain ⟨f,q,F,n,B,rfl,_⟩:=h
  rfl
 ·obtain ⟨f,q,F,n,B,rfl,hF,hq,aj,k⟩:=h
  have hr1':aC 1 _:=hr.mono (by decide)
  refine ⟨_,ag (oG rfl rfl rfl (fun E pn xe hp ho=>ah (aF (i:=3) zu.nd rfl (Or.inl rfl) (rp (Bt T) hr rfl T.BI T.uf.kp T.Dh .nil hp (aa (pv 0) (aa (pv 2) af)))))
    (Ce rfl T.dw rfl T.dE (fun x ps n _=>ah (aR eu))
     T.o6 rfl T.o4 (fun x ps n _=>ah (aR eu)) T.AA.symm))
   (ah (aR (iB (aY cI (ay (pv 3) rfl) (aL (pv 0) T.bW T.GY (IF T) hr1' T.Js .nil bo (aa (ay (pv 3) rfl) (aa (pv 1) af))) (aP _)) (pv 3) eu))),?_⟩
  obtain ⟨df,hf⟩:=id hF
  refine ⟨_,rfl,_,rfl,f,q,F,B,rfl,hF,hq,aj,?_⟩
  unfold vP
  unfold gM at k
  cases e:Sound.unframe F B with
  |bad=>
   rw[e] at k
   exact fun H3 s3=> .inl ⟨rfl,k _ s3⟩
  |short=>
   rw[e] at k
   exact fun H3 s3=> .inr ⟨rfl,k _ s3⟩
  |frame x=>
   rw[e] at k
   dsimp only at k⊢
   intro o H1 ho s1 hx
   obtain ⟨dx,D,h1,h2⟩:=id hx
   obtain ⟨hn1,hk20⟩:=DY e
   obtain ⟨_,_,⟨hb1,hb2⟩,_⟩:=fN aj
   refine ⟨_,rfl,o,A.b5,dx,_,_,rfl,h1,T.gF,T.yi,rfl,_,rfl,f,df,_,rfl,s1 _ _ hf,rfl,_,rfl,o,A.b5,dx,_,_,rfl,h1,T.gF,T.rD,rfl,_,rfl,f,F,x.k,n,rfl,⟨df,s1 _ _ hf⟩,by omega,rfl,_,rfl,?_⟩
   have el:decide (V.int ((x.n:Nat):Int)=V.int (min (F.block:Int) ((n:Int)-(x.k:Int)*(F.block:Int))))=decide (x.n=Sound.frameLen F n x.k):=by
    unfold Sound.frameLen
    have e1:((x.k*F.block:Nat):Int)=(x.k:Int)*(F.block:Int):=by omega
    by_cases c:x.n=min F.block (n-x.k*F.block)
    ·rw[decide_eq_true c,decide_eq_true]
     congr 1
     rw[←e1];omega
    ·rw[decide_eq_false c,decide_eq_false]
     intro z
     have z:=V.int.inj z
     rw[←e1] at z
     exact c (by omega)
   rw[el]
   by_cases c:x.n=Sound.frameLen F n x.k
   ·rw[decide_eq_true c]
    rw[if_pos c] at k
    exact bf ⟨_,rfl,k o H1 ho s1 hx⟩
   ·rw[decide_eq_false c]
    rw[if_neg c] at k
    exact bw (k H1 s1)
def d6 (B:Sound.Bytes) (h:Sound.Head) (S:Hs) (k:Nat):Option (List Int):=match gM (Sound.eager h.form) h.n ((B.drop (S.pl+S.starts.getD k 0)).take 4096) with
 |some x=>if x.k=k then some x.s else none
 |none=>none
theorem BP {F:Sound.Form} {n:Nat} {B:Sound.Bytes} {x:Sound.Frame} (aj:F.ok=true) (h:gM F n B=some x):x.s.length≤2560:=by
 unfold gM at h
 split at h
 ·rename_i e
  split at h
  ·cases h;exact Jg aj e
  ·cases h
 ·cases h
theorem zS {F:Sound.Form} (h:F.ok=true):(Sound.eager F).ok=true:=by
 unfold Sound.eager Sound.Form.ok at*
 simp only [Bool.and_eq_true,decide_eq_true_eq] at h⊢
 omega
def nS (A:aK) (H:Hp) (o:Option (List Int)) (Q:VK) (E:XK):Prop:=match o with
 |some s=> ∀D H',ae H H'→H' D=some (.lst (s.map V.int))→Q (.ref D) H'
 |none=> ∀H',ae H H'→E (.ref A.gH) none H'
def Ln (K:PySem.W.Frag) (A:aK):Sp:=fun vs H Q E=> ∃(X:Hx) (S:Hs) (hv:V) (b:Addr) (h:Sound.Head) (k:Nat),vs= [.ref X.p, .int (k:Nat)]∧HI K A H X S hv b∧aJ A.au H X.R S.pl∧(S.w.head=some h∧h.form.ok=true∧k<S.starts.length)∧nS A H (d6 X.B h S k) Q E
theorem sO:aI ["front", "k", "begin", "taken"] ["front", "k"] (aD y8):=⟨rfl,rfl,rfl,by decide+kernel,rfl,by decide+kernel,by decide+kernel⟩
theorem Lo (T:Txt K mg A):az P w K mg base (aO P w) 15 A.nB A.ko ["front", "k"] (Ln K A):=by
 refine T.wM.bF sO (fun vs H Q E h=>?_) (fun cdv Ar outer s H vs Q E hr h=>?_)
 ·obtain ⟨X,S,hv,b,h,k,rfl,_⟩:=h
  rfl
 ·obtain ⟨X,S,hv,b,h,k,rfl,hi,hS,⟨eh,aj,hk⟩,q⟩:=h
  refine ⟨_,ag (aF (i:=2) sO.nd rfl (Or.inl rfl) (ax bS (ay (ay (pv 0) rfl) rfl) (bZ cU (ay (pv 0) rfl) (pv 1) (fun _ _=>rfl))))
   (ag (aF (i:=3) sO.nd rfl (Or.inl rfl) (bc (Ly T) hr rfl T.Ff T.ya.kp T.DE .nil bo (aa (ay (ay (pv 0) rfl) rfl) (aa (ay (ay (pv 0) rfl) rfl) (aa (eC ek (ay (ay (pv 0) rfl) rfl) (cv (pv 2)) (cv (ax bS (pv 2) (a8 rfl T.qe)))) af)))))
   (ag (a9 (PW.pt (lS (aY yL (pv 3) eu (aP _)) (lZ (aY fQ (ay (pv 3) rfl) (pv 1) (aP _))))) (ah (dn rfl rfl T.wF T.ud.exc dA)) bh)
   (ah (aR (ay (pv 3) rfl))))),?_⟩
  have hx:=hi.hh
  rw[eh] at hx
  obtain ⟨x,rfl,dx,f,hx1,df,hf⟩:=hx
  have hx1':=(dh hx1).1
  have hf':=(dh hf).1
  have hSr:=hS
  unfold aJ at hSr
  refine ⟨_,rfl,X.p,A.aM,X.dp,_,_,rfl,hi.hp,T.bM,T.gp,rfl,X.r,A.au,X.dr,_,_,rfl,hSr,T.aN,T.cX,rfl,?_⟩
  refine ⟨_,rfl,X.p,A.aM,X.dp,_,_,rfl,hi.hp,T.bM,T.pz,rfl,_,rfl,X.a,_,_,_,rfl,rfl,ai.of hi.ha,bQ (iR hk),_,_,rfl,rfl,?_⟩
  dsimp only
  rw[show ((S.pl:Nat):Int)+((S.starts.getD k 0:Nat):Int)=((S.pl+S.starts.getD k 0:Nat):Int) by omega]
  refine ⟨_,rfl,X.p,A.aM,X.dp,_,_,rfl,hi.hp,T.bM,T.fh,rfl,x,A.b4,dx,_,_,rfl,hx1',T.eX,T.kH,rfl,?_⟩
  refine ⟨_,rfl,X.p,A.aM,X.dp,_,_,rfl,hi.hp,T.bM,T.fh,rfl,x,A.b4,dx,_,_,rfl,hx1',T.eX,T.pR,rfl,?_⟩
  refine ⟨_,rfl,X.p,A.aM,X.dp,_,_,rfl,hi.hp,T.bM,T.gp,rfl,X.r,A.au,X.dr,_,_,rfl,hSr,T.aN,T.ij,rfl,_,rfl,_,rfl,_,rfl,_,_,rfl,rfl,_,rfl,X.q,_,rfl,hi.jw.sq,fun D hD=>?_⟩
  dsimp only
  rw[show ((S.pl+S.starts.getD k 0:Nat):Int)+4096=((S.pl+S.starts.getD k 0+4096:Nat):Int) by omega,show X.R.B=X.B from rfl,iV,show S.pl+S.starts.getD k 0+4096-(S.pl+S.starts.getD k 0)=4096 by omega,iK,gD]
  have s1:=aQ (o:= .lst (vN (bn ((X.B.drop (S.pl+S.starts.getD k 0)).take 4096)))) hD
  refine ⟨f,D,Sound.eager h.form,h.n,_,rfl,⟨df,s1 _ _ hf'⟩,ai.of ao,zS aj,?_⟩
  generalize upd H D (.lst (vN (bn ((X.B.drop (S.pl+S.starts.getD k 0)).take 4096))))=H1 at*
  unfold d6 at q
  unfold yW
  cases e:gM (Sound.eager h.form) h.n ((X.B.drop (S.pl+S.starts.getD k 0)).take 4096) with
  |none=>
   rw[e] at q
   dsimp only at q⊢
   intro H2 s2
   refine ⟨_,rfl,rfl,_,rfl,?_⟩
   exact bf (bf (q H2 (s1.trans s2)))
  |some y=>
   rw[e] at q
   dsimp only at q⊢
   intro o H2 ho s2 hy
   obtain ⟨dy,Dy,h1,h2⟩:=id hy
   refine ⟨_,rfl,rfl,_,rfl,?_⟩
   rw[decide_eq_false (by intro z;cases z)]
   refine bw ⟨_,rfl,o,A.b5,dy,_,_,rfl,h1,T.gF,T.rD,rfl,_,rfl,rfl,_,rfl,?_⟩
   by_cases c:y.k=k
   ·rw[decide_eq_true (by rw[c])]
    rw[if_pos c] at q
    exact bw ⟨_,rfl,o,A.b5,dy,_,_,rfl,h1,T.gF,T.xZ,rfl,q Dy H2 (s1.trans s2) h2⟩
   ·rw[decide_eq_false (fun z=>c (by have:=V.int.inj z;omega))]
    rw[if_neg c] at q
    exact bf (q H2 (s1.trans s2))
def cz (B:Sound.Bytes) (h:Sound.Head) (S:Hs):Nat→Nat→Option (List Int)
 |0,_=>some []
 |m+1,k=>match d6 B h S k,cz B h S m (k+1) with
  |some s,some r=>some (s++r)
  |_,_=>none
theorem tF {B:Sound.Bytes} {h:Sound.Head} {S:Hs}: ∀(i m k:Nat) (l:List Int),cz B h S i k=some l→cz B h S (i+(m+1)) k=match d6 B h S (k+i),cz B h S m (k+i+1) with
  |some s,some r=>some (l++(s++r))
  |_,_=>none
 |0,m,k,l,e=>by
  cases e
  rw[Nat.zero_add]
  conv=>lhs;unfold cz
  rw[Nat.add_zero];rfl
 |i+1,m,k,l,e=>by
  unfold cz at e
  rw[show i+1+(m+1)=i+(m+1)+1 by omega]
  conv=>lhs;unfold cz
  cases e1:d6 B h S k with
  |none=>rw[e1] at e;cases e
  |some s=>
   rw[e1] at e
   cases e2:cz B h S i (k+1) with
   |none=>rw[e2] at e;cases e
   |some r=>
    rw[e2] at e
    cases e
    rw[tF i m (k+1) r e2,show k+1+i=k+(i+1) by omega]
    cases d6 B h S (k+(i+1)) with
    |none=>rfl
    |some s'=>
     cases cz B h S m (k+(i+1)+1) with
     |none=>rfl
     |some r'=>simp
theorem zN {B:Sound.Bytes} {h:Sound.Head} {S:Hs} {k:Nat} {s:List Int} (aj:h.form.ok=true) (e:d6 B h S k=some s):s.length≤2560:=by
 unfold d6 at e
 split at e
 ·rename_i e1
  split at e
  ·cases e;exact BP (zS aj) e1
  ·cases e
 ·cases e
theorem x4 {B:Sound.Bytes} {h:Sound.Head} {S:Hs} (aj:h.form.ok=true): ∀(m k:Nat) (l:List Int),cz B h S m k=some l→l.length≤2560*m
 |0,_,_,e=>by cases e;exact Nat.zero_le _
 |m+1,k,l,e=>by
  unfold cz at e
  split at e
  ·rename_i s r e1 e2
   cases e
   have h1:=zN aj e1
   have h2:=x4 aj m _ _ e2
   rw[List.length_append]
   omega
  ·cases e
def d9 (h:Sound.Head) (begin_:Nat):Nat:=begin_/h.form.block
def dt (h:Sound.Head) (begin_ n:Nat):Nat:=if n=0 then 0 else (begin_+n-1)/h.form.block+1-begin_/h.form.block
def ig (B:Sound.Bytes) (h:Sound.Head) (S:Hs) (begin_ n:Nat):Option (List Int):=(cz B h S (dt h begin_ n) (d9 h begin_)).map fun l=>(l.drop (h.form.channels*(begin_-d9 h begin_*h.form.block))).take (h.form.channels*n)
def D6 (K:PySem.W.Frag) (A:aK):Sp:=fun vs H Q E=> ∃(X:Hx) (S:Hs) (hv:V) (b:Addr) (h:Sound.Head) (begin_ n:Nat),vs= [.ref X.p, .int (begin_:Nat), .int (n:Nat)]∧HI K A H X S hv b∧aJ A.au H X.R S.pl∧(S.w.head=some h∧Sound.mayHead h=true∧S.starts.length=Sound.framesOf h.form h.n∧begin_+n≤h.n)∧nS A H (ig X.B h S begin_ n) Q E
theorem iG:aI ["front", "begin", "n", "form", "first", "behind", "numbers", "k", "skipped"] ["front", "begin", "n"] (aD Ag):=⟨rfl,rfl,rfl,by decide+kernel,rfl,by decide+kernel,by decide+kernel⟩
theorem sj {a b:Nat} (ha:1≤a) (hb:1≤b):(a+b-1)/b=(a-1)/b+1:=by
 rw[show a+b-1=(a-1)+b by omega,Nat.add_div_right _ hb]
theorem A9 (l s:List Int):l.map V.int++s.map V.int=(l++s).map V.int:=by rw[List.map_append]
theorem AV (l:List Int) (i j:Nat):cx (l.map V.int) (some (i:Int)) (some ((i+j:Nat):Int))=((l.drop i).take j).map V.int:=by
 unfold cx HT.cy
 simp only [List.length_map]
 rw[if_neg (by omega),if_neg (by omega),Int.toNat_natCast,Int.toNat_natCast,←List.map_drop,←List.map_take,uP,Nat.add_sub_cancel_left]
theorem BO (T:Txt K mg A):az P w K mg base (aO P w) 16 A.mO A.kh ["front", "begin", "n"] (D6 K A):=by
 refine T.xX.bF iG (fun vs H Q E h=>?_) (fun cdv Ar outer s H vs Q E hr h=>?_)
 ·obtain ⟨X,S,hv,b,h,begin_,n,rfl,_⟩:=h
  rfl
 ·obtain ⟨X,S,hv,b,h,begin_,n,rfl,hi,hS,⟨eh,hm,hst,hbn⟩,q⟩:=h
  have hr1':aC 1 _:=hr.mono (by decide)
  refine ⟨_,ag (aF (i:=3) iG.nd rfl (Or.inl rfl) (ay (ay (pv 0) rfl) rfl))
   (ag (aF (i:=4) iG.nd rfl (Or.inl rfl) (ax ic (pv 1) (ay (pv 3) rfl)))
   (ag (aF (i:=5) iG.nd rfl (Or.inl rfl) (iB (aY cO (pv 2) ak (aP _)) (aL (pv 3) T.bW T.wZ (vv T) hr1' T.uk .nil bo (aa (ax bS (pv 1) (pv 2)) af)) (pv 4)))
   (ag (aF (i:=6) iG.nd rfl (Or.inl rfl) (cJ af))
   (ag (cq PassesOwn.leaving rfl (AF rfl T.dN (aa (pv 4) (aa (pv 5) af))) (bH (i:=7) iG.nd rfl (Or.inl rfl))
    (ah (bp (gU PySem.F.plainAttrs_list PySem.F.slot_list_extend PySem.F.type_list_extend qv (pv 6) (aa (bc (Lo T) hr rfl T.Dl T.wM.kp T.GK .nil aH (aa (pv 0) (aa (pv 7) af))) af)))))
   (ag (aF (i:=8) iG.nd rfl (Or.inl rfl) (ax gE (ax cY (pv 1) (ax gE (pv 4) (ay (pv 3) rfl))) (ay (pv 3) rfl)))
   (ah (aR (eC ek (pv 6) (cv (pv 8)) (cv (ax bS (pv 8) (ax gE (pv 2) (ay (pv 3) rfl)))))))))))),?_⟩
  have hx:=hi.hh
  rw[eh] at hx
  obtain ⟨x,rfl,dx,f,hx1,df,hf⟩:=hx
  have hx1':=(dh hx1).1
  have hf':=(dh hf).1
  have aj:=(gY hm).1
  have hn2:=yH hm
  obtain ⟨⟨hc1,hc2⟩,_,⟨hb1,hb2⟩,_⟩:=fN aj
  have e62:(2:Int)^62=4611686018427387904:=by decide
  have e64:(2:Int)^64=18446744073709551616:=by decide
  refine ⟨_,rfl,X.p,A.aM,X.dp,_,_,rfl,hi.hp,T.bM,T.fh,rfl,x,A.b4,dx,_,_,rfl,hx1',T.eX,T.kH,rfl,?_⟩
  refine ⟨_,rfl,_,rfl,f,A.aW,df,_,_,rfl,hf',T.bW,T.gG,rfl,_,_,rfl,rfl,⟨by show (0:Int)<(h.form.block:Nat);omega,by show ((h.form.block:Nat):Int)<_;omega⟩,?_⟩
  dsimp only
  rw[show (Sound.eager h.form).block=h.form.block from rfl,←Int.natCast_ediv]
  have hfirst:begin_/h.form.block=d9 h begin_:=rfl
  rw[hfirst]
  have hmul:d9 h begin_*h.form.block≤begin_:=Nat.div_mul_le_self _ _
  have hfl:d9 h begin_≤begin_:=Nat.div_le_self _ _
  generalize hF:d9 h begin_=F0 at*
  refine ⟨_,rfl,_,_,rfl,rfl,_,rfl,?_⟩
  refine ite_val (.int ((F0+dt h begin_ n:Nat):Int)) H (fun c Q' r=>?A) (fun c Q' r=>?B) ?C
  case A=>
   have c:(0:Int)<((n:Nat):Int):=of_decide_eq_true c
   refine ⟨_,rfl,f,df,_,rfl,hf',rfl,_,rfl,_,rfl,_,_,rfl,rfl,f,Sound.eager h.form,begin_+n,?_,⟨df,hf'⟩,⟨by show 1≤h.form.block;omega,by show h.form.block≤256;omega⟩,?_⟩
   ·show [V.ref f,V.int (((begin_:Nat):Int)+((n:Nat):Int))]=_
    rw[show ((begin_:Nat):Int)+((n:Nat):Int)=((begin_+n:Nat):Int) by omega]
   ·have e:Sound.framesOf (Sound.eager h.form) (begin_+n)=F0+dt h begin_ n:=by
     show (begin_+n+h.form.block-1)/h.form.block=_
     rw[sj (by omega) (by omega)]
     unfold dt
     rw[if_neg (by omega),hfirst]
     have:F0≤(begin_+n-1)/h.form.block:=by rw[←hfirst];exact Nat.div_le_div_right (by omega)
     omega
    rw[e]
    exact r
  case B=>
   have c: ¬(0:Int)<((n:Nat):Int):=fun z=>c (decide_eq_true z)
   refine ⟨_,rfl,?_⟩
   have e:F0+dt h begin_ n=F0:=by unfold dt;rw[if_pos (by omega)];rfl
   rw[e] at r
   exact r
  case C=>
   have hcl:F0+dt h begin_ n≤Sound.framesOf h.form h.n:=by
    unfold dt
    split
    ·have:F0≤Sound.framesOf h.form h.n:=by
      rw[←hfirst]
      unfold Sound.framesOf
      exact Nat.div_le_div_right (by omega)
     exact this
    ·have h1:F0≤(begin_+n-1)/h.form.block:=by rw[←hfirst];exact Nat.div_le_div_right (by omega)
     rw[hfirst]
     have h2:(begin_+n-1)/h.form.block≤(h.n-1)/h.form.block:=Nat.div_le_div_right (by omega)
     have h3:=sj (a:=h.n) (b:=h.form.block) (by omega) (by omega)
     unfold Sound.framesOf
     omega
   have hNn:=uq h.n (F:=h.form) (by omega)
   unfold ig at q
   rw[hF] at q
   generalize hC:dt h begin_ n=C at*
   refine ⟨(by rw[sizeLine_eq];exact Nat.zero_le _),fun L hL=>?_⟩
   have sL:=aQ (o:= .lst []) hL
   refine ⟨_,rfl,_,rfl,_,_,rfl,⟨by omega,by omega,by omega,by omega⟩,?_⟩
   have en:(((F0+C:Nat):Int)-((F0:Nat):Int)).toNat=C:=by omega
   refine eR (lo:=((F0:Nat):Int)) (n:=(((F0+C:Nat):Int)-((F0:Nat):Int)).toNat) (fun i σ H'=> ∃(v7:Option V) (l:List Int),σ= [some (.ref X.p),some (.int (begin_:Nat)),some (.int (n:Nat)),some (.ref f),some (.int (F0:Nat)),some (.int ((F0+C:Nat):Int)),some (.ref L),v7,none]∧ae H H'∧H' L=some (.lst (l.map V.int))∧cz X.B h S i F0=some l)
    ⟨none, [],rfl,sL,ao,rfl⟩ ?_ ?_
   ·rintro i σ H1 hiC ⟨v7,l,rfl,s1,hL1,el⟩
    rw[en] at hiC
    have hll:=x4 aj _ _ _ el
    have hsn:=tF i (C-(i+1)) F0 l el
    rw[show i+(C-(i+1)+1)=C by omega] at hsn
    refine ⟨_,rfl, .inl ⟨rfl,_,ai.of hL1⟩,_,rfl,_,rfl,X,S, .ref x,b,h,F0+i,?_,hi.same s1,s1 _ _ hS,⟨eh,aj,by omega⟩,?_⟩
    ·show [V.ref X.p,V.int (((F0:Nat):Int)+((i:Nat):Int))]=_
     rw[show ((F0:Nat):Int)+((i:Nat):Int)=((F0+i:Nat):Int) by omega]
    unfold nS at q⊢
    cases e:d6 X.B h S (F0+i) with
    |none=>
     rw[e] at hsn
     rw[hsn] at q
     exact fun H2 s2=>q H2 (s1.trans s2)
    |some sN=>
     dsimp only
     have hsl:=zN aj e
     intro D H2 s2 hD
     refine ⟨L,D,_,_,rfl,rfl,s2 _ _ hL1,hD,(by rw[List.length_map,List.length_map,sizeLine_eq];omega),?_⟩
     rw[A9]
     refine ⟨_,_,rfl,fun y o ey=>?_,ao,?_⟩
     ·rw[aB (b6 ey hL)]
      exact s2 _ _ (s1 _ _ ey)
     ·have:=tF i 0 F0 l el
      rw[this,e]
      show some (l++(sN++ []))=_
      rw[List.append_nil]
   ·rintro σ H1 ⟨v7,l,rfl,s1,hL1,el⟩
    rw[en] at el
    rw[el] at q
    refine ⟨_,rfl,_,rfl,_,rfl,f,A.aW,df,_,_,rfl,s1 _ _ hf',T.bW,T.gG,rfl,_,_,rfl,rfl, .inr ⟨by show _<((h.form.block:Nat):Int);omega,by show ((h.form.block:Nat):Int)<_;omega⟩,_,_,rfl,rfl,_,rfl,f,A.aW,df,_,_,rfl,s1 _ _ hf',T.bW,T.i3,rfl,_,_,rfl,rfl, .inr ⟨by show _<((h.form.channels:Nat):Int);omega,by show ((h.form.channels:Nat):Int)<_;omega⟩,?_⟩
    dsimp only
    rw[show (Sound.eager h.form).block=h.form.block from rfl,show (Sound.eager h.form).channels=h.form.channels from rfl]
    have e1:(((begin_:Nat):Int)-((F0:Nat):Int)*((h.form.block:Nat):Int))*((h.form.channels:Nat):Int)=((h.form.channels*(begin_-F0*h.form.block):Nat):Int):=by
     rw[←Int.natCast_mul,show ((begin_:Nat):Int)-((F0*h.form.block:Nat):Int)=((begin_-F0*h.form.block:Nat):Int) by omega,←Int.natCast_mul,Nat.mul_comm]
    rw[e1]
    refine ⟨_,rfl,_,rfl,_,rfl,_,rfl,_,rfl,_,rfl,f,A.aW,df,_,_,rfl,s1 _ _ hf',T.bW,T.i3,rfl,_,_,rfl,rfl, .inr ⟨by show _<((h.form.channels:Nat):Int);omega,by show ((h.form.channels:Nat):Int)<_;omega⟩,_,_,rfl,rfl,_,rfl,L,_,rfl,ai.of hL1,fun D hD=>?_⟩
    dsimp only
    rw[show (Sound.eager h.form).channels=h.form.channels from rfl,show ((h.form.channels*(begin_-F0*h.form.block):Nat):Int)+((n:Nat):Int)*((h.form.channels:Nat):Int)=((h.form.channels*(begin_-F0*h.form.block)+h.form.channels*n:Nat):Int) by rw[←Int.natCast_mul,Nat.mul_comm n];omega,AV]
    exact q D _ (s1.trans (aQ hD)) ao
theorem Jx {B:Sound.Bytes} {k p:Nat} (h:cD B= .error (k,p)):k≠0:=by
 unfold cD at h
 repeat' split at h
 all_goals first|(cases h;decide)|cases h
theorem yD {B:Sound.Bytes} {h:Sound.Head} (e:cD B= .ok h):h=Sound.fields B∧Sound.mayHead h=true∧26≤B.length:=by
 unfold cD at e
 split at e
 ·cases e
 ·split at e
  ·cases e
  ·split at e
   ·cases e
   ·split at e
    ·cases e
    ·rename_i hm
     split at e
     ·cases e
     ·split at e
      ·cases e
      ·cases e
       refine ⟨rfl,?_,by omega⟩
       cases q:Sound.mayHead (Sound.fields B) with
       |true=>rfl
       |false=>exact absurd q hm
theorem LA {at_ n:Nat} {seen:List Sound.Bytes} {b:Sound.Bytes} {k p:Nat} (h:cT at_ n seen b= .inl (.fault k p)):k≠0:=by
 unfold cT at h
 simp only at h
 repeat' split at h
 all_goals first|(cases h;decide)|cases h
theorem Af: ∀(j at_ n:Nat) (seen:List Sound.Bytes) (b:Sound.Bytes) (l:List Sound.Bytes) (k p:Nat),Sound.tagItems j at_ n seen b=(l, .inl (.fault k p))→k≠0
 |0,at_,n,seen,b,l,k,p,h=>by unfold Sound.tagItems at h;cases h
 |j+1,at_,n,seen,b,l,k,p,h=>by
  rw[oB] at h
  cases e:cT at_ n seen b with
  |inl st=>
   rw[e] at h
   cases h
   exact LA e
  |inr z=>
   rw[e] at h
   exact Af j _ _ _ _ l k p h
theorem IG {t:Nat} {b:Sound.Bytes} {l:List Sound.Bytes} {k p:Nat} (h:Sound.areaOf t b=(l, .fault k p)):k≠0:=by
 unfold Sound.areaOf at h
 split at h
 ·cases h
 ·split at h
  ·cases h;decide
  ·split at h
   ·rename_i l' a e
    cases h
    exact Af _ _ _ _ _ _ _ _ e
   ·split at h
    ·cases h;decide
    ·split at h
     ·cases h
     ·split at h
      ·cases h
      ·cases h;decide
def LF:List dJ:= [jl,fW,gJ]
def dY (B:Sound.Bytes) (h:Sound.Head) (l:List Sound.Bytes):Hs:=⟨⟨some h,l, [],0⟩,entries B (26+h.t) (Sound.framesOf h.form h.n),(B.drop (26+h.t)).take (3*Sound.framesOf h.form h.n+4),26+h.t+3*Sound.framesOf h.form h.n+4⟩
theorem JF (B:Sound.Bytes) (L:List dJ) (hL: ∀h l,jD B=some (h,l)→Sound.mayHead h=true→26+h.t≤B.length→je L B ⟨⟨some h,l, [],0⟩, [], [],26+h.t⟩):je (jl::fW::L) B S0:=by
 refine ⟨rfl,fun S1 e1=>?_⟩
 unfold jl at e1
 dsimp only at e1
 cases e:cD B with
 |error z=>rw[e] at e1;cases e1
 |ok h=>
  rw[e] at e1
  cases e1
  obtain ⟨_,hm,h26⟩:=yD e
  obtain ⟨_,_,h1,h2⟩:=gY hm
  refine ⟨⟨rfl,rfl,h,rfl,h1,h2,h26⟩,fun S2 e2=>?_⟩
  unfold fW at e2
  dsimp only at e2
  cases ea:Sound.areaOf h.t ((B.drop 26).take h.t) with
  |mk l st=>
   rw[ea] at e2
   cases st with
   |more=>cases e2
   |fault k p=>cases e2
   |whole=>
    cases e2
    have hl:=tW ea
    rw[List.length_take,List.length_drop] at hl
    exact hL h l (by unfold jD;rw[e];dsimp only;rw[ea]) hm (by omega)
theorem Lx (B:Sound.Bytes):je LF B S0:=JF B [gJ] fun h l e hm hl=>⟨⟨rfl,hl,h,rfl,hm,rfl⟩,fun _ _=>trivial⟩
theorem C9 (B:Sound.Bytes):(∃h l i,jD B=some (h,l)∧Sound.indexed B=some (⟨some h,l, [],0⟩,h,i)∧Sound.mayHead h=true∧i=(B.drop (26+h.t)).take (3*Sound.framesOf h.form h.n)∧i.length=3*Sound.framesOf h.form h.n∧eP LF B S0= .ok (dY B h l))∨
  (Sound.indexed B=none∧ ∃w k p,k≠0∧eP LF B S0= .error (w,k,p)):=by
 unfold LF
 rw[oM]
 show (∃h l i,_∧_∧_∧_∧_∧(match (match cD B with
  | .error (k,p)=> .error (S0.w,k,p)
  | .ok h=> .ok ⟨⟨some h,S0.w.tags,S0.w.s,S0.w.frames⟩,S0.starts,S0.idx,26⟩:Except (Sound.Told×Nat×Nat) Hs) with
  | .ok S'=>eP [fW,gJ] B S'
  | .error z=> .error z)=_)∨(_∧ ∃w k p,_∧(match (match cD B with
  | .error (k,p)=> .error (S0.w,k,p)
  | .ok h=> .ok ⟨⟨some h,S0.w.tags,S0.w.s,S0.w.frames⟩,S0.starts,S0.idx,26⟩:Except (Sound.Told×Nat×Nat) Hs) with
  | .ok S'=>eP [fW,gJ] B S'
  | .error z=> .error z)=_)
 unfold Sound.indexed
 rw[front_eq]
 unfold jD
 cases e:cD B with
 |error z=>exact .inr ⟨rfl,_,z.1,z.2,Jx e,rfl⟩
 |ok h=>
  obtain ⟨_,hm,h26⟩:=yD e
  obtain ⟨_,_,h1,h2⟩:=gY hm
  dsimp only
  rw[oM]
  unfold fW
  dsimp only
  cases ea:Sound.areaOf h.t ((B.drop 26).take h.t) with
  |mk l st=>
   cases st with
   |more=>exact .inr ⟨rfl,_,1,B.length,Nat.one_ne_zero,rfl⟩
   |fault k p=>exact .inr ⟨rfl,_,k,p,IG ea,rfl⟩
   |whole=>
    dsimp only [Option.map_some]
    rw[oM]
    unfold gJ
    dsimp only
    have hl:=tW ea
    rw[List.length_take,List.length_drop] at hl
    unfold iw
    rw[show Sound.HEAD=26 from rfl]
    cases ei:Sound.indexFault (Sound.framesOf h.form h.n) ((B.drop (26+h.t)).take (3*Sound.framesOf h.form h.n)) with
    |some k=>
     rw[if_pos (.inr (.inl rfl))]
     exact .inr ⟨rfl,_,7,_,by decide,rfl⟩
    |none=>
     dsimp only
     by_cases c1:B.length<26+h.t+3*Sound.framesOf h.form h.n+4
     ·rw[if_pos c1,if_pos (.inl c1)]
      exact .inr ⟨rfl,_,1,_,by decide,rfl⟩
     rw[if_neg c1]
     by_cases c2:Sound.fromHigh ((B.drop (26+h.t+3*Sound.framesOf h.form h.n)).take 4)≠Sound.crc32 ((B.drop (26+h.t)).take (3*Sound.framesOf h.form h.n))
     ·rw[if_pos c2,if_pos (.inr (.inr c2))]
      exact .inr ⟨rfl,_,8,_,by decide,rfl⟩
     rw[if_neg c2,if_neg (fun z=>z.elim c1 fun z=>z.elim (fun z=>by cases z) c2)]
     refine .inl ⟨h,l,_,rfl,rfl,hm,rfl,?_,rfl⟩
     rw[List.length_take,List.length_drop]
     omega
def rE (A:aK):List (Addr×dJ):= [(A.gu,jl),(A.f7,fW),(A.gN,gJ)]
theorem Fp (T:Txt K mg A): ∀x∈rE A,∃d,az P w K mg base (aO P w) 8 x.1 d ["hearing"] (jv K A x.2)∧PySem.W.keepIn K (.ref x.1)=true∧Binds K d ["hearing"] []:=by
 intro x hx
 simp only [rE,List.mem_cons,List.not_mem_nil,or_false] at hx
 rcases hx with rfl|rfl|rfl
 ·exact ⟨_,Cy T,T.xQ.kp,T.BC⟩
 ·exact ⟨_,FT T,T.xt.kp,T.FX⟩
 ·exact ⟨_,(K1 T).mono (by decide),T.uM.kp,T.G1⟩
def F1 (K:PySem.W.Frag) (A:aK):Sp:=fun vs H Q _=> ∃(q:Addr) (B:Sound.Bytes),vs= [.ref q]∧ai K H q (vN (bn B))∧B.length≤16384∧ ∀X H',X.B=B→ae H H'→(∀y∈X.l,H y=none)→qy K A H' X (eP LF B S0)→Q (.ref X.p) H'
theorem Be:aI ["data"] ["data"] (aD zX):=⟨rfl,rfl,rfl,by decide+kernel,rfl,by decide+kernel,by decide+kernel⟩
theorem IE (T:Txt K mg A):az P w K mg base bx 10 A.mD A.mV ["data"] (F1 K A):=by
 refine T.uz.ok Be (fun vs H Q E h=>?_) (fun cdv Ar outer s H vs Q E hr h=>?_)
 ·obtain ⟨q,B,rfl,_⟩:=h
  rfl
 ·obtain ⟨q,B,rfl,hq,hB,k⟩:=h
  refine ⟨_,ah (aR (bc (Ii T (N:=8) (by decide) (rE A) (Fp T)) hr rfl T.KH T.w6.kp T.FF .nil bo (aa (pv 0) (aa (cJ (aa (fA rfl T.Kv) (aa (fA rfl T.FH) (aa (fA rfl T.BG) af)))) af)))),?_⟩
  refine ⟨_,rfl,by rw[sizeLine_eq];show 3≤_;omega,fun L hL=>?_⟩
  have s1:=aQ (o:= .lst [V.ref A.gu,V.ref A.f7,V.ref A.gN]) hL
  exact ⟨q,L,B,rfl,s1.seq hq,ai.of ao,hB,Lx B,fun X H' eB s' hfr ho=>k X H' eB (s1.trans s') (fun y hy=>s1.none (hfr y hy)) ho⟩
theorem JJ {B:Sound.Bytes} {h:Sound.Head} {l:List Sound.Bytes} {i:Sound.Bytes} {k:Nat} (ei:i=(B.drop (26+h.t)).take (3*Sound.framesOf h.form h.n)) (el:i.length=3*Sound.framesOf h.form h.n) (hk:k<Sound.framesOf h.form h.n):Sound.frameAt B h i k=d6 B h (dY B h l) k:=by
 unfold Sound.frameAt d6 gM
 rw[FY,F9]
 have e1:(dY B h l).pl+(dY B h l).starts.getD k 0=Sound.HEAD+h.t+i.length+4+Sound.entry i k:=by
  show 26+h.t+3*Sound.framesOf h.form h.n+4+(entries B (26+h.t) (Sound.framesOf h.form h.n)).getD k 0=_
  unfold entries
  rw[←ei,List.getD_eq_getElem?_getD,List.getElem?_map,List.getElem?_range hk,el];rfl
 rw[e1]
 cases Sound.unframe h.form (B.drop (Sound.HEAD+h.t+i.length+4+Sound.entry i k)) with
 |bad=>rfl
 |short=>rfl
 |frame y=>
  dsimp only
  have e2:Sound.frameLen (Sound.eager h.form) h.n y.k=Sound.frameLen h.form h.n y.k:=rfl
  rw[e2]
  by_cases c:y.k=k
  ·by_cases c2:y.n=Sound.frameLen h.form h.n k
   ·rw[if_pos ⟨c,c2⟩,if_pos (by rw[c];exact c2)]
    dsimp only
    rw[if_pos c]
   ·rw[if_neg (fun z=>c2 z.2),if_neg (by rw[c];exact c2)]
  ·rw[if_neg (fun z=>c z.1)]
   by_cases c2:y.n=Sound.frameLen h.form h.n y.k
   ·rw[if_pos c2]
    dsimp only
    rw[if_neg c]
   ·rw[if_neg c2]
theorem wR {B:Sound.Bytes} {h:Sound.Head} {l:List Sound.Bytes} {i:Sound.Bytes} (ei:i=(B.drop (26+h.t)).take (3*Sound.framesOf h.form h.n)) (el:i.length=3*Sound.framesOf h.form h.n): ∀(m k:Nat),k+m≤Sound.framesOf h.form h.n→Sound.framesFrom B h i m k=cz B h (dY B h l) m k
 |0,_,_=>rfl
 |m+1,k,hk=>by
  unfold Sound.framesFrom cz
  rw[JJ (l:=l) ei el (by omega),wR (l:=l) ei el m (k+1) (by omega)]
  cases d6 B h (dY B h l) k<;>cases cz B h (dY B h l) m (k+1)<;>rfl
theorem count_le {h:Sound.Head} {begin_ n:Nat} (hb:1≤h.form.block) (hbn:begin_+n≤h.n):d9 h begin_+dt h begin_ n≤Sound.framesOf h.form h.n:=by
 unfold d9 dt Sound.framesOf
 split
 ·rw[Nat.add_zero];exact Nat.div_le_div_right (by omega)
 ·have h1:begin_/h.form.block≤(begin_+n-1)/h.form.block:=Nat.div_le_div_right (by omega)
  have h2:(begin_+n-1)/h.form.block≤(h.n-1)/h.form.block:=Nat.div_le_div_right (by omega)
  have h3:=sj (a:=h.n) (b:=h.form.block) (by omega) hb
  omega
theorem Fu {B:Sound.Bytes} {h:Sound.Head} {l:List Sound.Bytes} {i:Sound.Bytes} (e:Sound.indexed B=some (⟨some h,l, [],0⟩,h,i)) (hm:Sound.mayHead h=true) (ei:i=(B.drop (26+h.t)).take (3*Sound.framesOf h.form h.n)) (el:i.length=3*Sound.framesOf h.form h.n) (begin_ n:Nat):
  Sound.sounds B begin_ n=if h.n<begin_+n then .error (-3) else match ig B h (dY B h l) begin_ n with
   |none=> .error (-9)
   |some s=> .ok (⟨some h,l, [],0⟩,h,s):=by
 unfold Sound.sounds
 rw[e]
 dsimp only
 by_cases c:h.n<begin_+n
 ·rw[if_pos c,if_pos c]
 rw[if_neg c,if_neg c]
 obtain ⟨_,_,⟨hb1,hb2⟩,_⟩:=fN (gY hm).1
 have hcl:=count_le (h:=h) (begin_:=begin_) (n:=n) (by omega) (by omega)
 have e1:Sound.framesFrom B h i (if n=0 then 0 else (begin_+n-1)/h.form.block+1-begin_/h.form.block) (begin_/h.form.block)=cz B h (dY B h l) (dt h begin_ n) (d9 h begin_):=wR ei el _ _ hcl
 rw[e1]
 unfold ig
 cases cz B h (dY B h l) (dt h begin_ n) (d9 h begin_) with
 |none=>rfl
 |some z=>rfl
theorem AW {B:Sound.Bytes} {h:Sound.Head} {S:Hs} {begin_ n:Nat} {s:List Int} (hc:h.form.channels≤4) (hn:n≤2048) (e:ig B h S begin_ n=some s):s.length≤8192:=by
 unfold ig at e
 cases e1:cz B h S (dt h begin_ n) (d9 h begin_) with
 |none=>rw[e1] at e;cases e
 |some l=>
  rw[e1] at e
  cases e
  rw[List.length_take]
  have:=Nat.mul_le_mul hc hn
  omega
theorem B5 (bg n:Int) (file:List Int) (hl:file.length≤16384):PyWqaubg.read bg n file=if 2048<n.toNat then [-1] else (match Sound.sounds (fz file) bg.toNat n.toNat with
  | .error z=> [z]
  | .ok (_,h,s)=>(h.form.channels:Int)::Sound.numsOut s):=by
 have e:PyWqaubg.read bg n file=if Sound.tooLong (fz file)=true∨2048<n.toNat then [-1] else (match Sound.sounds (fz file) bg.toNat n.toNat with
  | .error z=> [z]
  | .ok (_,h,s)=>(h.form.channels:Int)::Sound.numsOut s):=rfl
 rw[e,JX hl]
 by_cases c:2048<n.toNat
 ·rw[if_pos (.inr c),if_pos c]
 ·rw[if_neg (by rintro (z|z);cases z;exact c z),if_neg c]
def uY (K:PySem.W.Frag):Sp:=fun vs H Q _=> ∃(bg n:Int) (q:Addr) (file:List Int),vs= [.int bg, .int n, .ref q]∧ai K H q (file.map V.int)∧(0≤bg∧0≤n)∧(file.length≤16384∧(∀x∈file,0≤x∧x≤255))∧
 ∀(H':Hp) (p:Addr),H' p=some (.lst ((PyWqaubg.read bg n file).map V.int))→Q (.ref p) H'
theorem sx:aI ["begin", "n", "file", "front", "numbers"] ["begin", "n", "file"] (aD zb):=⟨rfl,rfl,rfl,by decide+kernel,rfl,by decide+kernel,by decide+kernel⟩
theorem FW (T:Txt K mg A):az P w K mg base bx 17 A.lL A.iq ["begin", "n", "file"] (uY K):=by
 refine T.DC.ok sx (fun vs H Q E h=>?_) (fun cdv Ar outer s H vs Q E hr h=>?_)
 ·obtain ⟨bg,n,q,file,rfl,_⟩:=h
  rfl
 ·obtain ⟨bg,n,q,file,rfl,hq,⟨hbg,hn0⟩,⟨hfl,hfb⟩,k⟩:=h
  have hr1':aC 1 _:=hr.mono (by decide)
  have hr10':aC 10 _:=hr.mono (by decide)
  refine ⟨_,ag (a9 (aY cO (pv 1) (a8 rfl T.KQ) (aP _)) (ah (aR (cJ (aa (fJ fU ak) af)))) bh)
   (ag (aF (i:=3) sx.nd rfl (Or.inl rfl) (bc (IE T) hr10' rfl T.Lj T.uz.kp T.JP .nil bo (aa (pv 2) af)))
   (ag (a9 (aY fQ (ay (ay (pv 3) rfl) rfl) ak (aP _)) (ah (aR (cJ (aa (fJ fU ak) af)))) bh)
   (ag (a9 (aY cO (ax bS (pv 0) (pv 1)) (ay (ay (pv 3) rfl) rfl) (aP _)) (ah (aR (cJ (aa (fJ fU ak) af)))) bh)
   (ag (oG rfl rfl rfl (fun E pn xe hp ho=>ah (aF (i:=4) sx.nd rfl (Or.inl rfl) (rp (BO T) hr rfl T.Ji T.xX.kp T.Gb .nil hp (aa (pv 3) (aa (pv 0) (aa (pv 1) af))))))
    (Az rfl T.ud rfl T.wF (fun x ps n _=>ah (aR (cJ (aa (fJ fU ak) af))))))
   (ah (aR (ax uw (cJ (aa (ay (ay (ay (pv 3) rfl) rfl) rfl) af)) (bc (Lb T) hr1' rfl T.BA T.xu.kp T.JV .nil bo (aa (pv 4) af))))))))),?_⟩
  rw[DI hfb] at hq
  rw[B5 bg n file hfl] at k
  have hB:(fz file).length≤16384:=by rw[uQ];exact hfl
  generalize fz file=B at*
  obtain ⟨bg,rfl⟩: ∃b:Nat,bg=(b:Int):=⟨bg.toNat,by omega⟩
  obtain ⟨n,rfl⟩: ∃b:Nat,n=(b:Int):=⟨n.toNat,by omega⟩
  rw[Int.toNat_natCast,Int.toNat_natCast] at k
  have one1:(1:Nat)≤sizeLine:=by rw[sizeLine_eq];omega
  refine ⟨_,rfl,_,_,rfl,rfl,_,rfl,?_⟩
  refine bL (fun c=>?_) fun c=>?_
  ·have c:(2048:Int)<((n:Nat):Int):=of_decide_eq_true c
   rw[if_pos (show 2048<n by omega)] at k
   exact ⟨1,rfl,one1,fun D hD=>k _ D (by rw[ao];rfl)⟩
  have c: ¬(2048:Int)<((n:Nat):Int):=fun z=>c (decide_eq_true z)
  rw[if_neg (show¬2048<n by omega)] at k
  refine ⟨_,rfl,q,B,rfl,hq,hB,fun X H1 eB s1 hfr ho=>?_⟩
  unfold qy at ho
  rcases C9 B with ⟨h,l,i,_,ei,hm,eI,eL,er⟩|⟨ei,w',kk,pp,hk0,er⟩
  ·rw[er] at ho
   obtain ⟨hv,b,hi,hS⟩:=ho
   have hx:=hi.hh
   obtain ⟨x,rfl,dx,f,hx1,df,hf⟩:=hx
   have hx1':=(dh hx1).1
   have hf':=(dh hf).1
   have hSr:=hS
   unfold aJ at hSr
   rw[Fu ei hm eI eL] at k
   refine ⟨_,rfl,X.p,A.aM,X.dp,_,_,rfl,hi.hp,T.bM,T.gp,rfl,X.r,A.au,X.dr,_,_,rfl,hSr,T.aN,T.qb,rfl,rfl,_,rfl,?_⟩
   rw[decide_eq_true rfl]
   refine bw ⟨_,rfl,_,rfl,_,_,rfl,rfl,_,rfl,X.p,A.aM,X.dp,_,_,rfl,hi.hp,T.bM,T.fh,rfl,x,A.b4,dx,_,_,rfl,hx1',T.eX,T.pR,rfl,_,_,rfl,rfl,_,rfl,?_⟩
   refine bL (fun c3=>?_) fun c3=>?_
   ·have c3:((h.n:Nat):Int)<((bg:Nat):Int)+((n:Nat):Int):=of_decide_eq_true c3
    rw[if_pos (by omega)] at k
    exact ⟨3,rfl,one1,fun D hD=>k _ D (by rw[ao];rfl)⟩
   have c3: ¬((h.n:Nat):Int)<((bg:Nat):Int)+((n:Nat):Int):=fun z=>c3 (decide_eq_true z)
   rw[if_neg (by omega)] at k
   refine ⟨_,rfl,_,rfl,_,rfl,X,dY B h l, .ref x,b,h,bg,n,rfl,hi,hS,⟨rfl,hm,?_,by omega⟩,?_⟩
   ·show (entries B (26+h.t) (Sound.framesOf h.form h.n)).length=_
    unfold entries
    rw[List.length_map,List.length_range]
   rw[eB]
   unfold nS
   cases es:ig B h (dY B h l) bg n with
   |none=>
    rw[es] at k
    dsimp only at k⊢
    exact fun H2 s2=>⟨rfl,9,rfl,one1,fun D hD=>k _ D (by rw[ao];rfl)⟩
   |some sm=>
    rw[es] at k
    dsimp only at k⊢
    intro D H2 s2 hD
    have hsl:=AW (fN (gY hm).1).1.2 (by omega) es
    refine ⟨_,rfl,X.p,A.aM,X.dp,_,_,rfl,s2 _ _ hi.hp,T.bM,T.fh,rfl,x,A.b4,dx,_,_,rfl,s2 _ _ hx1',T.eX,T.kH,rfl,f,A.aW,df,_,_,rfl,s2 _ _ hf',T.bW,T.i3,rfl,one1,fun D2 hD2=>?_⟩
    have s3:=aQ (o:= .lst [V.int (((Sound.eager h.form).channels:Nat):Int)]) hD2
    refine ⟨_,rfl,D,_,rfl,ai.of (s3 _ _ hD),by rw[List.length_map];omega,fun D3 H3 hD3 s4 hx3=>?_⟩
    refine ⟨D2,D3,_,_,rfl,rfl,ai.of (s4 _ _ ao),ai.of hx3,(by simp only [List.length_cons,List.length_map,List.length_nil];rw[sizeLine_eq];omega),fun D4 hD4=>k _ D4 ?_⟩
    rw[ao]
    unfold Sound.numsOut
    simp only [List.map_cons,List.length_map]
    rfl
  ·rw[er] at ho
   obtain ⟨S,hv,b,hi,_,pl,hF⟩:=ho
   have k2: ∀(H':Hp) (p:Addr),H' p=some (.lst [.int (-2)])→Q (.ref p) H':=by
    unfold Sound.sounds at k
    rw[ei] at k
    exact k
   refine ⟨_,rfl,X.p,A.aM,X.dp,_,_,rfl,hi.hp,T.bM,T.gp,rfl,X.r,A.au,X.dr,_,_,rfl,hF,T.aN,T.qb,rfl,rfl,_,rfl,?_⟩
   rw[decide_eq_false (fun z=>hk0 (by have:=V.int.inj z;omega))]
   exact bf ⟨2,rfl,one1,fun D hD=>k2 _ D (by rw[ao])⟩
end
end Wg
namespace PySem.W.Fast
theorem tw4076427862498884214:True:=⟨⟩
theorem tw2311307821491031159:True:=⟨⟩
theorem tw9997193854349860961:True:=⟨⟩
theorem tw13825876081408628507:True:=⟨⟩
theorem tw7678653953956966398:True:=⟨⟩
theorem tw7664523615244931493:True:=⟨⟩
theorem tw203813228870253179:True:=⟨⟩
theorem tw8078625390843851168:True:=⟨⟩
theorem tw2682814217862696276:True:=⟨⟩
theorem tw4417952355093235625:True:=⟨⟩
theorem tw13686867499647798874:True:=⟨⟩
theorem tw12667977863411474726:True:=⟨⟩
theorem tw17275196287426878445:True:=⟨⟩
theorem tw4823825714867656754:True:=⟨⟩
theorem tw7140588445560091225:True:=⟨⟩
theorem tw8623387377108678793:True:=⟨⟩
theorem tw6899145193252153021:True:=⟨⟩
theorem tw2493124622674130389:True:=⟨⟩
theorem tw872766799490223013:True:=⟨⟩
theorem tw6984904777713367650:True:=⟨⟩
theorem tw11260615249133770757:True:=⟨⟩
theorem tw10864335624534338013:True:=⟨⟩
theorem tw14135211618227675154:True:=⟨⟩
theorem tw10682250536900651412:True:=⟨⟩
theorem tw7970164646740159140:True:=⟨⟩
theorem tw4353316326392930911:True:=⟨⟩
theorem tw8031944583865161142:True:=⟨⟩
theorem tw6731636890379553970:True:=⟨⟩
theorem tw17009565149990879081:True:=⟨⟩
theorem tw2484629763447660185:True:=⟨⟩
theorem tw9520196686877532514:True:=⟨⟩
theorem tw785891465548600864:True:=⟨⟩
theorem tw7968357235323081568:True:=⟨⟩
theorem tw15828152557419089739:True:=⟨⟩
theorem tw12609997480331078857:True:=⟨⟩
theorem tw7436685687406043714:True:=⟨⟩
theorem tw16930346442815640638:True:=⟨⟩
theorem tw4943579559744044256:True:=⟨⟩
theorem tw6851098729146321972:True:=⟨⟩
theorem tw7964712415351821333:True:=⟨⟩
theorem tw11351728024604690671:True:=⟨⟩
theorem tw6621825735726349101:True:=⟨⟩
theorem tw8626431227965234651:True:=⟨⟩
theorem tw14433105814941062753:True:=⟨⟩
theorem tw785026250392800933:True:=⟨⟩
theorem tw12204065303143001487:True:=⟨⟩
theorem tw2666555893828357748:True:=⟨⟩
theorem tw13909713761919764859:True:=⟨⟩
theorem tw3422895859574023258:True:=⟨⟩
theorem tw14898317325035768405:True:=⟨⟩
theorem tw11222132902334859147:True:=⟨⟩
theorem tw15235517367029950997:True:=⟨⟩
theorem tw3135358999293264771:True:=⟨⟩
theorem tw12189327005137914466:True:=⟨⟩
theorem tw15034214266585890183:True:=⟨⟩
theorem tw6469280496382350891:True:=⟨⟩
theorem tw4444460469126836611:True:=⟨⟩
theorem tw5783717597891141276:True:=⟨⟩
theorem tw17606526323906225987:True:=⟨⟩
theorem tw18427193540119491913:True:=⟨⟩
theorem tw8917962411435676337:True:=⟨⟩
theorem tw1696606535081730328:True:=⟨⟩
theorem tw7752559833670013965:True:=⟨⟩
theorem tw7396534997400977495:True:=⟨⟩
theorem tw8013869054530529950:True:=⟨⟩
theorem tw4055923228456680732:True:=⟨⟩
theorem tw7822913200951816644:True:=⟨⟩
theorem tw9487522352387491884:True:=⟨⟩
theorem tw4370573052088247530:True:=⟨⟩
theorem tw14522529985464460398:True:=⟨⟩
theorem tw17678410175450383105:True:=⟨⟩
theorem tw5712876860218987995:True:=⟨⟩
theorem tw11636715227007597380:True:=⟨⟩
theorem tw11557119752372389231:True:=⟨⟩
theorem tw2884350270239733791:True:=⟨⟩
theorem tw7609204033326677044:True:=⟨⟩
theorem tw2719333782103909990:True:=⟨⟩
theorem tw14420528442329028749:True:=⟨⟩
theorem tw3566379572583897574:True:=⟨⟩
theorem tw9421015775728613268:True:=⟨⟩
theorem tw13550810706126845958:True:=⟨⟩
theorem tw2239801365239504029:True:=⟨⟩
theorem tw10004460713247535037:True:=⟨⟩
theorem tw1703326377762506798:True:=⟨⟩
theorem tw3600862288835972471:True:=⟨⟩
theorem tw6680144953617964652:True:=⟨⟩
theorem tw8630682313104346191:True:=⟨⟩
theorem tw2978559483113857640:True:=⟨⟩
theorem tw16419032869497850353:True:=⟨⟩
theorem tw17386403566023521519:True:=⟨⟩
theorem tw7949813398759322287:True:=⟨⟩
theorem tw18386051534056458740:True:=⟨⟩
theorem tw3446146444664162130:True:=⟨⟩
theorem tw9138375967081212655:True:=⟨⟩
theorem tw3325806246664375321:True:=⟨⟩
theorem tw18238219293866031419:True:=⟨⟩
theorem tw7367005147059180159:True:=⟨⟩
theorem tw40116295044441694:True:=⟨⟩
theorem tw9039478840132626654:True:=⟨⟩
theorem tw12231637112254642177:True:=⟨⟩
theorem tw5394835585858494407:True:=⟨⟩
theorem tw16623384141446309831:True:=⟨⟩
theorem tw13858232821163023282:True:=⟨⟩
theorem tw4677453022282399491:True:=⟨⟩
theorem tw8672857584192020196:True:=⟨⟩
theorem tw6064564112805274568:True:=⟨⟩
theorem tw6288270621865110362:True:=⟨⟩
theorem tw2757920624237974509:True:=⟨⟩
theorem tw11511542897268871015:True:=⟨⟩
theorem tw17446333057510363943:True:=⟨⟩
theorem tw13918370952603095625:True:=⟨⟩
theorem tw1125928070205356456:True:=⟨⟩
theorem tw13094351514196568086:True:=⟨⟩
theorem tw4329975276648609141:True:=⟨⟩
theorem tw10377353002807147998:True:=⟨⟩
theorem tw14984403691558193259:True:=⟨⟩
theorem tw16843793869222660869:True:=⟨⟩
theorem tw16769473084122359406:True:=⟨⟩
theorem tw14973858834726749558:True:=⟨⟩
theorem tw12364221173789313844:True:=⟨⟩
theorem tw2986666890668222208:True:=⟨⟩
theorem tw12548017836429529931:True:=⟨⟩
theorem tw12711978608894675210:True:=⟨⟩
theorem tw8288363353102094435:True:=⟨⟩
theorem tw2334476225760668234:True:=⟨⟩
theorem tw11707802455404789938:True:=⟨⟩
theorem tw16829194581722623498:True:=⟨⟩
theorem tw3942921970232941065:True:=⟨⟩
theorem tw16555295558288135726:True:=⟨⟩
theorem tw7352282544153349317:True:=⟨⟩
theorem tw15886149024604667882:True:=⟨⟩
theorem tw6473263527611922920:True:=⟨⟩
theorem tw4194803949047357434:True:=⟨⟩
theorem tw18380603628208116896:True:=⟨⟩
theorem tw8551671977622752328:True:=⟨⟩
theorem tw3792158396746488713:True:=⟨⟩
theorem tw17800405606418052413:True:=⟨⟩
theorem tw1729422161064226242:True:=⟨⟩
theorem tw11797058841599299342:True:=⟨⟩
theorem tw321045512860060414:True:=⟨⟩
theorem tw8284153130269628166:True:=⟨⟩
theorem tw5769667286410269487:True:=⟨⟩
theorem tw11175762528045269118:True:=⟨⟩
theorem tw3728738950132625742:True:=⟨⟩
theorem tw6946298293924574172:True:=⟨⟩
theorem tw8822978886345948606:True:=⟨⟩
theorem tw7480586275819167221:True:=⟨⟩
theorem tw8349744723291847508:True:=⟨⟩
theorem tw8600516688142036299:True:=⟨⟩
theorem tw11382290095691899838:True:=⟨⟩
theorem tw9076106438546358975:True:=⟨⟩
theorem tw6607891276158083984:True:=⟨⟩
theorem tw16277937778073225359:True:=⟨⟩
theorem tw16321462625185785481:True:=⟨⟩
theorem tw8957725060709633354:True:=⟨⟩
theorem tw10242512960953384810:True:=⟨⟩
theorem tw5449399607267102567:True:=⟨⟩
theorem tw4940545719853736461:True:=⟨⟩
theorem tw16983431528290649443:True:=⟨⟩
theorem tw1680749227331183285:True:=⟨⟩
theorem tw10801518911036799162:True:=⟨⟩
theorem tw13786998901494526750:True:=⟨⟩
theorem tw14764806079819411422:True:=⟨⟩
theorem tw14356469241310100442:True:=⟨⟩
theorem tw15928081259301441954:True:=⟨⟩
theorem tw10928432342805088368:True:=⟨⟩
theorem tw16686066314163413891:True:=⟨⟩
theorem tw10592059680144442052:True:=⟨⟩
theorem tw6850495216329052590:True:=⟨⟩
theorem tw6891346025363053992:True:=⟨⟩
theorem tw13436843425987927387:True:=⟨⟩
theorem tw10117737934710845048:True:=⟨⟩
theorem tw12139466722936819357:True:=⟨⟩
theorem tw2535754125161995095:True:=⟨⟩
theorem tw13210513003158846544:True:=⟨⟩
theorem tw10795529305459951723:True:=⟨⟩
theorem tw109876253700921794:True:=⟨⟩
theorem tw15956197620569901888:True:=⟨⟩
theorem tw6310898879365873114:True:=⟨⟩
theorem tw2912688430573497194:True:=⟨⟩
theorem tw2502158462347865328:True:=⟨⟩
theorem tw10752623698886308639:True:=⟨⟩
theorem tw6655127097798780591:True:=⟨⟩
theorem tw7301323406028815723:True:=⟨⟩
theorem tw18075319424769628484:True:=⟨⟩
theorem tw5863642692545991005:True:=⟨⟩
theorem tw15575335261360772152:True:=⟨⟩
theorem tw12258862824089887953:True:=⟨⟩
theorem tw8263029814678756463:True:=⟨⟩
theorem tw16965863088852525820:True:=⟨⟩
theorem tw469609484680374184:True:=⟨⟩
theorem tw4460841606290340587:True:=⟨⟩
theorem tw13832100978695269987:True:=⟨⟩
theorem tw4608754730403236889:True:=⟨⟩
theorem tw2299722422320194112:True:=⟨⟩
theorem tw14033102164558632020:True:=⟨⟩
theorem tw1615783800842181536:True:=⟨⟩
theorem tw7347614023497961075:True:=⟨⟩
theorem tw14839056561708994543:True:=⟨⟩
theorem tw17456177051288319602:True:=⟨⟩
theorem tw15125864994550588274:True:=⟨⟩
theorem tw14616440127645680337:True:=⟨⟩
theorem tw4038441398598740942:True:=⟨⟩
theorem tw5067221473329467177:True:=⟨⟩
theorem tw7101039319398927743:True:=⟨⟩
theorem tw5323822654837024381:True:=⟨⟩
theorem tw6632146182037000322:True:=⟨⟩
theorem tw16116908869932798597:True:=⟨⟩
theorem tw5061367570114053994:True:=⟨⟩
theorem tw10640806445288035251:True:=⟨⟩
theorem tw1507501584470425367:True:=⟨⟩
theorem tw156434081166016661:True:=⟨⟩
theorem tw7715632109009550787:True:=⟨⟩
theorem tw6537560411558086972:True:=⟨⟩
theorem tw6016996070618356921:True:=⟨⟩
theorem tw4531940461568622336:True:=⟨⟩
theorem tw9837228024698966623:True:=⟨⟩
theorem tw9160378729899281674:True:=⟨⟩
theorem tw12102575907616393722:True:=⟨⟩
theorem tw9728309746963050160:True:=⟨⟩
theorem tw8046922337283407514:True:=⟨⟩
theorem tw6130443051857226127:True:=⟨⟩
theorem tw18294355807745099618:True:=⟨⟩
theorem tw2105107160151817764:True:=⟨⟩
theorem tw427405886867946070:True:=⟨⟩
theorem tw10807301980861520500:True:=⟨⟩
theorem tw7102847168374610325:True:=⟨⟩
theorem tw5568789211028386025:True:=⟨⟩
theorem tw15296247702786707533:True:=⟨⟩
theorem tw5855928359566303718:True:=⟨⟩
theorem tw5621562291997163591:True:=⟨⟩
theorem tw12682306585911425962:True:=⟨⟩
theorem tw3586657076393905279:True:=⟨⟩
theorem tw7659652218148674513:True:=⟨⟩
theorem tw15073249689329225690:True:=⟨⟩
theorem tw17382078168983815791:True:=⟨⟩
theorem tw16078955067995975970:True:=⟨⟩
theorem tw12982305475743272699:True:=⟨⟩
theorem tw4443232773379594586:True:=⟨⟩
theorem tw9767615510045178627:True:=⟨⟩
theorem tw7092379711875601545:True:=⟨⟩
theorem tw12257665676525788972:True:=⟨⟩
theorem tw4473713760216745840:True:=⟨⟩
theorem tw17210869496929730831:True:=⟨⟩
theorem tw4853944165631807028:True:=⟨⟩
theorem tw3265436410649171908:True:=⟨⟩
theorem tw2659241109280845818:True:=⟨⟩
theorem tw13157274110929676455:True:=⟨⟩
theorem tw11529979118263176052:True:=⟨⟩
theorem tw18225334155093196221:True:=⟨⟩
theorem tw11767174676604642743:True:=⟨⟩
theorem tw18262360262737497895:True:=⟨⟩
theorem tw6989049714806626910:True:=⟨⟩
theorem tw216602024181114746:True:=⟨⟩
theorem tw7097081221275788915:True:=⟨⟩
theorem tw17139674293510413448:True:=⟨⟩
theorem tw18139658664125544398:True:=⟨⟩
theorem tw17882207555819060170:True:=⟨⟩
theorem tw8362635224523678358:True:=⟨⟩
theorem tw663936613687037934:True:=⟨⟩
theorem tw16911851089287999417:True:=⟨⟩
theorem tw13845599616095692487:True:=⟨⟩
theorem tw2240754026276605121:True:=⟨⟩
theorem tw3433191455285420176:True:=⟨⟩
theorem tw3086825001124759613:True:=⟨⟩
theorem tw10546725848522015502:True:=⟨⟩
theorem tw18197322454264350177:True:=⟨⟩
theorem tw2955007516542679407:True:=⟨⟩
theorem tw8981000585188937476:True:=⟨⟩
theorem tw9813871207181722503:True:=⟨⟩
theorem tw4119584536486732342:True:=⟨⟩
theorem tw1716912341524666696:True:=⟨⟩
theorem tw515933432023781706:True:=⟨⟩
theorem tw9631509520343294776:True:=⟨⟩
theorem tw6349167536196250121:True:=⟨⟩
theorem tw17815541500620563081:True:=⟨⟩
theorem tw9791166474607518372:True:=⟨⟩
theorem tw2827620429178984647:True:=⟨⟩
theorem tw13443578507762721230:True:=⟨⟩
theorem tw16471721275723909885:True:=⟨⟩
theorem tw5648860516611209233:True:=⟨⟩
theorem tw16320974681058991196:True:=⟨⟩
theorem tw3753116853574148083:True:=⟨⟩
theorem tw10026263633603804245:True:=⟨⟩
theorem tw8825728549940099721:True:=⟨⟩
theorem tw5616234969489250068:True:=⟨⟩
theorem tw874447125919359940:True:=⟨⟩
theorem tw13290275952245375992:True:=⟨⟩
theorem tw5259709075660340862:True:=⟨⟩
theorem tw9195838645121203425:True:=⟨⟩
theorem tw10832920107699293571:True:=⟨⟩
theorem tw6089631369363843096:True:=⟨⟩
theorem tw3862422436918416980:True:=⟨⟩
theorem tw8252665346292427628:True:=⟨⟩
theorem tw14759064775350961573:True:=⟨⟩
theorem tw9743680979687877773:True:=⟨⟩
theorem tw16136387382892006153:True:=⟨⟩
theorem tw18230872259881335213:True:=⟨⟩
theorem tw3944464467726550849:True:=⟨⟩
theorem tw17322872940082186049:True:=⟨⟩
theorem tw10198560768650481411:True:=⟨⟩
theorem tw12672383203024006326:True:=⟨⟩
theorem tw16243829582747925787:True:=⟨⟩
theorem tw572580152011080876:True:=⟨⟩
theorem tw6267324513625836408:True:=⟨⟩
theorem tw11727262744506610927:True:=⟨⟩
theorem tw15612764631732953002:True:=⟨⟩
theorem tw14822227617681553201:True:=⟨⟩
theorem tw5660501968225446726:True:=⟨⟩
theorem tw121655441843889769:True:=⟨⟩
theorem tw7768809641991772958:True:=⟨⟩
theorem tw3508390436374876743:True:=⟨⟩
theorem tw8962104329708341229:True:=⟨⟩
theorem tw11087351465146888739:True:=⟨⟩
theorem tw12983441239200771643:True:=⟨⟩
theorem tw11380224395633969096:True:=⟨⟩
theorem tw13574947969877631527:True:=⟨⟩
theorem tw15211958692381877047:True:=⟨⟩
theorem tw10999798141460551403:True:=⟨⟩
theorem tw13591276963604735769:True:=⟨⟩
theorem tw14656252160037974710:True:=⟨⟩
theorem tw17511940955589463019:True:=⟨⟩
theorem tw8601770551862158087:True:=⟨⟩
theorem tw5537132087564368539:True:=⟨⟩
theorem tw11994804060949686557:True:=⟨⟩
theorem tw10540761708153757409:True:=⟨⟩
theorem tw8141258121245237162:True:=⟨⟩
theorem tw8661247435544387902:True:=⟨⟩
theorem tw2579992005898248148:True:=⟨⟩
theorem tw16859996525590977396:True:=⟨⟩
theorem tw5016571271087045809:True:=⟨⟩
theorem tw9225417623499982162:True:=⟨⟩
theorem tw5271519471787122939:True:=⟨⟩
theorem tw8371444639752862409:True:=⟨⟩
theorem tw16043671235251293696:True:=⟨⟩
theorem tw10230206415134168122:True:=⟨⟩
theorem tw2669056215470784971:True:=⟨⟩
theorem tw8186508301345759805:True:=⟨⟩
theorem tw10469999084796582516:True:=⟨⟩
theorem tw15298533809404261609:True:=⟨⟩
theorem tw879525077217737322:True:=⟨⟩
theorem tw5545477333341338589:True:=⟨⟩
theorem tw8603570146518834716:True:=⟨⟩
theorem tw2316297938307585523:True:=⟨⟩
theorem tw14302907826751883026:True:=⟨⟩
theorem tw5183094540414687513:True:=⟨⟩
theorem tw15744813692989531992:True:=⟨⟩
theorem tw6872290895818368249:True:=⟨⟩
theorem tw17763222245025999745:True:=⟨⟩
theorem tw16433798085598752476:True:=⟨⟩
theorem tw15072467642899614084:True:=⟨⟩
theorem tw123472458126145587:True:=⟨⟩
theorem tw3475888753346870631:True:=⟨⟩
theorem tw18263427174441562140:True:=⟨⟩
theorem tw13660201666336496113:True:=⟨⟩
theorem tw2389463463551800363:True:=⟨⟩
theorem tw7794344926374217076:True:=⟨⟩
theorem tw17700030394133277560:True:=⟨⟩
theorem tw672352344662582166:True:=⟨⟩
theorem tw3409017965209379065:True:=⟨⟩
theorem tw8572510940857405791:True:=⟨⟩
theorem tw8110232506664407351:True:=⟨⟩
theorem tw14511509599119713431:True:=⟨⟩
theorem tw9238304627756377430:True:=⟨⟩
theorem tw6707636684849308712:True:=⟨⟩
theorem tw6240653324281373356:True:=⟨⟩
theorem tw11184684723288062584:True:=⟨⟩
theorem tw13988806789848964526:True:=⟨⟩
theorem tw13140640052223169609:True:=⟨⟩
theorem tw9497475391230930776:True:=⟨⟩
theorem tw7192270751104414836:True:=⟨⟩
theorem tw17138226049935007602:True:=⟨⟩
theorem tw717558388697933837:True:=⟨⟩
theorem tw14132044274909343308:True:=⟨⟩
theorem tw17555540684581045157:True:=⟨⟩
theorem tw9520006494791815254:True:=⟨⟩
theorem tw7450147470983241087:True:=⟨⟩
theorem tw6992443124708357943:True:=⟨⟩
theorem tw17448865190081928981:True:=⟨⟩
theorem tw13041395888759898461:True:=⟨⟩
theorem tw3175103021500584180:True:=⟨⟩
theorem tw10632983082918571408:True:=⟨⟩
theorem tw15071073092144416248:True:=⟨⟩
theorem tw16322472810988216497:True:=⟨⟩
theorem tw10737893404833953165:True:=⟨⟩
theorem tw676366537191088730:True:=⟨⟩
theorem tw17877037003322869024:True:=⟨⟩
theorem tw16734169303036478812:True:=⟨⟩
theorem tw1000467991945479761:True:=⟨⟩
theorem tw436111060613064917:True:=⟨⟩
theorem tw3047112682375611575:True:=⟨⟩
theorem tw13206281712760108353:True:=⟨⟩
theorem tw8994650359994405531:True:=⟨⟩
theorem tw9891821889514600429:True:=⟨⟩
theorem tw8640460675791707271:True:=⟨⟩
theorem tw7980479319781891046:True:=⟨⟩
theorem tw12415600451058165207:True:=⟨⟩
theorem tw12647057968081985525:True:=⟨⟩
theorem tw2990261580750660540:True:=⟨⟩
theorem tw2356569688964133739:True:=⟨⟩
theorem tw14643504125811731545:True:=⟨⟩
theorem tw13604596494095894183:True:=⟨⟩
theorem tw4513668968028604736:True:=⟨⟩
theorem tw14821022653165229458:True:=⟨⟩
theorem tw8472544076845500080:True:=⟨⟩
theorem tw12365281976323137998:True:=⟨⟩
theorem tw8172911083875006171:True:=⟨⟩
theorem tw6363249361841208643:True:=⟨⟩
theorem tw17227030141566221483:True:=⟨⟩
theorem tw16351905721538646314:True:=⟨⟩
theorem tw871427334575470099:True:=⟨⟩
theorem tw11109863912679515111:True:=⟨⟩
theorem tw8752494895205130006:True:=⟨⟩
theorem tw329603975637830862:True:=⟨⟩
theorem tw921645783198502079:True:=⟨⟩
theorem tw11879977172339350341:True:=⟨⟩
theorem tw9919749853452066074:True:=⟨⟩
theorem tw6994773646661901933:True:=⟨⟩
theorem tw6342987131426207317:True:=⟨⟩
theorem tw709574644103025942:True:=⟨⟩
theorem tw13605063747426662492:True:=⟨⟩
theorem tw1844666629104937440:True:=⟨⟩
theorem tw16948724239234843350:True:=⟨⟩
theorem tw15452831329288737354:True:=⟨⟩
theorem tw8559811430672438618:True:=⟨⟩
theorem tw4321734138061875855:True:=⟨⟩
theorem tw2908392547569135020:True:=⟨⟩
theorem tw8118120611133472957:True:=⟨⟩
theorem tw2232870482483774005:True:=⟨⟩
theorem tw7677583842431886723:True:=⟨⟩
theorem tw1158264918819026836:True:=⟨⟩
theorem tw1685218037673265254:True:=⟨⟩
theorem tw16824187405620145542:True:=⟨⟩
theorem tw11723742676423075278:True:=⟨⟩
theorem tw3776728945296157071:True:=⟨⟩
theorem tw14082153985060551571:True:=⟨⟩
theorem tw10051494425569702153:True:=⟨⟩
theorem tw13744076277317863086:True:=⟨⟩
theorem tw1353302121515231066:True:=⟨⟩
theorem tw10358102287876270266:True:=⟨⟩
theorem tw15812942530635388344:True:=⟨⟩
theorem tw12530817701636646904:True:=⟨⟩
theorem tw2643451581020913793:True:=⟨⟩
theorem tw6896841704601266943:True:=⟨⟩
theorem tw11830341888547674540:True:=⟨⟩
theorem tw15413265005988169761:True:=⟨⟩
theorem tw5074410074251848773:True:=⟨⟩
theorem tw3639272290417234419:True:=⟨⟩
theorem tw11805736540733146471:True:=⟨⟩
theorem tw3663224765820565344:True:=⟨⟩
theorem tw8444201089545233126:True:=⟨⟩
theorem tw2645266936990367823:True:=⟨⟩
theorem tw6314177256700055875:True:=⟨⟩
theorem tw18315021957789395808:True:=⟨⟩
theorem tw675704411101334519:True:=⟨⟩
theorem tw7117483913095649020:True:=⟨⟩
theorem tw13025047009400989543:True:=⟨⟩
theorem tw2647155824177798284:True:=⟨⟩
theorem tw6657130519821296409:True:=⟨⟩
theorem tw6925224817901716415:True:=⟨⟩
theorem tw5833745962989431374:True:=⟨⟩
theorem tw5771125539530040816:True:=⟨⟩
theorem tw14427565805248291766:True:=⟨⟩
theorem tw15697981257681691530:True:=⟨⟩
theorem tw2124374210854280601:True:=⟨⟩
theorem tw4748607539191319731:True:=⟨⟩
theorem tw2474605042995547998:True:=⟨⟩
theorem tw132359081539123247:True:=⟨⟩
theorem tw18193920223379379155:True:=⟨⟩
theorem tw7729019300480770332:True:=⟨⟩
theorem tw5524281440656302521:True:=⟨⟩
theorem tw5686916575125043212:True:=⟨⟩
theorem tw12253372836453401350:True:=⟨⟩
theorem tw8005421642206188470:True:=⟨⟩
theorem tw12974554711735654666:True:=⟨⟩
theorem tw15504083610098963441:True:=⟨⟩
theorem tw12962201453839442024:True:=⟨⟩
theorem tw270305695186117577:True:=⟨⟩
theorem tw9892002763424333926:True:=⟨⟩
theorem tw392659232150307528:True:=⟨⟩
theorem tw1689368576291317891:True:=⟨⟩
theorem tw7897656540182545903:True:=⟨⟩
theorem tw11623616731306585951:True:=⟨⟩
theorem tw1842632583603749498:True:=⟨⟩
theorem tw15378086519808884928:True:=⟨⟩
theorem tw2184781104853611191:True:=⟨⟩
theorem tw13143011314777656131:True:=⟨⟩
theorem tw15930762608782193915:True:=⟨⟩
theorem tw6868687235075545890:True:=⟨⟩
theorem tw1013932411598243846:True:=⟨⟩
theorem tw1371697852366450596:True:=⟨⟩
theorem tw9144076953128525896:True:=⟨⟩
theorem tw15601688762285203985:True:=⟨⟩
theorem tw18166279654252795242:True:=⟨⟩
theorem tw7021856871571094305:True:=⟨⟩
theorem tw1424099334647903000:True:=⟨⟩
theorem tw17342834071376029469:True:=⟨⟩
theorem tw10495384804598939410:True:=⟨⟩
theorem tw13252696812097451734:True:=⟨⟩
theorem tw16895397086692768647:True:=⟨⟩
theorem tw4848488895114615638:True:=⟨⟩
theorem tw10661488378009472217:True:=⟨⟩
theorem tw15689963775891487118:True:=⟨⟩
theorem tw3006632786616656282:True:=⟨⟩
theorem tw10204638774197590555:True:=⟨⟩
theorem tw6453439331884100093:True:=⟨⟩
theorem tw6998781352032650143:True:=⟨⟩
theorem tw7282908960533498714:True:=⟨⟩
theorem tw1385202975832824294:True:=⟨⟩
theorem tw17860655435361939134:True:=⟨⟩
theorem tw11691794852356737351:True:=⟨⟩
theorem tw11721165924649338859:True:=⟨⟩
theorem tw13131865976217189390:True:=⟨⟩
theorem tw7843694078168371765:True:=⟨⟩
theorem tw8601272147780287458:True:=⟨⟩
theorem tw3741134325482749264:True:=⟨⟩
theorem tw10395972241010619560:True:=⟨⟩
theorem tw7894951957278406204:True:=⟨⟩
theorem tw3278473490120646112:True:=⟨⟩
theorem tw17764466391865992245:True:=⟨⟩
theorem tw7494985581097616595:True:=⟨⟩
theorem tw6656870838739504668:True:=⟨⟩
theorem tw6134615021226862551:True:=⟨⟩
theorem tw2591942119229496601:True:=⟨⟩
theorem tw5254046118905874801:True:=⟨⟩
theorem tw15213437977628107859:True:=⟨⟩
theorem tw3483289354271754426:True:=⟨⟩
theorem tw12357037667852340444:True:=⟨⟩
theorem tw12281198901709824194:True:=⟨⟩
theorem tw9367895079800514154:True:=⟨⟩
theorem tw17529645392849165164:True:=⟨⟩
theorem tw6822451901055123452:True:=⟨⟩
theorem tw6179227536135319774:True:=⟨⟩
theorem tw13096144800764131394:True:=⟨⟩
theorem tw9428035204594566935:True:=⟨⟩
theorem tw14947463584002284236:True:=⟨⟩
theorem tw3389037261407258238:True:=⟨⟩
theorem tw11648581473777191111:True:=⟨⟩
theorem tw18425251672802119272:True:=⟨⟩
theorem tw12216437488636821502:True:=⟨⟩
theorem tw69160463020985471:True:=⟨⟩
theorem tw13922904700647907:True:=⟨⟩
theorem tw16539870302039605996:True:=⟨⟩
theorem tw3120221399569780072:True:=⟨⟩
theorem tw3547782383739220632:True:=⟨⟩
theorem tw10346918173626012642:True:=⟨⟩
theorem tw11527907155252245507:True:=⟨⟩
theorem tw11244230944190965006:True:=⟨⟩
theorem tw10570580500701671506:True:=⟨⟩
theorem tw3829855386856935414:True:=⟨⟩
theorem tw18361733815497427298:True:=⟨⟩
theorem tw289634061175386752:True:=⟨⟩
theorem tw18034655850514795555:True:=⟨⟩
theorem tw797561400235646495:True:=⟨⟩
theorem tw337034864249556202:True:=⟨⟩
theorem tw4629483310026153118:True:=⟨⟩
theorem tw12798043085878850203:True:=⟨⟩
theorem tw10578361432930647928:True:=⟨⟩
theorem tw13305277616277340413:True:=⟨⟩
theorem tw1291043983204572792:True:=⟨⟩
theorem tw12733678746758936168:True:=⟨⟩
theorem tw7300520521264231794:True:=⟨⟩
theorem tw16166448488233810291:True:=⟨⟩
theorem tw15484337455939759492:True:=⟨⟩
theorem tw6328457028868618595:True:=⟨⟩
theorem tw3549153445550174766:True:=⟨⟩
theorem tw17641887764550944491:True:=⟨⟩
theorem tw12911441084713988692:True:=⟨⟩
theorem tw732623492138823345:True:=⟨⟩
theorem tw4031285405570053032:True:=⟨⟩
theorem tw9418212937828090692:True:=⟨⟩
theorem tw2220927138004451727:True:=⟨⟩
theorem tw4494735972675024315:True:=⟨⟩
theorem tw1713768306978799848:True:=⟨⟩
theorem tw11893795268391779126:True:=⟨⟩
theorem tw9188917300527687252:True:=⟨⟩
theorem tw3185396409790042062:True:=⟨⟩
theorem tw14524820378212596557:True:=⟨⟩
theorem tw2252182978969553210:True:=⟨⟩
theorem tw4527047296416379291:True:=⟨⟩
theorem tw9032996720869817458:True:=⟨⟩
theorem tw16690473439805824804:True:=⟨⟩
theorem tw18234394621156086351:True:=⟨⟩
theorem tw2832883313628534304:True:=⟨⟩
theorem tw3256972108590534262:True:=⟨⟩
theorem tw16370500344570340632:True:=⟨⟩
theorem tw7393668522175900025:True:=⟨⟩
theorem tw98254636051214155:True:=⟨⟩
theorem tw9804198251706982934:True:=⟨⟩
theorem tw6436876406317332174:True:=⟨⟩
theorem tw2468029781082678552:True:=⟨⟩
theorem tw4735079297265313083:True:=⟨⟩
theorem tw11058115918361262654:True:=⟨⟩
theorem tw846197364859601380:True:=⟨⟩
theorem tw5000329194849829229:True:=⟨⟩
theorem tw9419656639856546009:True:=⟨⟩
theorem tw16853506216509172610:True:=⟨⟩
theorem tw571307078082461135:True:=⟨⟩
theorem tw12336606555507201290:True:=⟨⟩
theorem tw9996537443779865190:True:=⟨⟩
theorem tw1089526876645896386:True:=⟨⟩
theorem tw1120102993894578810:True:=⟨⟩
theorem tw1562330980696115116:True:=⟨⟩
theorem tw16109233771391581504:True:=⟨⟩
theorem tw5601140887800328080:True:=⟨⟩
theorem tw13565570459887845838:True:=⟨⟩
theorem tw10046764746475322237:True:=⟨⟩
theorem tw14163164499423678503:True:=⟨⟩
theorem tw4985897873279134415:True:=⟨⟩
theorem tw8543550644836530699:True:=⟨⟩
theorem tw14070307469810551289:True:=⟨⟩
theorem tw14253494382908780058:True:=⟨⟩
theorem tw10636693223897079077:True:=⟨⟩
theorem tw6386697147307997940:True:=⟨⟩
theorem tw13132828772140950817:True:=⟨⟩
theorem tw13132070574041556156:True:=⟨⟩
theorem tw13005504933889813024:True:=⟨⟩
theorem tw3418230703985891648:True:=⟨⟩
theorem tw12932715840889335714:True:=⟨⟩
theorem tw10056255810834526678:True:=⟨⟩
theorem tw15888317574824707434:True:=⟨⟩
theorem tw7914581220619226307:True:=⟨⟩
theorem tw1352217335623797617:True:=⟨⟩
theorem tw3350424920303314463:True:=⟨⟩
theorem tw4320533678878084646:True:=⟨⟩
theorem tw8155826193415609696:True:=⟨⟩
theorem tw9613792905010852294:True:=⟨⟩
theorem tw12502770527815151767:True:=⟨⟩
theorem tw6171738360411421352:True:=⟨⟩
theorem tw12137500316558480962:True:=⟨⟩
theorem tw17148600966134444399:True:=⟨⟩
theorem tw5160516501688631160:True:=⟨⟩
theorem tw9594594708562075018:True:=⟨⟩
theorem tw7415023788116277624:True:=⟨⟩
theorem tw8256382925396820066:True:=⟨⟩
theorem tw10050036947301912055:True:=⟨⟩
theorem tw14772617493569850937:True:=⟨⟩
theorem tw13195853514765140388:True:=⟨⟩
theorem tw7016702588593008127:True:=⟨⟩
theorem tw11043601163573769061:True:=⟨⟩
theorem tw721387336140642359:True:=⟨⟩
theorem tw18248086252011602263:True:=⟨⟩
theorem tw15430079210629402967:True:=⟨⟩
theorem tw17399905621439617399:True:=⟨⟩
theorem tw15970467744013540834:True:=⟨⟩
theorem tw15159018878203439921:True:=⟨⟩
theorem tw14671533585175979044:True:=⟨⟩
theorem tw731960881892307084:True:=⟨⟩
theorem tw8535785382547169373:True:=⟨⟩
theorem tw13009131972252425896:True:=⟨⟩
theorem tw15045999545134325050:True:=⟨⟩
theorem tw9109982727594866011:True:=⟨⟩
end PySem.W.Fast
open PySem PySem.W PyProof.Rows
set_option maxRecDepth 100000 in
set_option maxHeartbeats 0 in
theorem PySem.Challenge.cw_soundkeeping_s10_read_holds : PySem.Challenge.rw_soundkeeping_s10_read.Holds := by
 w_on;k_headS;(case hw=>exact ⟨[.int 0, .int 0, .list []],by decide+kernel,by decide+kernel⟩)
 k_fillS
 refine L2.CI (r:=PySem.Challenge.rw_soundkeeping_s10_read) (k:=17) (CX:=L2.bx) (ps:= ["begin", "n", "file"]) (sp:=Wg.uY) (by decide+kernel) rfl rfl ⟨rfl,by decide,by decide⟩ (fun w h Y=>PySem.W.kIn_of Y) ?F ?S (fun _ _ _ _ z=>z)
 case F=>
  intro w mg fa h Y KX G hmg
  have T: ∃A,Wg.Txt (L2.vk KX) mg A:=by
   dsimp only [L2.vk]
   apply Wg.DN
   apply Wg.Txt.mk
   all_goals try dsimp only
   all_goals first
   |(refine PySem.W.mg_of KX G ?_;k_is;done)
   |(refine PySem.W.mg_none_of KX G ?_;k_is;done)
   |(apply L2.CG;all_goals try k_is)
   |exact L2.Binds.all fun us hl=>match us,hl with| [_],_=>rfl
   |exact L2.Binds.all fun us hl=>match us,hl with| [_,_],_=>rfl
   |exact L2.Binds.all fun us hl=>match us,hl with| [_,_,_],_=>rfl
   |exact L2.Binds.all fun us hl=>match us,hl with| [_,_,_,_],_=>rfl
   |exact L2.Binds.all fun us hl=>match us,hl with| [_,_,_,_,_],_=>rfl
   |exact L2.Binds.all fun us hl=>match us,hl with| [_,_,_,_,_,_],_=>rfl
   |(apply L2.Meth.mk<;>k_is)
   |(apply L2.cf.mk<;>k_is)
   |(apply L2.Mk.mk<;>k_is)
   |(apply L2.Own.mk<;>(try unfold L2.gq)<;>first|k_is|k_exc|rfl)
   |exact beq_eq_false_iff_ne.mp rfl
   |(refine (?_:PySem.W.findIn _ _ _=some none);k_is;done)
   |(apply Wg.Fz;k_is;decide;repeat first|exact .nil|refine .cons rfl ?_|refine .cons ⟨_,rfl⟩ ?_)
   |exact fun s us hu=>match us,hu with| [_,_,_],_=> .of_eq rfl
   |skip
  obtain ⟨A,T⟩:=T
  have e0:=hmg.symm.trans T.EB
  cases e0
  exact ⟨A.iq,T.entry,fun base _ _=>Wg.FW T⟩
 case S=>
  intro K H xs a hO hwi hask hx
  obtain ⟨x0,x1,x2,u⟩:=a
  cases hx with
  |cons h0 r0=>
   cases r0 with
   |cons h1 r1=>
    cases r1 with
    |cons h2 r2=>
     cases r2
     cases h0
     cases h1
     cases h2 with
     |lst s2 d2=>
      have e2:=L2.wt x2 _ d2
      subst e2
      have q:(Codec.inInt 0 4294967295 x0&&(Codec.inInt 0 4294967295 x1&&((Codec.inLen 0 16384 x2&&x2.all (Codec.inInt 0 255))&&true)))=true:=hwi
      simp only [Bool.and_eq_true] at q
      obtain ⟨q0,q1,⟨l2,b2⟩,_⟩:=q
      have q0:=Codec.inInt_iff.mp q0
      have q1:=Codec.inInt_iff.mp q1
      have l2:=(Codec.inNat_iff.mp l2).2
      have b2:=fun z hz=>Codec.inInt_iff.mp (List.all_eq_true.mp b2 z hz)
      exact ⟨x0,x1,_,x2,rfl,s2,⟨q0.1,q1.1⟩,⟨l2,b2⟩,fun H' p hp=> .lst (L2.ai.of hp) (L2.Ay _)⟩
#print axioms PySem.Challenge.cw_soundkeeping_s10_read_holds
