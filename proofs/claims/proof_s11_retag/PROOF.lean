import PyProof.Rows.All
import Wide.All
import OpenK.AllK
import Wide.FinOn
import PyProof.EqAt
import PyProof.EqKinds
import PyProof.TupleCall
import KE.BitLaws
import Open.SpecLaws
import KE.OsHead
import KE.OsGo
import PySem.Challenge.RW_soundkeeping_s11_retag
set_option Elab.async false
set_option linter.all false
set_option maxRecDepth 100000
namespace L2
open PySem PySem.Spec PyProof.Rows
abbrev Key:=Sum Int Str
def y9:Key→Value→Bool
 | .inl k,v=>Value.isInt k v
 | .inr x,v=>Value.isStrOf x v
def N8 (w:World):Key→Int
 | .inl k=>hashInt k
 | .inr x=>hashStr w x
theorem ij: ∀{k:Key} {v:Value},y9 k v=true→(∃i t,k=Sum.inl i∧v=Value.int i t)∨(∃x t,k=Sum.inr x∧v=Value.str x t)
 | .inl i,v,h=>by
  obtain ⟨t,e⟩:=Value.isInt_shape (k:=i) (v:=v) h
  exact .inl ⟨i,t,rfl,e⟩
 | .inr x,v,h=>by
  obtain ⟨t,e⟩:=Value.isStrOf_shape (x:=x) (v:=v) h
  exact .inr ⟨x,t,rfl,e⟩
theorem NX (a b:Int):decide ((Sum.inl a:Key)=Sum.inl b)=(a==b):=by
 by_cases e:a=b
 ·subst e;simp
 ·have h: ¬(Sum.inl a:Key)=Sum.inl b:=fun q=>e (Sum.inl.inj q)
  rw[decide_eq_false h]
  exact (beq_eq_false_iff_ne.mpr e).symm
theorem Le (a b:Str):decide ((Sum.inr a:Key)=Sum.inr b)=decide (a=b):=by
 by_cases e:a=b
 ·subst e;simp
 ·have h: ¬(Sum.inr a:Key)=Sum.inr b:=fun q=>e (Sum.inr.inj q)
  rw[decide_eq_false h,decide_eq_false e]
theorem O5 (a:Int) (b:Str):decide ((Sum.inl a:Key)=Sum.inr b)=false:=decide_eq_false (fun q=>nomatch q)
theorem Q8 (a:Str) (b:Int):decide ((Sum.inr a:Key)=Sum.inl b)=false:=decide_eq_false (fun q=>nomatch q)
def zQ (prog:Program) (w:World):PySem.KeyKind prog w Key where
 is:=y9
 hash:=N8 w
 inj:=fun v a b ha hb=>by
  rcases ij ha with ⟨i,t,rfl,rfl⟩|⟨x,t,rfl,rfl⟩
  ·rcases ij hb with ⟨j,u,rfl,e⟩|⟨y,u,rfl,e⟩
   ·injection e with e1 _;rw[e1]
   ·exact nomatch e
  ·rcases ij hb with ⟨j,u,rfl,e⟩|⟨y,u,rfl,e⟩
   ·exact nomatch e
   ·injection e with e1 _;rw[e1]
 byValue:=fun k v h=>by
  rcases ij h with ⟨i,t,rfl,rfl⟩|⟨x,t,rfl,rfl⟩<;>rfl
 pyHash:=fun hv h=>by
  rcases ij hv with ⟨i,t,rfl,rfl⟩|⟨x,t,rfl,rfl⟩
  ·exact wpAny_pyHash_int h
  ·exact wpAny_pyHash_str h
 eqBool:=fun hu hv h=>by
  rcases ij hu with ⟨i,t,rfl,rfl⟩|⟨x,t,rfl,rfl⟩
  ·rcases ij hv with ⟨j,u,rfl,rfl⟩|⟨y,u,rfl,rfl⟩
   ·rw[NX] at h;exact wpAny_eqBool_int h
   ·rw[O5] at h;exact SeqAt.EqAt.int_str i t y u _ _ _ _ h
  ·rcases ij hv with ⟨j,u,rfl,rfl⟩|⟨y,u,rfl,rfl⟩
   ·rw[Q8] at h;exact SeqAt.EqAt.str_int x t j u _ _ _ _ h
   ·rw[Le] at h;exact wpAny_eqBool_str h
 «strs»:=fun k x t v h=>by
  rcases ij h with ⟨i,u,rfl,e⟩|⟨y,u,rfl,e⟩
  ·exact nomatch e
  ·injection e with e1 _
   subst e1
   cases v<;>rfl
end L2
namespace L2
open PySem PySem.Spec PyProof.Rows
inductive V where
 |aw|bl (b:Bool)|int (i:Int)|str (x:Str)|dP (b:Array UInt8)|nB (b:UInt64)|ref (a:Addr)|ty (n:String)
 deriving DecidableEq
def RelV:V→Value→Prop
 | .aw,u=>u=Value.none
 | .bl b,u=>u=Value.bool b
 | .int i,u=> ∃t,u=Value.int i t
 | .str x,u=> ∃t,u=Value.str x t
 | .dP b,u=> ∃t,u=Value.bytes b t
 | .nB b,u=> ∃t,u=Value.float b t
 | .ref a,u=>u=Value.ref a
 | .ty n,u=>u=Value.type n
abbrev Vals:List V→List Value→Prop:=Paired RelV
theorem Vals.length {xs:List V} {us:List Value} (r:Vals xs us):xs.length=us.length:=Paired.length r
theorem Vals.get: ∀{xs:List V} {us:List Value} {i:Nat} {x:V},Vals xs us→xs[i]?=some x→ ∃u,us[i]?=some u∧RelV x u
 |_,_,_,_, .nil,e=>by simp at e
 |_,_,0,_, .cons r _,e=>by simp at e;subst e;exact ⟨_,rfl,r⟩
 |_,_,i+1,x, .cons _ t,e=>by
  obtain ⟨u,h1,h2⟩:=Vals.get (i:=i) (x:=x) t (by simpa using e)
  exact ⟨u,by simpa using h1,h2⟩
theorem Vals.append: ∀{xs ys:List V} {us ws:List Value},Vals xs us→Vals ys ws→Vals (xs++ys) (us++ws)
 |_,_,_,_, .nil,s=>s
 |_,_,_,_, .cons r t,s=> .cons r (Vals.append t s)
theorem Vals.take: ∀{xs:List V} {us:List Value} (n:Nat),Vals xs us→Vals (xs.take n) (us.take n)
 |_,_,0,_=> .nil
 |_,_,_+1, .nil=> .nil
 |_,_,n+1, .cons r t=> .cons r (Vals.take n t)
theorem Vals.drop: ∀{xs:List V} {us:List Value} (n:Nat),Vals xs us→Vals (xs.drop n) (us.drop n)
 |_,_,0,r=>r
 |_,_,_+1, .nil=> .nil
 |_,_,n+1, .cons _ t=>Vals.drop n t
def gC:Option V→Option Value→Prop
 |some v,some u=>RelV v u
 |none,none=>True
 |_,_=>False
def KV {κ:Type}:List (κ×V)→List (κ×Value)→Prop:=Paired fun (p:κ×V) (q:κ×Value)=>p.1=q.1∧RelV p.2 q.2
def kV:Key→V
 | .inl i=> .int i
 | .inr x=> .str x
inductive HO where
 |lst (xs:List V)
 |tup (xs:List V)
 |dK (kvs:List (Key×V))|dT (kvs:List (List Key×V))
 |set (S:Int→Bool) (n:Nat)
 |ins (C dx:Addr) (fs:List (Str×V))
 |own (x:Addr)
 |xd (fs:List (Str×V))
 |met (f x:Addr)
 |ue (lo hi:Int)
 |cY (o:Obj) (u:HO)
 |jf (ps:Array Value)
 |ext (φ:Heap→Prop)
abbrev Hp:=Addr→Option HO
def upd (H:Hp) (a:Addr) (o:HO):Hp:=fun b=>if b=a then some o else H b
theorem aj {H:Hp} {a:Addr} {o:HO}:upd H a o a=some o:=by unfold upd;rw[if_pos rfl]
theorem aL {H:Hp} {a b:Addr} {o:HO} (h:b≠a):upd H a o b=H b:=by unfold upd;rw[if_neg h]
theorem cB {H:Hp} {a:Addr} {o u:HO}:upd (upd H a o) a u=upd H a u:=by
 funext b;unfold upd;split<;>rfl
theorem tf {H:Hp} {a b:Addr} {o u:HO} (h:H a=some o) (h':H b=some u) (d:o≠u):a≠b:=by
 intro e;subst e;rw[h] at h';exact d (Option.some.inj h')
theorem cH {H:Hp} {a b:Addr} {o:HO} (h:H a=some o) (h':H b=none):a≠b:=by
 intro e;subst e;rw[h] at h';cases h'
section
variable (P:Program) (w:World)
def cT (H:Hp) (h:Heap) (a:Addr):HO→Prop
 | .lst xs=>xs.length≤sizeLine∧ ∃(its:List Value) (n:Nat),Vals xs its∧h.get? a=some {cls:= .type "list",data:= .seq its.toArray n}
 | .tup xs=>xs.length≤sizeLine∧ ∃its:List Value,Vals xs its∧IsTup h a its.toArray
 | .dK kvs=>kvs.length≤sizeLine∧(a==sysModules)=false∧ ∃vs,KV kvs vs∧h.DictOf (zQ P w) a vs
 | .dT kvs=>kvs.length≤sizeLine∧(a==sysModules)=false∧ ∃xs:List (List Key×Addr×Value),
   Paired (fun (p:List Key×V) (q:List Key×Addr×Value)=>p.1=q.1∧H q.2.1=some (.tup (p.1.map kV))∧RelV p.2 q.2.2) kvs xs∧
   ∃o es ep,h.get? a=some o∧o.ExactDict∧o.data= .dict es ep∧es.toList=xs.map (entryOfKey (tupleKind (zQ P w)))∧(xs.map (·.1)).Nodup
 | .set S n=>h.SetOf (intKind P w) a S n
 | .ins C dx fs=>H dx=some (.own a)∧fs.length≤1000∧dx≠a∧h.get? a=some (PySem.W.instObj C dx)∧
   ∃mA,h.Ns1 dx mA∧(∀f,gC (fs.lookup f) (mA f))∧PySem.Within mA (fs.map (·.1))
 | .own _=> ∃o,h.get? a=some o
 | .xd fs=> ∃mA,h.Ns1 a mA∧ ∀f,gC (fs.lookup f) (mA f)
 | .ue lo hi=> ∃t u v,h.get? a=some {cls:= .type "range",data:= .fields #[.int lo t, .int hi u, .int 1 v]}
 | .cY o u=>h.get? a=some o∧cT H h a u
 | .jf ps=>h.get? a=some {cls:= .none,data:= .fields ps}
 | .met f x=>h.get? a=some (PySem.W.methodObj (.ref f) (.ref x))
 | .ext φ=>φ h∧(∃o,h.get? a=some o)∧ ∀h1 h2:Heap,φ h1→(∀o,h1.get? a=some o→h2.get? a=some o)→φ h2
def bQ (H:Hp) (h:Heap):Prop:= ∀a o,H a=some o→cT P w H h a o
end
section
variable {P:Program} {w:World} {H H':Hp} {h h':Heap} {a:Addr} {o:HO}
theorem cT.lt (x:cT P w H h a o):a<h.objs.size:=by
 cases o with
 |lst xs=>obtain ⟨_,_,_,_,e⟩:=x;exact Heap.lt_size e
 |tup xs=>obtain ⟨_,_,_,p⟩:=x;exact p.lt
 |dK kvs=>obtain ⟨_,_,_,_,o,_,_,e,_⟩:=x;exact Heap.lt_size e
 |dT kvs=>obtain ⟨_,_,_,_,o,_,_,e,_⟩:=x;exact Heap.lt_size e
 |set S n=>obtain ⟨o,_,_,_,e,_⟩:=x;exact Heap.lt_size e
 |ins C dx fs=>obtain ⟨_,_,_,e,_⟩:=x;exact Heap.lt_size e
 |own y=>obtain ⟨_,e⟩:=x;exact Heap.lt_size e
 |xd fs=>obtain ⟨_,⟨_,_,_,e,_⟩,_⟩:=x;exact Heap.lt_size e
 |ue lo hi=>obtain ⟨_,_,_,e⟩:=x;exact Heap.lt_size e
 |cY ob u=>obtain ⟨e,_⟩:=x;exact Heap.lt_size e
 |jf ps=>exact Heap.lt_size (show h.get? a=some _ from x)
 |met f y=>exact Heap.lt_size (show h.get? a=some _ from x)
 |ext φ=>obtain ⟨_,⟨_,e⟩,_⟩:=x;exact Heap.lt_size e
theorem Paired.DE {α β:Type} {F G:α→β→Prop}: ∀{l₁:List α} {l₂:List β},Paired F l₁ l₂→(∀a b,F a b→G a b)→Paired G l₁ l₂
 |_,_, .nil,_=> .nil
 |_,_, .cons r t,f=> .cons (f _ _ r) (Paired.DE t f)
theorem cT.fX (x:cT P w H h a o) (k: ∀b u,(b=a∨H b=some (.own a))→h.get? b=some u→h'.get? b=some u)
  (ho: ∀b,H b=some (.own a)→H' b=some (.own a)) (ht: ∀b xs,H b=some (.tup xs)→H' b=some (.tup xs)):cT P w H' h' a o:=by
 induction o with
 |lst xs=>obtain ⟨z,its,n,r,e⟩:=x;exact ⟨z,its,n,r,k _ _ (.inl rfl) e⟩
 |tup xs=>obtain ⟨z,its,r,ob,e,c⟩:=x;exact ⟨z,its,r,ob,k _ _ (.inl rfl) e,c⟩
 |dK kvs=>obtain ⟨z,y,vs,r,ob,es,ep,e,c⟩:=x;exact ⟨z,y,vs,r,ob,es,ep,k _ _ (.inl rfl) e,c⟩
 |dT kvs=>
  obtain ⟨z,y,xs,r,ob,es,ep,e,c⟩:=x
  exact ⟨z,y,xs,Paired.DE r fun p q z=>⟨z.1,ht _ _ z.2.1,z.2.2⟩,ob,es,ep,k _ _ (.inl rfl) e,c⟩
 |set S n=>obtain ⟨ob,es,ep,t,e,c⟩:=x;exact ⟨ob,es,ep,t,k _ _ (.inl rfl) e,c⟩
 |ins C dx fs=>
  obtain ⟨d,z,ne,e,mA,⟨od,es,ep,e2,c⟩,r⟩:=x
  exact ⟨ho _ d,z,ne,k _ _ (.inl rfl) e,mA,⟨od,es,ep,k _ _ (.inr d) e2,c⟩,r⟩
 |own y=>obtain ⟨ob,e⟩:=x;exact ⟨ob,k _ _ (.inl rfl) e⟩
 |xd fs=>obtain ⟨mA,⟨od,es,ep,e,c⟩,r⟩:=x;exact ⟨mA,⟨od,es,ep,k _ _ (.inl rfl) e,c⟩,r⟩
 |ue lo hi=>obtain ⟨t,u,v,e⟩:=x;exact ⟨t,u,v,k _ _ (.inl rfl) e⟩
 |cY ob u ih=>obtain ⟨e,q⟩:=x;exact ⟨k _ _ (.inl rfl) e,ih q⟩
 |jf ps=>
  have e:h.get? a=some {cls:= .none,data:= .fields ps}:=x
  show h'.get? a=some {cls:= .none,data:= .fields ps}
  exact k a _ (.inl rfl) e
 |met f y=>
  have e:h.get? a=some (PySem.W.methodObj (.ref f) (.ref y)):=x
  show h'.get? a=some (PySem.W.methodObj (.ref f) (.ref y))
  exact k a _ (.inl rfl) e
 |ext φ=>obtain ⟨p,⟨o,e⟩,st⟩:=x;exact ⟨st _ _ p fun o q=>k _ _ (.inl rfl) q,⟨o,k _ _ (.inl rfl) e⟩,st⟩
theorem bQ.lt (x:bQ P w H h) (e:H a=some o):a<h.objs.size:=(x a o e).lt
theorem bQ.fresh (x:bQ P w H h) (e:h.objs.size≤a):H a=none:=by
 cases q:H a with
 |none=>rfl
 |some u=>exact absurd (Nat.lt_of_lt_of_le (x.lt q) e) (Nat.lt_irrefl _)
theorem bQ.kept (x:bQ P w H h) (k: ∀b u,h.get? b=some u→h'.get? b=some u):bQ P w H h':=fun a o e=>
 (x a o e).fX (fun b u _ q=>k b u q) (fun _ q=>q) fun _ _ q=>q
theorem bQ.laid (x:bQ P w H h) (k: ∀b u,h.get? b=some u→h'.get? b=some u) (hp:h.objs.size≤a) (new:cT P w (upd H a o) h' a o):bQ P w (upd H a o) h':=fun b u e=>by
 have hn:=x.fresh hp
 by_cases hb:b=a
 ·subst hb;rw[aj] at e;cases e;exact new
 ·rw[aL hb] at e
  exact (x b u e).fX (fun c v _ q=>k c v q) (fun c q=>by rw[aL (cH q hn)];exact q) fun c xs q=>by rw[aL (cH q hn)];exact q
end
def Rd (H:Hp) (a:Addr) (u:HO):Prop:=H a=some u∨ ∃o,H a=some (.cY o u)
theorem Rd.ok {P:Program} {w:World} {H:Hp} {h:Heap} {a:Addr} {u:HO} (r:Rd H a u) (x:bQ P w H h):cT P w H h a u:=by
 rcases r with r|⟨o,r⟩
 ·exact x a u r
 ·obtain ⟨_,q⟩:=x a _ r
  exact q
def tP:Option HO→Prop
 |some (.lst _)=>True
 |some (.dK _)=>True
 |some (.dT _)=>True
 |some (.set _ _)=>True
 |some (.ins _ _ _)=>True
 |some (.ext _)=>True
 |_=>False
section
variable {P:Program} {w:World} {H:Hp} {h h':Heap} {x e:Addr} {o':HO}
theorem bQ.write (ok:bQ P w H h) (mu:tP (H x)) (he:e=x∨H e=some (.own x)) (k: ∀b u,b≠e→h.get? b=some u→h'.get? b=some u) (heo: ∃u,h'.get? e=some u)
  (new:cT P w (upd H x o') h' x o'):bQ P w (upd H x o') h':=fun b u q=>by
 have nown: ∀c y,H c=some (.own y)→c≠x:=fun c y r z=>by subst z;rw[r] at mu;exact mu
 have ntup: ∀c xs,H c=some (.tup xs)→c≠x:=fun c xs r z=>by subst z;rw[r] at mu;exact mu
 by_cases hb:b=x
 ·subst hb;rw[aj] at q;cases q;exact new
 ·rw[aL hb] at q
  by_cases hbe:b=e
  ·have q':H b=some (.own x):=by
    rcases he with z|z
    ·exact absurd (hbe.trans z) hb
    ·rw[hbe];exact z
   rw[q] at q';cases q'
   obtain ⟨v,hv⟩:=heo
   exact ⟨v,by rw[hbe];exact hv⟩
  ·refine (ok b u q).fX (fun c v hc r=>k c v ?_ r) (fun c r=>by rw[aL (nown c b r)];exact r) fun c xs r=>by rw[aL (ntup c xs r)];exact r
   rcases hc with rfl|hc
   ·exact hbe
   ·rintro rfl
    rcases he with z|z
    ·exact nown c b hc z
    ·rw[hc] at z;cases z;exact hb rfl
end
structure Un (fs ex:List Addr) (H H':Hp) (h h':Heap):Prop where
 keep: ∀b o,h.get? b=some o→H b=none→b∉fs→b∉ex→h'.get? b=some o
 slot: ∀b o,h.get? b=some o→H b=none→b∈fs→b∉ex→ ∃sl,h'.get? b=some {o with slots:=sl}
 free: ∀b o,h.get? b=some o→H b=none→b∉ex→H' b=none
 there: ∀b o,h.get? b=some o→b∉ex→ ∃o',h'.get? b=some o'
 gR: ∀b xs,H b=some (.tup xs)→H' b=some (.tup xs)
 gn: ∀b o u,H b=some (.cY o u)→H' b=some (.cY o u)
 gD: ∀b ps,H b=some (.jf ps)→ ∃more,H' b=some (.jf (ps++more))
section
variable {fs fs' ex ex':List Addr} {H H1 H2:Hp} {h h1 h2 h':Heap} {a x e:Addr} {o:HO}
theorem Un.any (u:Un fs ex H H1 h h1) {b:Addr} {ob:Obj} (q:h.get? b=some ob) (n:H b=none) (hx:b∉ex): ∃sl,h1.get? b=some {ob with slots:=sl}:=by
 by_cases hb:b∈fs
 ·exact u.slot b ob q n hb hx
 ·exact ⟨ob.slots,u.keep b ob q n hb hx⟩
theorem Un.kept (k: ∀b u,h.get? b=some u→h'.get? b=some u):Un fs ex H H h h':=
 ⟨fun b ob q _ _ _=>k b ob q,fun b ob q _ _ _=>⟨ob.slots,k b ob q⟩,fun _ _ _ n _=>n,fun b ob q _=>⟨ob,k b ob q⟩,fun _ _ q=>q,fun _ _ _ q=>q,fun _ ps q=>⟨#[],by rw[q];simp⟩⟩
theorem Un.refl:Un fs ex H H h h:=Un.kept fun _ _ q=>q
theorem Un.laid (k: ∀b u,h.get? b=some u→h'.get? b=some u) (hp:h.objs.size≤a) (hn:H a=none):Un fs ex H (upd H a o) h h' where
 keep:=fun b u q _ _ _=>k b u q
 slot:=fun b u q _ _ _=>⟨u.slots,k b u q⟩
 free:=fun b u q n _=>by rw[aL (Nat.ne_of_lt (Nat.lt_of_lt_of_le (Heap.lt_size q) hp))];exact n
 there:=fun b u q _=>⟨u,k b u q⟩
 gR:=fun b xs q=>by rw[aL (cH q hn)];exact q
 gn:=fun b u xs q=>by rw[aL (cH q hn)];exact q
 gD:=fun b ps q=>⟨#[],by rw[aL (cH q hn),q];simp⟩
theorem Un.write (mu:tP (H x)) (he:e=x∨H e=some (.own x)) (k: ∀b u,b≠e→h.get? b=some u→h'.get? b=some u) (heo: ∃u,h'.get? e=some u):Un fs ex H (upd H x o) h h':=by
 have hx: ∀b,H b=none→b≠x:=fun b n z=>by subst z;rw[n] at mu;exact mu
 have hb: ∀b,H b=none→b≠e:=fun b n z=>by
  subst z
  rcases he with r|r
  ·exact hx b n r
  ·rw[n] at r;cases r
 have hm: ∀b u,H b=some u→ ¬tP (some u)→b≠x:=fun b u q nm z=>by subst z;rw[q] at mu;exact nm mu
 refine ⟨fun b u q n _ _=>k b u (hb b n) q,fun b u q n _ _=>⟨u.slots,k b u (hb b n) q⟩,fun b u q n _=>by rw[aL (hx b n)];exact n,fun b u q _=>?_,
  fun b xs q=>by rw[aL (hm b _ q fun z=>z)];exact q,fun b u xs q=>by rw[aL (hm b _ q fun z=>z)];exact q,fun b ps q=>⟨#[],by rw[aL (hm b _ q fun z=>z),q];simp⟩⟩
 by_cases hbe:b=e
 ·subst hbe;exact heo
 ·exact ⟨u,k b u hbe q⟩
end
def tG (h:Heap) (H:Hp):List Addr:=(List.range h.objs.size).filter fun a=>(H a).isSome
def iM (h:Heap) (H:Hp):Heap:=PySem.W.hideAll h (tG h H)
theorem Q3 (h:Heap) (H:Hp):(iM h H).objs.size=h.objs.size:=PySem.W.hideAll_size _ _
theorem Ka {h:Heap} {H:Hp} {b:Addr} {o:Obj} (e:h.get? b=some o) (n:H b=none):(iM h H).get? b=some o:=
 PySem.W.hideAll_get _ e fun hm=>by
  have q:(H b).isSome=true:=(List.mem_filter.mp hm).2
  rw[n] at q;simp at q
theorem SM {h:Heap} {H:Hp} {b:Addr} {o:Obj} (e:(iM h H).get? b=some o):h.get? b=some o∧H b=none:=by
 have e':h.get? b=some o:=PySem.W.of_hideAll (tG h H) e
 refine ⟨e',?_⟩
 cases q:H b with
 |none=>rfl
 |some x=>
  have hm:b∈tG h H:=List.mem_filter.mpr ⟨List.mem_range.mpr (Heap.lt_size e'),by simp [q]⟩
  have z:(iM h H).get? b=none:=PySem.W.hideAll_none (tG h H) hm
  rw[z] at e;cases e
end L2
namespace L2
open PySem PySem.Spec PyProof.Rows
structure Mod (K:PySem.W.Frag) (mg:Str→Option Value) (base:Heap):Prop where
 iP:K.In base
 glob:base.Ns mainGlobals mg
 blt: ∃mb,base.Ns builtinsNs mb∧ ∀x:Str,x≠ "__name__" →mb x=bootBuiltins x
 nolimit:base.NoLimit
structure Cx where
 prog:Program
 w:World
 K:PySem.W.Frag
 mg:Str→Option Value
 base:Heap
 A:Around
 N:List Str
 bB:Shared
 lF:Hp
 env:Env
 outer:List Env
 stack:List Env
 ex:List Addr
 fn:Str→Bool
 calm:Bool
 pn:List (Addr×Obj)
 xe:Value→Shared→Prop
def bo (l:List Env):List Addr:=l.filterMap (·.frame)
abbrev Cx.fs (X:Cx):List Addr:=bo X.outer
def lD (sc:Scope) (x:Str):Prop:=sc.names.lookup x=some .local∨sc.names.lookup x=some .cell∨sc.names.lookup x=some .free
def Loc (sc:Scope) (x:Str):Prop:=sc.names.lookup x=some .local∨sc.names.lookup x=some .cell
def Look (env:Env) (h:Heap) (m:Str→Option Value) (x:Str) (u:Value):Prop:=
 (env.kindOf x=some .local∧m x=some u)∨((env.kindOf x=some .cell∨env.kindOf x=some .free)∧ ∃c,env.cells.lookup x=some c∧h.IsCell c (some u))
structure Cx.Ok (X:Cx):Prop where
 mod:Mod X.K X.mg X.base
 kind:X.env.scope.kind= .function
 glob:X.env.globals=mainGlobals
 blt:X.env.builtins=builtinsNs
 above:X.bB.heap.objs.size≤X.env.locals
 inj: ∀x y c,X.env.cells.lookup x=some c→X.env.cells.lookup y=some c→x=y
 has: ∀x,(X.env.kindOf x=some .cell∨X.env.kindOf x=some .free)→ ∃c,X.env.cells.lookup x=some c
 il: ∀x c,X.fn x=true→X.env.cells.lookup x=some c→X.bB.heap.objs.size≤c
 hd:X.calm=true→X.A.handled=none
 frames:X.A.frames=some X.stack
 jv:X.stack=X.outer∨(X.stack=X.env::X.outer∧X.env.frame=some X.env.locals)
 gW: ∀b∈X.ex,b≠X.env.locals∧ ∀x c,X.env.cells.lookup x=some c→c≠b
 bs: ∀b o,X.base.get? b=some o→X.bB.heap.get? b=some o∧X.lF b=none
 eW:X.base.objs.size≤X.bB.heap.objs.size
 eR: ∀b o,X.base.get? b=some o→b∉X.ex
 ic: ∀b∈X.ex,b∉X.fs
 dq:X.bB.heap.FunFrames X.base X.outer
 fV: ∀b∈X.fs,X.lF b=none
structure Inv (X:Cx) (pins:List (Addr×Obj)) (σ:List (Option V)) (H:Hp) (s:Shared):Prop where
 ok:X.Ok
 os:s.os=X.bB.os
 bare:AllBare s.gens
 base:Un X.fs X.ex X.lF H X.bB.heap s.heap
 loc: ∃m,s.heap.Ns X.env.locals m∧ ∀(i:Nat) (x:Str) (v:V),X.N[i]?=some x→σ[i]?=some (some v)→lD X.env.scope x→ ∃u,RelV v u∧Look X.env s.heap m x u
 cell: ∀x c,X.env.cells.lookup x=some c→ ∃v,s.heap.IsCell c v
 free:H X.env.locals=none
 dN: ∀x c,X.env.cells.lookup x=some c→H c=none
 pin: ∀p∈X.pn++pins,s.heap.get? p.1=some p.2∧H p.1=none∧p.1≠X.env.locals∧p.1∉X.fs∧ ∀v,p.2.data≠ .cell v
 ao:bQ X.prog X.w H s.heap
 len:σ.length=X.N.length
section
variable {X:Cx} {pins:List (Addr×Obj)} {σ:List (Option V)} {H H':Hp} {s:Shared} {h':Heap}
theorem Cx.Ok.RA (ok:X.Ok) {b:Addr} {o:Obj} (e:X.base.get? b=some o):b∉X.fs:=fun hb=>by
 have:=(ok.dq.mem hb).1
 rw[e] at this;cases this
theorem Inv.bs (I:Inv X pins σ H s): ∀b o,X.base.get? b=some o→s.heap.get? b=some o∧H b=none:=fun b o e=>
 ⟨I.base.keep b o (I.ok.bs b o e).1 (I.ok.bs b o e).2 (I.ok.RA e) (I.ok.eR b o e),I.base.free b o (I.ok.bs b o e).1 (I.ok.bs b o e).2 (I.ok.eR b o e)⟩
theorem Inv.bk (I:Inv X pins σ H s): ∀b o,X.base.get? b=some o→s.heap.get? b=some o:=fun b o e=>(I.bs b o e).1
theorem Inv.mod (I:Inv X pins σ H s):Mod X.K X.mg X.base:=I.ok.mod
theorem Inv.b7 (I:Inv X pins σ H s):X.K.In s.heap:=I.ok.mod.iP.keeps I.bk
theorem Inv.lt (I:Inv X pins σ H s):X.env.locals<s.heap.objs.size:=let ⟨_,hn,_⟩:=I.loc;hn.lt
theorem Inv.sz (I:Inv X pins σ H s):X.bB.heap.objs.size≤s.heap.objs.size:=Nat.le_trans I.ok.above (Nat.le_of_lt I.lt)
theorem Inv.G0 (I:Inv X pins σ H s) {a:Addr} (h:s.heap.objs.size≤a):a∉X.fs:=fun hb=>by
 obtain ⟨_,o,ho,_⟩:=I.ok.dq.mem hb
 exact absurd (Nat.lt_of_lt_of_le (Heap.lt_size ho) (Nat.le_trans I.sz h)) (Nat.lt_irrefl _)
theorem Inv.j9 (I:Inv X pins σ H s): ∀x c,X.env.cells.lookup x=some c→c≠X.env.locals:=fun x c e z=>by
 obtain ⟨v,o,ho,hd⟩:=I.cell x c e
 obtain ⟨m,⟨o',es,ep,ho',hd',_⟩,_⟩:=I.loc
 rw[z,ho'] at ho;cases ho;rw[hd'] at hd;cases hd
theorem Inv.dq (I:Inv X pins σ H s):s.heap.FunFrames X.base X.outer:=by
 have all: ∀(l:List Env),(∀b∈bo l,b∈X.fs)→X.bB.heap.FunFrames X.base l→s.heap.FunFrames X.base l:=by
  intro l
  induction l with
  |nil=>intro _ _;trivial
  |cons env r ih=>
   intro hs hl
   obtain ⟨hk,⟨L,o,hf,hn,ho,hd⟩,hr⟩:=hl
   have hL:L∈X.fs:=hs L (by unfold bo;rw[List.filterMap_cons,hf];exact List.mem_cons_self)
   obtain ⟨sl,e⟩:=I.base.slot L o ho (I.ok.fV L hL) hL fun z=>I.ok.ic L z hL
   exact ⟨hk,⟨L,_,hf,hn,e,hd⟩,ih (fun b hb=>hs b (by unfold bo;rw[List.filterMap_cons,hf];exact List.mem_cons_of_mem _ hb)) hr⟩
 exact all X.outer (fun _ hb=>hb) I.ok.dq
theorem Inv.stack (I:Inv X pins σ H s):s.heap.FunFrames X.base X.stack:=by
 rcases I.ok.jv with e|⟨e,hf⟩
 ·rw[e];exact I.dq
 ·rw[e]
  obtain ⟨m,hn,_⟩:=I.loc
  refine .cons (by rw[I.ok.kind];decide) hf hn ?_ I.dq
  exact Heap.get?_none_of_le (Nat.le_trans I.ok.eW I.ok.above)
theorem Inv.nV (I:Inv X pins σ H s): ∀b∈bo X.stack,b∈X.env.locals::X.fs:=fun b hb=>by
 rcases I.ok.jv with e|⟨e,hf⟩
 ·rw[e] at hb;exact List.mem_cons_of_mem _ hb
 ·rw[e] at hb
  unfold bo at hb
  rw[List.filterMap_cons,hf] at hb
  exact hb
theorem Inv.rR (I:Inv X pins σ H s): ∀b∈bo X.stack,H b=none:=fun b hb=>by
 rcases List.mem_cons.mp (I.nV b hb) with e|hb
 ·rw[e];exact I.free
 ·obtain ⟨_,o,ho,_⟩:=I.ok.dq.mem hb
  exact I.base.free b o ho (I.ok.fV b hb) fun z=>I.ok.ic b z hb
theorem Inv.step {g':Array GenState} {t':Nat} {d':Drawn} {ch:List Addr} (I:Inv X pins σ H s)
  (hch: ∀b∈ch,(b∈X.ex∨X.bB.heap.objs.size≤b)∧b≠X.env.locals∧(∀x c,X.env.cells.lookup x=some c→c≠b)∧ ∀p∈X.pn++pins,p.1≠b)
  (keep: ∀b o,b≠X.env.locals→b∉X.fs→b∉ch→s.heap.get? b=some o→H b=none→h'.get? b=some o)
  (slot: ∀b o,b≠X.env.locals→b∈X.fs→b∉ch→s.heap.get? b=some o→H b=none→ ∃sl,h'.get? b=some {o with slots:=sl}) (free: ∀b o,b∉ch→s.heap.get? b=some o→H b=none→H' b=none)
  (there: ∀b o,b∉ch→s.heap.get? b=some o→ ∃o',h'.get? b=some o')
  (gR: ∀b xs,H b=some (.tup xs)→H' b=some (.tup xs)) (gn: ∀b o u,H b=some (.cY o u)→H' b=some (.cY o u)) (gD: ∀b ps,H b=some (.jf ps)→ ∃more,H' b=some (.jf (ps++more)))
  (ns: ∀m,s.heap.Ns X.env.locals m→h'.Ns X.env.locals m) (ao:bQ X.prog X.w H' h') (hg:AllBare g'):
  Inv X pins σ H' {s with heap:=h',gens:=g',drawn:=d',toks:=t'}:=by
 have neL: ∀b o,X.bB.heap.get? b=some o→b≠X.env.locals:=fun b o e=>Nat.ne_of_lt (Nat.lt_of_lt_of_le (Heap.lt_size e) I.ok.above)
 have neC: ∀b o,X.bB.heap.get? b=some o→b∉X.ex→b∉ch:=fun b o e hx hb=>by
  rcases (hch b hb).1 with z|z
  ·exact hx z
  ·exact absurd (Nat.lt_of_lt_of_le (Heap.lt_size e) z) (Nat.lt_irrefl _)
 have cellK: ∀x c,X.env.cells.lookup x=some c→ ∀v,s.heap.IsCell c v→h'.IsCell c v:=fun x c e v ⟨o,ho,hd⟩=>by
  have nch:c∉ch:=fun z=>(hch c z).2.2.1 x c e rfl
  by_cases hc:c∈X.fs
  ·obtain ⟨sl,q⟩:=slot c o (I.j9 x c e) hc nch ho (I.dN x c e)
   exact ⟨_,q,hd⟩
  ·exact ⟨o,keep c o (I.j9 x c e) hc nch ho (I.dN x c e),hd⟩
 refine ⟨I.ok,I.os,hg,⟨fun b o e n hb hx=>?_,fun b o e n hb hx=>?_,fun b o e n hx=>?_,fun b o e hx=>?_,fun b xs e=>gR b xs (I.base.gR b xs e),fun b o xs e=>gn b o xs (I.base.gn b o xs e),fun b ps e=>?_⟩,?_,fun x c e=>?_,?_,fun x c e=>?_,fun p hp=>?_,ao,I.len⟩
 ·exact keep b o (neL b o e) hb (neC b o e hx) (I.base.keep b o e n hb hx) (I.base.free b o e n hx)
 ·obtain ⟨sl,e1⟩:=I.base.slot b o e n hb hx
  obtain ⟨sl',e2⟩:=slot b _ (neL b o e) hb (neC b o e hx) e1 (I.base.free b o e n hx)
  exact ⟨sl',e2⟩
 ·obtain ⟨o',e1⟩:=I.base.there b o e hx
  exact free b o' (neC b o e hx) e1 (I.base.free b o e n hx)
 ·obtain ⟨o',e1⟩:=I.base.there b o e hx
  exact there b o' (neC b o e hx) e1
 ·obtain ⟨m1,e1⟩:=I.base.gD b ps e
  obtain ⟨m2,e2⟩:=gD b _ e1
  exact ⟨m1++m2,by rw[e2,Array.append_assoc]⟩
 ·obtain ⟨m,hn,hl⟩:=I.loc
  refine ⟨m,ns m hn,fun i x v e1 e2 e3=>?_⟩
  obtain ⟨u,r,l⟩:=hl i x v e1 e2 e3
  refine ⟨u,r,?_⟩
  rcases l with l|⟨k,c,e,z⟩
  ·exact .inl l
  ·exact .inr ⟨k,c,e,cellK x c e _ z⟩
 ·obtain ⟨v,z⟩:=I.cell x c e
  exact ⟨v,cellK x c e v z⟩
 ·obtain ⟨m,⟨o,_,_,ho,_⟩,_⟩:=I.loc
  exact free _ o (fun z=>(hch _ z).2.1 rfl) ho I.free
 ·obtain ⟨v,o,ho,hd⟩:=I.cell x c e
  exact free c o (fun z=>(hch c z).2.2.1 x c e rfl) ho (I.dN x c e)
 ·obtain ⟨e,n,ne,nf,d⟩:=I.pin p hp
  have nch:p.1∉ch:=fun z=>(hch p.1 z).2.2.2 p hp rfl
  exact ⟨keep p.1 p.2 ne nf nch e n,free p.1 p.2 nch e n,ne,nf,d⟩
theorem Inv.un {t':Nat} (I:Inv X pins σ H s) (u:Un X.fs [] H H' s.heap h') (ao:bQ X.prog X.w H' h'):Inv X pins σ H' {s with heap:=h',toks:=t'}:=by
 obtain ⟨m,⟨o,es,ep,ho,r⟩,_⟩:=id I.loc
 obtain ⟨sl,hL⟩:=u.any ho I.free (by simp)
 exact I.step (g':=s.gens) (d':=s.drawn) (ch:= []) (fun _ z=>nomatch z) (fun b o _ hb _ e n=>u.keep b o e n hb (by simp)) (fun b o _ hb _ e n=>u.slot b o e n hb (by simp)) (fun b o _ e n=>u.free b o e n (by simp)) (fun b o _ e=>u.there b o e (by simp)) u.gR u.gn u.gD (fun m' hm=>by
  obtain ⟨o',es',ep',ho',r'⟩:=hm
  rw[ho] at ho';cases ho'
  exact ⟨_,es',ep',hL,r'⟩) ao I.bare
theorem Inv.call {g':Array GenState} {t':Nat} {d':Drawn} {ch:List Addr} (I:Inv X pins σ H s) (u:Un (bo X.stack) ch H H' s.heap h') (ao:bQ X.prog X.w H' h') (hg:AllBare g')
  (hch: ∀b∈ch,(b∈X.ex∨X.bB.heap.objs.size≤b)∧b≠X.env.locals∧(∀x c,X.env.cells.lookup x=some c→c≠b)∧ ∀p∈X.pn++pins,p.1≠b):
  Inv X pins σ H' {s with heap:=h',gens:=g',drawn:=d',toks:=t'}:=by
 obtain ⟨m,⟨o,es,ep,ho,r⟩,_⟩:=id I.loc
 obtain ⟨sl,hL⟩:=u.any ho I.free fun z=>(hch _ z).2.1 rfl
 exact I.step (ch:=ch) hch (fun b o hL hb hc e n=>u.keep b o e n (fun z=>(List.mem_cons.mp (I.nV b z)).elim hL hb) hc) (fun b o _ _ hc e n=>u.any e n hc) (fun b o hc e n=>u.free b o e n hc) (fun b o hc e=>u.there b o e hc) u.gR u.gn u.gD (fun m' hm=>by
  obtain ⟨o',es',ep',ho',r'⟩:=hm
  rw[ho] at ho';cases ho'
  exact ⟨_,es',ep',hL,r'⟩) ao hg
theorem Inv.turned {t':Nat} {it:Addr} (I:Inv X pins σ H s) (k: ∀b o,b≠it→s.heap.get? b=some o→h'.get? b=some o) (hn:H it=none) (hL:it≠X.env.locals)
  (h1:it∈X.ex∨X.bB.heap.objs.size≤it) (h2: ∀x c,X.env.cells.lookup x=some c→c≠it) (h3: ∀p∈X.pn++pins,p.1≠it):Inv X pins σ H {s with heap:=h',toks:=t'}:=by
 have nit: ∀b u,H b=some u→b≠it:=fun b u e z=>by rw[z,hn] at e;cases e
 refine I.step (g':=s.gens) (d':=s.drawn) (ch:= [it]) (fun b hb=>?_) (fun b o _ _ hc e _=>k b o (fun z=>hc (by simp [z])) e) (fun b o _ _ hc e _=>⟨o.slots,k b o (fun z=>hc (by simp [z])) e⟩) (fun _ _ _ _ n=>n)
  (fun b o hc e=>⟨o,k b o (fun z=>hc (by simp [z])) e⟩) (fun _ _ e=>e) (fun _ _ _ e=>e) (fun b ps e=>⟨#[],by rw[e];simp⟩) (fun m hm=>?_) (fun b u e=>?_) I.bare
 ·have e:b=it:=by simpa using hb
  subst e
  exact ⟨h1,hL,h2,h3⟩
 ·obtain ⟨o,es,ep,ho,r⟩:=hm
  exact ⟨o,es,ep,k _ o (Ne.symm hL) ho,r⟩
 ·refine (I.ao b u e).fX (fun c v hc q=>k c v ?_ q) (fun _ q=>q) fun _ _ q=>q
  rcases hc with z|z
  ·rw[z];exact nit b u e
  ·exact nit c _ z
theorem Inv.tok (I:Inv X pins σ H s) (t:Nat):Inv X pins σ H {s with toks:=t}:=I.un (h':=s.heap) (t':=t) Un.refl I.ao
theorem Inv.kept {t':Nat} (I:Inv X pins σ H s) (k: ∀b u,s.heap.get? b=some u→h'.get? b=some u):Inv X pins σ H {s with heap:=h',toks:=t'}:=I.un (Un.kept k) (I.ao.kept k)
theorem Inv.laid {a:Addr} {o:HO} {t':Nat} (I:Inv X pins σ H s) (k: ∀b u,s.heap.get? b=some u→h'.get? b=some u) (hp:s.heap.objs.size≤a) (new:cT X.prog X.w (upd H a o) h' a o):
  Inv X pins σ (upd H a o) {s with heap:=h',toks:=t'}:=I.un (Un.laid k hp (I.ao.fresh hp)) (I.ao.laid k hp new)
theorem Inv.write {x e:Addr} {o:HO} {t':Nat} (I:Inv X pins σ H s) (mu:tP (H x)) (he:e=x∨H e=some (.own x)) (k: ∀b u,b≠e→s.heap.get? b=some u→h'.get? b=some u) (heo: ∃u,h'.get? e=some u)
  (new:cT X.prog X.w (upd H x o) h' x o):Inv X pins σ (upd H x o) {s with heap:=h',toks:=t'}:=I.un (Un.write mu he k heo) (I.ao.write mu he k heo new)
theorem Inv.weak {σ':List (Option V)} (I:Inv X pins σ H s) (hl:σ'.length=σ.length) (w: ∀(i:Nat) v,σ'[i]?=some (some v)→σ[i]?=some (some v)):Inv X pins σ' H s:=
 ⟨I.ok,I.os,I.bare,I.base,let ⟨m,hn,hl'⟩:=I.loc;⟨m,hn,fun i x v e1 e2 e3=>hl' i x v e1 (w i v e2) e3⟩,I.cell,I.free,I.dN,I.pin,I.ao,hl.trans I.len⟩
theorem Inv.A7 {pins':List (Addr×Obj)} (I:Inv X pins σ H s) (h: ∀p∈pins',s.heap.get? p.1=some p.2∧H p.1=none∧p.1≠X.env.locals∧p.1∉X.fs∧ ∀v,p.2.data≠ .cell v):Inv X pins' σ H s:=
 ⟨I.ok,I.os,I.bare,I.base,I.loc,I.cell,I.free,I.dN,fun p hp=>(List.mem_append.mp hp).elim (fun z=>I.pin p (List.mem_append_left _ z)) (h p),I.ao,I.len⟩
theorem wo {N:List Str} (hN:N.Nodup) {i j:Nat} {x:Str} (a:N[i]?=some x) (b:N[j]?=some x):i=j:=by
 obtain ⟨h1,e1⟩:=List.getElem?_eq_some_iff.mp a
 obtain ⟨h2,e2⟩:=List.getElem?_eq_some_iff.mp b
 exact (List.getElem_inj hN).mp (e1.trans e2.symm)
theorem uV {M:Model} {A:Around} {E:Value→Shared→Prop} {i:Nat} {x:Str} {v:V} {u:Value} {Q:Unit→Shared→Prop} (I:Inv X pins σ H s) (hN:X.N.Nodup) (hi:X.N[i]?=some x) (hx:Loc X.env.scope x) (r:RelV v u)
  (h: ∀s',Inv X pins (σ.set i (some v)) H s'→(∃a,Heap.SameBut a s.heap s'.heap∧(a=X.env.locals∨X.env.cells.lookup x=some a))→Q () s') (hf:X.fn x=true∨X.env.scope.names.lookup x=some .local:=by first|exact .inl rfl|exact .inr rfl|assumption):wpAny M A (storeName X.env x u) Q E s:=by
 obtain ⟨m,hn,hl⟩:=id I.loc
 have hcls:(X.env.scope.kind== .class||(X.env.scope.kind== .module&&X.env.locals !=X.env.globals))=false:=by rw[I.ok.kind];rfl
 have hiσ:i<σ.length:=by rw[I.len];exact (List.getElem?_eq_some_iff.mp hi).1
 have j9:=I.j9
 have tracked: ∀{a:Addr} {h':Heap},(∃o,s.heap.get? a=some o∧H a=none)→Heap.SameBut a s.heap h'→bQ X.prog X.w H h':=fun {a h'} ha hs b ob e=>by
  obtain ⟨_,_,hfree⟩:=ha
  refine (I.ao b ob e).fX (fun c w' hc q=>(hs.2 c ?_).trans q) (fun _ q=>q) fun _ _ q=>q
  rintro rfl
  rcases hc with rfl|hc
  ·rw[hfree] at e;cases e
  ·rw[hfree] at hc;cases hc
 rcases hx with hk|hk
 ·refine wpAny_storeName_local hk hn (fun h' hn' hs=>?_) hcls
  obtain ⟨oL,_,_,hoL,_⟩:=id hn
  refine h _ ⟨I.ok,I.os,I.bare,⟨fun b o e n hb hx=>?_,fun b o e n hb hx=>?_,I.base.free,fun b o e hx=>?_,I.base.gR,I.base.gn,I.base.gD⟩,⟨_,hn',fun j y v' e1 e2 e3=>?_⟩,fun y c e=>?_,I.free,I.dN,fun p hp=>?_,tracked ⟨oL,hoL,I.free⟩ hs,by simpa using I.len⟩ ⟨_,hs, .inl rfl⟩
  ·exact (hs.2 b (Nat.ne_of_lt (Nat.lt_of_lt_of_le (Heap.lt_size e) I.ok.above))).trans (I.base.keep b o e n hb hx)
  ·obtain ⟨sl,e1⟩:=I.base.slot b o e n hb hx
   exact ⟨sl,(hs.2 b (Nat.ne_of_lt (Nat.lt_of_lt_of_le (Heap.lt_size e) I.ok.above))).trans e1⟩
  ·obtain ⟨o',e1⟩:=I.base.there b o e hx
   exact ⟨o',(hs.2 b (Nat.ne_of_lt (Nat.lt_of_lt_of_le (Heap.lt_size e) I.ok.above))).trans e1⟩
  ·by_cases hj:j=i
   ·subst hj
    rw[hi] at e1;cases e1
    rw[List.getElem?_set_self hiσ] at e2
    cases e2
    exact ⟨u,r, .inl ⟨hk,by simp⟩⟩
   ·rw[List.getElem?_set_ne (Ne.symm hj)] at e2
    obtain ⟨u',r',q⟩:=hl j y v' e1 e2 e3
    refine ⟨u',r',?_⟩
    rcases q with ⟨k,e⟩|⟨k,c,e,z⟩
    ·refine .inl ⟨k,?_⟩
     have:y≠x:=fun e=>hj (wo hN e1 (e▸hi))
     simp [this,e]
    ·exact .inr ⟨k,c,e,z.sameBut hs (j9 y c e)⟩
  ·obtain ⟨w',z⟩:=I.cell y c e
   exact ⟨w',z.sameBut hs (j9 y c e)⟩
  ·obtain ⟨e,n,ne,nf,d⟩:=I.pin p hp
   exact ⟨(hs.2 p.1 ne).trans e,n,ne,nf,d⟩
 ·have hfn:X.fn x=true:=by
   rcases hf with z|z
   ·exact z
   ·rw[z] at hk;cases hk
  obtain ⟨c,hc⟩:=I.ok.has x (.inl hk)
  obtain ⟨w',z⟩:=I.cell x c hc
  refine wpAny_storeName_cell I.ok.kind hk hc z (fun h' hc' hs=>?_)
  obtain ⟨oc,hoc,hocd⟩:=id z
  refine h {s with heap:=h'} ⟨I.ok,I.os,I.bare,⟨fun b o e n hb hx=>?_,fun b o e n hb hx=>?_,I.base.free,fun b o e hx=>?_,I.base.gR,I.base.gn,I.base.gD⟩,⟨m,hn.sameBut hs (Ne.symm (j9 x c hc)),fun j y v' e1 e2 e3=>?_⟩,fun y c' e=>?_,I.free,I.dN,fun p hp=>?_,tracked ⟨oc,hoc,I.dN x c hc⟩ hs,by simpa using I.len⟩ ⟨c,hs, .inr hc⟩
  ·exact (hs.2 b (Nat.ne_of_lt (Nat.lt_of_lt_of_le (Heap.lt_size e) (I.ok.il x c hfn hc)))).trans (I.base.keep b o e n hb hx)
  ·obtain ⟨sl,e1⟩:=I.base.slot b o e n hb hx
   exact ⟨sl,(hs.2 b (Nat.ne_of_lt (Nat.lt_of_lt_of_le (Heap.lt_size e) (I.ok.il x c hfn hc)))).trans e1⟩
  ·obtain ⟨o',e1⟩:=I.base.there b o e hx
   exact ⟨o',(hs.2 b (Nat.ne_of_lt (Nat.lt_of_lt_of_le (Heap.lt_size e) (I.ok.il x c hfn hc)))).trans e1⟩
  ·by_cases hj:j=i
   ·subst hj
    rw[hi] at e1;cases e1
    rw[List.getElem?_set_self hiσ] at e2
    cases e2
    exact ⟨u,r, .inr ⟨.inl hk,c,hc,hc'⟩⟩
   ·rw[List.getElem?_set_ne (Ne.symm hj)] at e2
    obtain ⟨u',r',q⟩:=hl j y v' e1 e2 e3
    refine ⟨u',r',?_⟩
    rcases q with q|⟨k,c',e,z'⟩
    ·exact .inl q
    ·refine .inr ⟨k,c',e,z'.sameBut hs ?_⟩
     rintro rfl
     exact hj (wo hN e1 (I.ok.inj _ _ _ e hc▸hi))
  ·by_cases hcc:c'=c
   ·subst hcc;exact ⟨_,hc'⟩
   ·obtain ⟨w2,z2⟩:=I.cell y c' e
    exact ⟨w2,z2.sameBut hs hcc⟩
  ·obtain ⟨e,n,ne,nf,d⟩:=I.pin p hp
   refine ⟨(hs.2 p.1 ?_).trans e,n,ne,nf,d⟩
   intro q
   rw[q,hoc] at e
   have q':oc=p.2:=Option.some.inj e
   exact d w' (by rw[←q'];exact hocd)
theorem xM {M:Model} {A:Around} {E:Value→Shared→Prop} {i:Nat} {x:Str} {v:V} {u:Value} {Q:Unit→Shared→Prop} (I:Inv X pins σ H s) (hN:X.N.Nodup) (hi:X.N[i]?=some x) (hx:Loc X.env.scope x) (r:RelV v u)
  (h: ∀s',Inv X pins (σ.set i (some v)) H s'→Q () s') (hf:X.fn x=true∨X.env.scope.names.lookup x=some .local:=by first|exact .inl rfl|exact .inr rfl|assumption):wpAny M A (storeName X.env x u) Q E s:=
 uV I hN hi hx r (fun s' I' _=>h s' I') hf
theorem Inv.jT {s':Shared} {ch:List Addr} (I:Inv X pins σ H s) (ho:s'.os=s.os) (u:Un (bo X.stack) ch H H' s.heap s'.heap) (ao:bQ X.prog X.w H' s'.heap) (hg:AllBare s'.gens)
  (hch: ∀b∈ch,(b∈X.ex∨X.bB.heap.objs.size≤b)∧b≠X.env.locals∧(∀x c,X.env.cells.lookup x=some c→c≠b)∧ ∀p∈X.pn++pins,p.1≠b):Inv X pins σ H' s':=by
 obtain ⟨h',g',d',t',o'⟩:=s'
 have e:o'=s.os:=ho
 subst e
 exact I.call (g':=g') (t':=t') (d':=d') u ao hg hch
end
abbrev XK:=Value→Option Addr→Hp→Prop
abbrev St:=List (Option V)
abbrev VK:=V→Hp→Prop
abbrev TE:=St→Hp→VK→Prop
abbrev TT:=St→Hp→(Bool→Hp→Prop)→Prop
abbrev TA:=St→Hp→(List V→Hp→Prop)→Prop
structure Ends where
 nx:St→Hp→Prop
 rt:VK
 bk:St→Hp→Prop:=fun _ _=>False
 ct:St→Hp→Prop:=fun _ _=>False
abbrev TS:=Ends→St→Hp→Prop
def EP (X:Cx) (pins:List (Addr×Obj)) (σ:St) (Q:VK) (u:Value) (s':Shared):Prop:= ∃v H',Inv X pins σ H' s'∧RelV v u∧Q v H'
def TP (X:Cx) (pins:List (Addr×Obj)) (σ:St) (Q:Bool→Hp→Prop) (b:Bool) (s':Shared):Prop:= ∃H',Inv X pins σ H' s'∧Q b H'
def AP (X:Cx) (pins:List (Addr×Obj)) (σ:St) (Q:List V→Hp→Prop) (us:List Value) (s':Shared):Prop:= ∃vs H',Inv X pins σ H' s'∧Vals vs us∧Q vs H'
def SP (X:Cx) (pins:List (Addr×Obj)) (D:Ends) (f:Flow) (s':Shared):Prop:=
 match f with
 | .next=> ∃σ' H',Inv X pins σ' H' s'∧D.nx σ' H'
 | .brk=> ∃σ' H',Inv X pins σ' H' s'∧D.bk σ' H'
 | .cont=> ∃σ' H',Inv X pins σ' H' s'∧D.ct σ' H'
 | .ret u=> ∃v σ' H',Inv X pins σ' H' s'∧RelV v u∧D.rt v H'
def PE (X:Cx) (e:Expr) (t:TE):Prop:=
 ∀(pins:List (Addr×Obj)) (s:Shared) (σ:St) (H:Hp) (Q:VK),Inv X pins σ H s→t σ H Q→wpAny (model X.prog X.w) X.A (eval e X.env) (EP X pins σ Q) X.xe s
def PT (X:Cx) (e:Expr) (t:TT):Prop:=
 ∀(pins:List (Addr×Obj)) (s:Shared) (σ:St) (H:Hp) (Q:Bool→Hp→Prop),Inv X pins σ H s→t σ H Q→wpAny (model X.prog X.w) X.A (isTrue e X.env (eval e X.env)) (TP X pins σ Q) X.xe s
def PW (X:Cx) (e:Expr) (t:TT):Prop:=
 ∀(whole:Sem Value) (pins:List (Addr×Obj)) (s:Shared) (σ:St) (H:Hp) (Q:Bool→Hp→Prop),Inv X pins σ H s→t σ H Q→wpAny (model X.prog X.w) X.A (isTrue e X.env whole) (TP X pins σ Q) X.xe s
theorem PW.pt {X:Cx} {e:Expr} {t:TT} (h:PW X e t):PT X e t:=h _
def PA (X:Cx) (es:List Expr) (t:TA):Prop:=
 ∀(pos:Pos) (pins:List (Addr×Obj)) (s:Shared) (σ:St) (H:Hp) (Q:List V→Hp→Prop),Inv X pins σ H s→t σ H Q→wpAny (model X.prog X.w) X.A (spliced (backTo pos (starEach es X.env))) (AP X pins σ Q) X.xe s
def PS (X:Cx) (st:Stmt) (t:TS):Prop:=
 ∀(pins:List (Addr×Obj)) (s:Shared) (σ:St) (H:Hp) (D:Ends),Inv X pins σ H s→t D σ H→wpAny (model X.prog X.w) X.A (exec st X.env) (SP X pins D) X.xe s
def cS (X:Cx) (st:List Stmt) (t:TS):Prop:=
 ∀(pins:List (Addr×Obj)) (s:Shared) (σ:St) (H:Hp) (D:Ends),Inv X pins σ H s→t D σ H→wpAny (model X.prog X.w) X.A (execs st X.env) (SP X pins D) X.xe s
theorem aI {α:Type} {t:Sem α} {Q Q':α→Shared→Prop} {M:Model} {A:Around} {E:Value→Shared→Prop} {s:Shared} (h:wpAny M A t Q E s) (hQ: ∀a s,Q a s→Q' a s):wpAny M A t Q' E s:=wpAny_mono h hQ fun _ _ x=>x
end L2
namespace L2
open PySem PySem.Spec PyProof.Rows
section
variable {X:Cx}
def gJ (i:Nat):TE:=fun σ H Q=> ∃v,σ[i]?=some (some v)∧Q v H
def tC (v:V):TE:=fun _ H Q=>Q v H
theorem Kt {i:Nat} {x:Str} {pos:Pos} (hN:X.N[i]?=some x) (hv:lD X.env.scope x) (hd:(x==("__debug__" :Str))=false:=by decide) (hcd:(x==("__classdict__" :Str))=false:=by decide):PE X (.Name x pos) (gJ i):=by
 intro pins s σ H Q I h
 obtain ⟨v,e,h⟩:=h
 obtain ⟨m,hn,hl⟩:=I.loc
 obtain ⟨u,r,l⟩:=hl i x v hN e hv
 have fin:EP X pins σ Q u s:=⟨v,H,I,r,h⟩
 rcases l with ⟨hk,hm⟩|⟨hk,c,hc,hcell⟩
 ·exact wpAny_Name (wpAny_loadName_local I.ok.kind hk hn hm fin) hd
 ·rcases hk with hk|hk
  ·exact wpAny_Name (wpAny_loadName_cell I.ok.kind hk hc hcell fin) hd
  ·exact wpAny_Name (wpAny_loadName_free I.ok.kind hk hc hcell fin hcd) hd
theorem aq {i j pos}:PE X (.Constant (.int i) j pos) (tC (.int i)):=fun _ _ _ H _ I h=>wpAny_Constant_int ⟨.int i,H,I.tok _,⟨_,rfl⟩,h⟩
theorem Pa {b j pos}:PE X (.Constant (.bool b) j pos) (tC (.bl b)):=fun _ _ _ H _ I h=>Constant_bool ⟨.bl b,H,I,rfl,h⟩
theorem jA {j pos}:PE X (.Constant .none j pos) (tC .aw):=fun _ _ _ H _ I h=>Constant_none ⟨.aw,H,I,rfl,h⟩
def Gl (X:Cx) (x:Str):Prop:=X.env.kindOf x=some .globalImplicit
theorem kh {E:Value→Shared→Prop} {pins:List (Addr×Obj)} {s:Shared} {σ:St} {H:Hp} {x:Str} {u:Value} {pos:Pos} {Q:Value→Shared→Prop} (I:Inv X pins σ H s) (hg:Gl X x) (hm:X.mg x=some u) (h:Q u s)
  (hd:(x==("__debug__" :Str))=false:=by decide):wpAny (model X.prog X.w) X.A (eval (.Name x pos) X.env) Q E s:=
 Calls.Name_function_global I.ok.kind hg (Calls.loadGlobal_global (by rw[I.ok.glob];exact I.mod.glob.keeps I.bk) hm h) hd
theorem jm {E:Value→Shared→Prop} {pins:List (Addr×Obj)} {s:Shared} {σ:St} {H:Hp} {x:Str} {u:Value} {pos:Pos} {Q:Value→Shared→Prop} (I:Inv X pins σ H s) (hg:Gl X x) (hm:X.mg x=none) (hv:bootBuiltins x=some u) (h:Q u s)
  (hn:x≠ "__name__" :=by decide) (hd:(x==("__debug__" :Str))=false:=by decide):wpAny (model X.prog X.w) X.A (eval (.Name x pos) X.env) Q E s:=by
 obtain ⟨mb,h1,h2⟩:=I.mod.blt
 exact Calls.Name_function_global I.ok.kind hg (Calls.loadGlobal_builtin (by rw[I.ok.glob];exact I.mod.glob.keeps I.bk) hm (by rw[I.ok.blt];exact h1.keeps I.bk) ((h2 x hn).trans hv) h) hd
theorem BQ {x:Str} {v:V} {u:Value} {pos:Pos} (hg:Gl X x) (hm:X.mg x=some u) (r:RelV v u) (hd:(x==("__debug__" :Str))=false:=by decide):PE X (.Name x pos) (tC v):=
 fun _ _ _ H _ I h=>kh I hg hm ⟨v,H,I,r,h⟩ hd
variable {a b:Expr} {ta tb:TE} {pos:Pos}
def PC (X:Cx) (op:CmpOp) (a b:Expr) (t:TE):Prop:=
 ∀(pins:List (Addr×Obj)) (s:Shared) (σ:St) (H:Hp) (Q:VK),Inv X pins σ H s→t σ H Q→
  wpAny (model X.prog X.w) X.A (eval a X.env) (fun v s₁=>wpAny (model X.prog X.w) X.A (eval b X.env) (fun u s₂=>wpAny (model X.prog X.w) X.A (compareOp op v u) (EP X pins σ Q) X.xe s₂) X.xe s₁) X.xe s
theorem Th (b:Expr) {op:CmpOp} (h:op≠ .In) (h2:op≠ .NotIn):behindInMarks op b=false:=by
 have e1:(op==CmpOp.In)=false:=by cases op<;>first|rfl|exact absurd rfl h
 have e2:(op==CmpOp.NotIn)=false:=by cases op<;>first|rfl|exact absurd rfl h2
 cases b<;>simp [behindInMarks,e1,e2]
def Ik (ta:TE):TE:=fun σ H Q=>ta σ H fun x H1=>Q (.bl (!decide (x= .aw))) H1
theorem RelV.Oa {x:V} {v:Value} (r:RelV x v):(v==Value.none)=decide (x= .aw):=by
 cases x with
 |aw=>cases r;rfl
 |bl _=>cases r;rfl
 |int _=>obtain ⟨t,rfl⟩:=r;rfl
 |str _=>obtain ⟨t,rfl⟩:=r;rfl
 |dP _=>obtain ⟨t,rfl⟩:=r;rfl
 |nB _=>obtain ⟨t,rfl⟩:=r;rfl
 |ref _=>cases r;rfl
 |ty _=>cases r;rfl
theorem GH {j pos'} (ha:PE X a ta):PC X .IsNot a (.Constant .none j pos') (Ik ta):=by
 intro pins s σ H Q I h
 refine aI (ha pins s σ H _ I h) fun v s1 ⟨x,H1,I1,r1,q1⟩=>?_
 exact Constant_none (isnot_none_gen ⟨.bl _,H1,I1,by rw[r1.Oa];rfl,q1⟩)
def tB (t:TE):TT:=fun σ H Q=>t σ H fun x H1=> ∃c,x= .bl c∧Q c H1
theorem ID {op:CmpOp} {t:TE} (h:PC X op a b t) (h1:behindInMarks op b=false:=by first|exact Th _ (by decide) (by decide)|rfl):PT X (.Compare a [op] [b] pos) (tB t):=by
 intro pins s σ H Q I hw
 refine wpAny_isTrue_Compare1 (aI (h pins s σ H _ I hw) fun v s1 h1=>aI h1 fun u s2 h2=>aI h2 fun c s3 ⟨x,H1,I1,r1,q1⟩=>?_) h1
 obtain ⟨d,rfl,q⟩:=q1
 cases r1
 exact wpAny_truthy_bool ⟨H1,I1,q⟩
theorem iS {e:Expr} {t:TE} (h:PE X e t) (he: ∀whole,isTrue e X.env whole=(do let v←whole;standAt e.pos;holding [v] (truthy v)):=by intro _;rfl):PT X e (tB t):=by
 intro pins s σ H Q I hw
 refine isTrue_plain (aI (h pins s σ H _ I hw) fun v s1 ⟨x,H1,I1,r1,q1⟩=>?_) (he _)
 obtain ⟨d,rfl,q⟩:=q1
 cases r1
 exact wpAny_truthy_bool ⟨H1,I1,q⟩
variable {tA tB':TT} {rest:List Expr}
def NG (t u:TT):TT:=fun σ H Q=>t σ H fun c H1=>if c=true then Q true H1 else u σ H1 Q
def Ou (t:TT):TT:=fun σ H Q=>t σ H fun c H1=>Q (!c) H1
theorem rl (ha:PT X a tA):PW X (.BoolOp .Or [a] pos) tA:=by
 intro wh pins s σ H Q I h
 refine isTrue_or (aI (ha pins s σ H Q I h) fun c s1 e=>?_)
 cases c with
 |false=>exact isTrue_or_nil e
 |true=>exact e
theorem l9 (ha:PT X a tA) (hb:PW X (.BoolOp .Or (b::rest) pos) tB'):PW X (.BoolOp .Or (a::b::rest) pos) (NG tA tB'):=by
 intro wh pins s σ H Q I h
 refine isTrue_or (aI (ha pins s σ H _ I h) fun c s1 ⟨H1,I1,q1⟩=>?_)
 cases c with
 |true=>exact ⟨H1,I1,q1⟩
 |false=>exact hb wh pins s1 σ H1 Q I1 q1
theorem jh (ha:PT X a tA):PT X (.UnaryOp .Not a pos) (Ou tA):=by
 intro pins s σ H Q I h
 exact isTrue_not (ha pins s σ H (fun c H1=>Q (!c) H1) I h)
def Ij (ta tb:TE):TE:=fun σ H Q=>ta σ H fun x H1=> ∃c,x= .bl c∧if c=true then tb σ H1 Q else Q (.bl false) H1
def Ro (ta tb:TE):TE:=fun σ H Q=>ta σ H fun x H1=> ∃c,x= .bl c∧if c=true then Q (.bl true) H1 else tb σ H1 Q
theorem wA {op} {t:TE} (h:PE X a t):PE X (.BoolOp op [a] pos) t:=fun pins s σ H Q I hw=>BoolOp_one (h pins s σ H Q I hw)
theorem xP (ha:PE X a ta) (hb:PE X (.BoolOp .And (b::rest) pos) tb):PE X (.BoolOp .And (a::b::rest) pos) (Ij ta tb):=by
 intro pins s σ H Q I h
 refine BoolOp_and (aI (ha pins s σ H _ I h) fun v s1 ⟨x,H1,I1,r1,q1⟩=>?_)
 obtain ⟨c,rfl,q1⟩:=q1
 cases r1
 refine wpAny_truthy_bool ?_
 cases c with
 |true=>exact hb pins s1 σ H1 Q I1 q1
 |false=>exact ⟨.bl false,H1,I1,rfl,q1⟩
theorem NW (ha:PE X a ta) (hb:PE X (.BoolOp .Or (b::rest) pos) tb):PE X (.BoolOp .Or (a::b::rest) pos) (Ro ta tb):=by
 intro pins s σ H Q I h
 refine BoolOp_or (aI (ha pins s σ H _ I h) fun v s1 ⟨x,H1,I1,r1,q1⟩=>?_)
 obtain ⟨c,rfl,q1⟩:=q1
 cases r1
 refine wpAny_truthy_bool ?_
 cases c with
 |false=>exact hb pins s1 σ H1 Q I1 q1
 |true=>exact ⟨.bl true,H1,I1,rfl,q1⟩
def Mj (t:TT) (ta tb:TE):TE:=fun σ H Q=>t σ H fun c H1=>if c=true then ta σ H1 Q else tb σ H1 Q
theorem lA {c:Expr} (hc:PT X c tA) (ha:PE X a ta) (hb:PE X b tb):PE X (.IfExp c a b pos) (Mj tA ta tb):=by
 intro pins s σ H Q I h
 refine wpAny_IfExp (aI (hc pins s σ H _ I h) fun d s1 ⟨H1,I1,q1⟩=>?_)
 cases d with
 |true=>exact ha pins s1 σ H1 Q I1 q1
 |false=>exact hb pins s1 σ H1 Q I1 q1
end
end L2
namespace L2
open PySem PySem.Spec PyProof.Rows
def ah (K:PySem.W.Frag) (H:Hp) (a:Addr) (xs:List V):Prop:=
 Rd H a (.lst xs)∨
  ∃(o:Obj) (its:Array Value) (n:Nat),K.lookup a=some o∧o.cls= .type "list" ∧o.dict=none∧o.data= .seq its n∧its.size≤sizeLine∧Vals xs its.toList
def a8 (K:PySem.W.Frag) (H:Hp) (a:Addr) (xs:List V):Prop:=
 Rd H a (.tup xs)∨
  ∃(o:Obj) (its:Array Value) (n:Nat),K.lookup a=some o∧o.cls= .type "tuple" ∧o.data= .seq its n∧its.size≤sizeLine∧Vals xs its.toList
def NS:Value→Option V
 | .none=>some .aw
 | .bool b=>some (.bl b)
 | .int i _=>some (.int i)
 | .str x _=>some (.str x)
 | .bytes b _=>some (.dP b)
 | .float b _=>some (.nB b)
 | .ref a=>some (.ref a)
 | .type n=>some (.ty n)
 |_=>none
theorem RelV.abs {x:V} {u:Value} (r:RelV x u):NS u=some x:=by
 cases x with
 |aw=>cases r;rfl
 |bl _=>cases r;rfl
 |int _=>obtain ⟨t,rfl⟩:=r;rfl
 |str _=>obtain ⟨t,rfl⟩:=r;rfl
 |dP _=>obtain ⟨t,rfl⟩:=r;rfl
 |nB _=>obtain ⟨t,rfl⟩:=r;rfl
 |ref _=>cases r;rfl
 |ty _=>cases r;rfl
theorem RelV.inj {x y:V} {u:Value} (r:RelV x u) (q:RelV y u):x=y:=Option.some.inj (r.abs.symm.trans q.abs)
theorem Vals.inj: ∀{xs ys:List V} {us:List Value},Vals xs us→Vals ys us→xs=ys
 |_,_,_, .nil, .nil=>rfl
 |_,_,_, .cons r t, .cons r' t'=>by rw[r.inj r',Vals.inj t t']
section
variable {X:Cx} {pins:List (Addr×Obj)} {σ:St} {H:Hp} {s:Shared} {a:Addr} {xs ys:List V}
theorem ah.of {K:PySem.W.Frag} (h:H a=some (.lst xs)):ah K H a xs:= .inl (.inl h)
theorem a8.of {K:PySem.W.Frag} (h:H a=some (.tup xs)):a8 K H a xs:= .inl (.inl h)
theorem Inv.list (I:Inv X pins σ H s) (h:ah X.K H a xs): ∃its:List Value,Vals xs its∧PlainL s.heap a its.toArray∧xs.length≤sizeLine:=by
 rcases h with h|⟨o,its,n,hk,hc,hd,hs,hz,r⟩
 ·obtain ⟨z,its,n,r,e⟩:=h.ok I.ao
  exact ⟨its,r,⟨_,n,e,rfl,rfl,rfl⟩,z⟩
 ·refine ⟨its.toList,r,⟨o,n,I.b7 a o hk,hc,hd,by simpa using hs⟩,?_⟩
  have e:=r.length
  simp only [Array.length_toList] at e
  omega
theorem Inv.tuple (I:Inv X pins σ H s) (h:a8 X.K H a xs): ∃its:List Value,Vals xs its∧IsTup s.heap a its.toArray∧xs.length≤sizeLine:=by
 rcases h with h|⟨o,its,n,hk,hc,hs,hz,r⟩
 ·obtain ⟨z,its,r,p⟩:=h.ok I.ao
  exact ⟨its,r,p,z⟩
 ·refine ⟨its.toList,r,⟨o,I.b7 a o hk,hc,n,by simpa using hs⟩,?_⟩
  have e:=r.length
  simp only [Array.length_toList] at e
  omega
theorem Inv.pW (I:Inv X pins σ H s) (h:ah X.K H a xs) (h':ah X.K H a ys):xs=ys:=by
 obtain ⟨its,r,⟨o,n,e,_,_,d⟩,_⟩:=I.list h
 obtain ⟨its',r',⟨o',n',e',_,_,d'⟩,_⟩:=I.list h'
 rw[e] at e';cases e'
 rw[d] at d'
 injection d' with d1 _
 have:its=its':=by simpa using congrArg Array.toList d1
 subst this
 exact r.inj r'
theorem Inv.Eb (I:Inv X pins σ H s) (h:a8 X.K H a xs) (h':a8 X.K H a ys):xs=ys:=by
 obtain ⟨its,r,⟨o,e,_,n,d⟩,_⟩:=I.tuple h
 obtain ⟨its',r',⟨o',e',_,n',d'⟩,_⟩:=I.tuple h'
 rw[e] at e';cases e'
 rw[d] at d'
 injection d' with d1 _
 have:its=its':=by simpa using congrArg Array.toList d1
 subst this
 exact r.inj r'
end
abbrev Cx.bP (X:Cx) (E:Value→Shared→Prop):Cx:={X with xe:=E}
abbrev Cx.ux (X:Cx):Cx:=X.bP fun _ _=>False
theorem Cx.Ok.bP {X:Cx} (ok:X.Ok) (E:Value→Shared→Prop):(X.bP E).Ok:=
 ⟨ok.mod,ok.kind,ok.glob,ok.blt,ok.above,ok.inj,ok.has,ok.il,ok.hd,ok.frames,ok.jv,ok.gW,ok.bs,ok.eW,ok.eR,ok.ic,ok.dq,ok.fV⟩
theorem Cx.Ok.jc {X:Cx} {E:Value→Shared→Prop} (ok:(X.bP E).Ok):X.Ok:=
 ⟨ok.mod,ok.kind,ok.glob,ok.blt,ok.above,ok.inj,ok.has,ok.il,ok.hd,ok.frames,ok.jv,ok.gW,ok.bs,ok.eW,ok.eR,ok.ic,ok.dq,ok.fV⟩
section
variable {X:Cx} {pins:List (Addr×Obj)} {σ:St} {H:Hp} {s:Shared} {E:Value→Shared→Prop}
theorem Inv.bP (I:Inv X pins σ H s) (E:Value→Shared→Prop):Inv (X.bP E) pins σ H s:=⟨I.ok.bP E,I.os,I.bare,I.base,I.loc,I.cell,I.free,I.dN,I.pin,I.ao,I.len⟩
theorem Inv.jc (I:Inv (X.bP E) pins σ H s):Inv X pins σ H s:=⟨I.ok.jc,I.os,I.bare,I.base,I.loc,I.cell,I.free,I.dN,I.pin,I.ao,I.len⟩
theorem SP.jc {D:Ends} {f:Flow} {s':Shared} (h:SP (X.bP E) pins D f s'):SP X pins D f s':=by
 cases f with
 |next=>obtain ⟨σ',H',I,q⟩:=h;exact ⟨σ',H',I.jc,q⟩
 |brk=>obtain ⟨σ',H',I,q⟩:=h;exact ⟨σ',H',I.jc,q⟩
 |cont=>obtain ⟨σ',H',I,q⟩:=h;exact ⟨σ',H',I.jc,q⟩
 |ret u=>obtain ⟨v,σ',H',I,r,q⟩:=h;exact ⟨v,σ',H',I.jc,r,q⟩
theorem cS.ux {st:List Stmt} {t:TS} (h:cS X.ux st t):cS X st t:=fun pins s σ H D I hw=>
 wpAny_mono (h pins s σ H D (I.bP _) hw) (fun _ _ q=>q.jc) fun _ _ z=>False.elim z
end
section
variable {X:Cx} {st:Stmt} {rest:List Stmt} {t u:TS} {e:Expr} {te:TE} {pos:Pos}
def JS:TS:=fun D σ H=>D.nx σ H
def JK (t u:TS):TS:=fun D σ H=>t {D with nx:=u D} σ H
theorem br:cS X [] JS:=fun _ _ σ H _ I h=>wpAny_execs_nil ⟨σ,H,I,h⟩
theorem ai (h1:PS X st t) (h2:cS X rest u):cS X (st::rest) (JK t u):=by
 intro pins s σ H D I h
 refine wpAny_execs_cons (aI (h1 pins s σ H {D with nx:=u D} I h) fun f s1 q=>?_)
 cases f with
 |next=>
  obtain ⟨σ',H',I',q⟩:=q
  exact h2 pins s1 σ' H' D I' q
 |ret v=>exact q
 |brk=>exact q
 |cont=>exact q
theorem ak (h1:PS X st t):cS X [st] t:=by
 intro pins s σ H D I h
 refine wpAny_execs_cons (aI (h1 pins s σ H D I h) fun f s1 q=>?_)
 cases f with
 |next=>exact wpAny_execs_nil q
 |ret v=>exact q
 |brk=>exact q
 |cont=>exact q
theorem Inv.quiet {pins:List (Addr×Obj)} {σ:St} {H:Hp} {s:Shared} (I:Inv X pins σ H s):interactive X.env=false:=by simp [interactive,I.ok.kind]
def zw (te:TE):TS:=fun D σ H=>te σ H fun _ H1=>D.nx σ H1
theorem ba (he:PE X e te) (hs:swapsWith e none pos.line X.env=pure false:=by rfl):PS X (.Expr e pos) (zw te):=by
 intro pins s σ H D I h
 exact wpAny_Expr_any (aI (he pins s σ H _ I h) fun v s1 ⟨x,H1,I1,r1,q1⟩=>⟨σ,H1,I1,q1⟩) I.quiet hs
def Bz (te:TE):TS:=fun D σ H=>te σ H D.rt
theorem aX (he:PE X e te):PS X (.Return (some e) pos) (Bz te):=by
 intro pins s σ H D I h
 exact wpAny_Return_some (aI (he pins s σ H _ I h) fun v s1 ⟨x,H1,I1,r1,q1⟩=>⟨x,σ,H1,I1,r1,q1⟩)
def Ob:TS:=fun D _ H=>D.rt .aw H
theorem QR:PS X (.Return none pos) Ob:=fun _ _ σ H _ I h=>wpAny_Return_none ⟨.aw,σ,H,I,rfl,h⟩
def Kx (c:TT) (t u:TS):TS:=fun D σ H=>c σ H fun b H1=>if b=true then t D σ H1 else u D σ H1
theorem bg {c:Expr} {a b:List Stmt} {tc:TT} (hc:PT X c tc) (ha:cS X a t) (hb:cS X b u):PS X (.If c a b pos) (Kx tc t u):=by
 intro pins s σ H D I h
 refine wpAny_If (aI (hc pins s σ H _ I h) fun d s1 ⟨H1,I1,q1⟩=>?_)
 cases d with
 |true=>exact ha pins s1 σ H1 D I1 q1
 |false=>exact hb pins s1 σ H1 D I1 q1
end
abbrev TG:=V→St→Hp→(St→Hp→Prop)→Prop
abbrev iY:=List V→St→Hp→(St→Hp→Prop)→Prop
def PG (X:Cx) (target:Expr) (t:TG):Prop:=
 ∀(pins:List (Addr×Obj)) (s:Shared) (σ:St) (H:Hp) (v:V) (u:Value) (Q:St→Hp→Prop),Inv X pins σ H s→RelV v u→t v σ H Q→
  wpAny (model X.prog X.w) X.A (assign target X.env u) (fun _ s'=> ∃σ' H',Inv X pins σ' H' s'∧Q σ' H') X.xe s
def p5 (X:Cx) (ts:List Expr) (t:iY):Prop:=
 ∀(pins:List (Addr×Obj)) (s:Shared) (σ:St) (H:Hp) (vs:List V) (us:List Value) (Q:St→Hp→Prop),Inv X pins σ H s→Vals vs us→t vs σ H Q→
  wpAny (model X.prog X.w) X.A (assignInOrder ((assignEach ts X.env).map (·.2)) us) (fun _ s'=> ∃σ' H',Inv X pins σ' H' s'∧Q σ' H') X.xe s
abbrev vP:=V→V→Hp→VK→Prop
def M6 (X:Cx) (op:Operator) (t:vP):Prop:=
 ∀(pins:List (Addr×Obj)) (s:Shared) (σ:St) (H:Hp) (x y:V) (v u:Value) (Q:VK),Inv X pins σ H s→RelV x v→RelV y u→t x y H Q→
  wpAny (model X.prog X.w) X.A (inplaceOp op v u) (EP X pins σ Q) X.xe s
section
variable {X:Cx} {pos:Pos}
def jK (i:Nat):TG:=fun v σ H Q=>Q (σ.set i (some v)) H
theorem bq {i:Nat} {x:Str} (hN:X.N.Nodup) (hi:X.N[i]?=some x) (hx:Loc X.env.scope x) (hf:X.fn x=true∨X.env.scope.names.lookup x=some .local:=by first|exact .inl rfl|exact .inr rfl|assumption):PG X (.Name x pos) (jK i):=by
 intro pins s σ H v u Q I r h
 exact wpAny_assign_Name (xM I hN hi hx r (fun s' I'=>⟨_,H,I',h⟩) hf)
def Q0:iY:=fun vs σ H Q=>vs= []∧Q σ H
def QI (t:TG) (u:iY):iY:=fun vs σ H Q=> ∃v r,vs=v::r∧t v σ H fun σ' H'=>u r σ' H' Q
theorem mY:p5 X [] Q0:=by
 intro pins s σ H vs us Q I r h
 obtain ⟨e,h⟩:=h
 subst e
 cases r
 exact assignInOrder_nil ⟨σ,H,I,h⟩
theorem gX {e:Expr} {es:List Expr} {t:TG} {u:iY} (h1:PG X e t) (h2:p5 X es u)
  (hs:(assignEach (e::es) X.env).map (·.2)=assign e X.env::(assignEach es X.env).map (·.2):=by rfl):p5 X (e::es) (QI t u):=by
 intro pins s σ H vs us Q I r h
 obtain ⟨v,vr,e1,h⟩:=h
 subst e1
 cases r with
 |cons r rr=>
  rw[hs]
  refine assignInOrder_cons (aI (h1 pins s σ H _ _ _ I r h) fun _ s1 ⟨σ1,H1,I1,q1⟩=>?_)
  exact h2 pins s1 σ1 H1 _ _ Q I1 rr q1
def zB (K:PySem.W.Frag) (n:Nat) (t:iY):TG:=fun v σ H Q=> ∃a xs,v= .ref a∧a8 K H a xs∧xs.length=n∧t xs σ H Q
theorem K7 {es:List Expr} {k:Nat} {t:iY} {n:Nat} (hc:X.calm=true) (h:p5 X es t)
  (hn:(assignEach es X.env).length=n:=by rfl) (hst:(assignEach es X.env).findIdx? (·.1)=none:=by rfl):PG X (.Tuple es k pos) (zB X.K n t):=by
 intro pins s σ H v u Q I r hw
 obtain ⟨a,xs,e1,hq,hl,hw⟩:=hw
 subst e1
 cases r
 obtain ⟨its,rv,ht,hz⟩:=I.tuple hq
 refine assign_Tuple_tuple (I.ok.hd hc) ht (by simp [hn,←hl,rv.length]) hst fun h' hx=>?_
 have I1:Inv X pins σ H {s with heap:=h'}:=I.kept (t':=s.toks) fun b o e=>hx b o (Nat.ne_of_lt (Heap.lt_size e)) e
 exact h pins _ σ H xs _ Q I1 (by simpa using rv) hw
def wC (te:TE) (g:TG):TS:=fun D σ H=>te σ H fun x H1=>g x σ H1 D.nx
theorem aJ {i:Nat} {x:Str} {e:Expr} {te:TE} {pos':Pos} (hN:X.N.Nodup) (hi:X.N[i]?=some x) (hx:Loc X.env.scope x) (he:PE X e te) (hs:swapsWith e (some (.Name x pos')) pos.line X.env=pure false:=by rfl) (hf:X.fn x=true∨X.env.scope.names.lookup x=some .local:=by first|exact .inl rfl|exact .inr rfl|assumption):
  PS X (.Assign [.Name x pos'] e pos) (wC te (jK i)):=by
 intro pins s σ H D I h
 refine wpAny_Assign_Name (aI (he pins s σ H _ I h) fun v s1 ⟨y,H1,I1,r1,q1⟩=>?_) hs
 exact xM I1 hN hi hx r1 (fun s2 I2=>⟨_,H1,I2,q1⟩) hf
def Kz (i:Nat) (te:TE) (ti:vP):TS:=fun D σ H=> ∃x,σ[i]?=some (some x)∧te σ H fun y H1=>ti x y H1 fun z H2=>D.nx (σ.set i (some z)) H2
theorem iO {i:Nat} {x:Str} {e:Expr} {te:TE} {op:Operator} {ti:vP} {pos':Pos} (hN:X.N.Nodup) (hi:X.N[i]?=some x) (hx:Loc X.env.scope x) (he:PE X e te) (ho:M6 X op ti) (hf:X.fn x=true∨X.env.scope.names.lookup x=some .local:=by first|exact .inl rfl|exact .inr rfl|assumption):
  PS X (.AugAssign (.Name x pos') op e pos) (Kz i te ti):=by
 intro pins s σ H D I h
 obtain ⟨v,e1,h⟩:=h
 obtain ⟨m,hn,hl⟩:=I.loc
 have vis:lD X.env.scope x:=by rcases hx with k|k;exact .inl k;exact .inr (.inl k)
 obtain ⟨u,r,l⟩:=hl i x v hi e1 vis
 refine wpAny_AugAssign_Name ?_
 have go:wpAny (model X.prog X.w) X.A (eval e X.env) (fun w s₂=>wpAny (model X.prog X.w) X.A (inplaceOp op u w) (fun r s₃=>wpAny (model X.prog X.w) X.A (storeName X.env x r) (fun _=>SP X pins D .next) X.xe s₃) X.xe s₂) X.xe s:=by
  refine aI (he pins s σ H _ I h) fun w s1 ⟨y,H1,I1,r1,q1⟩=>?_
  refine aI (ho pins s1 σ H1 v y u w _ I1 r r1 q1) fun z s2 ⟨zv,H2,I2,r2,q2⟩=>?_
  exact xM I2 hN hi hx r2 (fun s3 I3=>⟨_,H2,I3,q2⟩) hf
 rcases l with ⟨hk,hm⟩|⟨hk,c,hc,hcell⟩
 ·exact wpAny_loadName_local I.ok.kind hk hn hm go
 ·rcases hk with hk|hk
  ·exact wpAny_loadName_cell I.ok.kind hk hc hcell go
  ·rcases hx with k|k
   ·have:X.env.scope.names.lookup x=some .free:=hk
    rw[k] at this;cases this
   ·have:X.env.scope.names.lookup x=some .free:=hk
    rw[k] at this;cases this
end
section
variable {X:Cx} {pos:Pos}
def Fe (c:TT) (tb:TS):TS:=fun D σ H=> ∃W:Nat→St→Hp→Prop,(∃m,W m σ H)∧ ∀m σ H,W m σ H→
 c σ H fun b H1=>if b=true then∃N:St→Hp→Prop,(∀σ' H',N σ' H'→ ∃m',m'<m∧W m' σ' H')∧tb {D with nx:=N,ct:=N,bk:=D.nx} σ H1 else D.nx σ H1
theorem Du {c:Expr} {body:List Stmt} {tc:TT} {tb:TS} (hp:PassesOwn (model X.prog X.w) X.A X.env X.xe) (hc:PT X c tc) (hb:cS X body tb):PS X (.While c body [] pos) (Fe tc tb):=by
 intro pins s σ H D I h
 obtain ⟨W,⟨m0,w0⟩,turn⟩:=h
 refine wpAny_While (codeAny_whileLoop (fun n s'=> ∃σ' H',Inv X pins σ' H' s'∧W n σ' H') ?_ m0 ⟨σ,H,I,w0⟩)
 rintro n s1 ⟨σ1,H1,I1,w1⟩
 refine wpAny_passesOwn hp (aI (hc pins s1 σ1 H1 _ I1 (turn n σ1 H1 w1)) fun b s2 ⟨H2,I2,q2⟩=>?_)
 cases b with
 |true=>
  obtain ⟨N,hN,q2⟩:=q2
  rw[if_pos rfl]
  refine wpAny_passesOwn hp (aI (hb pins s2 σ1 H2 _ I2 q2) fun f s3 q3=>?_)
  cases f with
  |next=>
   obtain ⟨σ3,H3,I3,n3⟩:=q3
   obtain ⟨m',hm,w3⟩:=hN σ3 H3 n3
   exact ⟨m',hm,σ3,H3,I3,w3⟩
  |cont=>
   obtain ⟨σ3,H3,I3,n3⟩:=q3
   obtain ⟨m',hm,w3⟩:=hN σ3 H3 n3
   exact ⟨m',hm,σ3,H3,I3,w3⟩
  |brk=>exact q3
  |ret v=>exact q3
 |false=>
  rw[if_neg Bool.false_ne_true]
  exact wpAny_execs_nil ⟨σ1,H2,I2,q2⟩
end
structure It where
 go:Nat→Hp→Prop
 eI:Nat→Hp→V→Hp→Prop
 stop:Nat→Hp→Prop
def eG (X:Cx) (pins:List (Addr×Obj)) (H:Hp) (b:Addr):Prop:=
 H b=none∧b≠X.env.locals∧b∉X.fs∧(b∈X.ex∨X.bB.heap.objs.size≤b)∧(∀x c,X.env.cells.lookup x=some c→c≠b)∧ ∀p∈X.pn++pins,p.1≠b
theorem Inv.gG {X:Cx} {pins:List (Addr×Obj)} {σ:St} {H H':Hp} {s:Shared} {b:Addr} (I:Inv X pins σ H s) (hb:s.heap.objs.size≤b) (hn:H' b=none):eG X pins H' b:=by
 refine ⟨hn,Nat.ne_of_gt (Nat.lt_of_lt_of_le I.lt hb),I.G0 hb, .inr (Nat.le_trans I.sz hb),fun x c e z=>?_,fun p hp z=>?_⟩
 ·obtain ⟨v,q⟩:=I.cell x c e
  exact absurd (Nat.lt_of_lt_of_le q.lt (by rw[z];exact hb)) (Nat.lt_irrefl _)
 ·exact absurd (Nat.lt_of_lt_of_le (Heap.lt_size (I.pin p hp).1) (by rw[z];exact hb)) (Nat.lt_irrefl _)
structure Turn (P:Program) (w:World) (K:PySem.W.Frag) (tg:Expr) (J:It) (fp:List Addr) (it:Addr) (tn:Nat→Heap→Prop):Prop where
 mem:it∈fp
 obj: ∀i h,tn i h→ ∀b∈fp,∃o,h.get? b=some o∧ ∀v,o.data≠ .cell v
 keep: ∀i h h',tn i h→(∀b∈fp,∀o,h.get? b=some o→h'.get? b=some o)→tn i h'
 item: ∀(X:Cx),X.prog=P→X.w=w→X.K=K→X.calm=true→ ∀(i:Nat) (pins:List (Addr×Obj)) (s:Shared) (σ:St) (H:Hp) (E:Value→Shared→Prop),Inv X pins σ H s→(∀b∈fp,eG X pins H b)→tn i s.heap→J.go i H→
  wpAny (model P w) X.A (pyNext (.ref it)) (fun r s1=> ∃u,r=some u∧
   wpAny (model P w) X.A (letOwnedTupleGo tg (.ref it) u) (fun _ s2=> ∃x H',Inv X pins σ H' s2∧RelV x u∧J.eI i H x H'∧tn (i+1) s2.heap∧ ∀b∈fp,H' b=none) E s1) E s
 done: ∀(X:Cx),X.prog=P→X.w=w→X.K=K→X.calm=true→ ∀(i:Nat) (pins:List (Addr×Obj)) (s:Shared) (σ:St) (H:Hp) (E:Value→Shared→Prop),Inv X pins σ H s→(∀b∈fp,eG X pins H b)→tn i s.heap→J.stop i H→
  wpAny (model P w) X.A (pyNext (.ref it)) (fun r s1=>r=none∧Inv X pins σ H s1) E s
 self: ∀(A:Around) (i:Nat) (s:Shared) (Q:Value→Shared→Prop) (E:Value→Shared→Prop),tn i s.heap→Q (.ref it) s→wpAny (model P w) A (pyIter (.ref it)) Q E s
abbrev TI:=St→Hp→(It→Hp→Prop)→Prop
def vD (X:Cx) (pins:List (Addr×Obj)) (σ:St) (tg:Expr) (R:It→Hp→Prop) (itv:Value) (s2:Shared):Prop:=
 ∃(it:Addr) (fp:List Addr) (tn:Nat→Heap→Prop) (J:It) (H':Hp),itv= .ref it∧Inv X pins σ H' s2∧Turn X.prog X.w X.K tg J fp it tn∧tn 0 s2.heap∧(∀b∈fp,eG X pins H' b)∧R J H'
def PI (X:Cx) (tg iter:Expr) (wi:TI):Prop:=
 ∀(pins:List (Addr×Obj)) (s:Shared) (σ:St) (H:Hp) (R:It→Hp→Prop),Inv X pins σ H s→wi σ H R→
  wpAny (model X.prog X.w) X.A (eval iter X.env) (fun v s1=>wpAny (model X.prog X.w) X.A (pyIter v) (vD X pins σ tg R) X.xe s1) X.xe s
theorem tX {M:Model} {A:Around} {E:Value→Shared→Prop} {s:Shared} {tg:Expr} {it:Addr} {u:Value} {o:Obj} {n:String} {vs:Array Value} {Q:Unit→Shared→Prop} (ho:s.heap.get? it=some o) (hc:o.cls= .type n) (hd:o.data= .fields vs)
  (hn: ["enumerate", "zip", "dict_itemiterator", "dict_reverseitemiterator", "odict_iterator", "itertools.zip_longest", "itertools.pairwise"].contains n=false) (hQ:Q () s):wpAny M A (letOwnedTupleGo tg (.ref it) u) Q E s:=by
 unfold letOwnedTupleGo
 cases tg<;>first
  |exact wpAny_pure hQ
  |(cases u<;>first
    |exact wpAny_pure hQ
    |(refine wpAny_bind (wpAny_load ho ?_)
      rw[hc,hd]
      show wpAny M A (if (["enumerate", "zip", "dict_itemiterator", "dict_reverseitemiterator", "odict_iterator", "itertools.zip_longest", "itertools.pairwise"].contains n&&vs[0]?==some (rawInt _))=true then _ else _) Q E s
      rw[if_neg (by intro h;rw[hn,Bool.false_and] at h;cases h)]
      exact wpAny_pure hQ))
def eM (K:PySem.W.Frag) (a:Addr):It:=
 ⟨fun i H=> ∃xs x,ah K H a xs∧xs[i]?=some x,fun i H x H'=>H'=H∧ ∀xs,ah K H a xs→xs[i]?=some x,fun i H=> ∃xs,ah K H a xs∧xs.length≤i⟩
def qN (K:PySem.W.Frag) (a:Addr):It:=
 ⟨fun i H=> ∃xs x,a8 K H a xs∧xs[i]?=some x,fun i H x H'=>H'=H∧ ∀xs,a8 K H a xs→xs[i]?=some x,fun i H=> ∃xs,a8 K H a xs∧xs.length≤i⟩
def jO (lo:Int) (n:Nat):It:=⟨fun i _=>i<n,fun i H x H'=>H'=H∧x= .int (lo+i),fun i _=>n≤i⟩
theorem PH {P:Program} {w:World} {K:PySem.W.Frag} {tg:Expr} (a it:Addr):Turn P w K tg (eM K a) [it] it (fun i h=>h.IsListIter it a i) where
 mem:=by simp
 obj:=fun i h st b hb=>by
  have e:b=it:=by simpa using hb
  subst e
  obtain ⟨o,e,c,d⟩:=st
  exact ⟨o,e,fun v z=>by rw[d] at z;cases z⟩
 keep:=fun i h h' st k=>st.at fun o e=>k it (by simp) o e
 item:=by
  intro X hP hw hK hc i pins s σ H E I hf st hg
  subst hP hw hK
  obtain ⟨xs,x,hq,hx⟩:=hg
  obtain ⟨its,rv,p,hz⟩:=I.list hq
  obtain ⟨u,hu,ru⟩:=rv.get hx
  obtain ⟨f0,f1,f2,f3,f4,f5⟩:=hf it (by simp)
  refine wpAny_pyNext_list_item st p.isList (x:=u) (by simpa using hu) fun h' st' sb=>?_
  have I1:Inv X pins σ H {s with heap:=h'}:=I.turned (t':=s.toks) (fun b o hb e=>(sb.2 b hb).trans e) f0 f1 f3 f4 f5
  obtain ⟨o,e,c,d⟩:=id st'
  exact ⟨u,rfl,tX (s:={s with heap:=h'}) e c d (by decide) ⟨x,H,I1,ru,⟨rfl,fun ys hy=>by rw[I.pW hy hq];exact hx⟩,st',fun b hb=>(hf b hb).1⟩⟩
 done:=by
  intro X hP hw hK hc i pins s σ H E I hf st hg
  subst hP hw hK
  obtain ⟨xs,hq,hx⟩:=hg
  obtain ⟨its,rv,p,hz⟩:=I.list hq
  obtain ⟨f0,f1,f2,f3,f4,f5⟩:=hf it (by simp)
  have hl:=rv.length
  exact wpAny_pyNext_list_end (I.ok.hd hc) st p.isList (by simp;omega) fun h' eb=>⟨rfl,I.turned (t':=s.toks) (fun b o hb e=>eb b o hb e) f0 f1 f3 f4 f5⟩
 self:=fun _ _ _ _ _ st h=>wpAny_pyIter_listiter st h
theorem Nv {P:Program} {w:World} {K:PySem.W.Frag} {tg:Expr} (a it:Addr):Turn P w K tg (qN K a) [it] it (fun i h=>h.IsTupleIter it a i) where
 mem:=by simp
 obj:=fun i h st b hb=>by
  have e:b=it:=by simpa using hb
  subst e
  obtain ⟨o,e,c,d⟩:=st
  exact ⟨o,e,fun v z=>by rw[d] at z;cases z⟩
 keep:=fun i h h' st k=>st.at fun o e=>k it (by simp) o e
 item:=by
  intro X hP hw hK hc i pins s σ H E I hf st hg
  subst hP hw hK
  obtain ⟨xs,x,hq,hx⟩:=hg
  obtain ⟨its,rv,p,hz⟩:=I.tuple hq
  obtain ⟨u,hu,ru⟩:=rv.get hx
  obtain ⟨f0,f1,f2,f3,f4,f5⟩:=hf it (by simp)
  refine wpAny_pyNext_tuple_item st (show s.heap.IsTuple a its.toArray from p) (x:=u) (by simpa using hu) fun h' st' sb=>?_
  have I1:Inv X pins σ H {s with heap:=h'}:=I.turned (t':=s.toks) (fun b o hb e=>(sb.2 b hb).trans e) f0 f1 f3 f4 f5
  obtain ⟨o,e,c,d⟩:=id st'
  exact ⟨u,rfl,tX (s:={s with heap:=h'}) e c d (by decide) ⟨x,H,I1,ru,⟨rfl,fun ys hy=>by rw[I.Eb hy hq];exact hx⟩,st',fun b hb=>(hf b hb).1⟩⟩
 done:=by
  intro X hP hw hK hc i pins s σ H E I hf st hg
  subst hP hw hK
  obtain ⟨xs,hq,hx⟩:=hg
  obtain ⟨its,rv,p,hz⟩:=I.tuple hq
  obtain ⟨f0,f1,f2,f3,f4,f5⟩:=hf it (by simp)
  have hl:=rv.length
  exact wpAny_pyNext_tuple_end (I.ok.hd hc) st (show s.heap.IsTuple a its.toArray from p) (by simp;omega) fun h' eb=>⟨rfl,I.turned (t':=s.toks) (fun b o hb e=>eb b o hb e) f0 f1 f3 f4 f5⟩
 self:=fun _ _ _ _ _ st h=>wpAny_pyIter_tupleiter st h
theorem GZ {P:Program} {w:World} {K:PySem.W.Frag} {tg:Expr} (it:Addr) (lo:Int) (n:Nat):Turn P w K tg (jO lo n) [it] it (fun i h=>IsRangeIter h it (lo+(i:Nat)*1) ((n:Int)-(i:Nat)) 1) where
 mem:=by simp
 obj:=fun i h st b hb=>by
  have e:b=it:=by simpa using hb
  subst e
  exact ⟨_,st,fun v z=>by
   have z':Data.fields _=Data.cell v:=z
   cases z'⟩
 keep:=fun i h h' st k=>k it (by simp) _ st
 item:=by
  intro X hP hw hK hc i pins s σ H E I hf st hg
  subst hP hw hK
  obtain ⟨f0,f1,f2,f3,f4,f5⟩:=hf it (by simp)
  have W:=Walks.range (prog:=X.prog) (w:=X.w) (I.ok.hd hc) it lo 1 n
  refine W.item i s _ _ hg st fun v h' tk hv st' kk=>?_
  obtain ⟨t,rfl⟩:=hv
  have I1:Inv X pins σ H {s with heap:=h',toks:=tk}:=I.turned (fun b o hb e=>kk b o (by simpa using hb) e) f0 f1 f3 f4 f5
  refine ⟨_,rfl,tX (s:={s with heap:=h',toks:=tk}) (n:= "range_iterator") st' rfl rfl (by decide) ⟨.int (lo+i),H,I1,⟨t,?_⟩,⟨rfl,rfl⟩,st',fun b hb=>(hf b hb).1⟩⟩
  rw[Int.mul_one]
 done:=by
  intro X hP hw hK hc i pins s σ H E I hf st hg
  subst hP hw hK
  obtain ⟨f0,f1,f2,f3,f4,f5⟩:=hf it (by simp)
  exact wpAny_pyNext_range_end (I.ok.hd hc) st (by have:n≤i:=hg;omega) fun h' eb=>⟨rfl,I.turned (t':=s.toks) (fun b o hb e=>eb b o hb e) f0 f1 f3 f4 f5⟩
 self:=fun _ _ _ _ _ st h=>wpAny_pyIter_rangeiter st h
end L2
namespace L2
open PySem PySem.Spec PyProof.Rows
section
variable {X:Cx} {tg:Expr}
def uU (K:PySem.W.Frag) (tl:TE):TI:=fun σ H R=>tl σ H fun x H1=> ∃a,x= .ref a∧(∃xs,ah K H1 a xs)∧R (eM K a) H1
def N4 (K:PySem.W.Frag) (tl:TE):TI:=fun σ H R=>tl σ H fun x H1=> ∃a,x= .ref a∧(∃xs,a8 K H1 a xs)∧R (qN K a) H1
theorem dn {l:Expr} {tl:TE} (hl:PE X l tl):PI X tg l (uU X.K tl):=by
 intro pins s σ H R I h
 refine aI (hl pins s σ H _ I h) fun v s1 ⟨x,H1,I1,r1,q1⟩=>?_
 obtain ⟨a,e,⟨xs,hq⟩,q⟩:=q1
 subst e
 cases r1
 obtain ⟨its,rv,p,hz⟩:=I1.list hq
 refine wpAny_pyIter_list p.isList ?_
 refine ⟨s1.heap.objs.size, [s1.heap.objs.size],_,_,H1,rfl,I1.kept (t':=s1.toks) fun b o e=>Heap.get?_push_of_some _ e,PH a _,⟨_,Heap.get?_push_size _ rfl,rfl,rfl⟩,fun b hb=>?_,q⟩
 have e:b=s1.heap.objs.size:=by simpa using hb
 subst e
 exact I1.gG (Nat.le_refl _) (I1.ao.fresh (Nat.le_refl _))
theorem NA {l:Expr} {tl:TE} (hl:PE X l tl):PI X tg l (N4 X.K tl):=by
 intro pins s σ H R I h
 refine aI (hl pins s σ H _ I h) fun v s1 ⟨x,H1,I1,r1,q1⟩=>?_
 obtain ⟨a,e,⟨xs,hq⟩,q⟩:=q1
 subst e
 cases r1
 obtain ⟨its,rv,p,hz⟩:=I1.tuple hq
 refine wpAny_pyIter_tuple (show s1.heap.IsTuple a its.toArray from p) ?_
 refine ⟨s1.heap.objs.size, [s1.heap.objs.size],_,_,H1,rfl,I1.kept (t':=s1.toks) fun b o e=>Heap.get?_push_of_some _ e,Nv a _,⟨_,Heap.get?_push_size _ rfl,rfl,rfl⟩,fun b hb=>?_,q⟩
 have e:b=s1.heap.objs.size:=by simpa using hb
 subst e
 exact I1.gG (Nat.le_refl _) (I1.ao.fresh (Nat.le_refl _))
theorem Fw {pins:List (Addr×Obj)} {σ:St} {H:Hp} {s:Shared} {R:It→Hp→Prop} {E:Value→Shared→Prop} {lo hi:Int} {t u v:Tok} {tk:Nat} (I:Inv X pins σ H s) (h1: -(2^62)≤lo) (h2:lo<2^62) (h3: -(2^62)≤hi) (h4:hi<2^62)
  (q:R (jO lo (hi-lo).toNat) H):wpAny (model X.prog X.w) X.A (pyIter (.ref s.heap.objs.size)) (vD X pins σ tg R) E {s with heap:=s.heap.push {cls:= .type "range",data:= .fields #[.int lo t, .int hi u, .int 1 v]},toks:=tk}:=by
 refine wpAny_pyIter_range (IsRange.new ..) (small_one h1 h2 h3 h4) ?_
 have I1:Inv X pins σ H {s with heap:=s.heap.push {cls:= .type "range",data:= .fields #[.int lo t, .int hi u, .int 1 v]},toks:=tk}:=I.kept fun b o e=>Heap.get?_push_of_some _ e
 refine ⟨(s.heap.push {cls:= .type "range",data:= .fields #[.int lo t, .int hi u, .int 1 v]}).objs.size, [(s.heap.push {cls:= .type "range",data:= .fields #[.int lo t, .int hi u, .int 1 v]}).objs.size],_,_,H,rfl,
  I1.kept (t':=tk) fun b o e=>Heap.get?_push_of_some _ e,GZ _ lo (hi-lo).toNat,?_,fun b hb=>?_,q⟩
 ·have e1:lo+((0:Nat):Int)*1=lo:=by simp
  have e2:(((hi-lo).toNat:Nat):Int)-((0:Nat):Int)=Builtin.Range.rangeSize lo hi 1:=by rw[rangeSize_one];split<;>omega
  show IsRangeIter _ _ (lo+((0:Nat):Int)*1) ((((hi-lo).toNat:Nat):Int)-((0:Nat):Int)) 1
  rw[e1,e2]
  exact Heap.get?_push_size _ rfl
 ·have e:b=(s.heap.push {cls:= .type "range",data:= .fields #[.int lo t, .int hi u, .int 1 v]}).objs.size:=by simpa using hb
  subst e
  exact I1.gG (Nat.le_refl _) (I1.ao.fresh (Nat.le_refl _))
def Pj (ta:TA):TI:=fun σ H R=>ta σ H fun vs H1=> ∃j:Int,vs= [.int j]∧ -(2^62)≤j∧j<2^62∧R (jO 0 j.toNat) H1
def SU (ta:TA):TI:=fun σ H R=>ta σ H fun vs H1=> ∃i j:Int,vs= [.int i, .int j]∧(-(2^62)≤i∧i<2^62∧ -(2^62)≤j∧j<2^62)∧R (jO i (j-i).toNat) H1
theorem fu {a:Expr} {ta:TA} {p pos:Pos} (hg:Gl X "range") (hm:X.mg "range" =none) (ha:PA X [a] ta) (hs:starEach [a] X.env= [(false,eval a X.env)]:=by rfl):PI X tg (.Call (.Name "range" p) [a] [] pos) (Pj ta):=by
 intro pins s σ H R I h
 refine Call_ (jm I hg hm boot_range (PyProof.Rows.callWith_type1 (aI (ha pos pins s σ H _ I h) fun us s1 ⟨vs,H1,I1,r1,q1⟩=>?_) hs rfl))
 obtain ⟨j,e,q1,q2,q⟩:=q1
 subst e
 cases r1 with
 |cons r rr=>
  cases rr
  obtain ⟨t,rfl⟩:=r
  exact call_range_1 (Fw I1 (by omega) (by omega) q1 q2 (by simpa using q))
theorem Sg {a b:Expr} {ta:TA} {p pos:Pos} (hg:Gl X "range") (hm:X.mg "range" =none) (ha:PA X [a,b] ta) (hs:starEach [a,b] X.env= [(false,eval a X.env),(false,eval b X.env)]:=by rfl) (hs2:starEach [b] X.env= [(false,eval b X.env)]:=by rfl):
  PI X tg (.Call (.Name "range" p) [a,b] [] pos) (SU ta):=by
 intro pins s σ H R I h
 refine Call_ (jm I hg hm boot_range (PyProof.Rows.callWith_type1 (aI (ha pos pins s σ H _ I h) fun us s1 ⟨vs,H1,I1,r1,q1⟩=>?_) (by rw[hs,hs2]) (by rw[hs2];rfl)))
 obtain ⟨i,j,e,⟨q1,q2,q3,q4⟩,q⟩:=q1
 subst e
 cases r1 with
 |cons r rr=>
  cases rr with
  |cons r' rr=>
   cases rr
   obtain ⟨t,rfl⟩:=r
   obtain ⟨t',rfl⟩:=r'
   exact call_range_2 (Fw I1 q1 q2 q3 q4 q)
def GX (wi:TI) (g:TG) (tb:TS):TS:=fun D σ H=>wi σ H fun J H1=> ∃W:Nat→Nat→St→Hp→Prop,(∃m,W 0 m σ H1)∧ ∀i m σ H,W i m σ H→
 (J.stop i H∧D.nx σ H)∨(J.go i H∧ ∃N:St→Hp→Prop,(∀σ' H',N σ' H'→ ∃m',m'<m∧W (i+1) m' σ' H')∧ ∀x H',J.eI i H x H'→g x σ H' fun σ2 H2=>tb {D with nx:=N,ct:=N,bk:=D.nx} σ2 H2)
def ku (fp:List Addr) (h:Heap):List (Addr×Obj):=fp.filterMap fun b=>(h.get? b).map fun o=>(b,o)
theorem rF {fp:List Addr} {h:Heap} {b:Addr} {o:Obj} (hb:b∈fp) (e:h.get? b=some o):(b,o)∈ku fp h:=List.mem_filterMap.mpr ⟨b,hb,by rw[e];rfl⟩
theorem Ll {fp:List Addr} {h:Heap} {p:Addr×Obj} (hp:p∈ku fp h):p.1∈fp∧h.get? p.1=some p.2:=by
 obtain ⟨b,hb,e⟩:=List.mem_filterMap.mp hp
 cases q:h.get? b with
 |none=>rw[q] at e;cases e
 |some o=>
  rw[q] at e
  have e':(b,o)=p:=Option.some.inj e
  subst e'
  exact ⟨hb,q⟩
theorem Inv.pinned {pins:List (Addr×Obj)} {σ:St} {H:Hp} {s:Shared} {fp:List Addr} (I:Inv X pins σ H s) (hf: ∀b∈fp,eG X pins H b) (ho: ∀b∈fp,∃o,s.heap.get? b=some o∧ ∀v,o.data≠ .cell v):Inv X (pins++ku fp s.heap) σ H s:=
 I.A7 fun p hp=>(List.mem_append.mp hp).elim (fun z=>I.pin p (List.mem_append_right _ z)) fun z=>by
  obtain ⟨hb,e⟩:=Ll z
  obtain ⟨f0,f1,f2,_⟩:=hf p.1 hb
  obtain ⟨o,e',d⟩:=ho p.1 hb
  rw[e] at e';cases e'
  exact ⟨e,f0,f1,f2,d⟩
theorem Inv.nE {pins pl:List (Addr×Obj)} {σ:St} {H:Hp} {s:Shared} (I:Inv X (pins++pl) σ H s):Inv X pins σ H s:=I.A7 fun p hp=>I.pin p (List.mem_append_right _ (List.mem_append_left _ hp))
theorem cw {iter:Expr} {body:List Stmt} {wi:TI} {g:TG} {tb:TS} {pos:Pos} (hp:PassesOwn (model X.prog X.w) X.A X.env X.xe) (hc:X.calm=true) (hi:PI X tg iter wi) (hg:PG X tg g) (hb:cS X body tb)
  (hs: ∀x,foldedSetIterable iter X.env x=pure x:=by intro _;rfl):PS X (.For tg iter body [] pos) (GX wi g tb):=by
 intro pins s σ H D I h
 refine wpAny_For (aI (hi pins s σ H _ I h) fun v s1 h1=>aI h1 fun itv s2 h2=>?_) hs
 obtain ⟨it,fp,tn,J,H2,e,I2,T,st2,f2,W,⟨m0,w0⟩,turn⟩:=h2
 subst e
 have stat: ∀{H':Hp},(∀b∈fp,H' b=none)→ ∀b∈fp,eG X pins H' b:=fun hn b hb=>⟨hn b hb,(f2 b hb).2⟩
 refine codeAny_forLoop_any (fun n s'=> ∃i σ' H',Inv X pins σ' H' s'∧tn i s'.heap∧(∀b∈fp,H' b=none)∧W i n σ' H') ?_ m0 ⟨0,σ,H2,I2,st2,fun b hb=>(f2 b hb).1,w0⟩
 rintro n s3 ⟨i,σ3,H3,I3,st3,fr3,w3⟩
 rcases turn i n σ3 H3 w3 with ⟨stop,qn⟩|⟨go,N,hN,step⟩
 ·refine wpAny_passesOwn hp (aI (T.done X rfl rfl rfl hc i pins s3 σ3 H3 X.xe I3 (stat fr3) st3 stop) fun r s4 ⟨hr,I4⟩=>?_)
  subst hr
  exact wpAny_execs_nil ⟨σ3,H3,I4,qn⟩
 ·refine wpAny_passesOwn hp (aI (T.item X rfl rfl rfl hc i pins s3 σ3 H3 X.xe I3 (stat fr3) st3 go) fun r s4 ⟨u,hr,h4⟩=>?_)
  subst hr
  refine wpAny_passesOwn hp (aI h4 fun _ s5 ⟨x,H5,I5,r5,y5,st5,fr5⟩=>?_)
  have I5':=I5.pinned (stat fr5) (T.obj _ _ st5)
  refine wpAny_passesOwn hp (aI (hg _ s5 σ3 H5 x u _ I5' r5 (step x H5 y5)) fun _ s6 ⟨σ6,H6,I6,q6⟩=>?_)
  refine wpAny_passesOwn hp (aI (hb _ s6 σ6 H6 _ I6 q6) fun f s7 q7=>?_)
  have again: ∀{σ7:St} {H7:Hp},Inv X (pins++ku fp s5.heap) σ7 H7 s7→N σ7 H7→ ∃m,m<n∧ ∃i σ' H',Inv X pins σ' H' s7∧tn i s7.heap∧(∀b∈fp,H' b=none)∧W i m σ' H':=fun {σ7 H7} I7 n7=>by
   obtain ⟨m',hm,w7⟩:=hN σ7 H7 n7
   refine ⟨m',hm,i+1,σ7,H7,I7.nE,T.keep _ _ _ st5 fun b hb o e=>(I7.pin (b,o) (List.mem_append_right _ (List.mem_append_right _ (rF hb e)))).1,fun b hb=>?_,w7⟩
   obtain ⟨o,e,d⟩:=T.obj _ _ st5 b hb
   exact (I7.pin (b,o) (List.mem_append_right _ (List.mem_append_right _ (rF hb e)))).2.1
  cases f with
  |next=>obtain ⟨σ7,H7,I7,n7⟩:=q7;exact again I7 n7
  |cont=>obtain ⟨σ7,H7,I7,n7⟩:=q7;exact again I7 n7
  |brk=>obtain ⟨σ7,H7,I7,q7⟩:=q7;exact ⟨σ7,H7,I7.nE,q7⟩
  |ret v=>obtain ⟨x7,σ7,H7,I7,r7,q7⟩:=q7;exact ⟨x7,σ7,H7,I7.nE,r7,q7⟩
end
theorem ie {K:PySem.W.Frag} {a:Addr} {xs:List V} {g:TG} {tb:TS} {D:Ends} {σ:St} {H:Hp} (Pv:Nat→St→Hp→Prop) (h0:Pv 0 σ H) (hl: ∀i σ H,i≤xs.length→Pv i σ H→ah K H a xs)
  (hs: ∀i x σ H,xs[i]?=some x→Pv i σ H→g x σ H fun σ2 H2=>tb {D with nx:=Pv (i+1),ct:=Pv (i+1),bk:=D.nx} σ2 H2) (hd: ∀σ H,Pv xs.length σ H→D.nx σ H):
  ∃W:Nat→Nat→St→Hp→Prop,(∃m,W 0 m σ H)∧ ∀i m σ H,W i m σ H→
   ((eM K a).stop i H∧D.nx σ H)∨((eM K a).go i H∧ ∃N:St→Hp→Prop,(∀σ' H',N σ' H'→ ∃m',m'<m∧W (i+1) m' σ' H')∧ ∀x H',(eM K a).eI i H x H'→g x σ H' fun σ2 H2=>tb {D with nx:=N,ct:=N,bk:=D.nx} σ2 H2):=by
 refine ⟨fun i m σ H=>m=xs.length-i∧i≤xs.length∧Pv i σ H,⟨xs.length,by simp,Nat.zero_le _,h0⟩,?_⟩
 rintro i m σ H ⟨rfl,hi,p⟩
 have q:=hl i σ H hi p
 by_cases hlt:i<xs.length
 ·refine .inr ⟨⟨xs,xs[i],q,by simp [hlt]⟩,Pv (i+1),fun σ' H' p'=>⟨xs.length-(i+1),by omega,rfl,hlt,p'⟩,fun x H' y=>?_⟩
  obtain ⟨e,y⟩:=y
  subst e
  exact hs i x σ _ (y xs q) p
 ·have e:i=xs.length:=by omega
  subst e
  exact .inl ⟨⟨xs,q,Nat.le_refl _⟩,hd σ H p⟩
theorem Jm {K:PySem.W.Frag} {a:Addr} {xs:List V} {g:TG} {tb:TS} {D:Ends} {σ:St} {H:Hp} (Pv:Nat→St→Hp→Prop) (h0:Pv 0 σ H) (hl: ∀i σ H,i≤xs.length→Pv i σ H→a8 K H a xs)
  (hs: ∀i x σ H,xs[i]?=some x→Pv i σ H→g x σ H fun σ2 H2=>tb {D with nx:=Pv (i+1),ct:=Pv (i+1),bk:=D.nx} σ2 H2) (hd: ∀σ H,Pv xs.length σ H→D.nx σ H):
  ∃W:Nat→Nat→St→Hp→Prop,(∃m,W 0 m σ H)∧ ∀i m σ H,W i m σ H→
   ((qN K a).stop i H∧D.nx σ H)∨((qN K a).go i H∧ ∃N:St→Hp→Prop,(∀σ' H',N σ' H'→ ∃m',m'<m∧W (i+1) m' σ' H')∧ ∀x H',(qN K a).eI i H x H'→g x σ H' fun σ2 H2=>tb {D with nx:=N,ct:=N,bk:=D.nx} σ2 H2):=by
 refine ⟨fun i m σ H=>m=xs.length-i∧i≤xs.length∧Pv i σ H,⟨xs.length,by simp,Nat.zero_le _,h0⟩,?_⟩
 rintro i m σ H ⟨rfl,hi,p⟩
 have q:=hl i σ H hi p
 by_cases hlt:i<xs.length
 ·refine .inr ⟨⟨xs,xs[i],q,by simp [hlt]⟩,Pv (i+1),fun σ' H' p'=>⟨xs.length-(i+1),by omega,rfl,hlt,p'⟩,fun x H' y=>?_⟩
  obtain ⟨e,y⟩:=y
  subst e
  exact hs i x σ _ (y xs q) p
 ·have e:i=xs.length:=by omega
  subst e
  exact .inl ⟨⟨xs,q,Nat.le_refl _⟩,hd σ H p⟩
theorem fM {lo:Int} {n:Nat} {g:TG} {tb:TS} {D:Ends} {σ:St} {H:Hp} (Pv:Nat→St→Hp→Prop) (h0:Pv 0 σ H)
  (hs: ∀i σ H,i<n→Pv i σ H→g (.int (lo+i)) σ H fun σ2 H2=>tb {D with nx:=Pv (i+1),ct:=Pv (i+1),bk:=D.nx} σ2 H2) (hd: ∀σ H,Pv n σ H→D.nx σ H):
  ∃W:Nat→Nat→St→Hp→Prop,(∃m,W 0 m σ H)∧ ∀i m σ H,W i m σ H→
   ((jO lo n).stop i H∧D.nx σ H)∨((jO lo n).go i H∧ ∃N:St→Hp→Prop,(∀σ' H',N σ' H'→ ∃m',m'<m∧W (i+1) m' σ' H')∧ ∀x H',(jO lo n).eI i H x H'→g x σ H' fun σ2 H2=>tb {D with nx:=N,ct:=N,bk:=D.nx} σ2 H2):=by
 refine ⟨fun i m σ H=>m=n-i∧i≤n∧Pv i σ H,⟨n,by simp,Nat.zero_le _,h0⟩,?_⟩
 rintro i m σ H ⟨rfl,hi,p⟩
 by_cases hlt:i<n
 ·refine .inr ⟨hlt,Pv (i+1),fun σ' H' p'=>⟨n-(i+1),by omega,rfl,hlt,p'⟩,fun x H' y=>?_⟩
  obtain ⟨e,y⟩:=y
  subst e y
  exact hs i σ _ hlt p
 ·have e:i=n:=by omega
  subst e
  exact .inl ⟨Nat.le_refl _,hd σ H p⟩
end L2
namespace L2
open PySem PySem.Spec PyProof.Rows
abbrev R2:=V→V→Hp→VK→Prop
def bD (X:Cx) (f:Value→Value→Sem Value) (r:R2):Prop:=
 ∀(pins:List (Addr×Obj)) (s:Shared) (σ:St) (H:Hp) (x y:V) (v u:Value) (Q:VK),Inv X pins σ H s→RelV x v→RelV y u→r x y H Q→
  wpAny (model X.prog X.w) X.A (f v u) (EP X pins σ Q) X.xe s
def wy (X:Cx) (f:Value→Sem Value) (r:V→Hp→VK→Prop):Prop:=
 ∀(pins:List (Addr×Obj)) (s:Shared) (σ:St) (H:Hp) (x:V) (v:Value) (Q:VK),Inv X pins σ H s→RelV x v→r x H Q→
  wpAny (model X.prog X.w) X.A (f v) (EP X pins σ Q) X.xe s
def ik (X:Cx) (f:Value) (r:List V→Hp→VK→Prop):Prop:=
 ∀(pins:List (Addr×Obj)) (s:Shared) (σ:St) (H:Hp) (xs:List V) (us:List Value) (Q:VK),Inv X pins σ H s→Vals xs us→r xs H Q→
  wpAny (model X.prog X.w) X.A (call f us) (EP X pins σ Q) X.xe s
def iC (r:R2) (ta tb:TE):TE:=fun σ H Q=>ta σ H fun x H1=>tb σ H1 fun y H2=>r x y H2 Q
def Iz (r:V→Hp→VK→Prop) (ta:TE):TE:=fun σ H Q=>ta σ H fun x H1=>r x H1 Q
def rI (C:Int→Int→Prop) (g:Int→Int→V):R2:=fun x y H Q=> ∃i j,x= .int i∧y= .int j∧C i j∧Q (g i j) H
def dX (g:Int→Int→V):R2:=fun x y H Q=> ∃i j,x= .int i∧y= .int j∧Q (g i j) H
def rU (g:Int→V):V→Hp→VK→Prop:=fun x H Q=> ∃i,x= .int i∧Q (g i) H
section
variable {X:Cx} {a b c:Expr} {ta tb tc:TE} {pos:Pos}
theorem vf (ha:PE X a ta) (hb:PE X b tb) {pins:List (Addr×Obj)} {s:Shared} {σ:St} {H:Hp} {R:V→V→Hp→Prop} (I:Inv X pins σ H s)
  (h:ta σ H fun x H1=>tb σ H1 fun y H2=>R x y H2) {Q:Value→Shared→Prop} {f:Value→Value→Sem Value}
  (hf: ∀v u s2 x y H2,Inv X pins σ H2 s2→RelV x v→RelV y u→R x y H2→wpAny (model X.prog X.w) X.A (f v u) Q X.xe s2):
  wpAny (model X.prog X.w) X.A (eval a X.env) (fun v s₁=>wpAny (model X.prog X.w) X.A (eval b X.env) (fun u s₂=>wpAny (model X.prog X.w) X.A (f v u) Q X.xe s₂) X.xe s₁) X.xe s:=by
 refine aI (ha pins s σ H _ I h) fun v s1 ⟨x,H1,I1,r1,q1⟩=>?_
 refine aI (hb pins s1 σ H1 _ I1 q1) fun u s2 ⟨y,H2,I2,r2,q2⟩=>?_
 exact hf v u s2 x y H2 I2 r1 r2 q2
theorem au {op:Operator} {r:R2} (ho:bD X (binaryOp op) r) (ha:PE X a ta) (hb:PE X b tb):PE X (.BinOp a op b pos) (iC r ta tb):=by
 intro pins s σ H Q I h
 exact wpAny_BinOp (vf ha hb I h fun v u s2 x y H2 I2 rx ry q=>ho pins s2 σ H2 x y v u Q I2 rx ry q)
theorem fw {op:UnaryOp} {r:V→Hp→VK→Prop} (ho:wy X (unaryOp op) r) (ha:PE X a ta):PE X (.UnaryOp op a pos) (Iz r ta):=by
 intro pins s σ H Q I h
 exact UnaryOp_ (aI (ha pins s σ H _ I h) fun v s1 ⟨x,H1,I1,r1,q1⟩=>ho pins s1 σ H1 x v Q I1 r1 q1)
theorem jN {f:Value→Value→Sem Value} {C:Int→Int→Prop} {g:Int→Int→Int}
  (rule: ∀(i j:Int) (t u:Tok) (s:Shared) (Q:Value→Shared→Prop) (E:Value→Shared→Prop),C i j→Q (.int (g i j) s.toks) {s with toks:=s.toks+1}→wpAny (model X.prog X.w) X.A (f (.int i t) (.int j u)) Q E s):
  bD X f (rI C fun i j=> .int (g i j)):=by
 intro pins s σ H x y v u Q I rx ry h
 obtain ⟨i,j,rfl,rfl,hc,q⟩:=h
 obtain ⟨t,rfl⟩:=rx
 obtain ⟨t',rfl⟩:=ry
 exact rule i j t t' s _ _ hc ⟨.int (g i j),H,I.tok _,⟨_,rfl⟩,q⟩
theorem ju {f:Value→Value→Sem Value} {g:Int→Int→Int}
  (rule: ∀(i j:Int) (t u:Tok) (s:Shared) (Q:Value→Shared→Prop) (E:Value→Shared→Prop),Q (.int (g i j) s.toks) {s with toks:=s.toks+1}→wpAny (model X.prog X.w) X.A (f (.int i t) (.int j u)) Q E s):
  bD X f (dX fun i j=> .int (g i j)):=by
 intro pins s σ H x y v u Q I rx ry h
 obtain ⟨i,j,rfl,rfl,q⟩:=h
 obtain ⟨t,rfl⟩:=rx
 obtain ⟨t',rfl⟩:=ry
 exact rule i j t t' s _ _ ⟨.int (g i j),H,I.tok _,⟨_,rfl⟩,q⟩
theorem uE {f:Value→Value→Sem Value} {g:Int→Int→Bool}
  (rule: ∀(i j:Int) (t u:Tok) (s:Shared) (Q:Value→Shared→Prop) (E:Value→Shared→Prop),Q (.bool (g i j)) s→wpAny (model X.prog X.w) X.A (f (.int i t) (.int j u)) Q E s):
  bD X f (dX fun i j=> .bl (g i j)):=by
 intro pins s σ H x y v u Q I rx ry h
 obtain ⟨i,j,rfl,rfl,q⟩:=h
 obtain ⟨t,rfl⟩:=rx
 obtain ⟨t',rfl⟩:=ry
 exact rule i j t t' s _ _ ⟨.bl (g i j),H,I,rfl,q⟩
def GW (i j:Int):Prop:=0<j∧j<1073741824
def xp (i j:Int):Prop:=0≤j∧j≤1000000∧i.natAbs<2^64
def yE (i j:Int):Prop:=(-(2^64)<i∧i<2^64)∨(-(2^64)<j∧j<2^64)
theorem yE.ok {i j:Int} (h:yE i j):IntMulOk i j:=by
 rcases h with ⟨h1,h2⟩|⟨h1,h2⟩
 ·exact .of_left (intBits_le_64 h1 h2)
 ·exact .of_right (intBits_le_64 h1 h2)
theorem Iy (k:Nat):(0:Int)≤2^k:=by
 rw[two_pow_cast]
 exact Int.natCast_nonneg _
theorem bS:bD X (binaryOp .Add) (dX fun i j=> .int (i+j)):=ju fun _ _ _ _ _ _ _ q=>add_int q
theorem du:bD X (binaryOp .Sub) (dX fun i j=> .int (i-j)):=ju fun _ _ _ _ _ _ _ q=>sub_int q
theorem ko:bD X (binaryOp .Mult) (rI yE fun i j=> .int (i*j)):=jN fun _ _ _ _ _ _ _ hc q=>mul_int q hc.ok
theorem jG:bD X (binaryOp .FloorDiv) (rI GW fun i j=> .int (i/j)):=jN fun i j _ _ _ _ _ hc q=>by
 have h1:(0:Int)<j:=hc.1
 have h2:j<1073741824:=hc.2
 exact floordiv_int (by omega) (by rw[Int.fdiv_eq_ediv_of_nonneg i (by omega)];exact q) (.inl (PyProof.noPylong_small (by omega)))
theorem lj:bD X (binaryOp .Mod) (rI (fun _ j=>0<j) fun i j=> .int (i%j)):=jN fun i j _ _ _ _ _ hc q=>by
 have h1:(0:Int)<j:=hc
 exact mod_int' (by omega) (by rw[Int.fmod_eq_emod_of_nonneg i (by omega)];exact q)
theorem jY:bD X (binaryOp .LShift) (rI xp fun i j=> .int (i*2^j.toNat)):=jN fun _ _ _ _ _ _ _ hc q=>lshift_int_small hc.1 hc.2.1 hc.2.2 q
theorem fk:bD X (binaryOp .RShift) (rI (fun _ j=>0≤j) fun i j=> .int (i/2^j.toNat)):=jN fun i j _ _ _ _ _ hc q=>
 rshift_int hc (by rw[Int.fdiv_eq_ediv_of_nonneg i (Iy _)];exact q)
theorem lB:bD X (binaryOp .BitAnd) (dX fun i j=> .int (Builtin.bitAnd i j)):=ju fun _ _ _ _ _ _ _ q=>and_int q
theorem CK:bD X (binaryOp .BitOr) (dX fun i j=> .int (Builtin.bitOr i j)):=ju fun _ _ _ _ _ _ _ q=>or_int q
theorem kY:bD X (binaryOp .BitXor) (dX fun i j=> .int (Builtin.bitXor i j)):=ju fun _ _ _ _ _ _ _ q=>xor_int q
theorem E9:bD X (inplaceOp .Add) (dX fun i j=> .int (i+j)):=ju fun _ _ _ _ _ _ _ q=>iadd_int q
theorem Py:bD X (inplaceOp .Sub) (dX fun i j=> .int (i-j)):=ju fun _ _ _ _ _ _ _ q=>isub_int q
theorem AD:bD X (inplaceOp .LShift) (rI xp fun i j=> .int (i*2^j.toNat)):=jN fun _ _ _ _ _ _ _ hc q=>ilshift_int_small hc.1 hc.2.1 hc.2.2 q
theorem uH:bD X (inplaceOp .BitXor) (dX fun i j=> .int (Builtin.bitXor i j)):=ju fun _ _ _ _ _ _ _ q=>ixor_int q
theorem Ms {f:Value→Sem Value} {g:Int→Int}
  (rule: ∀(i:Int) (t:Tok) (s:Shared) (Q:Value→Shared→Prop) (E:Value→Shared→Prop),Q (.int (g i) s.toks) {s with toks:=s.toks+1}→wpAny (model X.prog X.w) X.A (f (.int i t)) Q E s):
  wy X f (rU fun i=> .int (g i)):=by
 intro pins s σ H x v Q I rx h
 obtain ⟨i,rfl,q⟩:=h
 obtain ⟨t,rfl⟩:=rx
 exact rule i t s _ _ ⟨.int (g i),H,I.tok _,⟨_,rfl⟩,q⟩
theorem fB:wy X (unaryOp .USub) (rU fun i=> .int (-i)):=Ms fun _ _ _ _ _ q=>neg_int q
end
def Gg:V→V→Bool
 | .aw, .aw=>true| .aw, .int _=>true| .int _, .aw=>true| .aw, .bl _=>true| .bl _, .aw=>true| .aw, .str _=>true| .str _, .aw=>true
 | .int _, .int _=>true| .bl _, .bl _=>true| .str _, .str _=>true| .dP _, .dP _=>true
 | .int _, .str _=>true| .str _, .int _=>true| .bl _, .str _=>true| .str _, .bl _=>true
 |_,_=>false
def L5:R2:=fun x y H Q=>Gg x y=true∧Q (.bl (decide (x=y))) H
def KI:R2:=fun x y H Q=>Gg x y=true∧Q (.bl (!decide (x=y))) H
theorem BV {i j:Int}:decide (V.int i=V.int j)=(i==j):=by
 rw[Bool.eq_iff_iff]
 simp
theorem Ef {i j:Bool}:decide (V.bl i=V.bl j)=(i==j):=by
 rw[Bool.eq_iff_iff]
 simp
theorem Ek {i j:Str}:decide (V.str i=V.str j)=(i==j):=by
 rw[Bool.eq_iff_iff]
 simp
theorem CQ {i j:Array UInt8}:decide (V.dP i=V.dP j)=(i.toList==j.toList):=by
 rw[Bool.eq_iff_iff]
 cases i
 cases j
 simp
section
variable {X:Cx} {a b c:Expr} {ta tb tc:TE} {pos:Pos}
theorem bU {pins:List (Addr×Obj)} {σ:St} {H:Hp} {s:Shared} {Q:VK} {k k':Bool} (I:Inv X pins σ H s) (q:Q (.bl k) H) (e:k=k'):EP X pins σ Q (.bool k') s:=by
 subst e
 exact ⟨.bl k,H,I,rfl,q⟩
theorem dA:bD X (compareOp .Eq) L5:=by
 intro pins s σ H x y v u Q I rx ry h
 obtain ⟨hs,q⟩:=h
 cases x with
 |aw=>
  cases rx
  cases y with
  |aw=>cases ry;exact PySem.EqNone.eq_none_none (bU I q (by simp))
  |bl j=>cases ry;exact PySem.EqNone.eq_none_bool (bU I q (by simp))
  |int j=>obtain ⟨t',rfl⟩:=ry;exact PySem.EqNone.eq_none_int (bU I q (by simp))
  |str j=>obtain ⟨t',rfl⟩:=ry;exact PySem.EqNone.eq_none_str (bU I q (by simp))
  |_=>exact absurd (show false=true from hs) Bool.false_ne_true
 |bl i=>
  cases rx
  cases y with
  |aw=>cases ry;exact PySem.EqNone.eq_bool_none (bU I q (by simp))
  |bl j=>cases ry;exact eq_bool (bU I q Ef)
  |str j=>obtain ⟨t',rfl⟩:=ry;exact PySem.EqMixed.eq_bool_str (bU I q (by simp))
  |_=>exact absurd (show false=true from hs) Bool.false_ne_true
 |int i=>
  obtain ⟨t,rfl⟩:=rx
  cases y with
  |aw=>cases ry;exact PySem.EqNone.eq_int_none (bU I q (by simp))
  |int j=>obtain ⟨t',rfl⟩:=ry;exact eq_int (bU I q BV)
  |str j=>obtain ⟨t',rfl⟩:=ry;exact PySem.EqMixed.eq_int_str (bU I q (by simp))
  |_=>exact absurd (show false=true from hs) Bool.false_ne_true
 |str i=>
  obtain ⟨t,rfl⟩:=rx
  cases y with
  |aw=>cases ry;exact PySem.EqNone.eq_str_none (bU I q (by simp))
  |bl j=>cases ry;exact PySem.EqMixed.eq_str_bool (bU I q (by simp))
  |int j=>obtain ⟨t',rfl⟩:=ry;exact PySem.EqMixed.eq_str_int (bU I q (by simp))
  |str j=>obtain ⟨t',rfl⟩:=ry;exact eq_str (bU I q Ek)
  |_=>exact absurd (show false=true from hs) Bool.false_ne_true
 |dP i=>
  obtain ⟨t,rfl⟩:=rx
  cases y with
  |dP j=>obtain ⟨t',rfl⟩:=ry;exact PySem.W.eq_bytes (bU I q CQ)
  |_=>exact absurd (show false=true from hs) Bool.false_ne_true
 |_=>cases y<;>exact absurd (show false=true from hs) Bool.false_ne_true
theorem fE:bD X (compareOp .NotEq) KI:=by
 intro pins s σ H x y v u Q I rx ry h
 obtain ⟨hs,q⟩:=h
 cases x with
 |aw=>
  cases rx
  cases y with
  |aw=>cases ry;exact PySem.EqNone.ne_none_none (bU I q (by simp))
  |bl j=>cases ry;exact PySem.EqNone.ne_none_bool (bU I q (by simp))
  |int j=>obtain ⟨t',rfl⟩:=ry;exact PySem.EqNone.ne_none_int (bU I q (by simp))
  |str j=>obtain ⟨t',rfl⟩:=ry;exact PySem.EqNone.ne_none_str (bU I q (by simp))
  |_=>exact absurd (show false=true from hs) Bool.false_ne_true
 |bl i=>
  cases rx
  cases y with
  |aw=>cases ry;exact PySem.EqNone.ne_bool_none (bU I q (by simp))
  |bl j=>cases ry;exact ne_bool (bU I q (congrArg not Ef))
  |str j=>obtain ⟨t',rfl⟩:=ry;exact PySem.EqMixed.ne_bool_str (bU I q (by simp))
  |_=>exact absurd (show false=true from hs) Bool.false_ne_true
 |int i=>
  obtain ⟨t,rfl⟩:=rx
  cases y with
  |aw=>cases ry;exact PySem.EqNone.ne_int_none (bU I q (by simp))
  |int j=>obtain ⟨t',rfl⟩:=ry;exact ne_int (bU I q (congrArg not BV))
  |str j=>obtain ⟨t',rfl⟩:=ry;exact PySem.EqMixed.ne_int_str (bU I q (by simp))
  |_=>exact absurd (show false=true from hs) Bool.false_ne_true
 |str i=>
  obtain ⟨t,rfl⟩:=rx
  cases y with
  |aw=>cases ry;exact PySem.EqNone.ne_str_none (bU I q (by simp))
  |bl j=>cases ry;exact PySem.EqMixed.ne_str_bool (bU I q (by simp))
  |int j=>obtain ⟨t',rfl⟩:=ry;exact PySem.EqMixed.ne_str_int (bU I q (by simp))
  |str j=>obtain ⟨t',rfl⟩:=ry;exact ne_str (bU I q (congrArg not Ek))
  |_=>exact absurd (show false=true from hs) Bool.false_ne_true
 |dP i=>
  obtain ⟨t,rfl⟩:=rx
  cases y with
  |dP j=>obtain ⟨t',rfl⟩:=ry;exact PySem.W.ne_bytes (bU I q (congrArg not CQ))
  |_=>exact absurd (show false=true from hs) Bool.false_ne_true
 |_=>cases y<;>exact absurd (show false=true from hs) Bool.false_ne_true
theorem pF:bD X (compareOp .Lt) (dX fun i j=> .bl (decide (i<j))):=uE fun _ _ _ _ _ _ _ q=>lt_int q
theorem ib:bD X (compareOp .LtE) (dX fun i j=> .bl (decide (i≤j))):=uE fun _ _ _ _ _ _ _ q=>le_int q
theorem dF:bD X (compareOp .Gt) (dX fun i j=> .bl (decide (j<i))):=uE fun _ _ _ _ _ _ _ q=>gt_int q
theorem AY:bD X (compareOp .GtE) (dX fun i j=> .bl (decide (j≤i))):=uE fun _ _ _ _ _ _ _ q=>ge_int q
theorem Oo:bD X (compareOp .Is) (fun x y H Q=>y= .aw∧Q (.bl (decide (x= .aw))) H):=by
 intro pins s σ H x y v u Q I rx ry h
 obtain ⟨rfl,q⟩:=h
 cases ry
 refine is_none_gen (bU I q ?_)
 cases x<;>first
  |(cases rx;rfl)
  |(obtain ⟨t,rfl⟩:=rx;rfl)
theorem aZ (b:Expr) {op:CmpOp} (h:op≠ .In:=by decide) (h2:op≠ .NotIn:=by decide):behindInMarks op b=false:=by
 have e1:(op==CmpOp.In)=false:=by cases op<;>first|rfl|exact absurd rfl h
 have e2:(op==CmpOp.NotIn)=false:=by cases op<;>first|rfl|exact absurd rfl h2
 cases b<;>simp [behindInMarks,e1,e2]
theorem iu {op:CmpOp} {r:R2} (ho:bD X (compareOp op) r) (ha:PE X a ta) (hb:PE X b tb) (hm:behindInMarks op b=false):PE X (.Compare a [op] [b] pos) (iC r ta tb):=by
 intro pins s σ H Q I h
 exact wpAny_Compare1 (vf ha hb I h fun v u s2 x y H2 I2 rx ry q=>ho pins s2 σ H2 x y v u Q I2 rx ry q) hm
def As (t:TE):TT:=fun σ H Q=>t σ H fun x H'=> ∃k,x= .bl k∧Q k H'
theorem bc {op:CmpOp} {r:R2} (ho:bD X (compareOp op) r) (ha:PE X a ta) (hb:PE X b tb) (hm:behindInMarks op b=false):PT X (.Compare a [op] [b] pos) (As (iC r ta tb)):=by
 intro pins s σ H Q I h
 refine wpAny_isTrue_Compare1 (aI (ha pins s σ H _ I h) fun v s1 ⟨x,H1,I1,r1,q1⟩=>aI (hb pins s1 σ H1 _ I1 q1) fun u s2 ⟨y,H2,I2,r2,q2⟩=>
  aI (ho pins s2 σ H2 x y v u _ I2 r1 r2 q2) fun c s3 ⟨z,H3,I3,r3,k,e,q3⟩=>?_) hm
 subst e
 cases r3
 exact wpAny_truthy_bool ⟨H3,I3,q3⟩
def Cz (r r':R2) (ta tb tc:TE):TE:=fun σ H Q=>ta σ H fun x H1=>tb σ H1 fun y H2=>r x y H2 fun z H3=> ∃k,z= .bl k∧
 (if k=true then tc σ H3 fun w' H4=>r' y w' H4 Q else Q (.bl false) H3)
theorem wW {op op':CmpOp} {r r':R2} (ho:bD X (compareOp op) r) (ho':bD X (compareOp op') r') (ha:PE X a ta) (hb:PE X b tb) (hc:PE X c tc)
  (hm:lastMarks [op,op'] [b,c]=false:=by with_unfolding_all rfl):PE X (.Compare a [op,op'] [b,c] pos) (Cz r r' ta tb tc):=by
 intro pins s σ H Q I h
 refine Compare_chain (aI (ha pins s σ H _ I h) fun v s1 ⟨x,H1,I1,r1,q1⟩=>chain_link (aI (hb pins s1 σ H1 _ I1 q1) fun u s2 ⟨y,H2,I2,r2,q2⟩=>
  aI (ho pins s2 σ H2 x y v u _ I2 r1 r2 q2) fun d s3 ⟨z,H3,I3,r3,k,e,q3⟩=>?_)) hm
 subst e
 cases r3
 refine wpAny_truthy_bool ?_
 cases k with
 |false=>exact ite_ff ⟨.bl false,H3,I3,rfl,q3⟩
 |true=>exact ite_tt (chain_last (aI (hc pins s3 σ H3 _ I3 q3) fun w' s4 ⟨z',H4,I4,r4,q4⟩=>ho' pins s4 σ H4 y z' u w' Q I4 r2 r4 q4))
theorem zK {op op':CmpOp} {r r':R2} (ho:bD X (compareOp op) r) (ho':bD X (compareOp op') r') (ha:PE X a ta) (hb:PE X b tb) (hc:PE X c tc)
  (hm:lastMarks [op,op'] [b,c]=false:=by with_unfolding_all rfl):PT X (.Compare a [op,op'] [b,c] pos) (As (Cz r r' ta tb tc)):=by
 intro pins s σ H Q I h
 refine isTrue_chain (aI (ha pins s σ H _ I h) fun v s1 ⟨x,H1,I1,r1,q1⟩=>test_link (aI (hb pins s1 σ H1 _ I1 q1) fun u s2 ⟨y,H2,I2,r2,q2⟩=>
  aI (ho pins s2 σ H2 x y v u _ I2 r1 r2 q2) fun d s3 ⟨z,H3,I3,r3,k,e,q3⟩=>?_)) hm
 subst e
 cases r3
 refine wpAny_truthy_bool ?_
 cases k with
 |false=>
  obtain ⟨k',e',q'⟩:=q3
  cases e'
  exact ite_ff ⟨H3,I3,q'⟩
 |true=>
  refine ite_tt (test_last (aI (hc pins s3 σ H3 _ I3 q3) fun w' s4 ⟨z',H4,I4,r4,q4⟩=>aI (ho' pins s4 σ H4 y z' u w' _ I4 r2 r4 q4) fun d' s5 ⟨z2,H5,I5,r5,k2,e2,q5⟩=>?_))
  subst e2
  cases r5
  exact wpAny_truthy_bool ⟨H5,I5,q5⟩
theorem uP:(sizeLine:Nat)<2^63:=by rw[sizeLine_eq];decide
theorem vals1 {x:V} {us:List Value} (r:Vals [x] us): ∃u,us= [u]∧RelV x u:=by
 cases r with
 |cons r1 r2=>cases r2;exact ⟨_,rfl,r1⟩
theorem vals2 {x y:V} {us:List Value} (r:Vals [x,y] us): ∃u w',us= [u,w']∧RelV x u∧RelV y w':=by
 cases r with
 |cons r1 r2=>
  cases r2 with
  |cons r3 r4=>cases r4;exact ⟨_,_,rfl,r1,r3⟩
theorem GG (hc:X.calm=true):ik X (.builtin "min") (fun xs H Q=> ∃i j,xs= [.int i, .int j]∧Q (.int (if j<i then j else i)) H):=by
 intro pins s σ H xs us Q I r h
 obtain ⟨i,j,rfl,q⟩:=h
 obtain ⟨u,w',rfl,⟨t,rfl⟩,⟨t',rfl⟩⟩:=vals2 r
 refine min_two_ints (I.ok.hd hc) fun h' tk k=>⟨_,H,I.kept k,?_,q⟩
 by_cases hj:j<i
 ·rw[if_pos hj,if_pos hj];exact ⟨_,rfl⟩
 ·rw[if_neg hj,if_neg hj];exact ⟨_,rfl⟩
end
end L2
namespace L2
open PySem PySem.Spec PyProof.Rows
structure jQ (h:Heap) (x dx C:Addr) (mA:Str→Option Value):Prop where
 obj:h.get? x=some (PySem.W.instObj C dx)
 ns:h.Ns1 dx mA
 ne:dx≠x
theorem PV {h:Heap} {dx:Addr} {mA:Str→Option Value} (n:h.Ns1 dx mA): ∃od,h.get? dx=some od∧ ∀name,PySem.W.lookIn name od=some (mA name):=by
 obtain ⟨o,es,ep,ho,hd,hk,_,hm⟩:=n
 refine ⟨o,ho,fun name=>?_⟩
 have e:=hm name
 unfold nsFind findBy at e
 rw[←Array.find?_toList] at e
 unfold PySem.W.lookIn
 rw[hd]
 dsimp only
 split
 ·rename_i y q
  rw[q] at e
  exact congrArg some e
 ·rename_i q
  rw[q] at e
  have a:es.toList.any (·.refKey)=false:=by
   rw[List.any_eq_false]
   intro y hy
   obtain ⟨z,t,hkey⟩:=hk y (Array.mem_toList_iff.mp hy)
   simp [DictEntry.refKey,hkey]
  have a': ¬es.toList.any (·.refKey)=true:=by rw[a];exact Bool.false_ne_true
  rw[if_neg a']
  exact congrArg some e
theorem jQ.look {h:Heap} {x dx C:Addr} {mA:Str→Option Value} (I:jQ h x dx C mA): ∃od,PySem.W.InstAt h x (PySem.W.instObj C dx) C (some od)∧ ∀name,PySem.W.lookIn name od=some (mA name):=
 let ⟨od,ho,hl⟩:=PV I.ns
 ⟨od,⟨I.obj,rfl,rfl,ho⟩,hl⟩
section
variable {prog:Program} {w:World} {A:Around} {E:Value→Shared→Prop} {s:Shared} {K:PySem.W.Frag} {x dx C f:Addr} {mA:Str→Option Value} {name:Str} {v:Value}
theorem get_map {expr:Bool} {Q:Value→Shared→Prop} (X:K.In s.heap) (I:jQ s.heap x dx C mA) (hg:PySem.W.plainGet K C name=true) (hh:PySem.W.hasDictIn K C=true)
  (ha:PySem.W.findIn K (.ref C) name=some none) (hv:mA name=some v) (hv':PySem.W.handedIn v=true) (h:Q v {s with toks:=s.toks+1}):
  wpAny (model prog w) A (getAttr (.ref x) name expr) Q E s:=by
 obtain ⟨od,J,hl⟩:=I.look
 exact PySem.W.get_value X J (PySem.W.plainGet_of hg).1 (PySem.W.findObj_own hh ha rfl (by rw[hl,hv])) hv' h
theorem Km {pl:Sem Bool} {Q:Value×List Value→Shared→Prop} (X:K.In s.heap) (I:jQ s.heap x dx C mA) (hg:PySem.W.plainGet K C name=true)
  (hf:PySem.W.findIn K (.ref C) name=some (some (.ref f))) (ht:PySem.W.isFn K (.ref f)=true) (hv:mA name=none) (h:Q (.ref f, [.ref x]) s):
  wpAny (model prog w) A (getMethod (.ref x) name pl) Q E s:=by
 obtain ⟨od,J,hl⟩:=I.look
 exact PySem.W.method_fn X J (PySem.W.plainGet_of hg).1 (PySem.W.plainGet_of hg).2 hf (beq_iff_eq.mp ht) (by show (PySem.W.lookIn name od).map (·.isSome)=some false;rw[hl,hv];rfl) h
theorem KO {ns:List Str} {Q:Unit→Shared→Prop} (X:K.In s.heap) (I:jQ s.heap x dx C mA)
  (hs:PySem.W.findIn K (.ref C) "__setattr__" =some (some (.builtin "object.__setattr__"))) (hp:PySem.W.plainOver K C=true) (ht:PySem.W.takerIn K C name=some none) (hh:PySem.W.hasDictIn K C=true)
  (hw:PySem.Within mA ns) (hsz:ns.length≤sizeLine)
  (h: ∀h',jQ h' x dx C (fun y=>if y=name then some v else mA y)→Heap.SameBut dx s.heap h'→Q () {s with heap:=h',toks:=s.toks+2}):
  wpAny (model prog w) A (setAttr (.ref x) name v) Q E s:=by
 obtain ⟨od,J,hl⟩:=I.look
 refine PySem.W.set_plain X J hs (PySem.W.osa_open (s:={s with toks:=s.toks+1}) (r:=none) X J hp ht fun b=>?_)
 obtain ⟨cd,hc,hd'⟩:=PySem.W.any_some hh
 have hx:s.heap.get? x=some ⟨.ref C,some dx, .plain, #[]⟩:=I.obj
 refine wpAny_bind (wpAny_pure (wpAny_bind (wpAny_bind (wpAny_loadPart hx (wpAny_bind (PySem.W.Looks.here (s:={s with toks:=s.toks+1}) (PySem.W.looks_clsIn X hc) ?_))))))
 rw[hd']
 refine wpAny_pure (a:=some dx) (wpAny_bind (wpAny_pure (wpAny_bind ?_)))
 refine wpAny_nsSet1 (s:={s with toks:=s.toks+1}) I.ns fun h' hn2 hs2=>?_
 obtain ⟨oD,esD,epD,hoD,hdD,hcD⟩:=hn2.count (PySem.Within.cons name v hw)
 refine wpAny_bind (wpAny_lookBehind hoD (by rw[hdD];exact pastItsLine_dict (Nat.le_trans hcD (by rw[List.length_cons];omega))) ?_)
 exact wpAny_pure (h _ ⟨(hs2.2 _ (Ne.symm I.ne)).trans I.obj,hn2,I.ne⟩ hs2)
theorem GL {R:Result→Shared→Prop} {vs:List Value} {kw:List (Str×Value)} (X:K.In s.heap) (hm:PySem.W.makesIn K C=true)
  (hi:PySem.W.findIn K (.ref C) "__init__" =some (some (.ref f))) (hf:PySem.W.typeIn K (.ref f)=some (.type "function"))
  (h:codeAny (model prog w) (A.under (.builtin "type.__call__" ⟨.ref C::vs,kw⟩)) (.call (.ref f) ⟨.ref (s.heap.objs.size+1)::vs,kw⟩) (PySem.W.InitBack (s.heap.objs.size+1) R)
   {s with heap:=(s.heap.push PySem.W.emptyDict).push (PySem.W.instObj C s.heap.objs.size)}):
  codeAny (model prog w) A (.call (.ref C) ⟨vs,kw⟩) R s:=by
 obtain ⟨hh,g,d,t,os⟩:=s
 exact PySem.W.make_core (PySem.W.makes_of X hm) (PySem.W.looks_findIn X hi) (fun self=>PySem.W.bind_fn X self hf) (.inl rfl) h
end
def bC (f:Str) (v:V):List (Str×V)→List (Str×V)
 | []=> [(f,v)]
 |(g,x)::r=>if g=f then (g,v)::r else (g,x)::bC f v r
theorem zG (f g:Str) (v:V): ∀fs:List (Str×V),(bC f v fs).lookup g=if g=f then some v else fs.lookup g
 | []=>by
  show List.lookup g [(f,v)]=_
  by_cases h:g=f
  ·have hb:(g==f)=true:=beq_iff_eq.mpr h
   simp only [List.lookup,hb,if_pos h]
  ·have hb:(g==f)=false:=beq_eq_false_iff_ne.mpr h
   simp only [List.lookup,hb,if_neg h]
 |(k,x)::r=>by
  have ih:=zG f g v r
  rw[show bC f v ((k,x)::r)=(if k=f then (k,v)::r else (k,x)::bC f v r) from rfl]
  by_cases hk:k=f
  ·rw[if_pos hk]
   by_cases h:g=k
   ·have hb:(g==k)=true:=beq_iff_eq.mpr h
    simp only [List.lookup,hb,if_pos (h.trans hk)]
   ·have hb:(g==k)=false:=beq_eq_false_iff_ne.mpr h
    simp only [List.lookup,hb,if_neg (fun e:g=f=>h (e.trans hk.symm))]
  ·rw[if_neg hk]
   by_cases h:g=k
   ·have hb:(g==k)=true:=beq_iff_eq.mpr h
    simp only [List.lookup,hb,if_neg (fun e:g=f=>hk (h.symm.trans e))]
   ·have hb:(g==k)=false:=beq_eq_false_iff_ne.mpr h
    simp only [List.lookup,hb]
    exact ih
theorem xN (f:Str) (v:V): ∀fs:List (Str×V),f∈(bC f v fs).map (·.1)∧ ∀g,g∈fs.map (·.1)→g∈(bC f v fs).map (·.1)
 | []=>⟨by simp [bC],fun g h=>by simp at h⟩
 |(k,x)::r=>by
  obtain ⟨i1,i2⟩:=xN f v r
  rw[show bC f v ((k,x)::r)=(if k=f then (k,v)::r else (k,x)::bC f v r) from rfl]
  by_cases hk:k=f
  ·rw[if_pos hk]
   subst hk
   exact ⟨by simp,fun g h=>by simpa using h⟩
  ·rw[if_neg hk]
   refine ⟨?_,fun g h=>?_⟩
   ·rw[List.map_cons]
    exact List.mem_cons_of_mem _ i1
   ·rw[List.map_cons] at h⊢
    rcases List.mem_cons.mp h with e|e
    ·exact List.mem_cons.mpr (.inl e)
    ·exact List.mem_cons_of_mem _ (i2 g e)
theorem CW (f:Str) (v:V): ∀fs:List (Str×V),(bC f v fs).length≤fs.length+1
 | []=>by simp [bC]
 |(k,x)::r=>by
  have ih:=CW f v r
  rw[show bC f v ((k,x)::r)=(if k=f then (k,v)::r else (k,x)::bC f v r) from rfl]
  by_cases hk:k=f
  ·rw[if_pos hk,List.length_cons,List.length_cons];omega
  ·rw[if_neg hk,List.length_cons,List.length_cons];omega
theorem gC.some_of {v:V} {o:Option Value} (r:gC (some v) o): ∃u,o=some u∧RelV v u:=by
 cases o with
 |none=>exact (show False from r).elim
 |some u=>exact ⟨u,rfl,r⟩
theorem gC.none_of {o:Option Value} (r:gC none o):o=none:=by
 cases o with
 |none=>rfl
 |some u=>exact (show False from r).elim
theorem J6 {v:V} {u:Value} (r:RelV v u):PySem.W.handedIn u=true:=by
 cases v with
 |aw=>cases (show u=Value.none from r);rfl
 |bl b=>cases (show u=Value.bool b from r);rfl
 |int i=>obtain ⟨t,e⟩:=(show∃t,u=Value.int i t from r);cases e;rfl
 |str x=>obtain ⟨t,e⟩:=(show∃t,u=Value.str x t from r);cases e;rfl
 |dP b=>obtain ⟨t,e⟩:=(show∃t,u=Value.bytes b t from r);cases e;rfl
 |nB b=>obtain ⟨t,e⟩:=(show∃t,u=Value.float b t from r);cases e;rfl
 |ref a=>cases (show u=Value.ref a from r);rfl
 |ty n=>cases (show u=Value.type n from r);rfl
section
variable {P:Program} {w:World} {H H':Hp} {h h':Heap} {a C dx:Addr} {fs fs':List (Str×V)}
theorem xO (ao:bQ P w H h) (e:H a=some (.ins C dx fs)): ∃mA,jQ h a dx C mA∧(∀f,gC (fs.lookup f) (mA f))∧PySem.Within mA (fs.map (·.1))∧fs.length≤1000∧H dx=some (.own a):=by
 obtain ⟨d,z,ne,ob,mA,n,r,q⟩:=(show cT P w H h a (.ins C dx fs) from ao a _ e)
 exact ⟨mA,⟨ob,n,ne⟩,r,q,z,d⟩
end
structure cg (K:PySem.W.Frag) (C:Addr):Prop where
 pg:PySem.W.plainGet K C Str.empty=true
 hd:PySem.W.hasDictIn K C=true
 po:PySem.W.plainOver K C=true
 sa:PySem.W.findIn K (.ref C) "__setattr__" =some (some (.builtin "object.__setattr__"))
theorem cg.get {K:PySem.W.Frag} {C:Addr} (c:cg K C) (f:Str):PySem.W.plainGet K C f=true:=c.pg
def bf (K:PySem.W.Frag) (C:Addr) (f:Str):Prop:=PySem.W.findIn K (.ref C) f=some none
theorem bf.N7 {K:PySem.W.Frag} {C:Addr} {f:Str} (n:bf K C f):PySem.W.takerIn K C f=some none:=by
 unfold PySem.W.takerIn
 rw[show PySem.W.findIn K (.ref C) f=some none from n]
 rfl
structure Meth (K:PySem.W.Frag) (C:Addr) (m:Str) (f:Addr):Prop where
 at_:PySem.W.findIn K (.ref C) m=some (some (.ref f))
 fn:PySem.W.isFn K (.ref f)=true
 kp:PySem.W.keepIn K (.ref f)=true
section
variable {X:Cx} {pins:List (Addr×Obj)} {σ:St} {H:Hp} {s:Shared} {a C dx:Addr} {fs:List (Str×V)} {f:Str} {v:V} {A:Around} {E:Value→Shared→Prop}
theorem yZ {b:Bool} {Q:Value→Shared→Prop} (I:Inv X pins σ H s) (e:H a=some (.ins C dx fs)) (c:cg X.K C) (n:bf X.K C f) (l:fs.lookup f=some v)
  (h: ∀u s',Inv X pins σ H s'→RelV v u→Q u s'):wpAny (model X.prog X.w) A (getAttr (.ref a) f b) Q E s:=by
 obtain ⟨mA,O,r,_,_,_⟩:=xO I.ao e
 obtain ⟨u,hu,ru⟩:=gC.some_of (v:=v) (o:=mA f) (by rw[←l];exact r f)
 exact get_map I.b7 O (c.get f) c.hd n hu (J6 ru) (h u _ (I.tok _) ru)
theorem tY {m:Str} {g:Addr} {pl:Sem Bool} {Q:Value×List Value→Shared→Prop} (I:Inv X pins σ H s) (e:H a=some (.ins C dx fs)) (c:cg X.K C) (k:Meth X.K C m g) (l:fs.lookup m=none)
  (h:Q (.ref g, [.ref a]) s):wpAny (model X.prog X.w) A (getMethod (.ref a) m pl) Q E s:=by
 obtain ⟨mA,O,r,_,_,_⟩:=xO I.ao e
 have hn:mA m=none:=gC.none_of (by rw[←l];exact r m)
 exact Km I.b7 O (c.get m) k.at_ k.fn hn h
theorem Df {y:V} {u:Value} {Q:Unit→Shared→Prop} (I:Inv X pins σ H s) (e:H a=some (.ins C dx fs)) (c:cg X.K C) (n:bf X.K C f) (hl:fs.length<1000) (ry:RelV y u)
  (h: ∀s',Inv X pins σ (upd H a (.ins C dx (bC f y fs))) s'→Q () s'):wpAny (model X.prog X.w) A (setAttr (.ref a) f u) Q E s:=by
 obtain ⟨mA,O,r,wi,_,ho⟩:=xO I.ao e
 have hz:(fs.map (·.1)).length≤sizeLine:=by rw[List.length_map,sizeLine_eq];omega
 refine KO I.b7 O c.sa c.po n.N7 c.hd wi hz fun h' O' sb=>h _ ?_
 have hd: ∃o,h'.get? dx=some o:=let ⟨o,_,_,e',_⟩:=O'.ns;⟨o,e'⟩
 refine I.write (x:=a) (e:=dx) (by rw[e];exact True.intro) (.inr ho) (fun b q hb z=>(sb.2 b hb).trans z) hd ?_
 refine ⟨by rw[aL O.ne];exact ho,?_,O.ne,O'.obj,_,O'.ns,fun g=>?_,fun g hg=>?_⟩
 ·have:=CW f y fs;omega
 ·show gC ((bC f y fs).lookup g) (if g=f then some u else mA g)
  rw[zG]
  by_cases q:g=f
  ·rw[if_pos q,if_pos q];exact ry
  ·rw[if_neg q,if_neg q];exact r g
 ·by_cases q:g=f
  ·rw[q];exact (xN f y fs).1
  ·refine (xN f y fs).2 g (wi g fun z=>hg ?_)
   show (if g=f then some u else mA g)=none
   rw[if_neg q];exact z
theorem Inv.made (I:Inv X pins σ H s):Inv X pins σ (upd (upd H s.heap.objs.size (.own (s.heap.objs.size+1))) (s.heap.objs.size+1) (.ins C s.heap.objs.size []))
  {s with heap:=(s.heap.push PySem.W.emptyDict).push (PySem.W.instObj C s.heap.objs.size)}:=by
 have e1:(s.heap.push PySem.W.emptyDict).get? s.heap.objs.size=some PySem.W.emptyDict:=Heap.get?_push_size s.heap rfl
 have e2:((s.heap.push PySem.W.emptyDict).push (PySem.W.instObj C s.heap.objs.size)).get? (s.heap.objs.size+1)=some (PySem.W.instObj C s.heap.objs.size):=by
  have:=Heap.get?_push_size (s.heap.push PySem.W.emptyDict) (o:=PySem.W.instObj C s.heap.objs.size) rfl
  rwa [Heap.size_push] at this
 have e3:(s.heap.push PySem.W.emptyDict).Ns s.heap.objs.size (fun _=>none):=⟨PySem.W.emptyDict, #[],_,e1,rfl,(fun e he=>absurd he (by simp)),fun _=>rfl⟩
 have I1:=I.laid (a:=s.heap.objs.size) (o:= .own (s.heap.objs.size+1)) (h':=s.heap.push PySem.W.emptyDict) (t':=s.toks) (fun b u q=>Heap.get?_push_of_some _ q) (Nat.le_refl _) ⟨_,e1⟩
 refine I1.laid (a:=s.heap.objs.size+1) (o:= .ins C s.heap.objs.size []) (t':=s.toks) (fun b u q=>Heap.get?_push_of_some _ q) (Nat.le_of_eq (Heap.size_push _ _)) ?_
 have ne:s.heap.objs.size≠s.heap.objs.size+1:=Nat.ne_of_lt (Nat.lt_succ_self _)
 refine ⟨by rw[aL ne,aj],Nat.zero_le _,ne,e2,fun _=>none,(Heap.Ns1.of_empty e3).at fun o q=>Heap.get?_push_of_some _ q,fun _=>True.intro,fun y hy=>absurd rfl hy⟩
theorem Pw {prog:Program} {w:World} {env:Env} {e:Expr} {f:Str} {pos:Pos} {s:Shared} {Q:Value→Shared→Prop} (hb:attributeBase e f env (eval e env)=eval e env)
  (h:wpAny (model prog w) A (eval e env) (fun o s₁=>wpAny (model prog w) A (getAttr o f true) Q E s₁) E s):wpAny (model prog w) A (eval (.Attribute e f pos) env) Q E s:=
 Attribute_any_ h (by rw[arm_eval_Attribute,hb])
end
def oG (K:PySem.W.Frag) (ta:TE) (f:Str):TE:=fun σ H Q=>ta σ H fun x H1=> ∃a C dx fs v,x= .ref a∧H1 a=some (.ins C dx fs)∧cg K C∧bf K C f∧fs.lookup f=some v∧Q v H1
def QV (K:PySem.W.Frag) (ta tv:TE) (f:Str):TS:=fun D σ H=>tv σ H fun y H1=>ta σ H1 fun x H2=> ∃a C dx fs,x= .ref a∧H2 a=some (.ins C dx fs)∧cg K C∧bf K C f∧fs.length<1000∧
 D.nx σ (upd H2 a (.ins C dx (bC f y fs)))
def Bu (X:Cx) (op:Operator) (rd:V→V→Hp→VK→Prop):Prop:=
 ∀(pins:List (Addr×Obj)) (s:Shared) (σ:St) (H:Hp) (x y:V) (u v:Value) (Q:VK),Inv X pins σ H s→RelV x u→RelV y v→rd x y H Q→wpAny (model X.prog X.w) X.A (inplaceOp op u v) (EP X pins σ Q) X.xe s
def Jd (K:PySem.W.Frag) (ta tv:TE) (rd:V→V→Hp→VK→Prop) (f:Str):TS:=fun D σ H=>ta σ H fun x H1=> ∃a C dx fs v,x= .ref a∧H1 a=some (.ins C dx fs)∧cg K C∧bf K C f∧fs.lookup f=some v∧
 tv σ H1 fun y H2=>rd v y H2 fun z H3=> ∃dx' fs',H3 a=some (.ins C dx' fs')∧fs'.length<1000∧D.nx σ (upd H3 a (.ins C dx' (bC f z fs')))
section
variable {X:Cx} {o e value:Expr} {f:Str} {pos pos' tpos:Pos} {ta tv:TE}
theorem ay (he:PE X e ta) (hb:attributeBase e f X.env (eval e X.env)=eval e X.env):PE X (.Attribute e f pos) (oG X.K ta f):=by
 intro pins s σ H Q I h
 refine Pw hb (aI (he pins s σ H _ I h) fun u s1 ⟨x,H1,I1,rx,a,C,dx,fs,v,ex,ea,c,n,l,q⟩=>?_)
 subst ex
 obtain rfl:u=Value.ref a:=rx
 exact yZ I1 ea c n l fun u' s2 I2 ru=>⟨v,H1,I2,ru,q⟩
theorem bh (ha:PE X o ta) (hv:PE X value tv) (hs:swapsWith value (some (.Attribute o f pos')) pos.line X.env=pure false):PS X (.Assign [.Attribute o f pos'] value pos) (QV X.K ta tv f):=by
 intro pins s σ H D I h
 refine plainObj_wpAny_Assign_Attribute (aI (hv pins s σ H _ I h) fun u s1 ⟨y,H1,I1,ry,q⟩=>aI (ha pins s1 σ H1 _ I1 q) fun ov s2 ⟨x,H2,I2,rx,a,C,dx,fs,ex,ea,c,n,l,q2⟩=>?_) hs
 subst ex
 obtain rfl:ov=Value.ref a:=rx
 exact Df I2 ea c n l ry fun s3 I3=>⟨σ,_,I3,q2⟩
theorem Nw {op:Operator} {rd:V→V→Hp→VK→Prop} (ha:PE X o ta) (hv:PE X value tv) (hop:Bu X op rd):PS X (.AugAssign (.Attribute o f tpos) op value pos) (Jd X.K ta tv rd f):=by
 intro pins s σ H D I h
 refine wpAny_AugAssign_AttributeAny (aI (ha pins s σ H _ I h) fun ov s1 ⟨x,H1,I1,rx,a,C,dx,fs,v,ex,ea,c,n,l,q⟩=>?_)
 subst ex
 obtain rfl:ov=Value.ref a:=rx
 refine yZ I1 ea c n l fun u s2 I2 ru=>aI (hv pins s2 σ H1 _ I2 q) fun w3 s3 ⟨y,H2,I3,ry,q3⟩=>aI (hop pins s3 σ H2 v y u w3 _ I3 ru ry q3) fun w4 s4 ⟨z,H3,I4,rz,dx',fs',ea',l',q4⟩=>?_
 exact Df I4 ea' c n l' rz fun s5 I5=>⟨σ,_,I5,q4⟩
def Tq:V→V→Hp→VK→Prop:=fun x y H Q=> ∃i j,x= .int i∧y= .int j∧Q (.int (i+j)) H
theorem O0:Bu X .Add Tq:=by
 rintro pins s σ H x y u v Q I rx ry ⟨i,j,rfl,rfl,q⟩
 obtain ⟨t,rfl⟩:=(show∃t,u=Value.int i t from rx)
 obtain ⟨t',rfl⟩:=(show∃t',v=Value.int j t' from ry)
 exact PyProof.Rows.iadd_int ⟨.int (i+j),H,I.tok _,⟨_,rfl⟩,q⟩
end
section
variable {X:Cx} {pins:List (Addr×Obj)} {σ:St} {H:Hp} {s:Shared} {A:Around} {E:Value→Shared→Prop} {Q:Value→Shared→Prop} {c:Value} {b:Bool}
end
end L2
namespace L2
open PySem PySem.Spec PyProof.Rows
structure aE (k:Nat) (A:Around):Prop where
 hd:A.handled=none
 dp:A.depth+3*k+5<recursionLimit
 un:A.units+16*k+200<cLine
theorem aE.mono {j k:Nat} {A:Around} (r:aE k A) (h:j≤k):aE j A:=⟨r.hd,by have:=r.dp;omega,by have:=r.un;omega⟩
theorem aE.deeper {k:Nat} {A:Around} (r:aE (k+1) A) (env:Env):aE k (A.deeper env):=
 ⟨r.hd,by have:=r.dp;show A.depth+1+3*k+5<_;omega,by have:=r.un;show A.units+3+16*k+200<_;omega⟩
theorem Nl {A:Around} {C:Addr} {us:List Value} {kw:List (Str×Value)}:(A.under (.builtin "type.__call__" ⟨.ref C::us,kw⟩)).depth=A.depth+1:=by
 first|rfl|simp [Around.under,Code.weight,Code.isCreation,Code.isGuard,Code.isCaller,Code.frames,Code.isFrame,guardIds]
theorem Lq {A:Around} {C:Addr} {us:List Value} {kw:List (Str×Value)}:(A.under (.builtin "type.__call__" ⟨.ref C::us,kw⟩)).units=A.units+1:=by
 first|rfl|simp [Around.under,Code.cUnits,Code.frames,Code.isFrame]
theorem aE.make {k:Nat} {A:Around} (r:aE (k+1) A) (C:Addr) (us:List Value) (kw:List (Str×Value)):aE k (A.under (.builtin "type.__call__" ⟨.ref C::us,kw⟩)):=
 ⟨r.hd,by have:=r.dp;rw[Nl];omega,by have:=r.un;rw[Lq];omega⟩
theorem aE.depth {k:Nat} {A:Around} (r:aE k A):A.depth<recursionLimit:=by have:=r.dp;omega
theorem aE.units {k:Nat} {A:Around} (r:aE k A):A.units+64<cLine:=by have:=r.un;omega
def rX:TA:=fun _ H Q=>Q [] H
def BU (ta:TE) (tr:TA):TA:=fun σ H Q=>ta σ H fun x H1=>tr σ H1 fun xs H2=>Q (x::xs) H2
section
variable {X:Cx} {e:Expr} {es:List Expr} {te:TE} {t:TA} {pos:Pos}
theorem af:PA X [] rX:=fun _ _ _ _ H Q I h=>Calls.spliced_nil ⟨[],H,I, .nil,h⟩
theorem aa (ha:PE X e te) (hr:PA X es t) (hs:starEach (e::es) X.env=(false,eval e X.env)::starEach es X.env:=by rfl):PA X (e::es) (BU te t):=by
 intro pos pins s σ H Q I h
 rw[hs]
 show wpAny _ _ (spliced ((false,eval e X.env)::backTo pos (starEach es X.env))) _ _ s
 refine Calls.spliced_cons (aI (ha pins s σ H _ I h) fun u s1 ⟨x,H1,I1,r1,q1⟩=>?_)
 exact aI (hr pos pins s1 σ H1 _ I1 q1) fun us s2 ⟨xs,H2,I2,r2,q2⟩=>⟨x::xs,H2,I2, .cons r1 r2,q2⟩
def Mi (t:TA):TE:=fun σ H Q=>t σ H fun xs H1=>xs.length≤sizeLine∧ ∀p,H1 p=none→Q (.ref p) (upd H1 p (.tup xs))
def Lb (t:TA):TE:=fun σ H Q=>t σ H fun xs H1=>xs.length≤sizeLine∧ ∀p,H1 p=none→Q (.ref p) (upd H1 p (.lst xs))
theorem sQ {x1} (h:PA X es t):PE X (.Tuple es x1 pos) (Mi t):=by
 intro pins s σ H Q I hq
 refine wpAny_Tuple_spliced (aI (h pos pins s σ H _ I hq) fun us s1 ⟨xs,H1,I1,r,z,q⟩=>⟨by rw[←r.length];exact z,?_⟩)
 have hf:H1 s1.heap.objs.size=none:=I1.ao.fresh (Nat.le_refl _)
 refine ⟨.ref s1.heap.objs.size,upd H1 s1.heap.objs.size (.tup xs),I1.laid (t':=s1.toks) (fun b u e=>Heap.get?_push_of_some _ e) (Nat.le_refl _) ?_,rfl,q _ hf⟩
 exact ⟨z,us,r,⟨_,Heap.get?_push_size _ rfl,rfl,_,rfl⟩⟩
theorem bZ (h:PA X es t):PE X (.List es pos) (Lb t):=by
 intro pins s σ H Q I hq
 refine wpAny_List_spliced (aI (h pos pins s σ H _ I hq) fun us s1 ⟨xs,H1,I1,r,z,q⟩=>⟨by rw[←r.length];exact z,?_⟩)
 have hf:H1 s1.heap.objs.size=none:=I1.ao.fresh (Nat.le_refl _)
 refine ⟨.ref s1.heap.objs.size,upd H1 s1.heap.objs.size (.lst xs),I1.laid (t':=s1.toks) (fun b u e=>Heap.get?_push_of_some _ e) (Nat.le_refl _) ?_,rfl,q _ hf⟩
 exact ⟨z,us,0,r,Heap.get?_push_size _ rfl⟩
end
abbrev Sp:=List V→Hp→VK→XK→Prop
abbrev ek:=List Env→Hp→Shared→XK→Value→Shared→Prop
structure i7 (P:Program) (w:World) (K:PySem.W.Frag) (mg:Str→Option Value) (base:Heap) (A:Around) (outer:List Env) (s:Shared) (H:Hp):Prop where
 frames:A.frames=some outer
 mod:Mod K mg base
 bs: ∀b o,base.get? b=some o→s.heap.get? b=some o∧H b=none
 eW:base.objs.size≤s.heap.objs.size
 dq:s.heap.FunFrames base outer
 fV: ∀b∈bo outer,H b=none
 ao:bQ P w H s.heap
 bare:AllBare s.gens
def CE (outer:List Env) (P:Program) (w:World) (H:Hp) (s:Shared) (Q:VK) (u:Value) (s':Shared):Prop:=
 ∃v H',s'.os=s.os∧AllBare s'.gens∧Un (bo outer) [] H H' s.heap s'.heap∧bQ P w H' s'.heap∧RelV v u∧Q v H'
def CR (CX:ek) (outer:List Env) (P:Program) (w:World) (H:Hp) (s:Shared) (Q:VK) (E:XK) (r:Result) (s':Shared):Prop:=
 match r with
 | .ok (.ret u)=>CE outer P w H s Q u s'
 | .ok _=>False
 | .error e=>CX outer H s E e s'
structure az (P:Program) (w:World) (K:PySem.W.Frag) (mg:Str→Option Value) (base:Heap) (CX:ek) (k:Nat) (f:Addr) (fd:FuncData) (ps:List Str) (sp:Sp):Prop where
 len: ∀vs H Q E,sp vs H Q E→vs.length=ps.length
 run: ∀(A:Around) (outer:List Env) (s:Shared) (H:Hp) (args:Args) (us:List Value) (vs:List V) (Q:VK) (E:XK),aE k A→i7 P w K mg base A outer s H→BindsTo s fd args (ps.zip us)→Vals vs us→sp vs H Q E→
  codeAny (model P w) A (.call (.ref f) args) (CR CX outer P w H s Q E) s
theorem az.mono {P:Program} {w:World} {K:PySem.W.Frag} {mg:Str→Option Value} {base:Heap} {CX:ek} {j k:Nat} {f:Addr} {fd:FuncData} {ps:List Str} {sp:Sp} (F:az P w K mg base CX j f fd ps sp) (h:j≤k):
  az P w K mg base CX k f fd ps sp:=⟨F.len,fun A outer s H args us vs Q E hr=>F.run A outer s H args us vs Q E (hr.mono h)⟩
theorem az.imp {P:Program} {w:World} {K:PySem.W.Frag} {mg:Str→Option Value} {base:Heap} {CX:ek} {k:Nat} {f:Addr} {fd:FuncData} {ps:List Str} {sp sp':Sp} (F:az P w K mg base CX k f fd ps sp)
  (h: ∀vs H Q E,sp' vs H Q E→sp vs H Q E):az P w K mg base CX k f fd ps sp':=
 ⟨fun vs H Q E q=>F.len vs H Q E (h _ _ _ _ q),fun A outer s H args us vs Q E hr he hb hv hs=>F.run A outer s H args us vs Q E hr he hb hv (h _ _ _ _ hs)⟩
theorem i7.make {P:Program} {w:World} {K:PySem.W.Frag} {mg:Str→Option Value} {base:Heap} {A:Around} {outer:List Env} {s:Shared} {H:Hp} (e:i7 P w K mg base A outer s H) (C:Addr) (us:List Value) (kw:List (Str×Value)):
  i7 P w K mg base (A.under (.builtin "type.__call__" ⟨.ref C::us,kw⟩)) outer s H:=⟨by first|exact e.frames|(simpa [Around.under,Code.envs,Code.isFrame,pushEnvs] using e.frames),e.mod,e.bs,e.eW,e.dq,e.fV,e.ao,e.bare⟩
section
variable {X:Cx} {pins:List (Addr×Obj)} {σ:St} {H:Hp} {s s':Shared}
theorem Inv.uj (I:Inv X pins σ H s):i7 X.prog X.w X.K X.mg X.base X.A X.stack s H:=
 ⟨I.ok.frames,I.ok.mod,I.bs,Nat.le_trans I.ok.eW I.sz,I.stack,I.rR,I.ao,I.bare⟩
theorem Inv.after {Q:VK} {u:Value} (I:Inv X pins σ H s) (h:CE X.stack X.prog X.w H s Q u s'):EP X pins σ Q u s':=by
 obtain ⟨v,H',os,bare,un,ao,r,q⟩:=h
 obtain ⟨hh,g,d,t,os'⟩:=s'
 obtain rfl:os'=s.os:=os
 exact ⟨v,H',I.call (h':=hh) (g':=g) (d':=d) (t':=t) (ch:= []) un ao bare (fun b z=>absurd z (by simp)),r,q⟩
end
def KZ (sp:Sp) (dvs:List V) (E:XK) (t:TA):TE:=fun σ H Q=>t σ H fun vs H1=>sp (vs++dvs) H1 Q E
def tL (C:Addr) (m:Str) (sp:Sp) (dvs:List V) (E:XK) (ta:TE) (t:TA):TE:=fun σ H Q=>ta σ H fun x H1=> ∃a dx fs,x= .ref a∧H1 a=some (.ins C dx fs)∧fs.lookup m=none∧
 t σ H1 fun vs H2=>sp (x::(vs++dvs)) H2 Q E
def Ih (C:Addr) (sp:Sp) (dvs:List V) (E:XK) (t:TA):TE:=fun σ H Q=>t σ H fun vs H1=> ∀x dx,H1 x=none→H1 dx=none→dx≠x→
 sp (.ref x::(vs++dvs)) (upd (upd H1 dx (.own x)) x (.ins C dx [])) (fun v H2=>v= .aw∧Q (.ref x) H2) E
def Binds (K:PySem.W.Frag) (fd:FuncData) (ps:List Str) (ds:List Value):Prop:=
 ∀(s:Shared) (us:List Value),K.In s.heap→(us++ds).length=ps.length→BindsTo s fd ⟨us, []⟩ (ps.zip (us++ds))
theorem Binds.all {K:PySem.W.Frag} {fd:FuncData} {ps:List Str} (h: ∀us:List Value,us.length=ps.length→bindArgs fd ⟨us, []⟩=pure (ps.zip us)):Binds K fd ps []:=fun s us _ hl=>by
 rw[List.append_nil] at hl⊢
 exact .of_eq (h us hl)
def Passes (CX:ek) (X:Cx) (E:XK):Prop:= ∀(pins:List (Addr×Obj)) (σ:St) (H:Hp) (s:Shared) (e:Value) (s':Shared),Inv X pins σ H s→CX X.stack H s E e s'→X.xe e s'
section
variable {X:Cx} {CX:ek} {k:Nat} {f C:Addr} {fd:FuncData} {ps:List Str} {sp:Sp} {dvs:List V} {ds:List Value} {E:XK} {x m:Str} {p pos apos:Pos} {e o:Expr} {es:List Expr} {ta:TE} {t:TA}
theorem wZ {pins:List (Addr×Obj)} {σ:St} {H:Hp} {s:Shared} {Q:VK} {us:List Value} {vs:List V} (F:az X.prog X.w X.K X.mg X.base CX k f fd ps sp) (hr:aE k X.A) (hb:Binds X.K fd ps ds) (hd:Vals dvs ds) (hx:Passes CX X E)
  (I:Inv X pins σ H s) (r:Vals vs us) (h:sp (vs++dvs) H Q E):wpAny (model X.prog X.w) X.A (call (.ref f) us) (EP X pins σ Q) X.xe s:=by
 have r2:Vals (vs++dvs) (us++ds):=r.append hd
 have hl:(us++ds).length=ps.length:=by rw[←r2.length];exact F.len _ _ _ _ h
 refine wpAny_call (codeAny_mono (F.run X.A X.stack s H ⟨us, []⟩ (us++ds) (vs++dvs) Q E hr I.uj (hb s us I.b7 hl) r2 h) fun r s' hq=>?_)
 cases r with
 |error e=>exact hx pins σ H s e s' I hq
 |ok fl=>
  cases fl with
  |ret u=>exact I.after hq
  |next=>exact False.elim hq
  |brk=>exact False.elim hq
  |cont=>exact False.elim hq
theorem aP (F:az X.prog X.w X.K X.mg X.base CX k f fd ps sp) (hr:aE k X.A) (hg:Gl X x) (hm:X.mg x=some (.ref f)) (hk:PySem.W.keepIn X.K (.ref f)=true) (hb:Binds X.K fd ps ds) (hd:Vals dvs ds) (hx:Passes CX X E)
  (ha:PA X (e::es) t) (hdb:(x==("__debug__" :Str))=false:=by decide) (he:starEach (e::es) X.env=(false,eval e X.env)::starEach es X.env:=by rfl) (hpl:(backTo pos (starEach es X.env)).any (·.1)=false:=by rfl):
  PE X (.Call (.Name x p) (e::es) [] pos) (KZ sp dvs E t):=by
 intro pins s σ H Q I h
 refine wpAny_Call_Name_kw (kh I hg hm ?_ hdb)
 refine PySem.W.callWith_K (h₀:=X.base) I.ok.mod.iP hk (aI (ha pos pins s σ H _ I h) fun us s1 ⟨vs,H1,I1,r,q⟩=>⟨I1.b7,?_⟩) he hpl
 exact wZ F hr hb hd hx I1 r q
theorem aU {pl:Sem Bool} (he:PE X o ta) (c:cg X.K C) (hm:Meth X.K C m f) (F:az X.prog X.w X.K X.mg X.base CX k f fd ps sp) (hr:aE k X.A) (hb:Binds X.K fd ps ds) (hd:Vals dvs ds) (hx:Passes CX X E) (ha:PA X (e::es) t)
  (hst:starEach (e::es) X.env=(false,eval e X.env)::starEach es X.env:=by rfl) (hpl:(backTo pos (starEach es X.env)).any (·.1)=false:=by rfl)
  (ht:eval (.Call (.Attribute o m apos) (e::es) [] pos) X.env=(do
   let ov←eval o X.env
   standAt apos.atName
   let (f,first)←holding [ov] (getMethod ov m pl)
   callWith pos f first (backTo pos (starEach (e::es) X.env)) (backToKw pos (keywordEach [] X.env))):=by rfl):
  PE X (.Call (.Attribute o m apos) (e::es) [] pos) (tL C m sp dvs E ta t):=by
 intro pins s σ H Q I h
 refine PySem.W.methodCall_KW (pl:=pl) (aI (he pins s σ H _ I h) fun u s1 ⟨x,H1,I1,rx,a,dx,fs,ex,ea,l,q⟩=>?_) ht
 subst ex
 obtain rfl:u=Value.ref a:=rx
 refine tY I1 ea c hm l ?_
 refine PySem.W.callWith_K (first:= [.ref a]) (h₀:=X.base) I.ok.mod.iP hm.kp (aI (ha pos pins s1 σ H1 _ I1 q) fun us s2 ⟨vs,H2,I2,r,q2⟩=>⟨I2.b7,?_⟩) hst hpl
 exact wZ (us:= .ref a::us) (vs:= .ref a::vs) F hr hb hd hx I2 (.cons rfl r) q2
theorem LR {pl:Sem Bool} (he:PE X o ta) (c:cg X.K C) (hm:Meth X.K C m f) (F:az X.prog X.w X.K X.mg X.base CX k f fd ps sp) (hr:aE k X.A) (hb:Binds X.K fd ps ds) (hd:Vals dvs ds) (hx:Passes CX X E)
  (ht:eval (.Call (.Attribute o m apos) [] [] pos) X.env=(do
   let ov←eval o X.env
   standAt apos.atName
   let (f,first)←holding [ov] (getMethod ov m pl)
   callWith pos f first (backTo pos (starEach [] X.env)) (backToKw pos (keywordEach [] X.env))):=by rfl):
  PE X (.Call (.Attribute o m apos) [] [] pos) (tL C m sp dvs E ta rX):=by
 intro pins s σ H Q I h
 refine PySem.W.methodCall_KW (pl:=pl) (aI (he pins s σ H _ I h) fun u s1 ⟨x,H1,I1,rx,a,dx,fs,ex,ea,l,q⟩=>?_) ht
 subst ex
 obtain rfl:u=Value.ref a:=rx
 refine tY I1 ea c hm l ?_
 exact PySem.W.callWith_K0 (first:= [.ref a]) I1.b7 hm.kp (wZ (us:= [.ref a]) (vs:= [.ref a]) F hr hb hd hx I1 (.cons rfl .nil) q)
structure Mk (K:PySem.W.Frag) (C f:Addr):Prop where
 makes:PySem.W.makesIn K C=true
 init:PySem.W.findIn K (.ref C) "__init__" =some (some (.ref f))
 fn:PySem.W.isFn K (.ref f)=true
 kp:PySem.W.keepIn K (.ref C)=true
theorem LF {pins:List (Addr×Obj)} {σ:St} {H:Hp} {s:Shared} {Q:VK} {us:List Value} {vs:List V} (M:Mk X.K C f) (F:az X.prog X.w X.K X.mg X.base CX k f fd ps sp) (hr:aE (k+1) X.A) (hb:Binds X.K fd ps ds) (hd:Vals dvs ds)
  (hx:Passes CX X E) (I:Inv X pins σ H s) (r:Vals vs us)
  (h: ∀x dx,H x=none→H dx=none→dx≠x→sp (.ref x::(vs++dvs)) (upd (upd H dx (.own x)) x (.ins C dx [])) (fun v H2=>v= .aw∧Q (.ref x) H2) E):
  wpAny (model X.prog X.w) X.A (call (.ref C) us) (EP X pins σ Q) X.xe s:=by
 have hq:=h (s.heap.objs.size+1) s.heap.objs.size (I.ao.fresh (Nat.le_succ _)) (I.ao.fresh (Nat.le_refl _)) (Nat.ne_of_lt (Nat.lt_succ_self _))
 have I2:=Inv.made (C:=C) I
 have r2:Vals (V.ref (s.heap.objs.size+1)::(vs++dvs)) (Value.ref (s.heap.objs.size+1)::(us++ds)):= .cons rfl (r.append hd)
 have hl:(Value.ref (s.heap.objs.size+1)::us++ds).length=ps.length:=by
  have e:=r2.length
  rw[F.len _ _ _ _ hq] at e
  exact e.symm
 refine wpAny_call (GL (f:=f) I.b7 M.makes M.init (beq_iff_eq.mp M.fn) (codeAny_mono (F.run _ X.stack _ _ ⟨Value.ref (s.heap.objs.size+1)::us, []⟩ (Value.ref (s.heap.objs.size+1)::(us++ds)) _ _ E (hr.make C us [])
  (I2.uj.make C us []) (hb _ (Value.ref (s.heap.objs.size+1)::us) I2.b7 hl) r2 hq) fun r s' hq'=>?_))
 cases r with
 |error e=>exact hx pins σ _ _ e s' I2 hq'
 |ok fl=>
  cases fl with
  |ret u=>
   obtain ⟨v,H',I3,rv,ev,q3⟩:=I2.after hq'
   subst ev
   exact ⟨rv,⟨V.ref (s.heap.objs.size+1),H',I3,rfl,q3⟩⟩
  |next=>exact False.elim hq'
  |brk=>exact False.elim hq'
  |cont=>exact False.elim hq'
theorem fW (M:Mk X.K C f) (F:az X.prog X.w X.K X.mg X.base CX k f fd ps sp) (hr:aE (k+1) X.A) (hg:Gl X x) (hm:X.mg x=some (.ref C)) (hb:Binds X.K fd ps ds) (hd:Vals dvs ds) (hx:Passes CX X E)
  (ha:PA X (e::es) t) (hdb:(x==("__debug__" :Str))=false:=by decide) (he:starEach (e::es) X.env=(false,eval e X.env)::starEach es X.env:=by rfl) (hpl:(backTo pos (starEach es X.env)).any (·.1)=false:=by rfl):
  PE X (.Call (.Name x p) (e::es) [] pos) (Ih C sp dvs E t):=by
 intro pins s σ H Q I h
 refine wpAny_Call_Name_kw (kh I hg hm ?_ hdb)
 refine PySem.W.callWith_K (h₀:=X.base) I.ok.mod.iP M.kp (aI (ha pos pins s σ H _ I h) fun us s1 ⟨vs,H1,I1,r,q⟩=>⟨I1.b7,?_⟩) he hpl
 exact LF M F hr hb hd hx I1 r q
end
section
variable {X:Cx} {CX:ek} {k:Nat} {f C:Addr} {fd:FuncData} {ps ks:List Str} {sp:Sp} {E:XK} {x m:Str} {p pos apos kpos:Pos} {e o:Expr} {es:List Expr} {kws:List Keyword} {te ta:TE} {t tk:TA} {nm:Option Str}
variable {g:List Value→List Value→List Value} {gV:List V→List V→List V}
end
structure aK (N P:List Str) (sc:Scope):Prop where
 kind:sc.kind= .function
 co:sc.isCoroutine=false
 gen:sc.isGenerator=false
 nd:N.Nodup
 pre:N.take P.length=P
 par: ∀x∈P,sc.names.lookup x=some .local∨sc.names.lookup x=some .cell
 IE: ∀y∈sc.names,y.2≠ .free
theorem zM {kindOf:Str→Option NameKind} {x:Str}: ∀{binds:List (Str×Value)} {m:Str→Option Value},(∀v,(x,v)∉binds)→bindL kindOf binds m x=m x
 | [],_,_=>rfl
 |(n,v)::r,m,h=>by
  unfold bindL
  rw[zM fun w hw=>h w (List.mem_cons_of_mem _ hw)]
  split
  ·have:x≠n:=by rintro rfl;exact h v List.mem_cons_self
   simp [this]
  ·rfl
theorem Ey {kindOf:Str→Option NameKind} {x:Str}: ∀{binds:List (Str×Value)} {m:Str→Option Value},(∀v,(x,v)∉binds)→bindC kindOf binds m x=m x
 | [],_,_=>rfl
 |(n,v)::r,m,h=>by
  unfold bindC
  rw[Ey fun w hw=>h w (List.mem_cons_of_mem _ hw)]
  split
  ·rfl
  ·have:x≠n:=by rintro rfl;exact h v List.mem_cons_self
   simp [this]
theorem Ah {kindOf:Str→Option NameKind} {x:Str} {v:Value}: ∀{P:List Str} {vs:List Value} {i:Nat} {m:Str→Option Value},P.Nodup→P[i]?=some x→vs[i]?=some v→kindOf x=some .local→
  bindL kindOf (P.zip vs) m x=some v
 | [],_,_,_,_,h,_,_=>by simp at h
 |_::_, [],_,_,_,_,h,_=>by simp at h
 |p::P,w::vs,0,m,nd,h1,h2,hk=>by
  simp at h1 h2;subst h1;subst h2
  show bindL kindOf ((p,w)::P.zip vs) m p=_
  unfold bindL
  rw[zM fun v hv=>(List.nodup_cons.mp nd).1 (List.of_mem_zip hv).1,if_pos hk]
  simp
 |p::P,w::vs,i+1,m,nd,h1,h2,hk=>by
  show bindL kindOf ((p,w)::P.zip vs) m x=_
  unfold bindL
  exact Ah (i:=i) (List.nodup_cons.mp nd).2 (by simpa using h1) (by simpa using h2) hk
theorem EZ {kindOf:Str→Option NameKind} {x:Str} {v:Value}: ∀{P:List Str} {vs:List Value} {i:Nat} {m:Str→Option Value},P.Nodup→P[i]?=some x→vs[i]?=some v→kindOf x≠some .local→
  bindC kindOf (P.zip vs) m x=some v
 | [],_,_,_,_,h,_,_=>by simp at h
 |_::_, [],_,_,_,_,h,_=>by simp at h
 |p::P,w::vs,0,m,nd,h1,h2,hk=>by
  simp at h1 h2;subst h1;subst h2
  show bindC kindOf ((p,w)::P.zip vs) m p=_
  unfold bindC
  rw[Ey fun v hv=>(List.nodup_cons.mp nd).1 (List.of_mem_zip hv).1,if_neg hk]
  simp
 |p::P,w::vs,i+1,m,nd,h1,h2,hk=>by
  show bindC kindOf ((p,w)::P.zip vs) m x=_
  unfold bindC
  exact EZ (i:=i) (List.nodup_cons.mp nd).2 (by simpa using h1) (by simpa using h2) hk
def start (N:List Str) (vs:List V):St:=vs.map some++List.replicate (N.length-vs.length) none
def fK (CX:ek) (P:Program) (w:World) (K:PySem.W.Frag) (mg:Str→Option Value) (base:Heap) (N:List Str) (qual:Str) (scope:Scope) (f:Addr) (cd:Value) (A:Around) (outer:List Env) (s:Shared) (H:Hp) (E:XK):Cx where
 prog:=P
 w:=w
 K:=K
 mg:=mg
 base:=base
 A:=A.deeper (envOfC qual scope s.heap.objs.size f cd)
 N:=N
 bB:=s
 lF:=H
 env:=envOfC qual scope s.heap.objs.size f cd
 outer:=outer
 stack:=envOfC qual scope s.heap.objs.size f cd::outer
 ex:= []
 calm:=true
 fn:=fun _=>true
 pn:= []
 xe:=fun e s'=>wpAny (model P w) (A.deeper (envOfC qual scope s.heap.objs.size f cd)) (leaving (envOfC qual scope s.heap.objs.size f cd) e) (fun _ s''=>CX outer H s E e s'') (fun e' s''=>CX outer H s E e' s'') s'
theorem Cv {sc:Scope} {n:Nat} {x:Str} (h:sc.names.lookup x=some .cell): ∃c,(cellsFrom n sc.names []).lookup x=some c:=by
 have q:=PySem.W.cellsFrom_some sc.names n [] (.inl h)
 exact Option.isSome_iff_exists.mp q
theorem DR {CX:ek} {P:Program} {w:World} {K:PySem.W.Frag} {mg:Str→Option Value} {base:Heap} {N ps:List Str} {qual:Str} {scope:Scope} {f:Addr} {cd:Value} {A:Around} {outer:List Env} {s s1:Shared} {H:Hp} {E:XK} {us:List Value} {vs:List V}
  (S:aK N ps scope) (hd:A.handled=none) (e0:i7 P w K mg base A outer s H) (hl:vs.length=ps.length) (r:Vals vs us)
  (x:InCallC s s.heap.objs.size (bindL (envOfC qual scope s.heap.objs.size f cd).kindOf (ps.zip us) fun _=>none) (cellsFrom (s.heap.objs.size+1) scope.names []) (bindC (envOfC qual scope s.heap.objs.size f cd).kindOf (ps.zip us) fun _=>none) s1):
  Inv (fK CX P w K mg base N qual scope f cd A outer s H E) [] (start N vs) H s1:=by
 have hpl:ps.length≤N.length:=by have:=congrArg List.length S.pre;rw[List.length_take] at this;omega
 obtain ⟨h1,tk,rfl,hk⟩:=x.done
 have noA: ∀b:Addr,b∉(fK CX P w K mg base N qual scope f cd A outer s H E).ex:=fun b z=>absurd (show b∈([]:List Addr) from z) (by simp)
 refine ⟨⟨e0.mod,S.kind,rfl,rfl,Nat.le_refl _,fun y z c h1 h2=>?_,fun y hy=>?_,fun y c _ h=>?_,fun _=>hd,Around.frames_deeper e0.frames, .inr ⟨rfl,rfl⟩,fun b z=>absurd z (noA b),e0.bs,e0.eW,fun b _ _=>noA b,fun b z=>absurd z (noA b),e0.dq,e0.fV⟩,
  rfl,e0.bare,Un.kept hk,⟨_,x.toInCall.ns,fun i y v h1 h2 h3=>?_⟩,fun y c h=>⟨_,x.cell y c h⟩,e0.ao.fresh (Nat.le_refl _),fun y c h=>?_,fun p hp=>absurd (show p∈([]:List (Addr×Obj)) from hp) (by simp),e0.ao.kept hk,?_⟩
 ·exact name_of_addr x.apart (PySem.mem_of_lookup h1) (PySem.mem_of_lookup h2)
 ·have hy:scope.names.lookup y=some .cell∨scope.names.lookup y=some .free:=hy
  rcases hy with hy|hy
  ·exact Cv hy
  ·exact absurd rfl (S.IE _ (PySem.mem_of_lookup hy))
 ·exact Nat.le_of_lt (x.above y c (PySem.mem_of_lookup h))
 ·have hi:i<vs.length:=by
   unfold start at h2
   by_cases hi:i<vs.length
   ·exact hi
   ·rw[List.getElem?_append_right (by simpa using hi)] at h2
    rw[List.getElem?_replicate] at h2
    split at h2<;>cases h2
  have ha:vs[i]?=some v:=by
   unfold start at h2
   rw[List.getElem?_append_left (by simpa using hi),List.getElem?_map] at h2
   cases e:vs[i]? with
   |none=>rw[e] at h2;cases h2
   |some a=>rw[e] at h2;cases h2;rfl
  obtain ⟨u,hu,rv⟩:=r.get ha
  have hp:ps[i]?=some y:=by
   rw[←S.pre,List.getElem?_take_of_lt (by omega)];exact h1
  have ndP:ps.Nodup:=by rw[←S.pre];exact S.nd.sublist (List.take_sublist _ _)
  refine ⟨u,rv,?_⟩
  rcases S.par y (List.mem_of_getElem? hp) with k|k
  ·exact .inl ⟨k,Ah ndP hp hu k⟩
  ·obtain ⟨c,e⟩:=Cv (n:=s.heap.objs.size+1) k
   refine .inr ⟨.inl k,c,e,?_⟩
   have q:=x.cell y c e
   rw[EZ ndP hp hu (by show scope.names.lookup y≠_;rw[k];decide)] at q
   exact q
 ·exact e0.ao.fresh (Nat.le_of_lt (x.above y c (PySem.mem_of_lookup h)))
 ·unfold start
  show _=N.length
  rw[List.length_append,List.length_map,List.length_replicate]
  omega
theorem Fm {CX:ek} {P:Program} {w:World} {K:PySem.W.Frag} {mg:Str→Option Value} {base:Heap} {k:Nat} {f:Addr} {name qual:Str} {params:Arguments} {body:List Stmt} {scope:Scope} {dV kV doc pm cdv ct oc:Value} {an od:Option Addr}
  {osl:Array (Option Value)} {N ps:List Str} {sp:Sp} (lk:K.lookup f=some ⟨oc,od, .func (PySem.W.fnOf name qual params body scope dV kV doc pm an cdv ct),osl⟩) (hcd:PySem.W.codeIn K cdv qual=true) (S:aK N ps scope)
  (len: ∀vs H Q E,sp vs H Q E→vs.length=ps.length)
  (hbody: ∀(A:Around) (outer:List Env) (s:Shared) (H:Hp) (vs:List V) (Q:VK) (E:XK),aE k (A.deeper (envOfC qual scope s.heap.objs.size f cdv))→sp vs H Q E→
   ∃t,cS (fK CX P w K mg base N qual scope f cdv A outer s H E) body t∧t {nx:=fun _ H'=>Q .aw H',rt:=Q} (start N vs) H):
  az P w K mg base CX (k+1) f (PySem.W.fnOf name qual params body scope dV kV doc pm an cdv ct) ps sp:=by
 refine ⟨len,fun A outer s H args us vs Q E hr e0 hb r hsp=>?_⟩
 have hl:=len _ _ _ _ hsp
 have KX:K.In s.heap:=e0.mod.iP.keeps fun b o e=>(e0.bs b o e).1
 have lim:s.heap.NoLimit:=e0.mod.nolimit.keeps fun b o e=>(e0.bs b o e).1
 have hkind: ∀y∈ps.zip us,scope.names.lookup y.1=some .local∨(scope.names.lookup y.1=some .cell∧((cellsFrom (s.heap.objs.size+1) scope.names []).lookup y.1).isSome=true):=fun ⟨n,v⟩ hy=>by
  rcases S.par n (List.of_mem_zip hy).1 with q|q
  ·exact .inl q
  ·exact .inr ⟨q,PySem.W.cellsFrom_some _ _ _ (.inl q)⟩
 refine codeAny_call_function hr.depth (KX _ _ lk) rfl S.co S.gen rfl (PySem.W.codeRec_of KX hcd) (hb _ _ _ _ ?_)
 refine wpAny_newFunctionEnv_cells S.kind hkind fun env he s1 x=>?_
 subst he
 refine ⟨lim.keeps x.toInCall.keep,codeAny_func ?_⟩
 obtain ⟨t,ht,hq⟩:=hbody A outer s H vs Q E (hr.deeper _) hsp
 have I:Inv (fK CX P w K mg base N qual scope f cdv A outer s H E) [] (start N vs) H s1:=DR S hr.hd e0 hl r x
 refine wpAny_mono (ht [] s1 (start N vs) H _ I hq) (fun fl s' hs=>?_) fun e s' hs=>hs
 have fin: ∀{σ':St} {H':Hp} {v:V} {u:Value},Inv (fK CX P w K mg base N qual scope f cdv A outer s H E) [] σ' H' s'→RelV v u→Q v H'→CE outer P w H s Q u s':=
  fun {σ' H' v u} J rv q=>⟨v,H',J.os,J.bare,J.base,J.ao,rv,q⟩
 cases fl with
 |ret u=>
  obtain ⟨v,σ',H',J,rv,q⟩:=hs
  exact fin J rv q
 |next=>
  obtain ⟨σ',H',J,q⟩:=hs
  exact fin (v:=V.aw) (u:=Value.none) J rfl q
 |brk=>
  obtain ⟨_,_,_,q⟩:=hs
  exact False.elim q
 |cont=>
  obtain ⟨_,_,_,q⟩:=hs
  exact False.elim q
end L2
namespace L2
open PySem PySem.Spec PyProof.Rows
section
variable {X:Cx} {x:Str} {p pos:Pos} {e:Expr} {es:List Expr} {t:TA} {id T:String} {r:List V→Hp→VK→Prop}
def CO (r:List V→Hp→VK→Prop) (t:TA):TE:=fun σ H Q=>t σ H fun vs H1=>r vs H1 Q
theorem bX (hc:ik X (.builtin id) r) (hg:Gl X x) (hm:X.mg x=none) (hv:bootBuiltins x=some (.builtin id)) (ha:PA X (e::es) t) (hn:x≠ "__name__" :=by decide) (hdb:(x==("__debug__" :Str))=false:=by decide)
  (he:starEach (e::es) X.env=(false,eval e X.env)::starEach es X.env:=by rfl) (hpl:(backTo pos (starEach es X.env)).any (·.1)=false:=by rfl):PE X (.Call (.Name x p) (e::es) [] pos) (CO r t):=by
 intro pins s σ H Q I h
 refine wpAny_Call_Name_kw (jm I hg hm hv ?_ hn hdb)
 exact PyProof.Rows.callWith_builtin1 (aI (ha pos pins s σ H _ I h) fun us s1 ⟨vs,H1,I1,r1,q1⟩=>hc pins s1 σ H1 vs us Q I1 r1 q1) he hpl
theorem tI (hc:ik X (.type T) r) (hg:Gl X x) (hm:X.mg x=none) (hv:bootBuiltins x=some (.type T)) (ha:PA X (e::es) t) (hn:x≠ "__name__" :=by decide) (hdb:(x==("__debug__" :Str))=false:=by decide)
  (he:starEach (e::es) X.env=(false,eval e X.env)::starEach es X.env:=by rfl) (hpl:(backTo pos (starEach es X.env)).any (·.1)=false:=by rfl):PE X (.Call (.Name x p) (e::es) [] pos) (CO r t):=by
 intro pins s σ H Q I h
 refine wpAny_Call_Name_kw (jm I hg hm hv ?_ hn hdb)
 exact PyProof.Rows.callWith_type1 (aI (ha pos pins s σ H _ I h) fun us s1 ⟨vs,H1,I1,r1,q1⟩=>hc pins s1 σ H1 vs us Q I1 r1 q1) he hpl
end
end L2
namespace HT
open PySem PyProof.Rows
section
open PySem.SeqAt
open PySem.AutoSeq1 (wpAny_loadPart')
open PySem.MeetsSeq PySem.MeetsSeq2 PySem.MeetsSeq3
end
section
variable {prog:Program} {w:World} {A:Around} {E:Value→Shared→Prop} {s:Shared}
def dh (n d:Nat):Option Int→Nat
 |none=>d
 |some v=>if v<0 then (v+(n:Int)).toNat else min v.toNat n
end
end HT
namespace L2
open PySem PySem.Spec PyProof.Rows
abbrev TO:=St→Hp→(Option Int→Hp→Prop)→Prop
def PO (X:Cx) (e:Option Expr) (t:TO):Prop:=
 ∀(pins:List (Addr×Obj)) (s:Shared) (σ:St) (H:Hp) (Q:Option Int→Hp→Prop),Inv X pins σ H s→t σ H Q→
  wpAny (model X.prog X.w) X.A (evalPart e X.env) (fun u s'=> ∃o H',Inv X pins σ H' s'∧IsPart u o∧Q o H') X.xe s
def Tn:TO:=fun _ H Q=>Q none H
def Lj (t:TE):TO:=fun σ H Q=>t σ H fun x H1=> ∃i,x= .int i∧Q (some i) H1
section
variable {X:Cx} {e:Expr} {te:TE} {lo hi:Option Expr} {tl th:TO} {pos p2:Pos}
theorem kq:PO X none Tn:=by
 intro pins s σ H Q I h
 rw[evalPart_none]
 exact wpAny_pure ⟨none,H,I, .none,h⟩
theorem cD (h:PE X e te):PO X (some e) (Lj te):=by
 intro pins s σ H Q I hw
 rw[evalPart_some]
 refine aI (h pins s σ H _ I hw) fun u s1 ⟨x,H1,I1,r1,q1⟩=>?_
 obtain ⟨i,rfl,q⟩:=q1
 obtain ⟨t,rfl⟩:=r1
 exact ⟨some i,H1,I1, .int i t,q⟩
def vY (X:Cx) (r:V→Option Int→Option Int→Hp→VK→Prop):Prop:=
 ∀(pins:List (Addr×Obj)) (s:Shared) (σ:St) (H:Hp) (x:V) (v vl vu:Value) (lo hi:Option Int) (sl:Addr) (Q:VK),Inv X pins σ H s→RelV x v→s.heap.IsSliceOf sl vl vu .none→IsPart vl lo→IsPart vu hi→r x lo hi H Q→
  ∃T id,typeLookup (.type T) "__getitem__" =pure (some (.builtin id))∧s.TypeIs v T∧wpAny (model X.prog X.w) X.A (getItem v (.ref sl)) (EP X pins σ Q) X.xe s
def Nj (r:V→Option Int→Option Int→Hp→VK→Prop) (te:TE) (tl th:TO):TE:=fun σ H Q=>te σ H fun x H1=>tl σ H1 fun l H2=>th σ H2 fun u H3=>r x l u H3 Q
theorem eH {r:V→Option Int→Option Int→Hp→VK→Prop} (hr:vY X r) (he:PE X e te) (hl:PO X lo tl) (hu:PO X hi th):PE X (.Subscript e (.Slice lo hi none p2) pos) (Nj r te tl th):=by
 intro pins s σ H Q I h
 refine Subscript_ (aI (he pins s σ H _ I h) fun v s1 ⟨x,H1,I1,r1,q1⟩=>?_)
 refine wpAny_Slice (aI (hl pins s1 σ H1 _ I1 q1) fun vl s2 ⟨l,H2,I2,pl,q2⟩=>aI (hu pins s2 σ H2 _ I2 q2) fun vu s3 ⟨u,H3,I3,pu,q3⟩=>?_)
 rw[evalPart_none]
 refine wpAny_pure ?_
 have I4:Inv X pins σ H3 {s3 with heap:=s3.heap.push {cls:= .type "slice",data:= .fields #[vl,vu, .none]}}:=I3.kept (t':=s3.toks) fun b ob q=>Heap.get?_push_of_some _ q
 obtain ⟨T,id,hT,ht,hg⟩:=hr pins {s3 with heap:=s3.heap.push {cls:= .type "slice",data:= .fields #[vl,vu, .none]}} σ H3 x v vl vu l u s3.heap.objs.size Q I4 r1 (Heap.IsSliceOf.new ..) pl pu q3
 show wpAny (model X.prog X.w) X.A (subscriptTail e (.Slice lo hi none p2) v (.ref s3.heap.objs.size)) (EP X pins σ Q) X.xe {s3 with heap:=s3.heap.push {cls:= .type "slice",data:= .fields #[vl,vu, .none]}}
 exact tail_any (ops:= [.ref s3.heap.objs.size,v]) ht hT hg (by with_unfolding_all rfl)
def cW (xs:List V) (lo hi:Option Int):List V:=(xs.drop (HT.dh xs.length 0 lo)).take (HT.dh xs.length xs.length hi-HT.dh xs.length 0 lo)
theorem RT (xs:List V) (lo hi:Option Int):(cW xs lo hi).length≤xs.length:=by
 unfold cW
 rw[List.length_take,List.length_drop]
 omega
end
end L2
namespace L2
open PySem PySem.Spec PyProof.Rows
def jj (n:Nat) (i:Int):Option Nat:=if 0≤i then (if i<n then some i.toNat else none) else if-(n:Int)≤i then some (i+n).toNat else none
def gp {α:Type} (xs:List α) (i:Int):Option α:=(jj xs.length i).bind fun j=>xs[j]?
theorem Px {n:Nat} {i:Int} {j:Nat} (h:jj n i=some j):seqIndex? i n=some j∧j<n∧ -(n:Int)≤i∧i<n:=by
 unfold jj at h
 by_cases h0:0≤i
 ·rw[if_pos h0] at h
  by_cases h1:i<n
  ·rw[if_pos h1] at h
   have e:i.toNat=j:=Option.some.inj h
   exact ⟨by rw[seqIndex_of h0 h1,e],by omega,by omega,h1⟩
  ·rw[if_neg h1] at h;cases h
 ·rw[if_neg h0] at h
  by_cases h1: -(n:Int)≤i
  ·rw[if_pos h1] at h
   have e:(i+n).toNat=j:=Option.some.inj h
   exact ⟨by rw[seqIndex_neg (by omega) h1,e],by omega,h1,by omega⟩
  ·rw[if_neg h1] at h;cases h
theorem Dm {α:Type} {xs:List α} {i:Int} {v:α} (h:gp xs i=some v): ∃j,seqIndex? i xs.length=some j∧xs[j]?=some v∧j<xs.length∧ -(xs.length:Int)≤i∧i<xs.length:=by
 unfold gp at h
 cases e:jj xs.length i with
 |none=>rw[e] at h;cases h
 |some j=>
  rw[e] at h
  obtain ⟨h1,h2,h3,h4⟩:=Px e
  exact ⟨j,h1,h,h2,h3,h4⟩
theorem cv {α:Type} {xs:List α} {j:Nat} {v:α} (h:xs[j]?=some v):gp xs (j:Int)=some v:=by
 have hj:j<xs.length:=(List.getElem?_eq_some_iff.mp h).1
 have e:jj xs.length (j:Int)=some j:=by
  unfold jj
  rw[if_pos (by omega),if_pos (by omega)];simp
 unfold gp;rw[e];exact h
theorem R8 {α:Type} (xs:List α) (v:α):gp (xs++ [v]) (-1)=some v:=by
 have hl:(xs++ [v]).length=xs.length+1:=by simp
 have e:jj (xs++ [v]).length (-1)=some xs.length:=by
  unfold jj
  rw[hl,if_neg (by decide),if_pos (by omega)]
  congr 1
  omega
 unfold gp
 rw[e]
 show (xs++ [v])[xs.length]?=some v
 simp
def QL (b:Expr):Prop:= ∀o i,subscripted b false o i=operate [o,i] (getItem o i)
def ml (X:Cx) (r:R2):Prop:=
 ∀(value slice:Expr) (pins:List (Addr×Obj)) (s:Shared) (σ:St) (H:Hp) (x y:V) (v u:Value) (Q:VK),Inv X pins σ H s→RelV x v→RelV y u→r x y H Q→
  subscripted slice false v u=operate [v,u] (getItem v u)→wpAny (model X.prog X.w) X.A (subscriptTail value slice v u) (EP X pins σ Q) X.xe s
def BE (X:Cx) (id:String) (r:V→List V→Hp→VK→Prop):Prop:=
 ∀(pins:List (Addr×Obj)) (s:Shared) (σ:St) (H:Hp) (x:V) (xs:List V) (v:Value) (us:List Value) (Q:VK),Inv X pins σ H s→RelV x v→Vals xs us→r x xs H Q→
  wpAny (model X.prog X.w) X.A (call (.builtin id) (v::us)) (EP X pins σ Q) X.xe s
section
variable {X:Cx} {a b:Expr} {ta tb:TE} {pos:Pos}
theorem cJ {r:R2} (hr:ml X r) (ha:PE X a ta) (hb:PE X b tb) (hs:QL b):PE X (.Subscript a b pos) (iC r ta tb):=by
 intro pins s σ H Q I h
 exact Subscript_ (vf ha hb I h fun v u s2 x y H2 I2 rx ry q=>hr a b pins s2 σ H2 x y v u Q I2 rx ry q (hs _ _))
def Bt (K:PySem.W.Frag):R2:=fun x y H Q=> ∃p xs i v,x= .ref p∧y= .int i∧ah K H p xs∧gp xs i=some v∧Q v H
def yo (K:PySem.W.Frag):R2:=fun x y H Q=> ∃p xs i v,x= .ref p∧y= .int i∧a8 K H p xs∧gp xs i=some v∧Q v H
theorem d9:ml X (Bt X.K):=by
 intro value slice pins s σ H x y v u Q I rx ry h hs
 obtain ⟨p,xs,i,z,rfl,rfl,hq,he,q⟩:=h
 cases rx
 obtain ⟨t,rfl⟩:=ry
 obtain ⟨its,r,pl,hz⟩:=I.list hq
 obtain ⟨j,h1,h2,h3,h4,h5⟩:=Dm he
 obtain ⟨w,ew,rw'⟩:=r.get h2
 have hl:=r.length
 have hn:=uP
 have fin:EP X pins σ Q w s:=⟨z,H,I,rw',q⟩
 by_cases h0:0≤i
 ·have hj:i.toNat=j:=by
   rw[seqIndex_of h0 h5] at h1
   exact Option.some.inj h1
  exact item_listR pl.isList h0 (by omega) (by rw[hj];simpa using ew) fin hs
 ·have hj:(i+(its.toArray.size:Int)).toNat=j:=by
   rw[seqIndex_neg (by omega) h4] at h1
   rw[List.size_toArray,←hl]
   exact Option.some.inj h1
  exact subscriptTail_builtinR (x:=w) pl.isList.typeIs slot_list_getitem.lookup
   (wpAny_getItem_list_neg (Q:=fun r s'=>r=w∧EP X pins σ Q r s') pl.isList (by omega) (by rw[List.size_toArray]<;>omega) (by omega) (by rw[hj];simpa using ew) ⟨rfl,fin⟩) hs
theorem tU:ml X (yo X.K):=by
 intro value slice pins s σ H x y v u Q I rx ry h hs
 obtain ⟨p,xs,i,z,rfl,rfl,hq,he,q⟩:=h
 cases rx
 obtain ⟨t,rfl⟩:=ry
 obtain ⟨its,r,pl,hz⟩:=I.tuple hq
 obtain ⟨j,h1,h2,h3,h4,h5⟩:=Dm he
 obtain ⟨w,ew,rw'⟩:=r.get h2
 have hl:=r.length
 have hn:=uP
 have fin:EP X pins σ Q w s:=⟨z,H,I,rw',q⟩
 exact subscriptTail_builtinR (x:=w) pl.typeIs slot_tuple_getitem.lookup
  (getItem_tuple (j:=j) (Q:=fun r s'=>r=w∧EP X pins σ Q r s') pl (by omega) (by omega) (by rw[List.size_toArray,←hl];exact h1) (by simpa using ew) ⟨rfl,fin⟩) hs
theorem O1 (lo hi:Option Int) (n:Nat):(sliceBounds lo hi none n).1=((HT.dh n 0 lo:Nat):Int)∧(sliceBounds lo hi none n).2.1=((HT.dh n n hi:Nat):Int)∧(sliceBounds lo hi none n).2.2=1:=by
 refine ⟨?_,?_,rfl⟩
 ·cases lo with
  |none=>simp [sliceBounds,HT.dh]
  |some i=>
   simp only [sliceBounds,HT.dh,Option.getD_none,show (1:Int)>0 by decide,if_true]
   by_cases h:i<0
   ·simp only [h,if_true]<;>omega
   ·simp only [h,if_false]<;>omega
 ·cases hi with
  |none=>simp [sliceBounds,HT.dh]
  |some i=>
   simp only [sliceBounds,HT.dh,Option.getD_none,show (1:Int)>0 by decide,if_true]
   by_cases h:i<0
   ·simp only [h,if_true]<;>omega
   ·simp only [h,if_false]<;>omega
theorem IT (its:List Value) (lo hi:Option Int):slicePick its.toArray lo hi none=((its.drop (HT.dh its.length 0 lo)).take (HT.dh its.length its.length hi-HT.dh its.length 0 lo)).toArray:=by
 obtain ⟨h1,h2,h3⟩:=O1 lo hi its.toArray.size
 unfold slicePick
 rw[h1,h2,h3]
 simp only [sliceRange_one,pick_run,List.size_toArray]<;>rfl
def zr (K:PySem.W.Frag):V→Option Int→Option Int→Hp→VK→Prop:=fun x lo hi H Q=> ∃a xs,x= .ref a∧ah K H a xs∧ ∀p,H p=none→Q (.ref p) (upd H p (.lst (cW xs lo hi)))
theorem eJ:vY X (zr X.K):=by
 intro pins s σ H x v vl vu lo hi sl Q I rx hs pl pu h
 obtain ⟨a,xs,rfl,hx,q⟩:=h
 cases rx
 obtain ⟨its,r,ht,hz⟩:=I.list hx
 have hlen:=r.length
 refine ⟨"list",_,slot_list_getitem.lookup,ht.isList.typeIs,?_⟩
 refine wpAny_getItem_list_slice ht.isList hs pl pu .none (by simp) ?_ (by rw[List.size_toArray]<;>omega)
 rw[IT,←hlen]
 refine ⟨.ref s.heap.objs.size,_,I.laid (t':=s.toks) (o:= .lst (cW xs lo hi)) (fun b ob q=>Heap.get?_push_of_some _ q) (Nat.le_refl _) ?_,rfl,q _ (I.ao.fresh (Nat.le_refl _))⟩
 exact ⟨Nat.le_trans (RT xs lo hi) hz,_,0,(r.drop (HT.dh xs.length 0 lo)).take (HT.dh xs.length xs.length hi-HT.dh xs.length 0 lo),Heap.get?_push_size _ rfl⟩
def gH:V→Bool
 | .aw=>true
 | .bl _=>true
 | .int _=>true
 | .str _=>true
 |_=>false
def gg:V→V→Bool
 | .aw, .aw=>true
 | .bl a, .bl b=>a==b
 | .bl a, .int b=>(if a then 1 else 0)==b
 | .int a, .bl b=>a==(if b then 1 else 0)
 | .int a, .int b=>a==b
 | .str a, .str b=>a==b
 |_,_=>false
theorem Qo {A:Around} {s:Shared} {y x:V} {u v:Value} (ry:RelV y u) (rx:RelV x v) (fy:gH y=true) (fx:gH x=true):SeqAt.EqAt A s u v (gg y x):=by
 cases y with
 |aw=>
  cases ry
  cases x with
  |aw=>cases rx;exact SeqAt.EqAt.same _
  |bl b=>cases rx;exact SeqAt.EqAt.none_bool b
  |int b=>obtain ⟨t,rfl⟩:=rx;exact SeqAt.EqAt.none_int b t
  |str b=>obtain ⟨t,rfl⟩:=rx;exact SeqAt.EqAt.none_str b t
  |_=>exact absurd (show false=true from fx) Bool.false_ne_true
 |bl a=>
  cases ry
  cases x with
  |aw=>cases rx;exact SeqAt.EqAt.bool_none a
  |bl b=>cases rx;exact SeqAt.EqAt.bool_bool a b
  |int b=>obtain ⟨t,rfl⟩:=rx;exact SeqAt.EqAt.bool_int a b t
  |str b=>obtain ⟨t,rfl⟩:=rx;exact SeqAt.EqAt.bool_str a b t
  |_=>exact absurd (show false=true from fx) Bool.false_ne_true
 |int a=>
  obtain ⟨t',rfl⟩:=ry
  cases x with
  |aw=>cases rx;exact SeqAt.EqAt.int_none a t'
  |bl b=>cases rx;exact SeqAt.EqAt.int_bool a t' b
  |int b=>obtain ⟨t,rfl⟩:=rx;exact SeqAt.EqAt.int_int a t' b t
  |str b=>obtain ⟨t,rfl⟩:=rx;exact SeqAt.EqAt.int_str a t' b t
  |_=>exact absurd (show false=true from fx) Bool.false_ne_true
 |str a=>
  obtain ⟨t',rfl⟩:=ry
  cases x with
  |aw=>cases rx;exact SeqAt.EqAt.str_none a t'
  |bl b=>cases rx;exact SeqAt.EqAt.str_bool a t' b
  |int b=>obtain ⟨t,rfl⟩:=rx;exact SeqAt.EqAt.str_int a t' b t
  |str b=>obtain ⟨t,rfl⟩:=rx;exact SeqAt.EqAt.str_str a t' b t
  |_=>exact absurd (show false=true from fx) Bool.false_ne_true
 |_=>exact absurd (show false=true from fy) Bool.false_ne_true
def yh (x:V) (u:Value):Bool:=match u with
 | .none=>gg .aw x
 | .bool b=>gg (.bl b) x
 | .int i _=>gg (.int i) x
 | .str z _=>gg (.str z) x
 |_=>false
theorem vq {x y:V} {u:Value} (r:RelV y u) (f:gH y=true):yh x u=gg y x:=by
 cases y with
 |aw=>cases r;rfl
 |bl b=>cases r;rfl
 |int i=>obtain ⟨t,rfl⟩:=r;rfl
 |str z=>obtain ⟨t,rfl⟩:=r;rfl
 |_=>exact absurd (show false=true from f) Bool.false_ne_true
theorem y6 {A:Around} {s:Shared} {x:V} {v:Value} (rx:RelV x v) (fx:gH x=true): ∀{xs:List V} {us:List Value},Vals xs us→xs.all gH=true→ ∀u∈us,SeqAt.EqAt A s u v (yh x u)
 |_,_, .nil,_=>fun u hu=>by cases hu
 |y::xs,u::us, .cons r t,f=>fun u' hu=>by
  rw[List.all_cons,Bool.and_eq_true] at f
  rcases List.mem_cons.mp hu with rfl|hu
  ·rw[vq r f.1];exact Qo r rx f.1 fx
  ·exact y6 rx fx t f.2 u' hu
theorem cx:ik X (.builtin "len") (fun xs H Q=> ∃p ys,xs= [.ref p]∧(ah X.K H p ys∨a8 X.K H p ys)∧Q (.int ys.length) H):=by
 intro pins s σ H xs us Q I r h
 obtain ⟨p,ys,rfl,hq,q⟩:=h
 obtain ⟨u,rfl,rx⟩:=vals1 r
 cases rx
 have hn:=uP
 rcases hq with hq|hq
 ·obtain ⟨its,r',pl,hz⟩:=I.list hq
  have hlen:=r'.length
  exact Calls.call_len_list pl.isList (by simp only [List.size_toArray]<;>omega) ⟨.int ys.length,H,I.tok _,⟨s.toks+1,by rw[List.size_toArray,hlen]⟩,q⟩
 ·obtain ⟨its,r',pl,hz⟩:=I.tuple hq
  have hlen:=r'.length
  exact len_tuple pl (by simp only [List.size_toArray]<;>omega) ⟨.int ys.length,H,I.tok _,⟨s.toks+1,by rw[List.size_toArray,hlen]⟩,q⟩
theorem tK:ik X (.type "list") (fun xs H Q=> ∃p ys,xs= [.ref p]∧(ah X.K H p ys∨a8 X.K H p ys)∧ ∀l,H l=none→Q (.ref l) (upd H l (.lst ys))):=by
 intro pins s σ H xs us Q I r h
 obtain ⟨p,ys,rfl,hq,q⟩:=h
 obtain ⟨u,rfl,rx⟩:=vals1 r
 cases rx
 have fin: ∀(its:List Value),Vals ys its→ys.length≤sizeLine→ ∀(h':Heap) (c':Nat),(∀b o',s.heap.get? b=some o'→h'.get? b=some o')→
   h'.get? s.heap.objs.size=some {cls:= .type "list",dict:=none,data:= .seq its.toArray c',slots:= #[]}→EP X pins σ Q (.ref s.heap.objs.size) {s with heap:=h'}:=fun its r' hz h' c' kp e=>
  ⟨.ref s.heap.objs.size,_,I.laid (t':=s.toks) kp (Nat.le_refl _) (show cT X.prog X.w _ h' _ (.lst ys) from ⟨hz,its,c',r',e⟩),rfl,q _ (I.ao.fresh (Nat.le_refl _))⟩
 rcases hq with hq|hq
 ·obtain ⟨its,r',pl,hz⟩:=I.list hq
  have hlen:=r'.length
  obtain ⟨o,ho,hc,n,hd⟩:=pl.isList
  exact call_list_seq p (.inl rfl) ho hc hd (fun h' c' kp e=>fin its r' hz h' c' kp e) (by simp only [List.size_toArray]<;>omega)
 ·obtain ⟨its,r',pl,hz⟩:=I.tuple hq
  have hlen:=r'.length
  obtain ⟨o,ho,hc,n,hd⟩:=pl
  exact call_list_seq p (.inr rfl) ho hc hd (fun h' c' kp e=>fin its r' hz h' c' kp e) (by simp only [List.size_toArray]<;>omega)
def C6 (K:PySem.W.Frag) (T:String) (x:V) (H:Hp):Prop:=match x with
 | .str _=>T= "str"
 | .int _=>T= "int"
 | .ref p=>(T= "list" ∧ ∃xs,ah K H p xs)∨(T= "tuple" ∧ ∃o,K.lookup p=some o∧o.cls= .type "tuple" ∧o.dict=none)∨
   (T= "dict" ∧((∃kvs,H p=some (.dK kvs))∨ ∃kvs,H p=some (.dT kvs)))∨(T= "set" ∧ ∃S n,H p=some (.set S n))
 |_=>False
theorem Jh {pins:List (Addr×Obj)} {σ:St} {H:Hp} {s:Shared} {T:String} {x:V} {v:Value} (I:Inv X pins σ H s) (r:RelV x v) (ty:C6 X.K T x H):
  s.TypeIs v T∧ ∀a,v= .ref a→ ∃ob,s.heap.get? a=some ob∧ob.dict=none:=by
 cases x with
 |str z=>
  obtain ⟨t,rfl⟩:=r
  cases (show T= "str" from ty)
  exact ⟨typeIs_str s z t,fun _ e=>nomatch e⟩
 |int i=>
  obtain ⟨t,rfl⟩:=r
  cases (show T= "int" from ty)
  exact ⟨typeIs_int s i t,fun _ e=>nomatch e⟩
 |ref p=>
  cases r
  rcases ty with ⟨rfl,xs,hq⟩|⟨rfl,o,hk,hc,hd⟩|⟨rfl,hk⟩|⟨rfl,S,n,hk⟩
  ·obtain ⟨its,_,pl,_⟩:=I.list hq
   refine ⟨pl.isList.typeIs,fun a e=>?_⟩
   cases e
   obtain ⟨o,n,e,c,hd,_⟩:=pl
   exact ⟨o,e,hd⟩
  ·refine ⟨⟨o,I.b7 p o hk,hc⟩,fun a e=>?_⟩
   cases e
   exact ⟨o,I.b7 _ o hk,hd⟩
  ·have z: ∃o,s.heap.get? p=some o∧o.ExactDict:=by
    rcases hk with ⟨kvs,hk⟩|⟨kvs,hk⟩
    ·obtain ⟨_,_,_,_,o,_,_,e,ex,_⟩:=I.ao p _ hk
     exact ⟨o,e,ex⟩
    ·obtain ⟨_,_,_,_,o,_,_,e,ex,_⟩:=I.ao p _ hk
     exact ⟨o,e,ex⟩
   obtain ⟨o,e,ex⟩:=z
   refine ⟨⟨o,e,ex.1⟩,fun a e2=>?_⟩
   cases e2
   exact ⟨o,e,ex.2.1⟩
  ·obtain ⟨o,_,_,_,e,ex,_⟩:=I.ao p _ hk
   refine ⟨⟨o,e,ex.1⟩,fun a e2=>?_⟩
   cases e2
   exact ⟨o,e,ex.2.1⟩
 |_=>exact False.elim ty
def zc (K:PySem.W.Frag) (T:String) (r:V→List V→Hp→VK→Prop) (to:TE) (t:TA):TE:=fun σ H Q=>to σ H fun x H1=>C6 K T x H1∧t σ H1 fun xs H2=>r x xs H2 Q
variable {o e:Expr} {es:List Expr} {to:TE} {t:TA} {name:Str} {apos cpos:Pos} {T id:String} {r:V→List V→Hp→VK→Prop}
theorem gS (pa:PlainAttrs T) (slot:Slot T name id) (hty:typeOf (.builtin id)=pure (.type "method_descriptor")) (hm:BE X id r) (ho:PE X o to) (ha:PA X (e::es) t)
  (hbase:attributeBase o name X.env (eval o X.env)=eval o X.env:=by rfl)
  (hfew:((backTo cpos (starEach (e::es) X.env)).all (fun x=>!x.1)&&(backToKw cpos (keywordEach [] X.env)).all (fun x=>x.1.isSome)
   &&decide ((e::es).length+([]:List Keyword).length+(if ([]:List Keyword).isEmpty then 0 else 1)<30))=true:=by rfl)
  (hline:(apos.endLine==cpos.line)=true:=by rfl) (hs:starEach (e::es) X.env=(false,eval e X.env)::starEach es X.env:=by rfl) (hplain:(backTo cpos (starEach es X.env)).any (·.1)=false:=by rfl):
  PE X (.Call (.Attribute o name apos) (e::es) [] cpos) (zc X.K T r to t):=by
 intro pins s σ H Q I h
 refine wpAny_Call_method_late hbase hfew hline rfl (aI (ho pins s σ H _ I h) fun v s1 ⟨x,H1,I1,r1,ty,q1⟩=>?_)
 obtain ⟨h1,h2⟩:=Jh I1 r1 ty
 refine ⟨T,id,pa,slot,hty,h1,h2,?_⟩
 have hA:=ha cpos pins s1 σ H1 _ I1 q1
 rw[hs] at hA⊢
 refine Calls.callWith_builtin (by show (false||(backTo cpos (starEach es X.env)).any (·.1))=false;rw[hplain]<;>rfl) (Calls.evalArgs_plain ?_)
 exact aI hA fun us s2 ⟨vs,H2,I2,r2,q2⟩=>hm pins s2 σ H2 x vs v us Q I2 r1 r2 q2
end
end L2
namespace L2
open PySem PySem.Spec PyProof.Rows
def DA (X:Cx) (id:String) (r:V→List V→Hp→VK→Prop):Prop:=
 ∀(pins:List (Addr×Obj)) (s:Shared) (σ:St) (H:Hp) (x:V) (xs:List V) (v:Value) (us:List Value) (Q:VK),Inv X pins σ H s→RelV x v→Vals xs us→r x xs H Q→
  wpAny (model X.prog X.w) X.A (call (.builtin id) (v::us)) (EP X pins σ Q) X.xe s
theorem Vals.one: ∀{x:V} {us:List Value},Vals [x] us→ ∃u,us= [u]∧RelV x u
 |_,_, .cons r .nil=>⟨_,rfl,r⟩
theorem Vals.rep {xs:List V} {us:List Value} (h:Vals xs us): ∀k:Nat,Vals (List.replicate k xs).flatten (List.replicate k us).flatten
 |0=> .nil
 |k+1=>by
  rw[List.replicate_succ,List.replicate_succ,List.flatten_cons,List.flatten_cons]
  exact Vals.append h (Vals.rep h k)
theorem foldl_rep (its:List Value): ∀(k:Nat) (acc:List Value),
  List.foldl (fun x1 x2=>x1++x2) acc.toArray (List.replicate k its.toArray)=(acc++(List.replicate k its).flatten).toArray
 |0,acc=>by simp
 |k+1,acc=>by
  have e:acc.toArray++its.toArray=(acc++its).toArray:=by simp
  have e2:(acc++its)++(List.replicate k its).flatten=acc++(List.replicate (k+1) its).flatten:=by
   rw[List.replicate_succ,List.flatten_cons,List.append_assoc]
  rw[←e2,←foldl_rep its k (acc++its),←e,List.replicate_succ,List.foldl_cons]
section
variable {X:Cx} {pins:List (Addr×Obj)} {σ:St} {H:Hp} {s:Shared} {l b:Addr} {xs ys zs:List V}
theorem Inv.EG {its its':List Value} {n:Nat} {f:Array Value→Array Value} {t':Nat} (I:Inv X pins σ H s) (hH:H l=some (.lst xs))
  (e:s.heap.get? l=some {cls:= .type "list",data:= .seq its.toArray n}) (hf:f its.toArray=its'.toArray) (hv:Vals ys its') (hz:ys.length≤sizeLine):
  Inv X pins σ (upd H l (.lst ys)) {s with heap:=s.heap.update l (Obj.mapSeq f),toks:=t'}:=by
 have q:=PySem.IsL.update e f
 rw[hf] at q
 refine I.write (x:=l) (e:=l) (by rw[hH];exact trivial) (.inl rfl) (fun b' u hb hu=>(Heap.get?_update_other s.heap (Obj.mapSeq f) (Ne.symm hb)).trans hu) ⟨_,q⟩ ?_
 exact ⟨hz,its',_,hv,q⟩
theorem Inv.xA {its:List Value} {t':Nat} (I:Inv X pins σ H s) (hv:Vals ys its) (hz:ys.length≤sizeLine):
  Inv X pins σ (upd H s.heap.objs.size (.lst ys)) {s with heap:=s.heap.push {cls:= .type "list",data:= .seq its.toArray},toks:=t'}:=
 I.laid (fun _ _ q=>Heap.get?_push_of_some _ q) (Nat.le_refl _) ⟨hz,its,0,hv,Heap.get?_push_size _ rfl⟩
theorem Inv.fresh (I:Inv X pins σ H s):H s.heap.objs.size=none:=I.ao.fresh (Nat.le_refl _)
theorem Inv.kD (I:Inv X pins σ H s) (hH:H l=some (.lst xs)):xs.length≤sizeLine∧ ∃(its:List Value) (n:Nat),Vals xs its∧xs.length=its.length∧s.heap.get? l=some {cls:= .type "list",data:= .seq its.toArray n}:=by
 obtain ⟨z,its,n,r,e⟩:=I.ao l _ hH
 exact ⟨z,its,n,r,r.length,e⟩
theorem yV {n:Nat} (h:n≤sizeLine):Builtin.List.listTooLong n=false:=by
 unfold Builtin.List.listTooLong
 exact decide_eq_false (by omega)
end
section
variable {X:Cx}
def Aq:V→List V→Hp→VK→Prop:=fun x vs H Q=> ∃l xs y,x= .ref l∧vs= [y]∧H l=some (.lst xs)∧xs.length<sizeLine∧Q .aw (upd H l (.lst (xs++ [y])))
theorem qP:DA X "list.append" Aq:=by
 intro pins s σ H x vs v us Q I rx rv h
 obtain ⟨l,xs,y,rfl,rfl,hH,hz,q⟩:=h
 cases rx
 obtain ⟨u,rfl,ru⟩:=rv.one
 obtain ⟨z,its,n,r,hl,e⟩:=I.kD hH
 refine call_meets F.slot_list_append ⟨_,e,rfl⟩ F.entry_list_append (F.args_list_append_2 _ _) (PySem.list_append l its.toArray n u (by rw[List.size_toArray];omega)) ⟨e,?_⟩
 refine ⟨.aw,_,I.EG (its':=its++ [u]) hH e (by simp) (r.append (.cons ru .nil)) ?_,rfl,q⟩
 rw[List.length_append,List.length_singleton]
 omega
def RS:V→List V→Hp→VK→Prop:=fun x vs H Q=> ∃l b xs zs,x= .ref l∧vs= [.ref b]∧H l=some (.lst xs)∧H b=some (.lst zs)∧xs.length+zs.length≤sizeLine∧Q .aw (upd H l (.lst (xs++zs)))
theorem tw:DA X "list.extend" RS:=by
 intro pins s σ H x vs v us Q I rx rv h
 obtain ⟨l,b,xs,zs,rfl,rfl,hH,hB,hz,q⟩:=h
 cases rx
 obtain ⟨u,rfl,ru⟩:=rv.one
 cases ru
 obtain ⟨z,its,n,r,hl,e⟩:=I.kD hH
 obtain ⟨z2,its2,n2,r2,hl2,e2⟩:=I.kD hB
 have hsz:its.toArray.size+its2.toArray.size≤sizeLine:=by rw[List.size_toArray,List.size_toArray];omega
 have hlong: ¬(!its.toArray.isEmpty&&Builtin.List.listTooLong (its.toArray.size+its2.toArray.size))=true:=by
  rw[yV hsz,Bool.and_false]
  exact Bool.false_ne_true
 refine call_meets F.slot_list_extend ⟨_,e,rfl⟩ F.entry_list_extend (F.args_list_extend_2 _ _)
  (AutoSeq1.list_extend_list_list_0 l its.toArray n b its2.toArray n2 hlong (by rw[List.size_toArray];omega) (by omega)) ⟨e,e2,?_⟩
 refine ⟨.aw,_,I.EG (its':=its++its2) hH e (by simp) (r.append r2) ?_,rfl,q⟩
 rw[List.length_append]
 omega
def GC:R2:=fun x y H Q=> ∃l b xs zs,x= .ref l∧y= .ref b∧H l=some (.lst xs)∧H b=some (.lst zs)∧xs.length+zs.length≤sizeLine∧ ∀p,H p=none→Q (.ref p) (upd H p (.lst (xs++zs)))
theorem jZ:bD X (binaryOp .Add) GC:=by
 intro pins s σ H x y v u Q I rx ry h
 obtain ⟨l,b,xs,zs,rfl,rfl,hH,hB,hz,q⟩:=h
 cases rx
 cases ry
 obtain ⟨z,its,n,r,hl,e⟩:=I.kD hH
 obtain ⟨z2,its2,n2,r2,hl2,e2⟩:=I.kD hB
 refine PySem.P.add_list e e2 ?_ (by rw[List.size_toArray,List.size_toArray];omega)
 have ea:its.toArray++its2.toArray=(its++its2).toArray:=by simp
 rw[ea]
 exact ⟨.ref _,_,I.xA (t':=s.toks) (r.append r2) (by rw[List.length_append];omega),rfl,q _ I.fresh⟩
def R1:R2:=fun x y H Q=> ∃l k xs,x= .ref l∧y= .int k∧H l=some (.lst xs)∧ -(2^63)≤k∧k<2^63∧xs.length*k.toNat≤sizeLine∧
 ∀p,H p=none→Q (.ref p) (upd H p (.lst (List.replicate k.toNat xs).flatten))
theorem len_rep {α:Type} (xs:List α) (k:Nat):(List.replicate k xs).flatten.length=k*xs.length:=by
 induction k with
 |zero=>simp
 |succ k ih=>rw[List.replicate_succ,List.flatten_cons,List.length_append,ih,Nat.succ_mul,Nat.add_comm]
theorem xk:bD X (binaryOp .Mult) R1:=by
 intro pins s σ H x y v u Q I rx ry h
 obtain ⟨l,k,xs,rfl,rfl,hH,h1,h2,hz,q⟩:=h
 cases rx
 obtain ⟨t,rfl⟩:=ry
 obtain ⟨z,its,n,r,hl,e⟩:=I.kD hH
 have hlen:its.toArray.size*k.toNat≤sizeLine:=by rw[List.size_toArray,←hl];exact hz
 have hcap: ¬its.toArray.size*k.toNat>(2^63-1)/8:=by
  have:(sizeLine:Nat)≤(2^63-1)/8:=by decide
  omega
 have hfit: ¬(!Builtin.List.listFitsIndex k)=true:=by
  rw[fitsIndex_both h1 h2]
  exact Bool.false_ne_true
 have hlong: ¬Builtin.List.listTooLong (its.toArray.size*k.toNat)=true:=by
  rw[yV hlen]
  exact Bool.false_ne_true
 have hnew:List.foldl (fun x1 x2=>x1++x2) #[] (List.replicate (if its.toArray.isEmpty=true then 0 else k.toNat) its.toArray)=(List.replicate k.toNat its).flatten.toArray:=by
  have f0: ∀m:Nat,List.foldl (fun x1 x2=>x1++x2) #[] (List.replicate m its.toArray)=(List.replicate m its).flatten.toArray:=fun m=>by
   have:=foldl_rep its m []
   rw[List.nil_append] at this
   exact this
  rw[f0]
  cases its with
  |nil=>simp
  |cons a r'=>rw[if_neg (by simp)]
 refine wpAny_binaryOp_repeat_ref (T:= "list") (U:= "int") (by decide) ⟨_,e,rfl⟩ (fun s'=>typeIs_int s' k t) noFill_list_mul F.fills_int_mul F.slot_int_rmul repeat_list F.slot_int_index.lookup
  (call_meets F.slot_int_rmul (typeIs_int s k t) F.entry_int_rmul (F.args_int_rmul_2 _ _) (int___rmul___int_list k t l its.toArray n)
   ⟨e,rfl,⟨_,e,rfl⟩,call_meets F.slot_list_mul ⟨_,e,rfl⟩ F.entry_list_mul (F.args_list_mul_2 _ _) (AutoListH.list___mul___list_int_3 l its.toArray n k t hfit hcap hlong) ⟨e,?_⟩⟩)
 rw[hnew]
 exact ⟨.ref _,_,I.xA (t':=s.toks) (r.rep k.toNat) (by rw[len_rep,Nat.mul_comm];exact hz),rfl,q _ I.fresh⟩
end
section
variable {prog:Program} {w:World} {A:Around} {E:Value→Shared→Prop} {s:Shared}
end
section
variable {X:Cx}
end
end L2
namespace L2
open PySem PySem.Spec PyProof.Rows
theorem Vals.ints: ∀{ns:List Int} {us:List Value},Vals (ns.map V.int) us→IntsAre us ns
 | [],us,h=>by
  rw[List.map_nil] at h
  cases h
  exact IntsAre.nil
 |n::ns,us,h=>by
  rw[List.map_cons] at h
  cases h with
  |cons r t=>
   obtain ⟨k,rfl⟩:=r
   exact IntsAre.cons n k (Vals.ints t)
theorem Vals.xi: ∀{bs:List Bool} {us:List Value},Vals (bs.map V.bl) us→us=bs.map Value.bool
 | [],us,h=>by
  rw[List.map_nil] at h
  cases h
  rfl
 |b::bs,us,h=>by
  rw[List.map_cons] at h
  cases h with
  |cons r t=>
   cases r
   rw[Vals.xi t,List.map_cons]
theorem Vals.wJ {a:Addr} {us:List Value} (r:Vals [V.ref a] us):us= [Value.ref a]:=by
 cases r with
 |cons r t=>
  cases t
  cases r
  rfl
section
variable {prog:Program} {w:World} {A:Around} {E:Value→Shared→Prop} {s:Shared} {l:Addr} {its:List Value} {ns:List Int} {Q:Value→Shared→Prop}
theorem O2 (hh:A.handled=none) (hl:s.heap.IsList l its.toArray) (hi:IntsAre its ns) (hne:0<ns.length)
  (h: ∀h' tk M t',(∀b o,s.heap.get? b=some o→h'.get? b=some o)→M∈ns→(∀a,a∈ns→a≤M)→Q (.int M t') {s with heap:=h',toks:=tk}):wpAny (model prog w) A (call (.builtin "max") [.ref l]) Q E s:=by
 obtain ⟨xs,e⟩:=hi.allInts.items
 have hn:numsOf (intItems xs).toList=ns:=by rw[←e];exact hi.numsOf
 rw[nums_intItems] at hn
 subst hn
 rw[e] at hl
 have hsz:0<xs.size:=by simpa using hne
 refine PySem.max_intList hh hl hsz fun v h' tk hv hk=>?_
 obtain ⟨t,rfl⟩:=intItems_at hv
 obtain ⟨h1,h2⟩:=argBest_gt (numAt xs) (xs.size-1)
 refine h h' tk _ t hk ?_ fun a ha=>?_
 ·rw[numAt_eq];exact PySem.getD_mem (by rw[List.length_map,Array.length_toList];omega)
 ·obtain ⟨j,hj,rfl⟩:=mem_getD ha
  rw[List.length_map,Array.length_toList] at hj
  rw[←numAt_eq];exact h2 j (by omega)
end
section
variable {X:Cx}
def J0 (K:PySem.W.Frag):List V→Hp→VK→Prop:=fun vs H Q=> ∃(a:Addr) (ns:List Int),vs= [V.ref a]∧ah K H a (ns.map V.int)∧0<ns.length∧ ∀m,m∈ns→(∀y,y∈ns→y≤m)→Q (.int m) H
theorem JD (hc:X.calm=true):ik X (.builtin "max") (J0 X.K):=by
 intro pins s σ H vs us Q I r h
 obtain ⟨a,ns,rfl,hs,hne,q⟩:=h
 obtain ⟨its,rv,hl,_⟩:=I.list hs
 rw[Vals.wJ r]
 exact O2 (I.ok.hd hc) hl.isList rv.ints hne fun h' tk m t' hk h1 h2=>⟨.int _,H,I.kept hk,⟨_,rfl⟩,q m h1 h2⟩
end
section
variable {X:Cx}
def Mq (K:PySem.W.Frag):V→List V→Hp→VK→Prop:=fun x xs H Q=> ∃(a:Addr) (ys:List V) (y:V) (j:Nat) (z:V),x=V.ref a∧xs= [y]∧ah K H a ys∧gH y=true∧ys.all gH=true∧ys[j]?=some z∧gg z y=true∧
 (∀(m:Nat) (z':V),m<j→ys[m]?=some z'→gg z' y=false)∧Q (.int (j:Nat)) H
theorem zh {ys:List V} (f:ys.all gH=true) {j:Nat} {z:V} (h:ys[j]?=some z):gH z=true:=List.all_eq_true.mp f z (List.mem_of_getElem? h)
theorem P5:BE X "list.index" (Mq X.K):=by
 intro pins s σ H x xs v us Q I rx rxs h
 obtain ⟨a,ys,y,j,z,rfl,rfl,hs,fy,fys,hz,hzj,hno,q⟩:=h
 cases rx
 cases rxs with
 |cons ry rt=>
  rename_i uy ut
  cases rt
  obtain ⟨its,rv,⟨⟨cls,dd,data,sl⟩,n,ho,hc,hdn,hd⟩,hlen⟩:=I.list hs
  simp only at hc hd
  subst hc hd
  obtain ⟨u,hu,ru⟩:=rv.get hz
  obtain ⟨hjl,hje⟩:=List.getElem?_eq_some_iff.mp hu
  have hvl:=rv.length
  have hj:j<its.toArray.size:=by simpa using hjl
  have hsl:=sizeLine_eq
  refine call_meets PySem.F.slot_list_index ⟨_,ho,rfl⟩ PySem.F.entry_list_index (PySem.F.args_list_index_2 _ _)
   (SeqAt.list_indexAt a its.toArray n dd sl uy (yh y) j hj (by omega) ?_ ?_) ⟨ho,fun u' hu'=>y6 ry fy rv fys u' (by simpa using hu'),?_⟩
  ·have e1:its.toArray[j]=u:=by simpa using hje
   rw[e1,vq ru (zh fys hz)]
   exact hzj
  ·intro m hm hmj
   have hml:m<its.length:=by simpa using hm
   have hmy:m<ys.length:=by omega
   have hy':ys[m]?=some ys[m]:=List.getElem?_eq_getElem hmy
   obtain ⟨u2,hu2,ru2⟩:=rv.get hy'
   obtain ⟨_,hme⟩:=List.getElem?_eq_some_iff.mp hu2
   have e1:its.toArray[m]=u2:=by simpa using hme
   rw[e1,vq ru2 (zh fys hy')]
   exact hno m _ hmj hy'
  ·exact ⟨.int (j:Nat),H,I.tok _,⟨_,rfl⟩,q⟩
end
section
variable {X:Cx}
end
theorem Fg {prog:Program} {w:World} {A:Around} {E:Value→Shared→Prop} {s:Shared} {l:Addr} {items:Array Value} {Q:Value→Shared→Prop} (hl:s.heap.IsList l items)
  (h: ∀s₂:Shared,s₂={s with heap:=s.heap.push {cls:= .type "list_iterator",data:= .fields #[.ref l, .int 0 0]}}→
   (s₂.heap.IsListIter s.heap.objs.size l 0∧s₂.heap.IsList l items)→l≠s.heap.objs.size→Q (.ref s.heap.objs.size) s₂):wpAny (model prog w) A (pyIter (.ref l)) Q E s:=by
 have hlt:l<s.heap.objs.size:=by obtain ⟨_,e,_⟩:=hl;exact Heap.lt_size e
 exact wpAny_pyIter_list hl (h _ rfl ⟨⟨_,Heap.get?_push_size _ rfl,rfl,rfl⟩,hl.push _⟩ (Nat.ne_of_lt hlt))
theorem DX {prog:Program} {w:World} {A:Around} {bs:List Bool} {its:List Value} (e:its=bs.map Value.bool):
  TruthOf prog w A (fun i v=>its.toArray[i]?=some v) (fun i=>bs.getD i false):=fun i v s Q E hv hq=>by
 have hv':its[i]?=some v:=by simpa using hv
 rw[e,List.getElem?_map] at hv'
 obtain ⟨b,hb,rfl⟩:=Option.map_eq_some_iff.mp hv'
 have hg:bs.getD i false=b:=by rw[List.getD_eq_getElem?_getD,hb]<;>rfl
 have hq':Q (bs.getD i false) s:=hq
 rw[hg] at hq'
 exact wpAny_truthy_bool hq'
theorem any_range: ∀bs:List Bool,(List.range bs.length).any (fun i=>bs.getD i false)=bs.any id
 | []=>rfl
 |b::bs=>by
  rw[List.length_cons,List.range_succ_eq_map,List.any_cons,List.any_map,List.any_cons,←any_range bs]
  all_goals rfl
theorem all_range: ∀bs:List Bool,(List.range bs.length).all (fun i=>bs.getD i false)=bs.all id
 | []=>rfl
 |b::bs=>by
  rw[List.length_cons,List.range_succ_eq_map,List.all_cons,List.all_map,List.all_cons,←all_range bs]
  all_goals rfl
section
variable {X:Cx}
def R5 (K:PySem.W.Frag):List V→Hp→VK→Prop:=fun vs H Q=> ∃(a:Addr) (bs:List Bool),vs= [V.ref a]∧ah K H a (bs.map V.bl)∧Q (.bl (bs.any id)) H
def G4 (K:PySem.W.Frag):List V→Hp→VK→Prop:=fun vs H Q=> ∃(a:Addr) (bs:List Bool),vs= [V.ref a]∧ah K H a (bs.map V.bl)∧Q (.bl (bs.all id)) H
theorem S6 (hc:X.calm=true):ik X (.builtin "any") (R5 X.K):=by
 intro pins s σ H vs us Q I r h
 obtain ⟨a,bs,rfl,hs,q⟩:=h
 obtain ⟨its,rv,hl,_⟩:=I.list hs
 rw[Vals.wJ r]
 have hb:=rv.xi
 refine call_any_walk (Fg hl.isList fun s₂ e2 st hne=>?_)
 subst e2
 refine ⟨_,_,_,_,_,_,_,rfl,Walks.list (A:=X.A.in1) (I.ok.hd hc) _ a hne its.toArray,st,DX hb,fun h' tk hk=>?_⟩
 refine ⟨.bl _,H,I.kept fun b o eo=>hk b o (fun hmem=>?_) (Heap.get?_push_of_some _ eo),?_,q⟩
 ·rcases List.mem_cons.mp hmem with e1|hmem
  ·exact absurd (e1▸Heap.lt_size eo) (Nat.lt_irrefl _)
  ·cases hmem
 ·show Value.bool _=Value.bool _
  rw[←any_range,hb,List.size_toArray,List.length_map]
theorem Cm (hc:X.calm=true):ik X (.builtin "all") (G4 X.K):=by
 intro pins s σ H vs us Q I r h
 obtain ⟨a,bs,rfl,hs,q⟩:=h
 obtain ⟨its,rv,hl,_⟩:=I.list hs
 rw[Vals.wJ r]
 have hb:=rv.xi
 refine call_all_walk (Fg hl.isList fun s₂ e2 st hne=>?_)
 subst e2
 refine ⟨_,_,_,_,_,_,_,rfl,Walks.list (A:=X.A.in1) (I.ok.hd hc) _ a hne its.toArray,st,DX hb,fun h' tk hk=>?_⟩
 refine ⟨.bl _,H,I.kept fun b o eo=>hk b o (fun hmem=>?_) (Heap.get?_push_of_some _ eo),?_,q⟩
 ·rcases List.mem_cons.mp hmem with e1|hmem
  ·exact absurd (e1▸Heap.lt_size eo) (Nat.lt_irrefl _)
  ·cases hmem
 ·show Value.bool _=Value.bool _
  rw[←all_range,hb,List.size_toArray,List.length_map]
end
mutual
inductive Dp (K:PySem.W.Frag) (H:Hp):V→PyData→Prop
 |aw:Dp K H .aw .none
 |bl (b:Bool):Dp K H (.bl b) (.bool b)
 |int (i:Int):Dp K H (.int i) (.int i)
 |str (x:Str):Dp K H (.str x) (.str x)
 |lst {a:Addr} {xs:List V} {ds:List PyData}:ah K H a xs→ki K H xs ds→Dp K H (.ref a) (.list ds)
 |tup {a:Addr} {xs:List V} {ds:List PyData}:a8 K H a xs→ki K H xs ds→Dp K H (.ref a) (.tuple ds)
inductive ki (K:PySem.W.Frag) (H:Hp):List V→List PyData→Prop
 |nil:ki K H [] []
 |cons {v:V} {vs:List V} {d:PyData} {ds:List PyData}:Dp K H v d→ki K H vs ds→ki K H (v::vs) (d::ds)
end
section
variable {X:Cx} {pins:List (Addr×Obj)} {σ:St} {H:Hp} {s:Shared}
mutual
theorem Dp.reads (I:Inv X pins σ H s): ∀(d:PyData) (v:V) (u:Value),Dp X.K H v d→RelV v u→ ∃as,Reads s.heap u d as
 | .none,_,_,h,r=>by
  cases h
  cases r
  exact ⟨_,Reads.none⟩
 | .bool b,_,_,h,r=>by
  cases h
  cases r
  exact ⟨_,Reads.bool b⟩
 | .int i,_,_,h,r=>by
  cases h
  obtain ⟨t,rfl⟩:=r
  exact ⟨_,Reads.int i t⟩
 | .str x,_,_,h,r=>by
  cases h
  obtain ⟨t,rfl⟩:=r
  exact ⟨_,Reads.str x t⟩
 | .list ds,_,_,h,r=>by
  cases h with
  |lst hs ha=>
   cases r
   obtain ⟨its,rv,⟨o,n,ho,hc,_,hd⟩,_⟩:=I.list hs
   obtain ⟨as,hr⟩:=Dp.readsAll I ds _ its ha rv
   exact ⟨_,Reads.list ho hc hd hr⟩
 | .tuple ds,_,_,h,r=>by
  cases h with
  |tup hs ha=>
   cases r
   obtain ⟨its,rv,⟨o,ho,hc,n,hd⟩,_⟩:=I.tuple hs
   obtain ⟨as,hr⟩:=Dp.readsAll I ds _ its ha rv
   exact ⟨_,Reads.tuple ho hc hd hr⟩
 | .dict _,_,_,h,_=>by cases h
theorem Dp.readsAll (I:Inv X pins σ H s): ∀(ds:List PyData) (vs:List V) (us:List Value),ki X.K H vs ds→Vals vs us→ ∃as,ReadsAll s.heap us ds as
 | [],_,_,h,r=>by
  cases h
  cases r
  exact ⟨_,ReadsAll.nil⟩
 |d::ds,_,_,h,r=>by
  cases h with
  |cons h1 h2=>
   cases r with
   |cons r1 r2=>
    obtain ⟨as,q1⟩:=Dp.reads I d _ _ h1 r1
    obtain ⟨bs,q2⟩:=Dp.readsAll I ds _ _ h2 r2
    exact ⟨_,ReadsAll.cons q1 q2⟩
end
end
section
variable {X:Cx}
def MJ (K:PySem.W.Frag):R2:=fun x y H Q=> ∃d e,Dp K H x d∧Dp K H y e∧SeqAt.shaped d=true∧SeqAt.shaped e=true∧Q (.bl (PyData.eqv d e)) H
def NF (K:PySem.W.Frag):R2:=fun x y H Q=> ∃d e,Dp K H x d∧Dp K H y e∧SeqAt.shaped d=true∧SeqAt.shaped e=true∧Q (.bl (!PyData.eqv d e)) H
theorem Na (hu:X.A.units+64<cLine):bD X (compareOp .Eq) (MJ X.K):=by
 intro pins s σ H x y v u Q I rx ry h
 obtain ⟨d,e,hd,he,sd,se,q⟩:=h
 obtain ⟨as,r1⟩:=Dp.reads I d x v hd rx
 obtain ⟨bs,r2⟩:=Dp.reads I e y u he ry
 exact SeqAt.compareEq_shaped r1 r2 sd se hu ⟨.bl _,H,I,rfl,q⟩
theorem Mf (hu:X.A.units+64<cLine):bD X (compareOp .NotEq) (NF X.K):=by
 intro pins s σ H x y v u Q I rx ry h
 obtain ⟨d,e,hd,he,sd,se,q⟩:=h
 obtain ⟨as,r1⟩:=Dp.reads I d x v hd rx
 obtain ⟨bs,r2⟩:=Dp.reads I e y u he ry
 exact SeqAt.compareNe_shaped r1 r2 sd se hu ⟨.bl _,H,I,rfl,q⟩
end
end L2
namespace L2
open PySem PySem.Spec PyProof.Rows
abbrev zR (h:Heap) (c:Addr) (v:Option Value):Prop:=h.IsCell c v
def Qg (scope sc:Scope):Scope:=
 {scope with names:=scope.names.map fun (n,k)=>if (k== .free&&sc.kind== .function&&sc.names.lookup n==some .cell) then (n, .cell) else (n,k)}
def bY (cells:List (Str×Addr)):List (Str×NameKind)→List (Str×Addr)→List (Str×Addr)
 | [],acc=>acc
 |(n,k)::r,acc=>if k== .free then bY cells r ((n,(cells.lookup n).getD 0)::acc) else bY cells r acc
theorem Cf (env:Env) (f:Str×NameKind→List (Str×Addr)→Sem (ForInStep (List (Str×Addr))))
  (hf: ∀n k c,f (n,k) c=if k== .free then (do let a←cellOf env n;pure (.yield ((n,a)::c))) else pure (.yield c)):
  ∀(names:List (Str×NameKind)) (acc:List (Str×Addr)),(∀y∈names,y.2= .free→ ∃c,env.cells.lookup y.1=some c)→forIn names acc f=pure (bY env.cells names acc)
 | [],acc,_=>by rw[List.forIn_nil];rfl
 |(n,k)::r,acc,h=>by
  rw[List.forIn_cons,hf]
  have ih:=fun acc=>Cf env f hf r acc fun y hy=>h y (List.mem_cons_of_mem _ hy)
  unfold bY
  by_cases hk:(k==NameKind.free)=true
  ·rw[if_pos hk,if_pos hk]
   obtain ⟨c,hc⟩:=h (n,k) List.mem_cons_self (by simpa using hk)
   have e:cellOf env n=pure c:=by unfold cellOf;rw[hc]
   rw[e]
   have e2:(env.cells.lookup n).getD 0=c:=by rw[hc];rfl
   rw[e2]
   exact ih _
  ·rw[if_neg hk,if_neg hk]
   exact ih _
theorem ER {scope:Scope} {env:Env} (h: ∀y∈scope.names,y.2= .free→ ∃c,env.cells.lookup y.1=some c):closureFor scope env=pure (bY env.cells scope.names []):=by
 simp only [closureFor]
 rw[Cf env _ (fun n k c=>rfl) scope.names [] h]
 rfl
theorem mem_lookup {α:Type}: ∀{l:List (Str×α)} {n:Str} {c:α},(n,c)∈l→ ∃c',l.lookup n=some c'
 |(k,v)::r,n,c,h=>by
  rw[List.lookup_cons]
  cases hb:n==k with
  |true=>exact ⟨_,rfl⟩
  |false=>
   rcases List.mem_cons.mp h with e|h
   ·cases e;simp at hb
   ·exact mem_lookup h
theorem sj {cells:List (Str×Addr)}: ∀{names:List (Str×NameKind)} {acc:List (Str×Addr)} {n:Str} {c:Addr},(n,c)∈bY cells names acc→(n,c)∈acc∨((n, .free)∈names∧c=(cells.lookup n).getD 0)
 | [],_,_,_,h=> .inl h
 |(m,k)::r,acc,n,c,h=>by
  unfold bY at h
  split at h
  ·rename_i hk
   have hk:k= .free:=by simpa using hk
   rcases sj h with h|⟨h1,h2⟩
   ·rcases List.mem_cons.mp h with e|h
    ·cases e;exact .inr ⟨hk▸List.mem_cons_self,rfl⟩
    ·exact .inl h
   ·exact .inr ⟨List.mem_cons_of_mem _ h1,h2⟩
  ·rcases sj h with h|⟨h1,h2⟩
   ·exact .inl h
   ·exact .inr ⟨List.mem_cons_of_mem _ h1,h2⟩
theorem xy {cells:List (Str×Addr)}: ∀{names:List (Str×NameKind)} {acc:List (Str×Addr)} {p:Str×Addr},p∈acc→p∈bY cells names acc
 | [],_,_,h=>h
 |(m,k)::r,acc,p,h=>by
  unfold bY
  split
  ·exact xy (List.mem_cons_of_mem _ h)
  ·exact xy h
theorem uK {cells:List (Str×Addr)}: ∀{names:List (Str×NameKind)} {acc:List (Str×Addr)} {n:Str},(n, .free)∈names→(n,(cells.lookup n).getD 0)∈bY cells names acc
 |(m,k)::r,acc,n,h=>by
  unfold bY
  rcases List.mem_cons.mp h with e|h
  ·cases e
   exact xy List.mem_cons_self
  ·split
   ·exact uK h
   ·exact uK h
theorem nW: ∀{names:List (Str×NameKind)} {h:Heap} {acc:List (Str×Addr)} {x:Str} {c:Addr},(x,c)∈cellsFrom h.objs.size names acc→
  (x,c)∈acc∨((x, .cell)∈names∧h.objs.size≤c∧zR (pushCells h names) c none)
 | [],_,_,_,_,h=> .inl h
 |(n,k)::r,h,acc,x,c,hm=>by
  unfold cellsFrom at hm
  unfold pushCells
  split at hm
  ·rename_i hk
   rw[if_pos hk]
   have hk:k= .cell:=by simpa using hk
   rw[←Heap.size_push h {cls:= .type "cell",data:= .cell none}] at hm
   rcases nW hm with hm|⟨h1,h2,h3⟩
   ·rcases List.mem_cons.mp hm with e|hm
    ·cases e
     exact .inr ⟨hk▸List.mem_cons_self,Nat.le_refl _,_,pushCells_keeps r _ _ _ (Heap.get?_push_size _ rfl),rfl⟩
    ·exact .inl hm
   ·rw[Heap.size_push] at h2
    exact .inr ⟨List.mem_cons_of_mem _ h1,Nat.le_of_succ_le h2,h3⟩
  ·rename_i hk
   rw[if_neg hk]
   rcases nW hm with hm|⟨h1,h2,h3⟩
   ·exact .inl hm
   ·exact .inr ⟨List.mem_cons_of_mem _ h1,h2,h3⟩
theorem rY: ∀{names:List (Str×NameKind)} {n:Nat} {acc:List (Str×Addr)} {p:Str×Addr},p∈acc→p∈cellsFrom n names acc
 | [],_,_,_,h=>h
 |(m,k)::r,n,acc,p,h=>by
  unfold cellsFrom
  split
  ·exact rY (List.mem_cons_of_mem _ h)
  ·exact rY h
theorem wm: ∀{names:List (Str×NameKind)} {n:Nat} {acc:List (Str×Addr)} {x:Str},(x, .cell)∈names→ ∃c,(x,c)∈cellsFrom n names acc
 |(m,k)::r,n,acc,x,h=>by
  unfold cellsFrom
  rcases List.mem_cons.mp h with e|h
  ·cases e
   exact ⟨n,rY List.mem_cons_self⟩
  ·split
   ·exact wm h
   ·exact wm h
theorem xq: ∀{names:List (Str×NameKind)} {h:Heap} {acc:List (Str×Addr)} {x y:Str} {c:Addr},(∀p∈acc,p.2<h.objs.size)→(∀x y c,(x,c)∈acc→(y,c)∈acc→x=y)→
  (x,c)∈cellsFrom h.objs.size names acc→(y,c)∈cellsFrom h.objs.size names acc→x=y
 | [],_,_,_,_,_,_,hi,h1,h2=>hi _ _ _ h1 h2
 |(n,k)::r,h,acc,x,y,c,hl,hi,h1,h2=>by
  unfold cellsFrom at h1 h2
  split at h1
  ·rename_i hk
   rw[if_pos hk] at h2
   rw[←Heap.size_push h {cls:= .type "cell",data:= .cell none}] at h1 h2
   refine xq (h:=h.push _) (fun p hp=>?_) (fun x y c a b=>?_) h1 h2
   ·rw[Heap.size_push]
    rcases List.mem_cons.mp hp with rfl|hp
    ·exact Nat.lt_succ_self _
    ·exact Nat.lt_succ_of_lt (hl p hp)
   ·rcases List.mem_cons.mp a with e|a<;>rcases List.mem_cons.mp b with e'|b
    ·cases e;cases e';rfl
    ·cases e;exact absurd (hl _ b) (Nat.lt_irrefl _)
    ·cases e';exact absurd (hl _ a) (Nat.lt_irrefl _)
    ·exact hi _ _ _ a b
  ·rename_i hk
   rw[if_neg hk] at h2
   exact xq hl hi h1 h2
theorem Bv {M:Model} {A:Around} {E:Value→Shared→Prop} {s:Shared} {scope:Scope} {globals:Addr} {closure:List (Str×Addr)} {qual:Str} {func:Option Addr} {code:Value} {around:Env} {builtins:Addr} {Q:Env→Shared→Prop}
  (h:Q (newEnv scope s.heap.objs.size globals (cellsFrom (s.heap.objs.size+1) scope.names closure) qual func code (some around) builtins)
   {s with heap:=pushCells (s.heap.push {cls:= .type "dict",data:= .dict #[]}) scope.names}):
  wpAny M A (newFunctionEnv scope globals closure [] qual func code (some around) builtins) Q E s:=by
 simp only [newFunctionEnv,Option.isSome_some,if_true]
 refine wpAny_bind (wpAny_alloc ?_)
 refine wpAny_bind (wpAny_layCells _ (fun n k c=>rfl) scope.names closure _ _ ?_)
 rw[show ({s with heap:=s.heap.push {cls:= .type "dict",data:= .dict #[]}}:Shared).heap.objs.size=s.heap.objs.size+1 from Heap.size_push ..]
 rw[List.forIn_nil]
 exact wpAny_bind (wpAny_pure (wpAny_pure h))
theorem xG {sc:Scope}: ∀{names:List (Str×NameKind)} {x:Str} {k:NameKind},
  (names.map fun (n,k)=>if (k==NameKind.free&&sc.kind== .function&&sc.names.lookup n==some .cell) then (n,NameKind.cell) else (n,k)).lookup x=some k→
  ∃k',names.lookup x=some k'∧(k=k'∨(k'= .free∧k= .cell))
 | [],_,_,h=>by simp at h
 |(n,k₀)::r,x,k,h=>by
  have ih:= @xG sc r x k
  have h':List.lookup x ((if (k₀==NameKind.free&&sc.kind== .function&&sc.names.lookup n==some .cell)=true then (n,NameKind.cell) else (n,k₀))::(r.map _))=some k:=h
  cases hx:x==n with
  |true=>
   simp only [List.lookup_cons,hx]
   by_cases hc:(k₀==NameKind.free&&sc.kind== .function&&sc.names.lookup n==some .cell)=true
   ·rw[if_pos hc] at h'
    simp only [List.lookup_cons,hx] at h'
    cases h'
    simp only [Bool.and_eq_true,beq_iff_eq] at hc
    exact ⟨k₀,rfl, .inr ⟨hc.1.1,rfl⟩⟩
   ·rw[if_neg hc] at h'
    simp only [List.lookup_cons,hx] at h'
    cases h'
    exact ⟨_,rfl, .inl rfl⟩
  |false=>
   simp only [List.lookup_cons,hx]
   by_cases hc:(k₀==NameKind.free&&sc.kind== .function&&sc.names.lookup n==some .cell)=true
   ·rw[if_pos hc] at h'
    simp only [List.lookup_cons,hx] at h'
    exact ih h'
   ·rw[if_neg hc] at h'
    simp only [List.lookup_cons,hx] at h'
    exact ih h'
structure iW (N:List Str) (sc scope:Scope) (own:List (Str×Nat)):Prop where
 kind:scope.kind= .function
 uniq: ∀y∈scope.names,scope.names.lookup y.1=some y.2
 ix: ∀p∈own,N[p.2]?=some p.1
 free: ∀y∈scope.names,y.2= .free→sc.names.lookup y.1=some .cell∨sc.names.lookup y.1=some .free
 own: ∀y∈scope.names,y.2= .local∨y.2= .cell→y.1∈own.map (·.1)∨y.1∉N
def wipe (σ:St):List Nat→St
 | []=>σ
 |v::vs=>(wipe σ vs).set v none
theorem rJ (σ:St): ∀vs:List Nat,(wipe σ vs).length=σ.length
 | []=>rfl
 |v::vs=>by unfold wipe;rw[List.length_set,rJ σ vs]
theorem uB {σ:St} {i:Nat} {x:V}: ∀{vs:List Nat},(wipe σ vs)[i]?=some (some x)→σ[i]?=some (some x)∧i∉vs
 | [],h=>⟨h,by simp⟩
 |v::vs,h=>by
  unfold wipe at h
  by_cases hi:v=i
  ·subst hi
   by_cases hv:v<(wipe σ vs).length
   ·rw[List.getElem?_set_self hv] at h;cases h
   ·rw[List.getElem?_eq_none (by simpa using hv)] at h;cases h
  ·rw[List.getElem?_set_ne hi] at h
   obtain ⟨h1,h2⟩:=uB h
   exact ⟨h1,by simp only [List.mem_cons,not_or];exact ⟨fun e=>hi e.symm,h2⟩⟩
abbrev Cx.bz (X:Cx) (s:Shared) (H:Hp) (scope:Scope) (cenv:Env) (fp:List Addr):Cx:={X with bB:=s,lF:=H,env:=cenv,outer:=X.stack,ex:=fp,fn:=fun x=>scope.names.lookup x==some .cell,pn:= [],xe:=fun _ _=>False}
section
variable {X:Cx} {pins:List (Addr×Obj)} {σ:St} {H:Hp} {s:Shared}
theorem BI {scope:Scope} {own:List (Str×Nat)} {fp:List Addr} (I:Inv X pins σ H s) (ok:iW X.N X.env.scope scope own) (hN:X.N.Nodup) (hfp: ∀b∈fp,eG X pins H b∧b<s.heap.objs.size):
  Inv (X.bz s H scope (compEnvC scope (cellsFrom (s.heap.objs.size+1) scope.names (bY X.env.cells scope.names [])) s.heap.objs.size X.env) fp) [] (wipe σ (own.map (·.2))) H {s with heap:=pushCells (s.heap.push {cls:= .type "dict",data:= .dict #[]}) scope.names}:=by
 have hfree: ∀y∈scope.names,y.2= .free→ ∃c,X.env.cells.lookup y.1=some c:=fun y hy e=>by
  rcases ok.free y hy e with k|k
  ·exact I.ok.has _ (.inl k)
  ·exact I.ok.has _ (.inr k)
 generalize hcenv:compEnvC scope (cellsFrom (s.heap.objs.size+1) scope.names (bY X.env.cells scope.names [])) s.heap.objs.size X.env=cenv
 have kp: ∀b o,s.heap.get? b=some o→(pushCells (s.heap.push {cls:= .type "dict",data:= .dict #[]}) scope.names).get? b=some o:=fun b o e=>pushCells_keeps _ _ _ _ (Heap.get?_push_of_some _ e)
 have hL:cenv.locals=s.heap.objs.size:=by rw[←hcenv];rfl
 have hcl:cenv.cells=cellsFrom (s.heap.objs.size+1) scope.names (bY X.env.cells scope.names []):=by rw[←hcenv];rfl
 have hsc:cenv.scope=Qg scope X.env.scope:=by rw[←hcenv];rfl
 rw[←Heap.size_push s.heap {cls:= .type "dict",data:= .dict #[]}] at hcl
 have cm: ∀{y c},(y,c)∈bY X.env.cells scope.names []→X.env.cells.lookup y=some c∧c<s.heap.objs.size:=fun {y c} hm=>by
  rcases sj hm with hm|⟨h1,rfl⟩
  ·cases hm
  ·obtain ⟨c,hc⟩:=hfree _ h1 rfl
   rw[hc]
   obtain ⟨w,z⟩:=I.cell _ _ hc
   exact ⟨rfl,z.lt⟩
 have mem: ∀{y c},cenv.cells.lookup y=some c→(X.env.cells.lookup y=some c∧c<s.heap.objs.size)∨(s.heap.objs.size+1≤c∧zR (pushCells (s.heap.push {cls:= .type "dict",data:= .dict #[]}) scope.names) c none):=fun {y c} e=>by
  rw[hcl] at e
  rcases nW (PySem.mem_of_lookup e) with hm|⟨_,h2,h3⟩
  ·exact .inl (cm hm)
  ·rw[Heap.size_push] at h2;exact .inr ⟨h2,h3⟩
 have look: ∀{y},scope.names.lookup y=some .free→ ∃c,cenv.cells.lookup y=some c∧X.env.cells.lookup y=some c:=fun {y} hl=>by
  have hy:(y,NameKind.free)∈scope.names:=PySem.mem_of_lookup hl
  obtain ⟨c',e'⟩:=mem_lookup (rY (names:=scope.names) (n:=(s.heap.push {cls:= .type "dict",data:= .dict #[]}).objs.size) (uK (cells:=X.env.cells) (acc:= []) hy))
  rw[←hcl] at e'
  refine ⟨c',e',?_⟩
  rw[hcl] at e'
  rcases nW (PySem.mem_of_lookup e') with hm|⟨h1,_,_⟩
  ·exact (cm hm).1
  ·have:=ok.uniq _ h1
   rw[hl] at this;cases this
 have okB:(X.bz s H scope cenv fp).Ok:=by
  refine ⟨I.ok.mod,by show cenv.scope.kind=_;rw[hsc];exact ok.kind,by show cenv.globals=_;rw[←hcenv];exact I.ok.glob,by show cenv.builtins=_;rw[←hcenv];exact I.ok.blt,by show s.heap.objs.size≤cenv.locals;rw[hL];exact Nat.le_refl _,
   fun y z c e1 e2=>?_,fun y hy=>?_,fun y c z e=>?_,I.ok.hd,I.ok.frames, .inl rfl,fun b hb=>⟨?_,fun y c e z=>?_⟩,I.bs,Nat.le_trans I.ok.eW I.sz,fun b o e hb=>?_,fun b hb z=>?_,I.stack,I.rR⟩
  ·have e1:cenv.cells.lookup y=some c:=e1
   have e2:cenv.cells.lookup z=some c:=e2
   rw[hcl] at e1 e2
   refine xq (fun p hp=>?_) (fun y z c a b=>I.ok.inj y z c (cm a).1 (cm b).1) (PySem.mem_of_lookup e1) (PySem.mem_of_lookup e2)
   rw[Heap.size_push]
   exact Nat.lt_succ_of_lt (cm (y:=p.1) (c:=p.2) hp).2
  ·show∃c,cenv.cells.lookup y=some c
   have key: ∀k,cenv.kindOf y=some k→(k= .cell∨k= .free)→ ∃c,cenv.cells.lookup y=some c:=fun k hk hk'=>by
    unfold Env.kindOf at hk
    rw[hsc] at hk
    obtain ⟨k',e,r⟩:=xG hk
    have:k'= .cell∨k'= .free:=by
     rcases r with rfl|⟨rfl,_⟩
     ·exact hk'
     ·exact .inr rfl
    rcases this with rfl|rfl
    ·obtain ⟨c,hm⟩:=wm (n:=(s.heap.push {cls:= .type "dict",data:= .dict #[]}).objs.size) (acc:=bY X.env.cells scope.names []) (PySem.mem_of_lookup e)
     obtain ⟨c',e'⟩:=mem_lookup hm
     exact ⟨c',by rw[hcl];exact e'⟩
    ·obtain ⟨c,h1,_⟩:=look e
     exact ⟨c,h1⟩
   rcases hy with hy|hy
   ·exact key _ hy (.inl rfl)
   ·exact key _ hy (.inr rfl)
  ·have z:(scope.names.lookup y==some NameKind.cell)=true:=z
   have z:scope.names.lookup y=some .cell:=by simpa using z
   have e:cenv.cells.lookup y=some c:=e
   rw[hcl] at e
   rcases nW (PySem.mem_of_lookup e) with hm|⟨_,h2,_⟩
   ·rcases sj hm with hm|⟨h1,_⟩
    ·cases hm
    ·have q:=ok.uniq _ h1
     rw[z] at q;cases q
   ·rw[Heap.size_push] at h2
    exact Nat.le_of_succ_le h2
  ·show b≠cenv.locals
   rw[hL];exact Nat.ne_of_lt (hfp b hb).2
  ·have e:cenv.cells.lookup y=some c:=e
   rcases mem e with ⟨h1,_⟩|⟨h1,_⟩
   ·exact (hfp b hb).1.2.2.2.2.1 y c h1 z
   ·have h2:s.heap.objs.size+1≤b:=by rw[←z];exact h1
    exact absurd (Nat.lt_of_lt_of_le (hfp b hb).2 (Nat.le_of_succ_le h2)) (Nat.lt_irrefl _)
  ·rcases (hfp b hb).1.2.2.2.1 with z|z
   ·exact I.ok.eR b o e z
   ·exact absurd (Nat.lt_of_lt_of_le (Heap.lt_size e) (Nat.le_trans I.ok.eW z)) (Nat.lt_irrefl _)
  ·rcases List.mem_cons.mp (I.nV b z) with z|z
   ·exact (hfp b hb).1.2.1 z
   ·exact (hfp b hb).1.2.2.1 z
 refine ⟨okB,rfl,I.bare,Un.kept kp,⟨fun _=>none,?_,fun i y av e1 e2 e3=>?_⟩,fun y c e=>?_,?_,fun y c e=>?_,fun p hp=>?_,I.ao.kept kp,by rw[rJ];exact I.len⟩
 ·show Heap.Ns _ cenv.locals _
  rw[hL]
  exact Heap.Ns.keeps (Heap.Ns.new ..) fun b o e=>pushCells_keeps _ _ _ _ e
 ·obtain ⟨e2,hne⟩:=uB e2
  have hfr:scope.names.lookup y=some .free∧(cenv.kindOf y=some .cell∨cenv.kindOf y=some .free):=by
   have key: ∀k,cenv.scope.names.lookup y=some k→k= .local∨k= .cell∨k= .free→scope.names.lookup y=some .free∧(cenv.kindOf y=some .cell∨cenv.kindOf y=some .free):=fun k hk hk'=>by
    have hk0:=hk
    rw[hsc] at hk
    obtain ⟨k',e,r⟩:=xG hk
    have no: ¬(k'= .local∨k'= .cell):=fun hh=>by
     rcases ok.own _ (PySem.mem_of_lookup e) hh with e'|e'
     ·obtain ⟨p,hp,hpy⟩:=List.mem_map.mp e'
      have e3:=ok.ix p hp
      have:p.1=y:=hpy
      rw[this] at e3
      exact hne (List.mem_map.mpr ⟨p,hp,wo hN e3 e1⟩)
     ·exact e' (List.mem_of_getElem? e1)
    rcases r with rfl|⟨rfl,rfl⟩
    ·rcases hk' with rfl|rfl|rfl
     ·exact absurd (.inl rfl) no
     ·exact absurd (.inr rfl) no
     ·exact ⟨e, .inr hk0⟩
    ·exact ⟨e, .inl hk0⟩
   have e3:lD cenv.scope y:=e3
   rcases e3 with e3|e3|e3
   ·exact key _ e3 (.inl rfl)
   ·exact key _ e3 (.inr (.inl rfl))
   ·exact key _ e3 (.inr (.inr rfl))
  obtain ⟨m,hn,hl⟩:=I.loc
  have hvis:lD X.env.scope y:=(ok.free _ (PySem.mem_of_lookup hfr.1) rfl).elim (fun k=> .inr (.inl k)) (fun k=> .inr (.inr k))
  obtain ⟨w,r,q⟩:=hl i y av e1 e2 hvis
  refine ⟨w,r, .inr ⟨hfr.2,?_⟩⟩
  obtain ⟨c,h1,h2⟩:=look hfr.1
  rcases q with ⟨k,_⟩|⟨_,c',e',z⟩
  ·have k:X.env.scope.names.lookup y=some .local:=k
   rcases ok.free _ (PySem.mem_of_lookup hfr.1) rfl with k'|k'<;>rw[show X.env.scope.names.lookup y=_ from k'] at k<;>cases k
  ·rw[h2] at e';cases e'
   exact ⟨c,h1,z.keeps kp⟩
 ·have e:cenv.cells.lookup y=some c:=e
  rcases mem e with ⟨h1,_⟩|⟨_,z⟩
  ·obtain ⟨w,z⟩:=I.cell y c h1
   exact ⟨w,z.keeps kp⟩
  ·exact ⟨_,z⟩
 ·show H cenv.locals=none
  rw[hL];exact I.ao.fresh (Nat.le_refl _)
 ·have e:cenv.cells.lookup y=some c:=e
  rcases mem e with ⟨h1,_⟩|⟨h1,_⟩
  ·exact I.dN y c h1
  ·exact I.ao.fresh (Nat.le_of_succ_le h1)
 ·exact absurd (show p∈([]:List (Addr×Obj))++ [] from hp) (by simp)
theorem FY {E:Value→Shared→Prop} {D:Addr} {xs:List V} {y:V} {v:Value} {Q:Value→Shared→Prop} (I:Inv X pins σ H s) (hD:H D=some (.lst xs)) (hz:xs.length<sizeLine) (r:RelV y v)
  (h: ∀s',Inv X pins σ (upd H D (.lst (xs++ [y]))) s'→Q .none s'):wpAny (model X.prog X.w) X.A (call (.builtin "list.append") [.ref D,v]) Q E s:=by
 obtain ⟨hz',its,n,ri,e⟩:=I.ao D _ hD
 have hl:=ri.length
 refine append_at (hsz:=by rw[List.size_toArray];omega) e fun h' sb ho'=>?_
 refine h {s with heap:=h'} (I.write (t':=s.toks) (by rw[hD];trivial) (.inl rfl) (fun b u hb q=>(sb.2 b hb).trans q) ⟨_,ho'⟩ ⟨by rw[List.length_append];exact hz,its++ [v],n+1,ri.append (.cons r .nil),?_⟩)
 rw[ho']
 simp
def jX (X:Cx) (ifs:List Expr) (t:TT):Prop:=
 ∀(pins:List (Addr×Obj)) (s:Shared) (σ:St) (H:Hp) (Q:Bool→Hp→Prop),Inv X pins σ H s→t σ H Q→
  wpAny (model X.prog X.w) X.A (forIn ifs true fun c r=>if r=true then do let ok←isTrue c X.env (eval c X.env);pure (ForInStep.yield ok) else pure (ForInStep.yield r)) (TP X pins σ Q) X.xe s
def mj:TT:=fun _ H Q=>Q true H
theorem d6:jX X [] mj:=fun _ _ _ H _ I h=>wpAny_tests_nil ⟨H,I,h⟩
end
theorem iF {α:Type} {t:Sem α} {Q Q':α→Shared→Prop} {M:Model} {A:Around} {E:Value→Shared→Prop} {s:Shared} (h:wpAny M A t Q (fun _ _=>False) s) (hQ: ∀a s,Q a s→Q' a s):wpAny M A t Q' E s:=wpAny_mono h hQ fun _ _ z=>False.elim z
theorem Bf {prog:Program} {w:World} {A:Around} {R:Result→Shared→Prop} {s:Shared} {elt target iter:Expr} {ifs:List Expr} {scope:Scope} {pos:Pos} {it acc:Value} {env:Env} (I:Nat→Shared→Prop)
  (turn: ∀n s,I n s→wpAny (model prog w) A (pyNext it) (fun r s₁=>match r with
   |none=>R (.ok .next) s₁
   |some v=>wpAny (model prog w) A (letOwnedTupleGo target it v) (fun _ s₁'=>wpAny (model prog w) A (assign target env v) (fun _ s₂=>
     wpAny (model prog w) A (forIn ifs true fun c r=>if r=true then do let ok←isTrue c env (eval c env);pure (ForInStep.yield ok) else pure (ForInStep.yield r)) (fun ok s₃=>
      if ok=true then wpAny (model prog w) A (eval elt env) (fun x s₄=>
       wpAny (model prog w) A (call (.builtin "list.append") [acc,x]) (fun _ s₅=> ∃m,m<n∧I m s₅) (notedBy (model prog w) A env fun e s'=>R (.error e) s') s₄) (notedBy (model prog w) A env fun e s'=>R (.error e) s') s₃
      else∃m,m<n∧I m s₃) (notedBy (model prog w) A env fun e s'=>R (.error e) s') s₂) (notedBy (model prog w) A env fun e s'=>R (.error e) s') s₁') (notedBy (model prog w) A env fun e s'=>R (.error e) s') s₁) (notedBy (model prog w) A env fun e s'=>R (.error e) s') s)
  (n:Nat) (h:I n s):
  codeAny (model prog w) A (.compLoop (.ListComp elt [⟨target,iter,ifs,0⟩] scope pos) 0 it acc env) R s:=by
 refine codeAny_loop rfl I (fun n s hI=>?_) n h
 show wpAny _ A ((compTurn (.ListComp elt [⟨target,iter,ifs,0⟩] scope pos) 0 it acc env).onRaise (fun x=>do noteFrame x env;theTreesLotGoes x)) _ _ s
 refine wpAny_noted ?_
 rw[compTurn_list]
 refine wpAny_bind (wpAny_standAt (wpAny_bind (wpAny_mono (turn n s hI) (fun r s₁ h₁=>?_) fun _ _ h'=>h')))
 cases r with
 |none=>exact wpAny_pure h₁
 |some v=>
  refine wpAny_bind (wpAny_mono h₁ (fun _ s₁' h₁'=>?_) fun _ _ h'=>h')
  refine wpAny_bind (wpAny_mono h₁' (fun _ s₂ h₂=>wpAny_bind (wpAny_mono h₂ (fun ok s₃ h₃=>?_) fun _ _ h'=>h')) fun _ _ h'=>h')
  cases ok with
  |false=>exact wpAny_pure ⟨rfl,h₃⟩
  |true=>
   exact wpAny_bind (wpAny_bind (wpAny_mono h₃ (fun x s₄ h₄=>wpAny_bind (wpAny_mono h₄ (fun _ s₅ h₅=>wpAny_pure (wpAny_pure ⟨rfl,h₅⟩)) fun _ _ h'=>h')) fun _ _ h'=>h'))
section
variable {X:Cx}
def iH (wi:TI) (g:TG) (tt:TT) (te:TE) (vs:List Nat):TE:=fun σ H Q=>wi σ H fun J H1=> ∀D,H1 D=none→ ∃W:Nat→Nat→Hp→Prop,(∃m,W 0 m (upd H1 D (.lst [])))∧ ∀i m H,W i m H→
 (J.stop i H∧Q (.ref D) H)∨(J.go i H∧ ∃Nx:Hp→Prop,(∀H',Nx H'→ ∃m',m'<m∧W (i+1) m' H')∧ ∀x H',J.eI i H x H'→g x (wipe σ vs) H' fun σ2 H2=>wipe σ2 vs=wipe σ vs∧tt σ2 H2 fun b H3=>
  if b=true then te σ2 H3 fun y H4=> ∃acc,H4 D=some (.lst acc)∧acc.length<sizeLine∧Nx (upd H4 D (.lst (acc++ [y]))) else Nx H3)
theorem BJ {pins:List (Addr×Obj)} {s:Shared} {σ:St} {H:Hp} {Q:VK} {elt tg iter:Expr} {ifs:List Expr} {scope:Scope} {own:List (Str×Nat)} {pos pos':Pos} {wi:TI} {g:TG} {tt:TT} {te:TE} {use:Option (Value→Sem Unit)} {Qf:Value→Shared→Prop}
  (hc:X.calm=true) (hN:X.N.Nodup) (I:Inv X pins σ H s) (hi:PI X tg iter wi) (ok:iW X.N X.env.scope scope own)
  (hg: ∀(s:Shared) (H:Hp) (C:Addr) (cl:List (Str×Addr)) (fp:List Addr),PG (X.bz s H scope (compEnvC scope cl C X.env) fp) tg g) (ht: ∀(s:Shared) (H:Hp) (C:Addr) (cl:List (Str×Addr)) (fp:List Addr),jX (X.bz s H scope (compEnvC scope cl C X.env) fp) ifs tt)
  (he: ∀(s:Shared) (H:Hp) (C:Addr) (cl:List (Str×Addr)) (fp:List Addr),PE (X.bz s H scope (compEnvC scope cl C X.env) fp) elt te) (hs: ∀x,foldedSetIterable iter X.env x=pure x)
  (h:iH wi g tt te (own.map (·.2)) σ H Q)
  (hRR: ∀D C s' m H',Inv X pins σ H' s'→Q (.ref D) H'→s'.heap.Ns C m→eG X pins H' C→compPost (model X.prog X.w) X.A X.xe use Qf (.ref D) C (.ok .next) s'):
  wpAny (model X.prog X.w) X.A (comprehension (.ListComp elt [⟨tg,iter,ifs,0⟩] scope pos) scope X.env pos' (newList []) false (eval iter X.env) use) Qf X.xe s:=by
 have hfree: ∀y∈scope.names,y.2= .free→ ∃c,X.env.cells.lookup y.1=some c:=fun y hy e=>by
  rcases ok.free y hy e with k|k
  ·exact I.ok.has _ (.inl k)
  ·exact I.ok.has _ (.inr k)
 refine wpAny_comprehension_free (use:=use) rfl hs (ER hfree) ok.kind (fun y hy e=>by rw[ok.uniq y hy,e])
  (aI (hi pins s σ H _ I h) fun xv s1 hx=>aI hx fun itv s2 h2=>?_)
 obtain ⟨it,fp,tn,J,H2,e,I2,T,st2,f2,q⟩:=h2
 subst e
 refine wpAny_newObj_type (Bv ?_) (by show 0≤sizeLine;decide)
 generalize hD:s2.heap.objs.size=D
 have hDn:H2 D=none:=I2.ao.fresh (Nat.le_of_eq hD)
 obtain ⟨W,⟨m0,w0⟩,turn⟩:=q D hDn
 generalize hs3:({s2 with heap:=s2.heap.push {cls:= .type "list",data:= .seq ([]:List Value).toArray}}:Shared)=s3
 have I3:Inv X pins σ (upd H2 D (.lst [])) s3:=by
  rw[←hs3]
  refine I2.laid (t':=s2.toks) (fun b o e=>Heap.get?_push_of_some _ e) (Nat.le_of_eq hD) ⟨Nat.zero_le _, [],0, .nil,?_⟩
  rw[←hD]
  exact Heap.get?_push_size _ rfl
 have h3:s3.heap=s2.heap.push {cls:= .type "list",data:= .seq ([]:List Value).toArray}:=by rw[←hs3]
 have sz: ∀b∈fp,b<s2.heap.objs.size:=fun b hb=>by
  obtain ⟨o,e,_⟩:=T.obj _ _ st2 b hb
  exact Heap.lt_size e
 have f3: ∀b∈fp,eG X pins (upd H2 D (.lst [])) b∧b<s3.heap.objs.size:=fun b hb=>by
  have hlt:=sz b hb
  refine ⟨⟨?_,(f2 b hb).2⟩,by rw[h3,Heap.size_push];exact Nat.lt_succ_of_lt hlt⟩
  rw[aL (by rw[←hD];exact Nat.ne_of_lt hlt)]
  exact (f2 b hb).1
 have st3:tn 0 s3.heap:=T.keep _ _ _ st2 fun b _ o e=>by rw[h3];exact Heap.get?_push_of_some _ e
 have I4:=BI I3 ok hN f3
 have pg:=hg s3 (upd H2 D (.lst [])) s3.heap.objs.size (cellsFrom (s3.heap.objs.size+1) scope.names (bY X.env.cells scope.names [])) fp
 have pt:=ht s3 (upd H2 D (.lst [])) s3.heap.objs.size (cellsFrom (s3.heap.objs.size+1) scope.names (bY X.env.cells scope.names [])) fp
 have pe:=he s3 (upd H2 D (.lst [])) s3.heap.objs.size (cellsFrom (s3.heap.objs.size+1) scope.names (bY X.env.cells scope.names [])) fp
 show codeAny _ _ (.compStart (.ListComp elt [⟨tg,iter,ifs,0⟩] scope pos) 0 (.ref it) (.ref D) (compEnvC scope (cellsFrom (s3.heap.objs.size+1) scope.names (bY X.env.cells scope.names [])) s3.heap.objs.size X.env)) (compPost (model X.prog X.w) X.A X.xe use Qf (.ref D) s3.heap.objs.size) {s3 with heap:=pushCells (s3.heap.push {cls:= .type "dict",data:= .dict #[]}) scope.names}
 have nfp: ∀b∈fp,(upd H2 D (.lst [])) b=none:=fun b hb=>(f3 b hb).1.1
 generalize hce:compEnvC scope (cellsFrom (s3.heap.objs.size+1) scope.names (bY X.env.cells scope.names [])) s3.heap.objs.size X.env=ce at I4 pg pt pe⊢
 have cL:ce.locals=s3.heap.objs.size:=by subst hce;rfl
 generalize hH3:upd H2 D (.lst [])=H3 at I3 I4 pg pt pe w0 nfp f3
 generalize hs4:({s3 with heap:=pushCells (s3.heap.push {cls:= .type "dict",data:= .dict #[]}) scope.names}:Shared)=s4 at I4⊢
 have st4:tn 0 s4.heap:=T.keep _ _ _ st3 fun b _ o e=>by rw[←hs4];exact pushCells_keeps _ _ _ _ (Heap.get?_push_of_some _ e)
 have stat: ∀{σ':St} {H':Hp} {s':Shared},Inv (X.bz s3 H3 scope ce fp) [] σ' H' s'→(∀b∈fp,H' b=none)→ ∀b∈fp,eG (X.bz s3 H3 scope ce fp) [] H' b:=fun {σ' H' s'} I' hn b hb=>
  ⟨hn b hb,(I'.ok.gW b hb).1,I'.ok.ic b hb, .inl hb,fun x c e=>(I'.ok.gW b hb).2 x c e,fun p hp=>absurd (show p∈([]:List (Addr×Obj))++ [] from hp) (by simp)⟩
 have loop:codeAny (model X.prog X.w) X.A (.compLoop (.ListComp elt [⟨tg,iter,ifs,0⟩] scope pos) 0 (.ref it) (.ref D) ce) (compPost (model X.prog X.w) X.A X.xe use Qf (.ref D) s3.heap.objs.size) s4:=by
  refine Bf (fun n s'=> ∃i H',Inv (X.bz s3 H3 scope ce fp) [] (wipe σ (own.map (·.2))) H' s'∧tn i s'.heap∧(∀b∈fp,H' b=none)∧W i n H') ?_ m0 ⟨0,H3,I4,st4,nfp,w0⟩
  rintro n s5 ⟨i,H5,I5,st5,n5,w5⟩
  rcases turn i n H5 w5 with ⟨stop,qq⟩|⟨go,Nx,hNx,step⟩
  ·have td:=T.done (X.bz s3 H3 scope ce fp) rfl rfl rfl hc i [] s5 _ H5 (fun _ _=>False) I5 (stat I5 n5) st5 stop
   refine iF td fun r s6 ⟨hr,I6⟩=>?_
   subst hr
   have I7:Inv X pins σ H5 s6:=I3.jT (ch:=fp) I6.os I6.base I6.ao I6.bare fun b hb=>⟨(f3 b hb).1.2.2.2.1,(f3 b hb).1.2.1,(f3 b hb).1.2.2.2.2.1,(f3 b hb).1.2.2.2.2.2⟩
   have nC:H5 s3.heap.objs.size=none:=by
    have z:H5 ce.locals=none:=I6.free
    rw[cL] at z
    exact z
   obtain ⟨m,hn,_⟩:=I6.loc
   have hn:s6.heap.Ns ce.locals m:=hn
   rw[cL] at hn
   exact hRR D s3.heap.objs.size s6 m H5 I7 qq hn (I3.gG (Nat.le_refl _) nC)
  ·have ti:=T.item (X.bz s3 H3 scope ce fp) rfl rfl rfl hc i [] s5 _ H5 (fun _ _=>False) I5 (stat I5 n5) st5 go
   refine iF ti fun r s6 ⟨u,hr,h6⟩=>?_
   subst hr
   refine iF h6 fun _ s7 ⟨x,H7,I7,r7,y7,st7,n7⟩=>?_
   have I7':=I7.pinned (stat I7 n7) (T.obj _ _ st7)
   refine iF (pg _ s7 _ H7 x u _ I7' r7 (step x H7 y7)) fun _ s8 ⟨σ8,H8,I8,hw8,q8⟩=>?_
   refine iF (pt _ s8 σ8 H8 _ I8 q8) fun b s9 ⟨H9,I9,q9⟩=>?_
   have fin: ∀{s':Shared} {H':Hp},Inv (X.bz s3 H3 scope ce fp) ([]++ku fp s7.heap) σ8 H' s'→Nx H'→ ∃m,m<n∧ ∃i H',Inv (X.bz s3 H3 scope ce fp) [] (wipe σ (own.map (·.2))) H' s'∧tn i s'.heap∧(∀b∈fp,H' b=none)∧W i m H':=fun {s' H'} I' nx=>by
    obtain ⟨m',hm,w'⟩:=hNx H' nx
    have pin': ∀b∈fp,∀o,s7.heap.get? b=some o→s'.heap.get? b=some o∧H' b=none:=fun b hb o e=>
     let z:=I'.pin (b,o) (List.mem_append_right _ (List.mem_append_right _ (rF hb e)))
     ⟨z.1,z.2.1⟩
    have hl:(wipe σ (own.map (·.2))).length=σ8.length:=by rw[←hw8,rJ]
    refine ⟨m',hm,i+1,H',(I'.nE (pins:= [])).weak hl (fun j v e=>?_),T.keep _ _ _ st7 fun b hb o e=>(pin' b hb o e).1,fun b hb=>?_,w'⟩
    ·rw[←hw8] at e
     exact (uB e).1
    ·obtain ⟨o,e,_⟩:=T.obj _ _ st7 b hb
     exact (pin' b hb o e).2
   cases b with
   |false=>
    simp only [Bool.false_eq_true,if_false] at q9⊢
    exact fin I9 q9
   |true=>
    simp only [if_true] at q9⊢
    refine iF (pe _ s9 σ8 H9 _ I9 q9) fun z s10 ⟨yv,H10,I10,r10,acc,hD10,hz10,nx⟩=>?_
    exact FY (X:=X.bz s3 H3 scope ce fp) I10 hD10 hz10 r10 fun s11 I11=>fin I11 nx
 exact codeAny_compStart_list loop (T.self X.A 0 _ _ _ st4 loop)
theorem fz {elt tg iter:Expr} {ifs:List Expr} {scope:Scope} {own:List (Str×Nat)} {pos:Pos} {wi:TI} {g:TG} {tt:TT} {te:TE} (hc:X.calm=true) (hN:X.N.Nodup) (hi:PI X tg iter wi) (ok:iW X.N X.env.scope scope own)
  (hg: ∀(s:Shared) (H:Hp) (C:Addr) (cl:List (Str×Addr)) (fp:List Addr),PG (X.bz s H scope (compEnvC scope cl C X.env) fp) tg g) (ht: ∀(s:Shared) (H:Hp) (C:Addr) (cl:List (Str×Addr)) (fp:List Addr),jX (X.bz s H scope (compEnvC scope cl C X.env) fp) ifs tt)
  (he: ∀(s:Shared) (H:Hp) (C:Addr) (cl:List (Str×Addr)) (fp:List Addr),PE (X.bz s H scope (compEnvC scope cl C X.env) fp) elt te) (hs: ∀x,foldedSetIterable iter X.env x=pure x:=by intro _;rfl):
  PE X (.ListComp elt [⟨tg,iter,ifs,0⟩] scope pos) (iH wi g tt te (own.map (·.2))):=by
 intro pins s σ H Q I h
 rw[eval_ListComp]
 refine BJ hc hN I hi ok hg ht he hs h fun D C s' m H' I' q hn f=>⟨m,hn,fun h'' sb=>?_⟩
 obtain ⟨f0,f1,f2,f3,f4,f5⟩:=f
 exact ⟨.ref D,H',I'.turned (t':=s'.toks) (fun b o hb e=>(sb.2 b hb).trans e) f0 f1 f3 f4 f5,rfl,q⟩
theorem IX {i:Nat} {y:Str} {py:Pos} {elt tg iter:Expr} {ifs:List Expr} {scope:Scope} {own:List (Str×Nat)} {pos spos:Pos} {wi:TI} {g:TG} {tt:TT} {te:TE} (hc:X.calm=true) (hN:X.N.Nodup) (hy:X.N[i]?=some y) (hyl:X.env.scope.names.lookup y=some .local)
  (hsw:swapsWith (.ListComp elt [⟨tg,iter,ifs,0⟩] scope pos) (some (.Name y py)) spos.line X.env=pure true) (hi:PI X tg iter wi) (ok:iW X.N X.env.scope scope own)
  (hg: ∀(s:Shared) (H:Hp) (C:Addr) (cl:List (Str×Addr)) (fp:List Addr),PG (X.bz s H scope (compEnvC scope cl C X.env) fp) tg g) (ht: ∀(s:Shared) (H:Hp) (C:Addr) (cl:List (Str×Addr)) (fp:List Addr),jX (X.bz s H scope (compEnvC scope cl C X.env) fp) ifs tt)
  (he: ∀(s:Shared) (H:Hp) (C:Addr) (cl:List (Str×Addr)) (fp:List Addr),PE (X.bz s H scope (compEnvC scope cl C X.env) fp) elt te) (hs: ∀x,foldedSetIterable iter X.env x=pure x:=by intro _;rfl):
  PS X (.Assign [.Name y py] (.ListComp elt [⟨tg,iter,ifs,0⟩] scope pos) spos) (wC (iH wi g tt te (own.map (·.2))) (jK i)):=by
 intro pins s σ H D I h
 rw[exec_Assign_Name_used _ _ _ _ hsw]
 refine wpAny_bind (wpAny_standAt (wpAny_bind ?_))
 show wpAny _ X.A (do let _←comprehension (.ListComp elt [⟨tg,iter,ifs,0⟩] scope pos) scope X.env (firstIterPos [⟨tg,iter,ifs,0⟩] pos) (newList []) false (eval iter X.env) (some (assign (.Name y py) X.env))) _ _ s
 have h:iH wi g tt te (own.map (·.2)) σ H (fun x H1=>jK i x σ H1 D.nx):=h
 refine wpAny_bind (aI (BJ (Qf:=fun _ s'=>SP X pins D .next s') hc hN I hi ok hg ht he hs h fun L C s' m H' I' q hn f=>?_) fun _ s' hq=>wpAny_pure (wpAny_pure hq))
 show wpAny _ _ (assign (.Name y py) X.env (.ref L)) _ _ _
 refine wpAny_assign_Name (uV (v:=V.ref L) I' hN hy (.inl hyl) rfl (fun s2 I2 ⟨a,sb,ha⟩=>?_) (.inr hyl))
 obtain ⟨f0,f1,f2,f3,f4,f5⟩:=f
 have haC:C≠a:=by
  rcases ha with z|z
  ·rw[z];exact f1
  ·exact fun e=>f4 y a z e.symm
 refine ⟨m,hn.sameBut sb haC,fun h3 sb3=>?_⟩
 exact ⟨_,H',I2.turned (t':=s2.toks) (fun b o hb e=>(sb3.2 b hb).trans e) f0 f1 f3 f4 f5,q⟩
end
def EU (N:List Str) (sc scope:Scope) (own:List (Str×Nat)):Bool:=
 (match scope.kind with| .function=>true|_=>false)&&(scope.names.all fun y=>decide (scope.names.lookup y.1=some y.2))&&(own.all fun p=>decide (N[p.2]?=some p.1))&&
  (scope.names.all fun y=>match y.2 with
   | .free=>(match sc.names.lookup y.1 with|some .cell=>true|some .free=>true|_=>false)
   | .local=>decide (y.1∈own.map (·.1))||decide (y.1∉N)
   | .cell=>decide (y.1∈own.map (·.1))||decide (y.1∉N)
   |_=>true)
theorem d5 {N:List Str} {sc scope:Scope} {own:List (Str×Nat)} (h:EU N sc scope own=true):iW N sc scope own:=by
 unfold EU at h
 simp only [Bool.and_eq_true,List.all_eq_true,decide_eq_true_eq] at h
 obtain ⟨⟨⟨h1,h2⟩,h3⟩,h4⟩:=h
 refine ⟨?_,h2,h3,fun y hy e=>?_,fun y hy e=>?_⟩
 ·split at h1
  ·assumption
  ·cases h1
 ·have q:=h4 y hy
  simp only [e] at q
  split at q<;>first|exact .inl (by assumption)|exact .inr (by assumption)|cases q
 ·have q:=h4 y hy
  rcases e with e|e<;>(simp only [e,Bool.or_eq_true,decide_eq_true_eq] at q;exact q)
end L2
namespace L2
open PySem PySem.Spec PyProof.Rows
section
variable {prog:Program} {w:World} {A:Around} {R:Result→Shared→Prop} {s:Shared} {elt t0 i0 t1 i1:Expr} {ifs0 ifs1:List Expr} {scope:Scope} {pos:Pos} {it acc:Value} {env:Env}
end
section
variable {X:Cx}
end
end L2
namespace L2
open PySem PySem.Spec PyProof.Rows
section
variable {κ:Type} [DecidableEq κ]
end
section
variable {P:Program} {w:World} {H:Hp} {h:Heap} {a:Addr}
end
section
variable {X:Cx} {pins:List (Addr×Obj)} {σ:St} {H:Hp} {s:Shared} {a:Addr} {y v:V} {u r:Value} {o:Option V} {A:Around} {E:Value→Shared→Prop}
end
section
variable {X:Cx} {pins:List (Addr×Obj)} {σ:St} {H:Hp} {s:Shared} {a:Addr} {kvs:List (Key×V)} {k:Key} {u:Value} {A:Around} {E:Value→Shared→Prop}
end
section
variable {X:Cx} {o i e value:Expr} {pos pos' tpos:Pos} {td ty tv:TE}
end
section
variable {X:Cx} {pos:Pos}
end
section
variable {X:Cx} {pins:List (Addr×Obj)} {σ:St} {H:Hp} {s:Shared} {a:Addr} {y d:V} {u r:Value} {o:Option V} {A:Around} {E:Value→Shared→Prop}
end
section
variable {X:Cx} {o e f:Expr} {apos cpos:Pos} {td ty tx:TE}
end
section
variable {X:Cx} {pins:List (Addr×Obj)} {σ:St} {H:Hp} {s:Shared} {a:Addr} {kvs:List (Key×V)} {A:Around} {E:Value→Shared→Prop}
end
section
variable {X:Cx} {pins:List (Addr×Obj)} {σ:St} {H:Hp} {s:Shared} {a:Addr} {y:V} {u:Value} {A:Around} {E:Value→Shared→Prop}
end
end L2
namespace L2
open PySem PySem.Spec PyProof.Rows
section
variable {prog:Program} {w:World} {A:Around} {E:Value→Shared→Prop}
end
section
variable {X:Cx}
end
end L2
namespace L2
open PySem PySem.Spec PyProof.Rows
section
variable {X:Cx} {pins:List (Addr×Obj)} {σ:St} {H:Hp} {s:Shared} {h':Heap}
theorem Inv.Ec {t':Nat} {ch:List Addr} (I:Inv X pins σ H s) (k: ∀b o,b∉ch→s.heap.get? b=some o→h'.get? b=some o) (hf: ∀b∈ch,eG X pins H b):Inv X pins σ H {s with heap:=h',toks:=t'}:=by
 have nit: ∀b u,H b=some u→b∉ch:=fun b u e z=>by
  have q:=(hf b z).1
  rw[q] at e;cases e
 refine I.step (g':=s.gens) (d':=s.drawn) (ch:=ch) (fun b hb=>⟨(hf b hb).2.2.2.1,(hf b hb).2.1,(hf b hb).2.2.2.2.1,(hf b hb).2.2.2.2.2⟩) (fun b o _ _ hc e _=>k b o hc e) (fun b o _ _ hc e _=>⟨o.slots,k b o hc e⟩)
  (fun _ _ _ _ n=>n) (fun b o hc e=>⟨o,k b o hc e⟩) (fun _ _ e=>e) (fun _ _ _ e=>e) (fun b ps e=>⟨#[],by rw[e];simp⟩) (fun m hm=>?_) (fun b u e=>?_) I.bare
 ·obtain ⟨o,es,ep,ho,r⟩:=hm
  exact ⟨o,es,ep,k _ o (fun z=>(hf _ z).2.1 rfl) ho,r⟩
 ·refine (I.ao b u e).fX (fun c v hc q=>k c v ?_ q) (fun _ q=>q) fun _ _ q=>q
  rcases hc with z|z
  ·rw[z];exact nit b u e
  ·exact nit c _ z
theorem Inv.yd {t':Nat} {ch:List Addr} {T:Addr} {ob:HO} (I:Inv X pins σ H s) (k: ∀b o,b∉ch→s.heap.get? b=some o→h'.get? b=some o) (hf: ∀b∈ch,eG X pins H b) (hT:s.heap.objs.size≤T)
  (new:cT X.prog X.w (upd H T ob) h' T ob):Inv X pins σ (upd H T ob) {s with heap:=h',toks:=t'}:=by
 have hn:H T=none:=I.ao.fresh hT
 have nit: ∀b u,H b=some u→b∉ch:=fun b u e z=>by
  have q:=(hf b z).1
  rw[q] at e;cases e
 refine I.step (g':=s.gens) (d':=s.drawn) (ch:=ch) (fun b hb=>⟨(hf b hb).2.2.2.1,(hf b hb).2.1,(hf b hb).2.2.2.2.1,(hf b hb).2.2.2.2.2⟩) (fun b o _ _ hc e _=>k b o hc e) (fun b o _ _ hc e _=>⟨o.slots,k b o hc e⟩)
  (fun b o _ e n=>?_) (fun b o hc e=>⟨o,k b o hc e⟩) (fun b xs e=>?_) (fun b o u e=>?_) (fun b ps e=>⟨#[],?_⟩) (fun m hm=>?_) (fun b u e=>?_) I.bare
 ·rw[aL (Nat.ne_of_lt (Nat.lt_of_lt_of_le (Heap.lt_size e) hT))];exact n
 ·rw[aL (cH e hn)];exact e
 ·rw[aL (cH e hn)];exact e
 ·rw[aL (cH e hn),e];simp
 ·obtain ⟨o,es,ep,ho,r⟩:=hm
  exact ⟨o,es,ep,k _ o (fun z=>(hf _ z).2.1 rfl) ho,r⟩
 ·by_cases hb:b=T
  ·subst hb
   rw[aj] at e
   cases e
   exact new
  ·rw[aL hb] at e
   refine (I.ao b u e).fX (fun c v hc q=>k c v ?_ q) (fun c q=>by rw[aL (cH q hn)];exact q) fun c xs q=>by rw[aL (cH q hn)];exact q
   rcases hc with z|z
   ·rw[z];exact nit b u e
   ·exact nit c _ z
end
section
variable {X:Cx}
theorem Ma {tg:Expr} {pins:List (Addr×Obj)} {σ:St} {H:Hp} {s:Shared} {R:It→Hp→Prop} {J:It} {tn:Nat→Heap→Prop} {tk:Nat} (I:Inv X pins σ H s) (o:Obj)
  (T:Turn X.prog X.w X.K tg J [s.heap.objs.size] s.heap.objs.size tn) (st:tn 0 (s.heap.push o)) (q:R J H):vD X pins σ tg R (.ref s.heap.objs.size) {s with heap:=s.heap.push o,toks:=tk}:=by
 refine ⟨s.heap.objs.size, [s.heap.objs.size],tn,J,H,rfl,I.kept fun b ob e=>Heap.get?_push_of_some _ e,T,st,fun b hb=>?_,q⟩
 have e:b=s.heap.objs.size:=by simpa using hb
 subst e
 exact I.gG (Nat.le_refl _) (I.ao.fresh (Nat.le_refl _))
end
def r9 (lo c:Int) (n:Nat):It:=⟨fun i _=>i<n,fun i H x H'=>H'=H∧x= .int (lo+(i:Nat)*c),fun i _=>n≤i⟩
theorem Kw {P:Program} {w:World} {K:PySem.W.Frag} {tg:Expr} (it:Addr) (lo c:Int) (n:Nat):Turn P w K tg (r9 lo c n) [it] it (fun i h=>IsRangeIter h it (lo+(i:Nat)*c) ((n:Int)-(i:Nat)) c) where
 mem:=by simp
 obj:=fun i h st b hb=>by
  have e:b=it:=by simpa using hb
  subst e
  exact ⟨_,st,fun v z=>nomatch z⟩
 keep:=fun i h h' st k=>k it (by simp) _ st
 item:=by
  intro X hP hw hK hc i pins s σ H E I hf st hg
  subst hP hw hK
  obtain ⟨f0,f1,f2,f3,f4,f5⟩:=hf it (by simp)
  have W:=Walks.range (prog:=X.prog) (w:=X.w) (I.ok.hd hc) it lo c n
  refine W.item i s _ _ hg st fun v h' tk hv st' kk=>?_
  obtain ⟨t,rfl⟩:=hv
  have I1:Inv X pins σ H {s with heap:=h',toks:=tk}:=I.turned (fun b o hb e=>kk b o (by simpa using hb) e) f0 f1 f3 f4 f5
  exact ⟨_,rfl,tX (s:={s with heap:=h',toks:=tk}) (n:= "range_iterator") st' rfl rfl (by decide) ⟨.int (lo+(i:Nat)*c),H,I1,⟨t,rfl⟩,⟨rfl,rfl⟩,st',fun b hb=>(hf b hb).1⟩⟩
 done:=by
  intro X hP hw hK hc i pins s σ H E I hf st hg
  subst hP hw hK
  obtain ⟨f0,f1,f2,f3,f4,f5⟩:=hf it (by simp)
  exact wpAny_pyNext_range_end (I.ok.hd hc) st (by have:n≤i:=hg;omega) fun h' eb=>⟨rfl,I.turned (t':=s.toks) (fun b o hb e=>eb b o hb e) f0 f1 f3 f4 f5⟩
 self:=fun A i s Q E st h=>wpAny_pyIter_rangeiter st h
def rV (i j c:Int) (n:Nat):Prop:=c≠0∧c.natAbs<1073741824∧Builtin.Range.small i j c=true∧Builtin.Range.rangeSize i j c=n
def Mt (ta:TA):TI:=fun σ H R=>ta σ H fun vs H1=> ∃(i j c:Int) (n:Nat),vs= [.int i, .int j, .int c]∧rV i j c n∧R (r9 i c n) H1
section
variable {X:Cx} {tg:Expr}
theorem Ab {a b c:Expr} {ta:TA} {p pos:Pos} (hg:Gl X "range") (hm:X.mg "range" =none) (ha:PA X [a,b,c] ta)
  (hs:starEach [a,b,c] X.env=(false,eval a X.env)::starEach [b,c] X.env:=by rfl) (hpl:(backTo pos (starEach [b,c] X.env)).any (·.1)=false:=by rfl):
  PI X tg (.Call (.Name "range" p) [a,b,c] [] pos) (Mt ta):=by
 intro pins s σ H R I h
 refine Call_ (jm I hg hm boot_range (PyProof.Rows.callWith_type1 (aI (ha pos pins s σ H _ I h) fun us s1 ⟨vs,H1,I1,r1,q1⟩=>?_) hs hpl))
 obtain ⟨i,j,k,n,e,⟨c0,c1,c2,c3⟩,q⟩:=q1
 subst e
 cases r1 with
 |cons r rr=>
  cases rr with
  |cons r' rr=>
   cases rr with
   |cons r'' rr=>
    cases rr
    obtain ⟨t,rfl⟩:=r
    obtain ⟨t',rfl⟩:=r'
    obtain ⟨t'',rfl⟩:=r''
    refine call_range_3 c0 ?_ (.inl (PyProof.noPylong_small c1))
    refine wpAny_pyIter_range (IsRange.new ..) c2 ?_
    have I2:Inv X pins σ H1 {s1 with heap:=s1.heap.push {cls:= .type "range",data:= .fields #[.int i t, .int j t', .int k t'']}}:=I1.kept (t':=s1.toks) fun b o e=>Heap.get?_push_of_some _ e
    refine Ma (tk:=s1.toks) I2 _ (Kw _ i k n) ?_ q
    have e1:i+((0:Nat):Int)*k=i:=by simp
    have e2:(n:Int)-((0:Nat):Int)=Builtin.Range.rangeSize i j k:=by rw[c3];simp
    show IsRangeIter _ _ (i+((0:Nat):Int)*k) ((n:Int)-((0:Nat):Int)) k
    rw[e1,e2]
    exact Heap.get?_push_size _ rfl
end
section
variable {X:Cx} {tg:Expr}
end
section
variable {prog:Program} {w:World} {A:Around} {E:Value→Shared→Prop} {s:Shared}
end
section
variable {X:Cx} {pins:List (Addr×Obj)} {σ:St} {H:Hp} {s:Shared} {d:Addr} {o:Obj}
end
section
variable {P:Program} {w:World} {K:PySem.W.Frag} {tg:Expr} {d:Addr} {o:Obj} {es:Array DictEntry} {ep:Nat}
end
section
variable {X:Cx} {tg e:Expr} {td:TE} {apos cpos:Pos}
end
def ua (K:PySem.W.Frag) (a:Addr):It:=
 ⟨fun i H=> ∃(xs:List V) (x:V),ah K H a xs∧xs[i]?=some x,fun i H v H'=> ∃T x,v= .ref T∧H T=none∧H'=upd H T (.tup [.int (i:Nat),x])∧ ∀xs,ah K H a xs→xs[i]?=some x,fun i H=> ∃xs:List V,ah K H a xs∧xs.length≤i⟩
theorem Q5 {P:Program} {w:World} {K:PySem.W.Frag} {elts:List Expr} {kk:Nat} {tpos:Pos} (a e it:Addr):
  Turn P w K (.Tuple elts kk tpos) (ua K a) [e,it] e (fun i h=>(∃old,IsEnum h e it ((i:Nat):Int) old)∧h.IsListIter it a i∧e≠it) where
 mem:=by simp
 obj:=fun i h st b hb=>by
  obtain ⟨⟨old,he⟩,⟨o,ho,hc,hd⟩,_⟩:=st
  have e':b=e∨b=it:=by simpa using hb
  rcases e' with z|z
  ·rw[z];exact ⟨_,he,fun v q=>nomatch q⟩
  ·rw[z];exact ⟨o,ho,fun v q=>by rw[hd] at q;cases q⟩
 keep:=fun i h h' st k=>let ⟨⟨old,he⟩,hi,hne⟩:=st;⟨⟨old,k e (by simp) _ he⟩,hi.at fun o q=>k it (by simp) o q,hne⟩
 item:=by
  intro X hP hw hK hc i pins s σ H E I hf st hg
  subst hP hw hK
  obtain ⟨⟨old,he⟩,hit,hne⟩:=st
  obtain ⟨xs,x,hq,hx⟩:=hg
  obtain ⟨its,rv,p,hz⟩:=I.list hq
  obtain ⟨u,hu,ru⟩:=rv.get hx
  have hel:e<s.heap.objs.size:=Heap.lt_size he
  have hil:it<s.heap.objs.size:=by obtain ⟨_,q,_⟩:=hit;exact Heap.lt_size q
  refine wpAny_pyNext_enum_item he hit p.isList (x:=u) (by simpa using hu) hne fun h' ho hit' hT hsz hk=>?_
  refine ⟨_,rfl,wpAny_letOwnedTupleGo_enum (s:={s with heap:=h',toks:=s.toks+1}) ho fun h'' he' sb=>?_⟩
  have hT2:h''.get? s.heap.objs.size=some {cls:= .type "tuple",data:= .seq #[.int i s.toks,u]}:=(sb.2 _ (Nat.ne_of_gt hel)).trans hT
  have new:cT X.prog X.w (upd H s.heap.objs.size (.tup [.int (i:Nat),x])) h'' s.heap.objs.size (.tup [.int (i:Nat),x]):=
   ⟨by show 2≤sizeLine;decide, [.int i s.toks,u], .cons ⟨_,rfl⟩ (.cons ru .nil),⟨_,hT2,rfl,_,rfl⟩⟩
  have I1:Inv X pins σ (upd H s.heap.objs.size (.tup [.int (i:Nat),x])) {s with heap:=h'',toks:=s.toks+1}:=
   I.yd (ch:= [e,it]) (fun b ob hb q=>(sb.2 b (fun z=>hb (by simp [z]))).trans (hk b ob (fun z=>hb (by simp [z])) (fun z=>hb (by simp [z])) q)) hf (Nat.le_refl _) new
  refine ⟨.ref s.heap.objs.size,_,I1,rfl,⟨_,x,rfl,I.ao.fresh (Nat.le_refl _),rfl,fun ys hy=>by rw[I.pW hy hq];exact hx⟩,⟨⟨u,?_⟩,hit'.at fun o q=>(sb.2 it (Ne.symm hne)).trans q,hne⟩,fun b hb=>?_⟩
  ·have e1:((i+1:Nat):Int)=(i:Int)+1:=by omega
   rw[e1];exact he'
  ·have hb':b<s.heap.objs.size:=by
    have e':b=e∨b=it:=by simpa using hb
    rcases e' with z|z
    ·rw[z];exact hel
    ·rw[z];exact hil
   rw[aL (Nat.ne_of_lt hb')]
   exact (hf b hb).1
 done:=by
  intro X hP hw hK hc i pins s σ H E I hf st hg
  subst hP hw hK
  obtain ⟨⟨old,he⟩,hit,hne⟩:=st
  obtain ⟨xs,hq,hx⟩:=hg
  obtain ⟨its,rv,p,hz⟩:=I.list hq
  obtain ⟨f0,f1,f2,f3,f4,f5⟩:=hf it (by simp)
  have hl:=rv.length
  exact wpAny_pyNext_enum_end (I.ok.hd hc) he hit p.isList (by simp;omega) fun h' eb=>⟨rfl,I.turned (t':=s.toks) (fun b o hb q=>eb b o hb q) f0 f1 f3 f4 f5⟩
 self:=fun A i s Q E st h=>let ⟨⟨_,he⟩,_⟩:=st;wpAny_pyIter_enum he h
def Ri (K:PySem.W.Frag) (ta:TA):TI:=fun σ H R=>ta σ H fun vs H1=> ∃a xs,vs= [.ref a]∧ah K H1 a xs∧R (ua K a) H1
theorem A5 {X:Cx} {e:Expr} {ta:TA} {p pos tpos:Pos} {elts:List Expr} {kk:Nat} (hg:Gl X "enumerate") (hm:X.mg "enumerate" =none) (ha:PA X [e] ta) (hs:starEach [e] X.env= [(false,eval e X.env)]:=by rfl):
  PI X (.Tuple elts kk tpos) (.Call (.Name "enumerate" p) [e] [] pos) (Ri X.K ta):=by
 intro pins s σ H R I h
 refine Call_ (jm I hg hm boot_enumerate (PyProof.Rows.callWith_type1 (aI (ha pos pins s σ H _ I h) fun us s1 ⟨vs,H1,I1,r1,q1⟩=>?_) hs rfl))
 obtain ⟨a,xs,ex,hq,q⟩:=q1
 subst ex
 cases r1 with
 |cons r rr=>
  cases rr
  cases r
  obtain ⟨its,rv,p',hz⟩:=I1.list hq
  refine call_enumerate_list p'.isList fun h' he hit hsz hk=>wpAny_pyIter_enum he ?_
  have I2:Inv X pins σ H1 {s1 with heap:=h'}:=I1.kept (t':=s1.toks) hk
  refine ⟨s1.heap.objs.size+1, [s1.heap.objs.size+1,s1.heap.objs.size],_,_,H1,rfl,I2,Q5 a (s1.heap.objs.size+1) s1.heap.objs.size,⟨⟨.none,he⟩,hit,Nat.succ_ne_self _⟩,fun b hb=>?_,q⟩
  have e':b=s1.heap.objs.size+1∨b=s1.heap.objs.size:=by simpa using hb
  have hle:s1.heap.objs.size≤b:=by
   rcases e' with z|z
   ·rw[z];exact Nat.le_add_right _ _
   ·rw[z];exact Nat.le_refl _
  exact I1.gG hle (I1.ao.fresh hle)
theorem Fq:bootBuiltins "zip" =some (.type "zip"):=by decide+kernel
def uJ (K:PySem.W.Frag) (a b:Addr):It:=
 ⟨fun i H=> ∃(xs ys:List V) (x y:V),ah K H a xs∧ah K H b ys∧xs[i]?=some x∧ys[i]?=some y,
  fun i H v H'=> ∃T x y,v= .ref T∧H T=none∧H'=upd H T (.tup [x,y])∧(∀xs,ah K H a xs→xs[i]?=some x)∧ ∀ys,ah K H b ys→ys[i]?=some y,
  fun i H=> ∃xs ys:List V,ah K H a xs∧ah K H b ys∧(xs.length≤i∨ys.length≤i)⟩
theorem Gx {P:Program} {w:World} {K:PySem.W.Frag} {elts:List Expr} {kk:Nat} {tpos:Pos} {a b z TI TO i1 i2:Addr} (D:ZipApart z TI TO i1 i2 a b):
  Turn P w K (.Tuple elts kk tpos) (uJ K a b) [z,TI,TO,i1,i2] z (fun i h=>IsZip h z TI TO .none∧IsPair h TI (.ref i1) (.ref i2)∧(∃x y,IsPair h TO x y)∧h.IsListIter i1 a i∧h.IsListIter i2 b i) where
 mem:=by simp
 obj:=fun i h st c hc=>by
  obtain ⟨hz,hTI,⟨x,y,hTO⟩,⟨o1,e1,_,d1⟩,⟨o2,e2,_,d2⟩⟩:=st
  have e':c=z∨c=TI∨c=TO∨c=i1∨c=i2:=by simpa using hc
  rcases e' with q|q|q|q|q
  ·rw[q];exact ⟨_,hz,fun v q=>nomatch q⟩
  ·rw[q];exact ⟨_,hTI,fun v q=>nomatch q⟩
  ·rw[q];exact ⟨_,hTO,fun v q=>nomatch q⟩
  ·rw[q];exact ⟨o1,e1,fun v q=>by rw[d1] at q;cases q⟩
  ·rw[q];exact ⟨o2,e2,fun v q=>by rw[d2] at q;cases q⟩
 keep:=fun i h h' st k=>by
  obtain ⟨hz,hTI,⟨x,y,hTO⟩,h1,h2⟩:=st
  exact ⟨k z (by simp) _ hz,k TI (by simp) _ hTI,⟨x,y,k TO (by simp) _ hTO⟩,h1.at fun o q=>k i1 (by simp) o q,h2.at fun o q=>k i2 (by simp) o q⟩
 item:=by
  intro X hP hw hK hc i pins s σ H E I hf st hg
  subst hP hw hK
  obtain ⟨hz,hTI,⟨x0,y0,hTO⟩,h1,h2⟩:=st
  obtain ⟨xs,ys,x,y,hqx,hqy,hx,hy⟩:=hg
  obtain ⟨its,rv,p,_⟩:=I.list hqx
  obtain ⟨its2,rv2,p2,_⟩:=I.list hqy
  obtain ⟨u,hu,ru⟩:=rv.get hx
  obtain ⟨u2,hu2,ru2⟩:=rv2.get hy
  have hzl:z<s.heap.objs.size:=Heap.lt_size hz
  refine wpAny_pyNext_zip_item D hz hTI hTO h1 h2 p.isList p2.isList (x:=u) (y:=u2) (by simpa using hu) (by simpa using hu2) fun h' z' TO' h1' h2' hT hsz hk=>?_
  refine ⟨_,rfl,wpAny_letOwnedTupleGo_zip (s:={s with heap:=h'}) z' fun h'' z'' sb=>?_⟩
  have hT2:h''.get? s.heap.objs.size=some {cls:= .type "tuple",data:= .seq #[u,u2]}:=(sb.2 _ (Nat.ne_of_gt hzl)).trans hT
  have new:cT X.prog X.w (upd H s.heap.objs.size (.tup [x,y])) h'' s.heap.objs.size (.tup [x,y]):=
   ⟨by show 2≤sizeLine;decide, [u,u2], .cons ru (.cons ru2 .nil),⟨_,hT2,rfl,_,rfl⟩⟩
  have I1:Inv X pins σ (upd H s.heap.objs.size (.tup [x,y])) {s with heap:=h''}:=
   I.yd (t':=s.toks) (ch:= [z,TI,TO,i1,i2]) (fun c o hb q=>(sb.2 c (fun q'=>hb (by simp [q']))).trans (hk c o (fun q'=>hb (by simp [q'])) (fun q'=>hb (by simp [q'])) (fun q'=>hb (by simp [q'])) (fun q'=>hb (by simp [q'])) q)) hf (Nat.le_refl _) new
  refine ⟨.ref s.heap.objs.size,_,I1,rfl,⟨_,x,y,rfl,I.ao.fresh (Nat.le_refl _),rfl,fun l hl=>by rw[I.pW hl hqx];exact hx,fun l hl=>by rw[I.pW hl hqy];exact hy⟩,⟨z'',?_,⟨u,u2,?_⟩,?_,?_⟩,fun c hcm=>?_⟩
  ·exact (sb.2 _ D.TIz).trans (hk _ _ D.TIz D.TITO D.TIi1 D.TIi2 hTI)
  ·exact (sb.2 _ D.TOz).trans TO'
  ·exact h1'.at fun o q=>(sb.2 _ D.i1z).trans q
  ·exact h2'.at fun o q=>(sb.2 _ D.i2z).trans q
  ·have hlt:c<s.heap.objs.size:=by
    have e':c=z∨c=TI∨c=TO∨c=i1∨c=i2:=by simpa using hcm
    rcases e' with q|q|q|q|q
    ·rw[q];exact hzl
    ·rw[q];exact Heap.lt_size hTI
    ·rw[q];exact Heap.lt_size hTO
    ·rw[q];obtain ⟨_,e1,_⟩:=h1;exact Heap.lt_size e1
    ·rw[q];obtain ⟨_,e2,_⟩:=h2;exact Heap.lt_size e2
   rw[aL (Nat.ne_of_lt hlt)]
   exact (hf c hcm).1
 done:=by
  intro X hP hw hK hc i pins s σ H E I hf st hg
  subst hP hw hK
  obtain ⟨hz,hTI,⟨x0,y0,hTO⟩,h1,h2⟩:=st
  obtain ⟨xs,ys,hqx,hqy,hend⟩:=hg
  obtain ⟨its,rv,p,_⟩:=I.list hqx
  obtain ⟨its2,rv2,p2,_⟩:=I.list hqy
  have l1:=rv.length
  have l2:=rv2.length
  have he:its.toArray[i]?=none∨its2.toArray[i]?=none:=by
   rcases hend with q|q
   ·exact .inl (by simp;omega)
   ·exact .inr (by simp;omega)
  exact wpAny_pyNext_zip_end (I.ok.hd hc) D hz hTI hTO h1 h2 p.isList p2.isList he fun h' hk=>⟨rfl,I.Ec (t':=s.toks) (ch:= [z,TI,TO,i1,i2]) (fun c o hb q=>
   hk c o (fun q'=>hb (by simp [q'])) (fun q'=>hb (by simp [q'])) (fun q'=>hb (by simp [q'])) (fun q'=>hb (by simp [q'])) q) hf⟩
 self:=fun A i s Q E st h=>wpAny_pyIter_zip st.1 h
def Qu (K:PySem.W.Frag) (ta:TA):TI:=fun σ H R=>ta σ H fun vs H1=> ∃a b xs ys,vs= [.ref a, .ref b]∧ah K H1 a xs∧ah K H1 b ys∧R (uJ K a b) H1
theorem CP {X:Cx} {e e2:Expr} {ta:TA} {p pos tpos:Pos} {elts:List Expr} {kk:Nat} (hg:Gl X "zip") (hm:X.mg "zip" =none) (ha:PA X [e,e2] ta)
  (hs:starEach [e,e2] X.env=(false,eval e X.env)::starEach [e2] X.env:=by rfl) (hpl:(backTo pos (starEach [e2] X.env)).any (·.1)=false:=by rfl):
  PI X (.Tuple elts kk tpos) (.Call (.Name "zip" p) [e,e2] [] pos) (Qu X.K ta):=by
 intro pins s σ H R I h
 refine Call_ (jm I hg hm Fq (PyProof.Rows.callWith_type1 (aI (ha pos pins s σ H _ I h) fun us s1 ⟨vs,H1,I1,r1,q1⟩=>?_) hs hpl))
 obtain ⟨a,b,xs,ys,ex,hqx,hqy,q⟩:=q1
 subst ex
 cases r1 with
 |cons r rr=>
  cases rr with
  |cons r' rr=>
   cases rr
   cases r
   cases r'
   obtain ⟨its,rv,p1,_⟩:=I1.list hqx
   obtain ⟨its2,rv2,p2,_⟩:=I1.list hqy
   have la:a<s1.heap.objs.size:=p1.lt
   have lb:b<s1.heap.objs.size:=p2.lt
   refine call_zip_2 p1.isList p2.isList fun h' hz hTI hTO h1 h2 hsz hk=>wpAny_pyIter_zip hz ?_
   have I2:Inv X pins σ H1 {s1 with heap:=h'}:=I1.kept (t':=s1.toks) hk
   refine ⟨s1.heap.objs.size+4, [s1.heap.objs.size+4,s1.heap.objs.size+2,s1.heap.objs.size+3,s1.heap.objs.size,s1.heap.objs.size+1],_,_,H1,rfl,I2,Gx (PySem.W.ktu_apart s1.heap.objs.size a b la lb),⟨hz,hTI,⟨_,_,hTO⟩,h1,h2⟩,fun c hcm=>?_,q⟩
   have e':c=s1.heap.objs.size+4∨c=s1.heap.objs.size+2∨c=s1.heap.objs.size+3∨c=s1.heap.objs.size∨c=s1.heap.objs.size+1:=by simpa using hcm
   have hle:s1.heap.objs.size≤c:=by
    rcases e' with z|z|z|z|z
    ·rw[z];exact Nat.le_add_right _ _
    ·rw[z];exact Nat.le_add_right _ _
    ·rw[z];exact Nat.le_add_right _ _
    ·rw[z];exact Nat.le_refl _
    ·rw[z];exact Nat.le_add_right _ _
   exact I1.gG hle (I1.ao.fresh hle)
end L2
section
namespace Bits
open PySem PyProof.Rows
end Bits
end
section
namespace TL
open PySem PySem.Builtin PySem.Builtin.Str PySem.StrLaws
end TL
end
namespace L2
open PySem PySem.Spec PyProof.Rows
section
variable {X:Cx} {pins:List (Addr×Obj)} {σ:St} {H:Hp} {s:Shared} {Q:VK}
end
section
variable {X:Cx}
end
section
variable {X:Cx} {o e:Expr} {to te:TE}
end
end L2
namespace L2
open PySem PySem.Spec PyProof.Rows
section
variable {X:Cx}
end
end L2
namespace Att
open PySem PySem.W PySem.Calls PyProof.Rows
section
variable {prog:Program} {w:World} {A:Around} {E:Value→Shared→Prop} {s:Shared} {K:Frag}
end
end Att
namespace L2
open PySem PySem.Spec PyProof.Rows
end L2
namespace L2
open PySem PySem.Spec PyProof.Rows
abbrev EA {K:PySem.W.Frag} {h:Heap} (_:K.In h):PySem.W.Frag:=K
end L2
namespace L2
open PySem PySem.Spec PyProof.Rows
def inClass (s:Stmt) (j:Nat):Stmt:=match s with
 | .ClassDef _ _ _ body _ _ _ _ _ _ _=>body.getD j (.Pass ⟨0,0,0,0⟩)
 |_=> .Pass ⟨0,0,0,0⟩
def yA (s:Stmt):Arguments:=match s with
 | .FunctionDef _ a _ _ _ _ _ _ _ _=>a
 |_=>{posonlyargs:= [],args:= [],vararg:=none,kwonlyargs:= [],kw_defaults:= [],kwarg:=none,defaults:= []}
def lI (s:Stmt):List Stmt:=match s with
 | .FunctionDef _ _ b _ _ _ _ _ _ _=>b
 |_=> []
def aB (s:Stmt):Scope:=match s with
 | .FunctionDef _ _ _ _ _ _ sc _ _ _=>sc
 |_=>{kind:= .function,names:= [],isGenerator:=false,isCoroutine:=false}
abbrev a9:ek:=fun _ _ _ _ _ _=>False
abbrev E0:XK:=fun _ _ _=>False
theorem aQ {X:Cx}:Passes a9 X E0:=fun _ _ _ _ _ _ _ h=>h.elim
structure aH (K:PySem.W.Frag) (x qual:Str) (st:Stmt) (f:Addr) (fd:FuncData):Prop where
 ex: ∃(oc:Value) (od:Option Addr) (kV doc pm:Value) (an:Option Addr) (cdv ct:Value) (osl:Array (Option Value)),
  fd=PySem.W.fnOf x qual (yA st) (lI st) (aB st) .none kV doc pm an cdv ct∧K.lookup f=some ⟨oc,od, .func fd,osl⟩∧PySem.W.codeIn K cdv qual=true
 kp:PySem.W.keepIn K (.ref f)=true
section
variable {P:Program} {w:World} {K:PySem.W.Frag} {mg:Str→Option Value} {base:Heap}
theorem aH.ok {x qual:Str} {st:Stmt} {f:Addr} {fd:FuncData} {N ps:List Str} {k:Nat} {sp:Sp} (F:aH K x qual st f fd) (S:aK N ps (aB st)) (len: ∀vs H Q E,sp vs H Q E→vs.length=ps.length)
  (hbody: ∀(cdv:Value) (A:Around) (outer:List Env) (s:Shared) (H:Hp) (vs:List V) (Q:VK) (E:XK),aE k (A.deeper (envOfC qual (aB st) s.heap.objs.size f cdv))→sp vs H Q E→
   ∃t,cS (fK a9 P w K mg base N qual (aB st) f cdv A outer s H E).ux (lI st) t∧t {nx:=fun _ H'=>Q .aw H',rt:=Q} (start N vs) H):az P w K mg base a9 (k+1) f fd ps sp:=by
 obtain ⟨oc,od,kV,doc,pm,an,cdv,ct,osl,rfl,lk,hcd⟩:=F.ex
 refine Fm lk hcd S len fun A outer s H vs Q E hr hsp=>?_
 obtain ⟨t,h,q⟩:=hbody cdv A outer s H vs Q E hr hsp
 exact ⟨t,h.ux,q⟩
theorem QK {x qual:Str} {st:Stmt} {f:Addr} {oc:Value} {od an:Option Addr} {osl:Array (Option Value)} {kV doc pm cdv ct:Value} (l:K.lookup f=some ⟨oc,od, .func (PySem.W.fnOf x qual (yA st) (lI st) (aB st) .none kV doc pm an cdv ct),osl⟩)
  (c:PySem.W.codeIn K cdv qual=true) (k:PySem.W.keepIn K (.ref f)=true):aH K x qual st f (PySem.W.fnOf x qual (yA st) (lI st) (aB st) .none kV doc pm an cdv ct):=⟨⟨oc,od,kV,doc,pm,an,cdv,ct,osl,rfl,l,c⟩,k⟩
end
section
variable {X:Cx}
theorem pv (i:Nat) {x:Str} {pos:Pos} (hN:X.N[i]?=some x:=by rfl) (hv:lD X.env.scope x:=by first|exact Or.inl rfl|exact Or.inr (Or.inl rfl)|exact Or.inr (Or.inr rfl)) (hd:(x==("__debug__" :Str))=false:=by decide)
  (hcd:(x==("__classdict__" :Str))=false:=by decide):PE X (.Name x pos) (gJ i):=Kt hN hv hd hcd
end
theorem bA {A B:Prop} (h:B):if false=true then A else B:=by
 rw[if_neg Bool.false_ne_true]
 exact h
theorem bt {A B:Prop} (h:A):if true=true then A else B:=by
 rw[if_pos rfl]
 exact h
theorem bW {c A B:Prop} [Decidable c] (h1:c→A) (h2: ¬c→B):if c then A else B:=by
 by_cases h:c
 ·rw[if_pos h]
  exact h1 h
 ·rw[if_neg h]
  exact h2 h
def ae (H H':Hp):Prop:= ∀b o,H b=some o→H' b=some o
theorem ae.refl (H:Hp):ae H H:=fun _ _ h=>h
theorem ae.trans {H H1 H2:Hp} (a:ae H H1) (b:ae H1 H2):ae H H2:=fun c o h=>b c o (a c o h)
theorem ae.seq {K:PySem.W.Frag} {H H':Hp} {a:Addr} {xs:List V} (e:ae H H') (h:ah K H a xs):ah K H' a xs:=by
 rcases h with (h|⟨o,h⟩)|h
 ·exact .inl (.inl (e _ _ h))
 ·exact .inl (.inr ⟨o,e _ _ h⟩)
 ·exact .inr h
section
variable {κ:Type} [DecidableEq κ]
end
theorem at_of {xs:List V} {z:Int} {j:Nat} {v:V} (e:z=(j:Int)) (h:xs[j]?=some v):gp xs z=some v:=by
 rw[e]
 exact cv h
end L2
set_option maxHeartbeats 2000000
namespace L2
open PySem PySem.Spec PyProof.Rows
open PySem.W (WData Codec OpenSpec Well WellAll ReadsW ReadsAllW)
mutual
inductive Dw (K:PySem.W.Frag) (H:Hp):V→WData→Prop
 |aw:Dw K H .aw .none
 |bl (b:Bool):Dw K H (.bl b) (.bool b)
 |int (i:Int):Dw K H (.int i) (.int i)
 |str (x:Str):Dw K H (.str x) (.str x)
 |dP (b:Array UInt8):Dw K H (.dP b) (.bytes b.toList)
 |lst {a:Addr} {xs:List V} {ds:List WData}:ah K H a xs→fS K H xs ds→Dw K H (.ref a) (.list ds)
 |tup {a:Addr} {xs:List V} {ds:List WData}:a8 K H a xs→fS K H xs ds→Dw K H (.ref a) (.tuple ds)
inductive fS (K:PySem.W.Frag) (H:Hp):List V→List WData→Prop
 |nil:fS K H [] []
 |cons {v:V} {vs:List V} {d:WData} {ds:List WData}:Dw K H v d→fS K H vs ds→fS K H (v::vs) (d::ds)
end
theorem AM {K:PySem.W.Frag} {H:Hp}: ∀ns:List Int,fS K H (ns.map V.int) (ns.map WData.int)
 | []=> .nil
 |n::r=> .cons (.int n) (AM r)
theorem wD {K:PySem.W.Frag} {H:Hp}: ∀(ns:List Int) (xs:List V),fS K H xs (ns.map WData.int)→xs=ns.map V.int
 | [],xs,h=>by
  cases h
  rfl
 |n::r,xs,h=>by
  cases h with
  |cons h1 h2=>
   cases h1
   rw[wD r _ h2]<;>rfl
section
variable {P:Program} {w:World} {K:PySem.W.Frag} {H:Hp} {h:Heap} {R:PySem.W.WRecords} {cl:Str→Option Addr}
theorem GN {a:Addr} {xs:List V} (ao:bQ P w H h) (KX:K.In h) (q:ah K H a xs): ∃(its:List Value) (o:Obj) (n:Nat),Vals xs its∧h.get? a=some o∧o.cls= .type "list" ∧o.data= .seq its.toArray n:=by
 rcases q with q|⟨o,its,n,e,hc,_,hd,_,hv⟩
 ·obtain ⟨_,its,n,hv,e⟩:=(show cT P w H h a (.lst xs) from q.ok ao)
  exact ⟨its,_,n,hv,e,rfl,rfl⟩
 ·exact ⟨its.toList,o,n,hv,KX _ _ e,hc,by simp [hd]⟩
theorem Rf {a:Addr} {xs:List V} (ao:bQ P w H h) (KX:K.In h) (q:a8 K H a xs): ∃(its:List Value) (o:Obj) (n:Nat),Vals xs its∧h.get? a=some o∧o.cls= .type "tuple" ∧o.data= .seq its.toArray n:=by
 rcases q with q|⟨o,its,n,e,hc,hd,_,hv⟩
 ·obtain ⟨_,its,hv,o,e,hc,n,hd⟩:=(show cT P w H h a (.tup xs) from q.ok ao)
  exact ⟨its,o,n,hv,e,hc,hd⟩
 ·exact ⟨its.toList,o,n,hv,KX _ _ e,hc,by simp [hd]⟩
mutual
theorem Dw.reads (ao:bQ P w H h) (KX:K.In h): ∀(d:WData) (v:V) (u:Value),Dw K H v d→RelV v u→ ∃as,ReadsW R cl h u d as
 | .none,_,_,x,r=>by
  cases x
  cases r
  exact ⟨_,ReadsW.none⟩
 | .bool b,_,_,x,r=>by
  cases x
  cases r
  exact ⟨_,ReadsW.bool b⟩
 | .int i,_,_,x,r=>by
  cases x
  obtain ⟨t,rfl⟩:=r
  exact ⟨_,ReadsW.int i t⟩
 | .str s,_,_,x,r=>by
  cases x
  obtain ⟨t,rfl⟩:=r
  exact ⟨_,ReadsW.str s t⟩
 | .bytes b,_,_,x,r=>by
  cases x
  obtain ⟨t,rfl⟩:=r
  exact ⟨_,ReadsW.bytes _ t⟩
 | .list ds,_,_,x,r=>by
  cases x with
  |lst hs ha=>
   cases r
   obtain ⟨its,o,n,rv,ho,hc,hd⟩:=GN ao KX hs
   obtain ⟨as,hr⟩:=Dw.readsAll ao KX ds _ its ha rv
   exact ⟨_,ReadsW.list ho hc hd hr⟩
 | .tuple ds,_,_,x,r=>by
  cases x with
  |tup hs ha=>
   cases r
   obtain ⟨its,o,n,rv,ho,hc,hd⟩:=Rf ao KX hs
   obtain ⟨as,hr⟩:=Dw.readsAll ao KX ds _ its ha rv
   exact ⟨_,ReadsW.tuple ho hc hd hr⟩
 | .float _,_,_,x,_=>by cases x
 | .dict _,_,_,x,_=>by cases x
 | .bytearray _,_,_,x,_=>by cases x
 | .set _,_,_,x,_=>by cases x
 | .frozenset _,_,_,x,_=>by cases x
 | .obj _ _,_,_,x,_=>by cases x
theorem Dw.readsAll (ao:bQ P w H h) (KX:K.In h): ∀(ds:List WData) (vs:List V) (us:List Value),fS K H vs ds→Vals vs us→ ∃as,ReadsAllW R cl h us ds as
 | [],_,_,x,r=>by
  cases x
  cases r
  exact ⟨_,ReadsAllW.nil⟩
 |d::ds,_,_,x,r=>by
  cases x with
  |cons h1 h2=>
   cases r with
   |cons r1 r2=>
    obtain ⟨as,q1⟩:=Dw.reads ao KX d _ _ h1 r1
    obtain ⟨bs,q2⟩:=Dw.readsAll ao KX ds _ _ h2 r2
    exact ⟨_,ReadsAllW.cons q1 q2⟩
end
end
mutual
def eO:WData→Bool
 | .none=>true
 | .bool _=>true
 | .int _=>true
 | .str _=>true
 | .bytes _=>true
 | .list xs=>fG xs
 | .tuple xs=>fG xs
 |_=>false
def fG:List WData→Bool
 | []=>true
 |x::r=>eO x&&fG r
end
theorem F1 {α:Type} {f:α→WData} (h: ∀a,eO (f a)=true): ∀l:List α,fG (l.map f)=true
 | []=>rfl
 |x::r=>by
  show (eO (f x)&&fG (r.map f))=true
  rw[h x,F1 h r]<;>rfl
theorem jw: ∀(c:Codec) (a:c.denote),eO (c.enc a)=true
 | .unit,_=>rfl
 | .bool,_=>rfl
 | .int _ _,_=>rfl
 | .nat _ _,_=>rfl
 | .u8,_=>rfl
 | .bytes _ _,_=>rfl
 | .text _ _ _ _,_=>rfl
 | .list _ _ c,a=>F1 (fun x=>jw c x) a
 | .pair c d,a=>by
  show (eO (c.enc a.1)&&(eO (d.enc a.2)&&true))=true
  rw[jw c a.1,jw d a.2]<;>rfl
 | .triple c d e,a=>by
  show (eO (c.enc a.1)&&(eO (d.enc a.2.1)&&(eO (e.enc a.2.2)&&true)))=true
  rw[jw c a.1,jw d a.2.1,jw e a.2.2]<;>rfl
 | .option c,none=>rfl
 | .option c,some x=>jw c x
theorem Ag: ∀(cs:List Codec) (a:Codec.denoteAll cs),fG (Codec.encAll cs a)=true
 | [],_=>rfl
 |c::cs,a=>by
  show (eO (c.enc a.1)&&fG (Codec.encAll cs a.2))=true
  rw[jw c a.1,Ag cs a.2]<;>rfl
theorem wG: ∀{xs:List WData} {d:WData},d∈xs→d.weight≤WData.weightAll xs
 | [],d,h=>absurd h (by simp)
 |x::r,d,h=>by
  show d.weight≤x.weight+1+WData.weightAll r
  rcases List.mem_cons.mp h with e|m
  ·rw[e]
   omega
  ·have z:=wG m
   omega
def toV:Value→V
 | .none=> .aw
 | .bool b=> .bl b
 | .int i _=> .int i
 | .str x _=> .str x
 | .bytes b _=> .dP b
 | .ref a=> .ref a
 |_=> .aw
def fv (A:List Addr):Value→Prop
 | .none=>True
 | .bool _=>True
 | .int _ _=>True
 | .str _ _=>True
 | .bytes _ _=>True
 | .ref a=>a∈A
 |_=>False
theorem fv.mono {A B:List Addr} (h: ∀a∈A,a∈B): ∀{u:Value},fv A u→fv B u:=fun {u} x=>by
 cases u with
 |ref a=>exact h a x
 |none=>trivial
 |bool b=>trivial
 |int i t=>trivial
 |str s t=>trivial
 |bytes b t=>trivial
 |_=>exact False.elim x
theorem Ra {A:List Addr} {u:Value} (x:fv A u):RelV (toV u) u:=by
 cases u with
 |ref a=>rfl
 |none=>rfl
 |bool b=>rfl
 |int i t=>exact ⟨t,rfl⟩
 |str s t=>exact ⟨t,rfl⟩
 |bytes b t=>exact ⟨t,rfl⟩
 |_=>exact False.elim x
theorem lz {A:List Addr}: ∀{vs:List Value},(∀u∈vs,fv A u)→Vals (vs.map toV) vs
 | [],_=> .nil
 |u::r,h=> .cons (Ra (h u (List.mem_cons_self ..))) (lz fun x hx=>h x (List.mem_cons_of_mem _ hx))
def fQ (h:Heap) (A:List Addr) (a:Addr):Prop:= ∃vs:List Value,vs.length≤sizeLine∧(∀u∈vs,fv A u)∧
 (h.get? a=some {cls:= .type "list",data:= .seq vs.toArray}∨h.get? a=some {cls:= .type "tuple",data:= .seq vs.toArray})
theorem fQ.mono {h:Heap} {A B:List Addr} {a:Addr} (k: ∀a∈A,a∈B) (x:fQ h A a):fQ h B a:=by
 obtain ⟨vs,h1,h2,h3⟩:=x
 exact ⟨vs,h1,fun u hu=>(h2 u hu).mono k,h3⟩
theorem tZ {P:Params} {h:Heap}: ∀{vs:List Value} {ds:List WData},WellAll P h vs ds→vs.length=ds.length
 |_,_, .nil=>rfl
 |_,_, .cons _ b=>by
  show _+1=_+1
  rw[tZ b]
theorem A8 {P:Params} {h:Heap} {v:Value} {ds:List WData} (x:Well P h v (.list ds)): ∃(a:Addr) (vs:List Value),v= .ref a∧h.get? a=some {cls:= .type "list",data:= .seq vs.toArray}∧WellAll P h vs ds:=by
 cases x with
 |list ho hall=>exact ⟨_,_,rfl,ho,hall⟩
theorem Bl {P:Params} {h:Heap} {v:Value} {ds:List WData} (x:Well P h v (.tuple ds)): ∃(a:Addr) (vs:List Value),v= .ref a∧h.get? a=some {cls:= .type "tuple",data:= .seq vs.toArray}∧WellAll P h vs ds:=by
 cases x with
 |tuple ho hall=>exact ⟨_,_,rfl,ho,hall⟩
theorem Dj {P:Params} {h:Heap} {us:List Value} {d:WData} {ds:List WData} (x:WellAll P h us (d::ds)): ∃(v:Value) (vs:List Value),us=v::vs∧Well P h v d∧WellAll P h vs ds:=by
 cases x with
 |cons a b=>exact ⟨_,_,rfl,a,b⟩
theorem CM {n:Nat} (h:n≤1048576):n≤sizeLine:=Nat.le_trans h (by decide)
section
variable {P:Params} {h:Heap}
mutual
theorem L6: ∀(d:WData) (v:Value),Well P h v d→eO d=true→d.weight≤1048576→ ∃A:List Addr,fv A v∧ ∀a∈A,fQ h A a
 | .none,_,x,_,_=>by
  cases x
  exact ⟨[],trivial,fun a m=>absurd m (by simp)⟩
 | .bool b,_,x,_,_=>by
  cases x
  exact ⟨[],trivial,fun a m=>absurd m (by simp)⟩
 | .int i,_,x,_,_=>by
  cases x
  exact ⟨[],trivial,fun a m=>absurd m (by simp)⟩
 | .str s,_,x,_,_=>by
  cases x
  exact ⟨[],trivial,fun a m=>absurd m (by simp)⟩
 | .bytes b,_,x,_,_=>by
  cases x
  exact ⟨[],trivial,fun a m=>absurd m (by simp)⟩
 | .list ds,_,x,p,z=>by
  obtain ⟨a,vs,rfl,ho,hall⟩:=A8 x
  have z2:WData.weightAll ds≤1048576:=z
  obtain ⟨A,h1,h2⟩:=uh ds _ hall p fun d hd=>Nat.le_trans (wG hd) z2
  have k: ∀b∈A,b∈a::A:=fun b hb=>List.mem_cons_of_mem _ hb
  refine ⟨a::A,List.mem_cons_self ..,fun b hb=>?_⟩
  rcases List.mem_cons.mp hb with e|m
  ·rw[e]
   exact ⟨vs,CM (by rw[tZ hall];exact Nat.le_trans (PySem.W.length_le_weightAllW ds) z2),fun u hu=>(h1 u hu).mono k, .inl ho⟩
  ·exact (h2 b m).mono k
 | .tuple ds,_,x,p,z=>by
  obtain ⟨a,vs,rfl,ho,hall⟩:=Bl x
  have z2:WData.weightAll ds≤1048576:=z
  obtain ⟨A,h1,h2⟩:=uh ds _ hall p fun d hd=>Nat.le_trans (wG hd) z2
  have k: ∀b∈A,b∈a::A:=fun b hb=>List.mem_cons_of_mem _ hb
  refine ⟨a::A,List.mem_cons_self ..,fun b hb=>?_⟩
  rcases List.mem_cons.mp hb with e|m
  ·rw[e]
   exact ⟨vs,CM (by rw[tZ hall];exact Nat.le_trans (PySem.W.length_le_weightAllW ds) z2),fun u hu=>(h1 u hu).mono k, .inr ho⟩
  ·exact (h2 b m).mono k
 | .float _,_,_,p,_=>Bool.noConfusion (show false=true from p)
 | .dict _,_,_,p,_=>Bool.noConfusion (show false=true from p)
 | .bytearray _,_,_,p,_=>Bool.noConfusion (show false=true from p)
 | .set _,_,_,p,_=>Bool.noConfusion (show false=true from p)
 | .frozenset _,_,_,p,_=>Bool.noConfusion (show false=true from p)
 | .obj _ _,_,_,p,_=>Bool.noConfusion (show false=true from p)
theorem uh: ∀(ds:List WData) (vs:List Value),WellAll P h vs ds→fG ds=true→(∀d∈ds,d.weight≤1048576)→ ∃A:List Addr,(∀u∈vs,fv A u)∧ ∀a∈A,fQ h A a
 | [],_,x,_,_=>by
  cases x
  exact ⟨[],fun u m=>absurd m (by simp),fun a m=>absurd m (by simp)⟩
 |d::ds,_,x,p,z=>by
  obtain ⟨v,vs,rfl,x1,x2⟩:=Dj x
  have q:eO d=true∧fG ds=true:=Bool.and_eq_true_iff.mp p
  obtain ⟨A,a1,a2⟩:=L6 d v x1 q.1 (z d (List.mem_cons_self ..))
  obtain ⟨B,b1,b2⟩:=uh ds vs x2 q.2 fun e he=>z e (List.mem_cons_of_mem _ he)
  have kA: ∀b∈A,b∈A++B:=fun b hb=>List.mem_append.mpr (.inl hb)
  have kB: ∀b∈B,b∈A++B:=fun b hb=>List.mem_append.mpr (.inr hb)
  refine ⟨A++B,fun u hu=>?_,fun b hb=>?_⟩
  ·rcases List.mem_cons.mp hu with e|m
   ·rw[e]
    exact a1.mono kA
   ·exact (b1 u m).mono kB
  ·rcases List.mem_append.mp hb with m|m
   ·exact (a2 b m).mono kA
   ·exact (b2 b m).mono kB
end
end
def ro (o:Obj):Option HO:=match o.data with
 | .seq vs _=>if (o.cls==Value.type "list")=true then some (.cY o (.lst (vs.toList.map toV))) else some (.cY o (.tup (vs.toList.map toV)))
 |_=>none
def dk (K:PySem.W.Frag) (h:Heap) (A:List Addr):Hp:=fun b=>if b∈A then (if (K.lookup b).isNone=true then (h.get? b).bind ro else none) else none
def mG (H:Hp):Prop:= ∀b,H b=none∨ ∃o u,H b=some (.cY o u)
theorem C9 (vs:List Value):ro {cls:= .type "list",data:= .seq vs.toArray}=some (.cY {cls:= .type "list",data:= .seq vs.toArray} (.lst (vs.map toV))):=by
 show (if (Value.type "list" ==Value.type "list")=true then some (HO.cY {cls:= .type "list",data:= .seq vs.toArray} (.lst (vs.toArray.toList.map toV))) else some (HO.cY {cls:= .type "list",data:= .seq vs.toArray} (.tup (vs.toArray.toList.map toV))))=_
 rw[if_pos (beq_self_eq_true _)]
theorem zN (vs:List Value):ro {cls:= .type "tuple",data:= .seq vs.toArray}=some (.cY {cls:= .type "tuple",data:= .seq vs.toArray} (.tup (vs.map toV))):=by
 show (if (Value.type "tuple" ==Value.type "list")=true then some (HO.cY {cls:= .type "tuple",data:= .seq vs.toArray} (.lst (vs.toArray.toList.map toV))) else some (HO.cY {cls:= .type "tuple",data:= .seq vs.toArray} (.tup (vs.toArray.toList.map toV))))=_
 rw[if_neg (by decide)]
section
variable {P:Program} {w:World} {K:PySem.W.Frag} {h:Heap} {A:List Addr}
theorem r8 {b:Addr} {o:Obj} (hb:b∈A) (hk:K.lookup b=none) (e:h.get? b=some o):dk K h A b=ro o:=by
 unfold dk
 rw[if_pos hb,hk,if_pos (show (none:Option Obj).isNone=true from rfl),e]<;>rfl
theorem JJ {b:Addr} {u:HO} (q:dk K h A b=some u):b∈A∧K.lookup b=none:=by
 unfold dk at q
 by_cases hb:b∈A
 ·rw[if_pos hb] at q
  cases hk:K.lookup b with
  |none=>exact ⟨hb,rfl⟩
  |some o=>
   rw[hk,if_neg (by simp)] at q
   cases q
 ·rw[if_neg hb] at q
  cases q
theorem si (ar: ∀a∈A,fQ h A a) {b:Addr} {u:HO} (q:dk K h A b=some u):K.lookup b=none∧ ∃vs:List Value,vs.length≤sizeLine∧(∀u∈vs,fv A u)∧
  ((h.get? b=some {cls:= .type "list",data:= .seq vs.toArray}∧u= .cY {cls:= .type "list",data:= .seq vs.toArray} (.lst (vs.map toV)))∨
   (h.get? b=some {cls:= .type "tuple",data:= .seq vs.toArray}∧u= .cY {cls:= .type "tuple",data:= .seq vs.toArray} (.tup (vs.map toV)))):=by
 obtain ⟨hb,hk⟩:=JJ q
 obtain ⟨vs,h1,h2,h3⟩:=ar b hb
 refine ⟨hk,vs,h1,h2,?_⟩
 rcases h3 with e|e
 ·rw[r8 hb hk e,C9] at q
  exact .inl ⟨e,(Option.some.inj q).symm⟩
 ·rw[r8 hb hk e,zN] at q
  exact .inr ⟨e,(Option.some.inj q).symm⟩
theorem Gv (ar: ∀a∈A,fQ h A a):mG (dk K h A):=fun b=>by
 cases q:dk K h A b with
 |none=>exact .inl rfl
 |some u=>
  obtain ⟨_,vs,_,_,⟨_,e⟩|⟨_,e⟩⟩:=si ar q
  ·exact .inr ⟨_,_,by rw[e]⟩
  ·exact .inr ⟨_,_,by rw[e]⟩
theorem QF (ar: ∀a∈A,fQ h A a):bQ P w (dk K h A) h:=fun b u q=>by
 obtain ⟨_,vs,h1,h2,⟨e,rfl⟩|⟨e,rfl⟩⟩:=si ar q
 ·exact ⟨e,by rw[List.length_map];exact h1,vs,_,lz h2,e⟩
 ·exact ⟨e,by rw[List.length_map];exact h1,vs,lz h2,_,e,rfl,_,rfl⟩
theorem uG {c c':Value} {vs us:List Value} (e:(some {cls:=c,data:= .seq vs.toArray}:Option Obj)=some {cls:=c',data:= .seq us.toArray}):c=c'∧vs=us:=by
 have e1:=Option.some.inj e
 have e2:c=c':=congrArg Obj.cls e1
 have e3:Data.seq vs.toArray=Data.seq us.toArray:=congrArg Obj.data e1
 injection e3 with e4
 refine ⟨e2,?_⟩
 have e5:=congrArg Array.toList e4
 simpa using e5
theorem Qc (KX:K.In h) (ar: ∀a∈A,fQ h A a) {a:Addr} {vs:List Value} (ha:a∈A) (e:h.get? a=some {cls:= .type "list",data:= .seq vs.toArray}):(∀u∈vs,fv A u)∧ah K (dk K h A) a (vs.map toV):=by
 obtain ⟨us,h1,h2,h3⟩:=ar a ha
 have hu:us=vs:=by
  rcases h3 with q|q
  ·rw[e] at q
   exact (uG q).2.symm
  ·rw[e] at q
   exact absurd (Value.type.inj (uG q).1) (by decide)
 subst hu
 refine ⟨h2,?_⟩
 cases hk:K.lookup a with
 |none=>exact .inl (.inr ⟨_,by rw[r8 ha hk e,C9]⟩)
 |some o=>
  have e2:=KX a o hk
  rw[e] at e2
  obtain rfl:=Option.some.inj e2
  exact .inr ⟨_,us.toArray,_,hk,rfl,rfl,rfl,by rw[List.size_toArray];exact h1,by simpa using lz h2⟩
theorem JG (KX:K.In h) (ar: ∀a∈A,fQ h A a) {a:Addr} {vs:List Value} (ha:a∈A) (e:h.get? a=some {cls:= .type "tuple",data:= .seq vs.toArray}):(∀u∈vs,fv A u)∧a8 K (dk K h A) a (vs.map toV):=by
 obtain ⟨us,h1,h2,h3⟩:=ar a ha
 have hu:us=vs:=by
  rcases h3 with q|q
  ·rw[e] at q
   exact absurd (Value.type.inj (uG q).1) (by decide)
  ·rw[e] at q
   exact (uG q).2.symm
 subst hu
 refine ⟨h2,?_⟩
 cases hk:K.lookup a with
 |none=>exact .inl (.inr ⟨_,by rw[r8 ha hk e,zN]⟩)
 |some o=>
  have e2:=KX a o hk
  rw[e] at e2
  obtain rfl:=Option.some.inj e2
  exact .inr ⟨_,us.toArray,_,hk,rfl,rfl,by rw[List.size_toArray];exact h1,by simpa using lz h2⟩
mutual
theorem R3 {Pm:Params} (KX:K.In h) (ar: ∀a∈A,fQ h A a): ∀(d:WData) (v:Value),Well Pm h v d→eO d=true→fv A v→Dw K (dk K h A) (toV v) d
 | .none,_,x,_,_=>by
  cases x
  exact .aw
 | .bool b,_,x,_,_=>by
  cases x
  exact .bl b
 | .int i,_,x,_,_=>by
  cases x
  exact .int i
 | .str s,_,x,_,_=>by
  cases x
  exact .str s
 | .bytes b,_,x,_,_=>by
  cases x
  have z:=Dw.dP (K:=K) (H:=dk K h A) b.toArray
  exact z
 | .list ds,_,x,p,hu=>by
  obtain ⟨a,vs,rfl,ho,hall⟩:=A8 x
  obtain ⟨h2,hs⟩:=Qc KX ar hu ho
  exact .lst hs (rA KX ar ds _ hall p h2)
 | .tuple ds,_,x,p,hu=>by
  obtain ⟨a,vs,rfl,ho,hall⟩:=Bl x
  obtain ⟨h2,hs⟩:=JG KX ar hu ho
  exact .tup hs (rA KX ar ds _ hall p h2)
 | .float _,_,_,p,_=>Bool.noConfusion (show false=true from p)
 | .dict _,_,_,p,_=>Bool.noConfusion (show false=true from p)
 | .bytearray _,_,_,p,_=>Bool.noConfusion (show false=true from p)
 | .set _,_,_,p,_=>Bool.noConfusion (show false=true from p)
 | .frozenset _,_,_,p,_=>Bool.noConfusion (show false=true from p)
 | .obj _ _,_,_,p,_=>Bool.noConfusion (show false=true from p)
theorem rA {Pm:Params} (KX:K.In h) (ar: ∀a∈A,fQ h A a): ∀(ds:List WData) (vs:List Value),WellAll Pm h vs ds→fG ds=true→(∀u∈vs,fv A u)→fS K (dk K h A) (vs.map toV) ds
 | [],_,x,_,_=>by
  cases x
  exact .nil
 |d::ds,_,x,p,hu=>by
  obtain ⟨v,vs,rfl,x1,x2⟩:=Dj x
  have q:eO d=true∧fG ds=true:=Bool.and_eq_true_iff.mp p
  exact .cons (R3 KX ar d v x1 q.1 (hu _ (List.mem_cons_self ..))) (rA KX ar ds vs x2 q.2 fun u m=>hu u (List.mem_cons_of_mem _ m))
end
end
theorem Sz {P:Program} {w:World} {K:PySem.W.Frag} {mg mb:Str→Option Value} {CX:ek} {k:Nat} {fa:Addr} {fd:FuncData} {ps:List Str} {sp:Sp} {s₁:Shared} {vals:List Value} {ds:List WData} {R:PySem.W.WRecords} {cl:Str→Option Addr} {d0:WData}
  (KX:K.In s₁.heap) (hns:s₁.heap.Ns mainGlobals mg) (hb:s₁.heap.Ns builtinsNs mb) (hbb: ∀x:Str,x≠ "__name__" →mb x=bootBuiltins x) (hlim:s₁.heap.NoLimit) (hg:s₁.gens= #[])
  (hwl:WellAll w.params s₁.heap vals ds) (hpl:fG ds=true) (hwt: ∀d∈ds,d.weight≤1048576) (hr:aE k callerA)
  (F: ∀base:Heap,K.In base→base.Ns mainGlobals mg→az P w K mg base CX k fa fd ps sp) (hbind: ∀(s:Shared) (us:List Value),us.length=ps.length→BindsTo s fd ⟨us, []⟩ (ps.zip us)) (hlen:ds.length=ps.length)
  (hsp: ∀(H:Hp) (xs:List V),mG H→fS K H xs ds→sp xs H (fun v H'=>Dw K H' v d0) fun _ _ _=>False)
  (hCX: ∀H e s',CX [] H s₁ (fun _ _ _=>False) e s'→False):
  codeAny (model P w) callerA (.call (.ref fa) ⟨vals, []⟩) (fun r s'=> ∃u as,r= .ok (.ret u)∧ReadsW R cl s'.heap u d0 as∧OldK s₁.heap s'.heap∧s'.os=s₁.os∧AllBare s'.gens) s₁:=by
 obtain ⟨A,ho,ar⟩:=uh ds vals hwl hpl hwt
 have hO:mG (dk K s₁.heap A):=Gv ar
 have ao:bQ P w (dk K s₁.heap A) s₁.heap:=QF ar
 have hS:=rA KX ar ds vals hwl hpl ho
 have hV:=lz ho
 have hK: ∀b u,dk K s₁.heap A b=some u→K.lookup b=none:=fun b u q=>(si ar q).1
 have noA: ∀{b:Addr} {o:Obj} {es:Array DictEntry} {ep:Nat},s₁.heap.get? b=some o→o.data= .dict es ep→dk K s₁.heap A b=none:=fun {b o es ep} e d=>by
  cases q:dk K s₁.heap A b with
  |none=>rfl
  |some u=>
   obtain ⟨_,vs,_,_,⟨e2,_⟩|⟨e2,_⟩⟩:=si ar q
   ·rw[e2] at e
    cases e
    have d':Data.seq vs.toArray _=Data.dict es ep:=d
    cases d'
   ·rw[e2] at e
    cases e
    have d':Data.seq vs.toArray _=Data.dict es ep:=d
    cases d'
 generalize dk K s₁.heap A=H at hO ao hS hK noA
 have base_of: ∀{b:Addr} {o:Obj},s₁.heap.get? b=some o→H b=none→(iM s₁.heap H).get? b=some o:=fun e n=>Ka e n
 have nsK: ∀{b:Addr} {m:Str→Option Value},s₁.heap.Ns b m→(iM s₁.heap H).Ns b m:=fun {b m} ⟨o,es,ep,e,d,r⟩=>⟨o,es,ep,base_of e (noA e d),d,r⟩
 have nK: ∀b o,K.lookup b=some o→H b=none:=fun b o e=>by
  cases q:H b with
  |none=>rfl
  |some u=>
   rw[hK b u q] at e
   cases e
 have hKb:K.In (iM s₁.heap H):=fun b o e=>base_of (KX b o e) (nK b o e)
 have hM:Mod K mg (iM s₁.heap H):=⟨hKb,nsK hns,⟨mb,nsK hb,hbb⟩,let ⟨mc,h1,h2⟩:=hlim;⟨mc,nsK h1,h2⟩⟩
 have e0:i7 P w K mg (iM s₁.heap H) callerA [] s₁ H:=⟨rfl,hM,fun b o e=>SM e,Nat.le_of_eq (Q3 _ _),trivial,fun b hb=>absurd (show b∈([]:List Addr) from hb) (by simp),ao, .of_eq hg⟩
 have hl:vals.length=ps.length:=by rw[tZ hwl];exact hlen
 refine codeAny_mono ((F _ hKb (nsK hns)).run callerA [] s₁ H ⟨vals, []⟩ vals (vals.map toV) _ _ hr e0 (hbind s₁ vals hl) hV (hsp H _ hO hS)) fun r s' x=>?_
 cases r with
 |error e=>exact (hCX H e s' x).elim
 |ok fl=>
  cases fl with
  |next=>exact False.elim x
  |brk=>exact False.elim x
  |cont=>exact False.elim x
  |ret u=>
   obtain ⟨v,H',os,bare,un,hok',r',q⟩:=x
   have kept: ∀b o,s₁.heap.get? b=some o→s'.heap.get? b=some o:=fun b o e=>by
    cases q2:H b with
    |none=>exact un.keep b o e q2 (by intro z;exact absurd (show b∈([]:List Addr) from z) (by simp)) (by simp)
    |some u2=>
     rcases hO b with z|⟨ob,u3,z⟩
     ·rw[q2] at z
      cases z
     ·have z2:=un.gn b ob _ z
      obtain ⟨e1,_⟩:=ao b _ z
      obtain ⟨e2,_⟩:=hok' b _ z2
      rw[e] at e1
      cases e1
      exact e2
   have KX':K.In s'.heap:=fun b o e=>kept b o (KX b o e)
   obtain ⟨as,hrd⟩:=Dw.reads (R:=R) (cl:=cl) hok' KX' d0 v u q r'
   exact ⟨u,as,rfl,hrd,OldK.of_keep kept,os,bare⟩
theorem KS {ds:List WData} (h:WData.layableAll ds=true): ∀d∈ds,d.weight≤1048576:=fun d hd=>
 (PySem.W.layableW_iff.mp (List.all_eq_true.mp h d hd)).2.2
theorem DC: ∀(cs:List Codec) (a:Codec.denoteAll cs),(Codec.encAll cs a).length=cs.length
 | [],_=>rfl
 |c::cs,a=>by
  show (Codec.encAll cs a.2).length+1=cs.length+1
  rw[DC cs a.2]
theorem OZ {r:OpenSpec} {k:Nat} {q:Program} {loose:List Str} {XP:(Str→Option Value)→Heap→Prop} {YP:World→Heap→Prop} {d:DefRec} {K:Params→PySem.W.Frag} {CX:World→ek} {ps:List Str} {sp:World→Sp}
  (hwell:r.wellSaid=true) (kv:d.params.defaults= []) (hlen:r.args.length=ps.length) (hr:aE k callerA)
  (hY: ∀(w:World) (h:Heap),YP w h→(K w.params).In h)
  (F: ∀(w:World) (mg:Str→Option Value) (fa:Addr) (h:Heap),YP w h→(K w.params).In h→h.Ns mainGlobals mg→mg d.name=some (.ref fa)→
   ∃fd:FuncData,(∀(s:Shared) (us:List Value),us.length=ps.length→BindsTo s fd ⟨us, []⟩ (ps.zip us))∧
    ∀base:Heap,(K w.params).In base→base.Ns mainGlobals mg→az r.prog w (K w.params) mg base (CX w) k fa fd ps (sp w))
  (hsp: ∀(w:World) (H:Hp) (xs:List V) (a:Codec.denoteAll r.args),mG H→Codec.withinAll r.args a=true→Codec.app r.args r.asked a=true→fS (K w.params) H xs (Codec.encAll r.args a)→
   sp w xs H (fun v H'=>Dw (K w.params) H' v (r.ret.enc (Codec.app r.args r.f a))) fun _ _ _=>False)
  (hCX: ∀(w:World) (H:Hp) (s:Shared) (e:Value) (s':Shared),CX w [] H s (fun _ _ _=>False) e s'→False):
  PySem.W.WalkOS q loose XP YP r d [] (fun f vs=>PySem.call f vs):=by
 intro w bB s₁ mg mb G Y fa o pm cd doc dV kV ho hd hcd hD hmg hg args vals as hpre hlay hrd hwl hlo
 obtain ⟨a,e1,e2⟩:=PySem.W.os_pre_some hpre
 obtain ⟨e3,hwi⟩:=Codec.encAll_of_decAll r.args args a e1
 subst e3
 have KX:=hY w _ Y
 obtain ⟨fd,hb,hF⟩:=F w mg fa _ Y KX G.T.g hmg
 refine PySem.W.enter_call (codeAny_mono (Sz (R:= []) (cl:=classAt bB.heap) (d0:=r.ret.enc (Codec.app r.args r.f a)) KX G.T.g G.T.b G.T.builtins G.T.nolimit hg hwl (Ag _ _) (KS hlay) hr hF hb (by rw[DC];exact hlen)
  (fun H xs hO hS=>hsp w H xs a hO hwi e2 hS) fun H e s'=>hCX w H s₁ e s') fun r' s' hq=>?_)
 obtain ⟨u,as',rfl,h1,h2,h3,h4⟩:=hq
 exact ⟨.inl ⟨u,_,as',rfl,fun _=>rfl,h1,(OpenSpec.post_iff hwell hwi _ _).mpr rfl,fun z=>Bool.noConfusion (show false=true from z)⟩,h2,h3,h4⟩
theorem N1 {r:OpenSpec} {k:Nat} {q:Program} {loose:List Str} {XP:(Str→Option Value)→Heap→Prop} {YP:World→Heap→Prop} {d:DefRec} {K:Params→PySem.W.Frag} {CX:ek} {ps:List Str} {sp:PySem.W.Frag→Sp}
  (hwell:r.wellSaid=true) (kv:d.params.defaults= []) (hlen:r.args.length=ps.length) (hr:aE k callerA)
  (hY: ∀(w:World) (h:Heap),YP w h→(K w.params).In h)
  (F: ∀(w:World) (mg:Str→Option Value) (fa:Addr) (h:Heap),YP w h→(K w.params).In h→h.Ns mainGlobals mg→mg d.name=some (.ref fa)→
   ∃fd:FuncData,(∀(s:Shared) (us:List Value),us.length=ps.length→BindsTo s fd ⟨us, []⟩ (ps.zip us))∧
    ∀base:Heap,(K w.params).In base→base.Ns mainGlobals mg→az r.prog w (K w.params) mg base CX k fa fd ps (sp (K w.params)))
  (hsp: ∀(K:PySem.W.Frag) (H:Hp) (xs:List V) (a:Codec.denoteAll r.args),mG H→Codec.withinAll r.args a=true→Codec.app r.args r.asked a=true→fS K H xs (Codec.encAll r.args a)→
   sp K xs H (fun v H'=>Dw K H' v (r.ret.enc (Codec.app r.args r.f a))) fun _ _ _=>False)
  (hCX: ∀(H:Hp) (s:Shared) (e:Value) (s':Shared),CX [] H s (fun _ _ _=>False) e s'→False):
  PySem.W.WalkOS q loose XP YP r d [] (fun f vs=>PySem.call f vs):=
 OZ (K:=K) (CX:=fun _=>CX) (sp:=fun w=>sp (K w.params)) hwell kv hlen hr hY F (fun w H xs a h1 h2 h3 h4=>hsp (K w.params) H xs a h1 h2 h3 h4) fun _ H s e s'=>hCX H s e s'
end L2
namespace Mx
open PySem
open Sem (wp)
end Mx
namespace L2
open PySem PySem.Spec PyProof.Rows
section
variable {X:Cx}
def Jl (i j:Int):Prop:=0≤j∧(Builtin.Int.intBits i:Int)+j≤2^27
theorem sY:bD X (binaryOp .LShift) (rI Jl fun i j=> .int (i*2^j.toNat)):=jN fun _ _ _ _ _ _ _ hc q=>PyProof.Rows.lshift_int hc.1 hc.2 q
end
end L2
namespace PySem
open Sem (wp)
namespace Zt
section
variable {prog:Program} {w:World} {A:Around} {E:Value→Shared→Prop} {s:Shared}
theorem JI {j t:Addr} {n:Nat} {ys} {y:Value} {Q:Value→Shared→Prop} (hj:s.heap.IsTupleIter j t n) (ht:s.heap.IsTuple t ys) (hy:ys[n]?=some y)
  (k: ∀h',h'.IsTupleIter j t (n+1)→Heap.SameBut j s.heap h'→Q y {s with heap:=h'}):wpAny (model prog w) A (Builtin.SmallTypes.nextOf (.ref j)) Q E s:=by
 obtain ⟨o,go,gc,gd⟩:=id hj
 obtain ⟨ot,gt,_,nt,gdt⟩:=ht
 unfold Builtin.SmallTypes.nextOf
 refine wpAny_bind (wpAny_callSpecial?_slot (name:=Str.ofString "__next__") hj.typeIs F.slot_tuple_iterator_next (wpAny_call_entry F.slot_tuple_iterator_next hj.typeIs F.entry_tuple_iterator_next ?_ (F.args_tuple_iterator_next_1 _)))
 show wpAny _ _ (field (.ref j) 0>>=_) _ _ s
 refine wpAny_bind (wpAny_field go gd (x:= .ref t) rfl ?_)
 show wpAny _ _ (if (Value.ref t==Value.none)=true then _ else _) _ _ s
 rw[if_neg (by intro z;cases z)]
 show wpAny _ _ (field (.ref j) 1>>=_) _ _ s
 refine wpAny_bind (wpAny_field go gd (x:= .int n 0) rfl ?_)
 show wpAny _ _ (seqItems? (.ref t)>>=_) _ _ s
 refine wpAny_bind (wpAny_seqItems gt gdt ?_)
 simp only [Int.toNat_natCast,hy]
 refine wpAny_bind (wpAny_setField go gd (by simp) (wpAny_pure ⟨y,rfl,wpAny_pure (k _ ?_ (Heap.SameBut.update ..))⟩))
 exact ⟨_,Heap.get?_update_self _ go (Obj.isFreed_of_fields (Obj.data_mapFields gd _)),(Obj.cls_mapFields ..).trans gc,by rw[Obj.data_mapFields gd];simp [rawInt]⟩
theorem RN {j t:Addr} {n:Nat} {ys} {Q:Value→Shared→Prop} (hh:A.handled=none) (hj:s.heap.IsTupleIter j t n) (ht:s.heap.IsTuple t ys) (hy:ys[n]?=none)
  (k: ∀h' e,Heap.ExtBut j s.heap h'→(∃o,h'.get? e=some o∧o.cls= .type "StopIteration")→E (.ref e) {s with heap:=h'}):wpAny (model prog w) A (Builtin.SmallTypes.nextOf (.ref j)) Q E s:=by
 obtain ⟨o,go,gc,gd⟩:=id hj
 obtain ⟨ot,gt,_,nt,gdt⟩:=ht
 unfold Builtin.SmallTypes.nextOf
 refine wpAny_bind (wpAny_callSpecial?_slot (name:=Str.ofString "__next__") hj.typeIs F.slot_tuple_iterator_next (wpAny_call_entry F.slot_tuple_iterator_next hj.typeIs F.entry_tuple_iterator_next ?_ (F.args_tuple_iterator_next_1 _)))
 show wpAny _ _ (field (.ref j) 0>>=_) _ _ s
 refine wpAny_bind (wpAny_field go gd (x:= .ref t) rfl ?_)
 show wpAny _ _ (if (Value.ref t==Value.none)=true then _ else _) _ _ s
 rw[if_neg (by intro z;cases z)]
 show wpAny _ _ (field (.ref j) 1>>=_) _ _ s
 refine wpAny_bind (wpAny_field go gd (x:= .int n 0) rfl ?_)
 show wpAny _ _ (seqItems? (.ref t)>>=_) _ _ s
 refine wpAny_bind (wpAny_seqItems gt gdt ?_)
 simp only [Int.toNat_natCast,hy]
 refine wpAny_bind (wpAny_rule (wpAny_bind (wpAny_setField go gd (by simp) ?_)))
 show wpAny _ _ (newExc (.type "StopIteration") []>>=_) _ _ _
 refine wpAny_bind ?_
 simp only [newExc,newTuple]
 refine wpAny_bind (wpAny_newObj_type ?_ (by size_fits))
 refine wpAny_bind (m:=firstArgMember _ _) (wpAny_of_eq (a:=Value.none) (by first|rfl|(simp only [firstArgMember];rfl)) ?_)
 refine wpAny_newObj_type ?_ (by size_fits)
 simp only [raiseNew]
 refine wpAny_bind (wpAny_handled ?_)
 first|rw[show A.in1.handled=none from hh]|rw[hh]
 refine wpAny_bind (wpAny_pure (wpAny_throw ?_))
 exact k _ _ (((Heap.SameBut.update ..).extBut.push _).push _) ⟨_,Heap.get?_push_size _ rfl,rfl⟩
theorem both {z I O i j l t:Addr} {n m:Nat} {xs ys:Array Value} {x y a b:Value} {Q:Value→Shared→Prop} (D:ZipApart z I O i j l t) (qz:IsZip s.heap z I O .none) (qI:IsPair s.heap I (.ref i) (.ref j)) (qO:IsPair s.heap O a b)
  (q1:s.heap.IsListIter i l n) (q2:s.heap.IsTupleIter j t m) (ql:s.heap.IsList l xs) (qt:s.heap.IsTuple t ys) (hx:xs[n]?=some x) (hy:ys[m]?=some y)
  (k: ∀h',IsZip h' z I O (rawInt s.heap.objs.size)→IsPair h' O x y→h'.IsListIter i l (n+1)→h'.IsTupleIter j t (m+1)→IsPair h' s.heap.objs.size x y→h'.objs.size=s.heap.objs.size+1→
   (∀c o,c≠z→c≠O→c≠i→c≠j→s.heap.get? c=some o→h'.get? c=some o)→Q (.ref s.heap.objs.size) {s with heap:=h'}):
  wpAny (model prog w) A (Builtin.«zip.__next__» ⟨[.ref z], []⟩) (fun fin s'=> ∃v,fin= .done (.ret v)∧Q v s') E s:=by
 show wpAny _ _ (field (.ref z) 2>>=_) _ _ _
 refine wpAny_bind (wpAny_field qz rfl (x:= .bool false) rfl ?_)
 show wpAny _ _ (field (.ref z) 3>>=_) _ _ _
 refine wpAny_bind (wpAny_field qz rfl (x:= .ref I) rfl ?_)
 refine wpAny_bind (wpAny_seqItems qI rfl ?_)
 show wpAny _ _ (Builtin.SmallTypes.ownedTupleIsFree (.ref z)>>=_) _ _ _
 refine wpAny_bind ?_
 unfold Builtin.SmallTypes.ownedTupleIsFree
 refine wpAny_bind (wpAny_field qz rfl (x:= .none) rfl (wpAny_pure ?_))
 simp only [if_true]
 refine wpAny_bind (wpAny_rule ?_)
 refine wpAny_bind (wpAny_field qz rfl (x:= .ref O) rfl ?_)
 refine wpAny_bind (wpAny_setField_rec qz (by simp) fun h1 qz1 s1=>?_)
 replace qz1:IsZip h1 z I O .ellipsis:=qz1
 refine wpAny_bind ?_
 simp only [List.forIn_cons,List.forIn_nil,List.zipIdx_cons,List.zipIdx_nil]
 refine wpAny_bind (wpAny_bind (wpAny_onRaise ?_))
 show wpAny _ _ (Builtin.SmallTypes.nextOf (.ref i)>>=_) _ _ _
 refine wpAny_bind (wpAny_nextOf_list_item (q1.extBut s1.extBut D.i1z) (ql.extBut s1.extBut D.l1z) hx fun h2 q12 s2=>wpAny_pure ?_)
 have qO2:IsPair h2 O a b:=s2.extBut _ _ D.TOi1 (s1.extBut _ _ D.TOz qO)
 refine wpAny_bind (wpAny_seqItems qO2 rfl ?_)
 refine wpAny_bind (wpAny_updateSeq_pair qO2 fun h3 qO3 s3=>?_)
 replace qO3:IsPair h3 O x b:=qO3
 refine wpAny_bind (wpAny_letGo (wpAny_pure ?_))
 refine wpAny_bind (wpAny_bind (wpAny_onRaise ?_))
 show wpAny _ _ (Builtin.SmallTypes.nextOf (.ref j)>>=_) _ _ _
 refine wpAny_bind (JI (((q2.extBut s1.extBut D.i2z).extBut s2.extBut D.i12.symm).extBut s3.extBut D.TOi2.symm) (((qt.extBut s1.extBut D.l2z).extBut s2.extBut D.l2i1).extBut s3.extBut D.l2TO) hy fun h4 q24 s4=>wpAny_pure ?_)
 have qO4:IsPair h4 O x b:=s4.extBut _ _ D.TOi2 qO3
 refine wpAny_bind (wpAny_seqItems qO4 rfl ?_)
 refine wpAny_bind (wpAny_updateSeq_pair qO4 fun h5 qO5 s5=>?_)
 replace qO5:IsPair h5 O x y:=qO5
 refine wpAny_bind (wpAny_letGo (wpAny_pure (wpAny_pure ?_)))
 refine wpAny_bind (wpAny_seqItems qO5 rfl ?_)
 refine wpAny_bind (wpAny_newTuple ?_)
 have hsz:h5.objs.size=s.heap.objs.size:=by rw[s5.1,s4.1,s3.1,s2.1,s1.1]
 have qz5:IsZip h5 z I O .ellipsis:=s5.extBut _ _ D.TOz.symm (s4.extBut _ _ D.i2z.symm (s3.extBut _ _ D.TOz.symm (s2.extBut _ _ D.i1z.symm qz1)))
 have old: ∀c o,c≠z→c≠O→c≠i→c≠j→s.heap.get? c=some o→h5.get? c=some o:=fun c o c1 c2 c3 c4 e=>s5.extBut _ _ c2 (s4.extBut _ _ c4 (s3.extBut _ _ c2 (s2.extBut _ _ c3 (s1.extBut _ _ c1 e))))
 have q15:h5.IsListIter i l (n+1):=((q12.extBut s3.extBut D.TOi1.symm).extBut s4.extBut D.i12).extBut s5.extBut D.TOi1.symm
 have q25:h5.IsTupleIter j t (m+1):=q24.extBut s5.extBut D.TOi2.symm
 have zl:z<h5.objs.size:=Heap.lt_size qz5
 show wpAny _ _ (Builtin.SmallTypes.ownedTupleHandOut (.ref z) (.ref h5.objs.size)>>=_) _ _ _
 refine wpAny_bind ?_
 unfold Builtin.SmallTypes.ownedTupleHandOut
 have qz6:IsZip (h5.push {cls:= .type "tuple",data:= .seq #[x,y]}) z I O .ellipsis:=Heap.get?_push_of_some _ qz5
 refine wpAny_bind (wpAny_setField_rec qz6 (by simp) fun h7 qz7 s7=>?_)
 replace qz7:IsZip h7 z I O (rawInt h5.objs.size):=qz7
 refine wpAny_setField_rec qz7 (by simp) fun h8 qz8 s8=>?_
 replace qz8:IsZip h8 z I O (rawInt h5.objs.size):=qz8
 have up: ∀c o,c≠z→h5.get? c=some o→h8.get? c=some o:=fun c o c1 e=>s8.extBut _ _ c1 (s7.extBut _ _ c1 (Heap.get?_push_of_some _ e))
 have qT:IsPair h8 h5.objs.size x y:=s8.extBut _ _ (Nat.ne_of_gt zl) (s7.extBut _ _ (Nat.ne_of_gt zl) (Heap.get?_push_size _ rfl))
 have sz8:h8.objs.size=h5.objs.size+1:=by rw[s8.1,s7.1,Heap.size_push]
 rw[hsz] at qz8 qT sz8
 refine wpAny_pure ⟨_,rfl,?_⟩
 show Q (.ref h5.objs.size) _
 rw[hsz]
 obtain ⟨oj,ej,rj⟩:=q25
 exact k h8 qz8 (up _ _ D.TOz qO5) (q15.at fun o e=>up _ o D.i1z e) ⟨oj,up _ _ D.i2z ej,rj⟩ qT sz8 fun c o c1 c2 c3 c4 e=>up c o c1 (old c o c1 c2 c3 c4 e)
theorem stop {z I O i j l t:Addr} {n m:Nat} {xs ys:Array Value} {a b:Value} {Q:Fin→Shared→Prop} (hh:A.handled=none) (D:ZipApart z I O i j l t) (qz:IsZip s.heap z I O .none) (qI:IsPair s.heap I (.ref i) (.ref j)) (qO:IsPair s.heap O a b)
  (q1:s.heap.IsListIter i l n) (q2:s.heap.IsTupleIter j t m) (ql:s.heap.IsList l xs) (qt:s.heap.IsTuple t ys) (hend:xs[n]?=none∨ys[m]?=none)
  (k: ∀h' e,(∀c o,c≠z→c≠O→c≠i→c≠j→s.heap.get? c=some o→h'.get? c=some o)→(∃o,h'.get? e=some o∧o.cls= .type "StopIteration")→E (.ref e) {s with heap:=h'}):
  wpAny (model prog w) A (Builtin.«zip.__next__» ⟨[.ref z], []⟩) Q E s:=by
 show wpAny _ _ (field (.ref z) 2>>=_) _ _ _
 refine wpAny_bind (wpAny_field qz rfl (x:= .bool false) rfl ?_)
 show wpAny _ _ (field (.ref z) 3>>=_) _ _ _
 refine wpAny_bind (wpAny_field qz rfl (x:= .ref I) rfl ?_)
 refine wpAny_bind (wpAny_seqItems qI rfl ?_)
 show wpAny _ _ (Builtin.SmallTypes.ownedTupleIsFree (.ref z)>>=_) _ _ _
 refine wpAny_bind ?_
 unfold Builtin.SmallTypes.ownedTupleIsFree
 refine wpAny_bind (wpAny_field qz rfl (x:= .none) rfl (wpAny_pure ?_))
 simp only [if_true]
 refine wpAny_bind (wpAny_rule ?_)
 refine wpAny_bind (wpAny_field qz rfl (x:= .ref O) rfl ?_)
 refine wpAny_bind (wpAny_setField_rec qz (by simp) fun h1 qz1 s1=>?_)
 replace qz1:IsZip h1 z I O .ellipsis:=qz1
 refine wpAny_bind ?_
 simp only [List.forIn_cons,List.forIn_nil,List.zipIdx_cons,List.zipIdx_nil]
 refine wpAny_bind (wpAny_bind (wpAny_onRaise ?_))
 show wpAny _ _ (Builtin.SmallTypes.nextOf (.ref i)>>=_) _ _ _
 cases hx:xs[n]? with
 |none=>
  refine wpAny_bind (wpAny_nextOf_list_end hh (q1.extBut s1.extBut D.i1z) (ql.extBut s1.extBut D.l1z) hx fun h2 e s2 he=>?_)
  obtain ⟨oe,ge,ce⟩:=he
  have qz2:IsZip h2 z I O .ellipsis:=s2 _ _ D.i1z.symm qz1
  have ez:e≠z:=fun q=>by subst q;rw[qz2] at ge;cases ge;simp at ce
  exact wpAny_setField_rec qz2 (by simp) fun h3 _ s3=>k h3 e (fun c o c1 _ c3 _ q=>s3.extBut _ _ c1 (s2 _ _ c3 (s1.extBut _ _ c1 q))) ⟨oe,s3.extBut _ _ ez ge,ce⟩
 |some x=>
  have hy:ys[m]?=none:=by
   rcases hend with q|q
   ·rw[hx] at q;cases q
   ·exact q
  refine wpAny_bind (wpAny_nextOf_list_item (q1.extBut s1.extBut D.i1z) (ql.extBut s1.extBut D.l1z) hx fun h2 q12 s2=>wpAny_pure ?_)
  have qO2:IsPair h2 O a b:=s2.extBut _ _ D.TOi1 (s1.extBut _ _ D.TOz qO)
  refine wpAny_bind (wpAny_seqItems qO2 rfl ?_)
  refine wpAny_bind (wpAny_updateSeq_pair qO2 fun h3 qO3 s3=>?_)
  refine wpAny_bind (wpAny_letGo (wpAny_pure ?_))
  refine wpAny_bind (wpAny_bind (wpAny_onRaise ?_))
  show wpAny _ _ (Builtin.SmallTypes.nextOf (.ref j)>>=_) _ _ _
  refine wpAny_bind (RN hh (((q2.extBut s1.extBut D.i2z).extBut s2.extBut D.i12.symm).extBut s3.extBut D.TOi2.symm) (((qt.extBut s1.extBut D.l2z).extBut s2.extBut D.l2i1).extBut s3.extBut D.l2TO) hy fun h4 e s4 he=>?_)
  obtain ⟨oe,ge,ce⟩:=he
  have qz4:IsZip h4 z I O .ellipsis:=s4 _ _ D.i2z.symm (s3.extBut _ _ D.TOz.symm (s2.extBut _ _ D.i1z.symm qz1))
  have ez:e≠z:=fun q=>by subst q;rw[qz4] at ge;cases ge;simp at ce
  exact wpAny_setField_rec qz4 (by simp) fun h5 _ s5=>k h5 e (fun c o c1 c2 c3 c4 q=>s5.extBut _ _ c1 (s4 _ _ c4 (s3.extBut _ _ c2 (s2.extBut _ _ c3 (s1.extBut _ _ c1 q))))) ⟨oe,s5.extBut _ _ ez ge,ce⟩
theorem nextOne {z I O i j l t:Addr} {n m:Nat} {xs ys:Array Value} {x y a b:Value} {Q:Option Value→Shared→Prop} (D:ZipApart z I O i j l t) (qz:IsZip s.heap z I O .none) (qI:IsPair s.heap I (.ref i) (.ref j)) (qO:IsPair s.heap O a b)
  (q1:s.heap.IsListIter i l n) (q2:s.heap.IsTupleIter j t m) (ql:s.heap.IsList l xs) (qt:s.heap.IsTuple t ys) (hx:xs[n]?=some x) (hy:ys[m]?=some y)
  (k: ∀h',IsZip h' z I O (rawInt s.heap.objs.size)→IsPair h' O x y→h'.IsListIter i l (n+1)→h'.IsTupleIter j t (m+1)→IsPair h' s.heap.objs.size x y→h'.objs.size=s.heap.objs.size+1→
   (∀c o,c≠z→c≠O→c≠i→c≠j→s.heap.get? c=some o→h'.get? c=some o)→Q (some (.ref s.heap.objs.size)) {s with heap:=h'}):wpAny (model prog w) A (pyNext (.ref z)) Q E s:=by
 have ty:s.TypeIs (.ref z) "zip" :=⟨_,qz,rfl⟩
 unfold pyNext
 exact wpAny_bind (wpAny_attempt (wpAny_callSpecial?_slot (name:=Str.ofString "__next__") ty F.slot_zip_next (wpAny_call_entry F.slot_zip_next ty F.entry_zip_next
  (both D qz qI qO q1 q2 ql qt hx hy fun h' a1 a2 a3 a4 a5 a6 a7=>wpAny_pure (k h' a1 a2 a3 a4 a5 a6 a7)) (F.args_zip_next_1 _))))
theorem Ke {z I O i j l t:Addr} {n m:Nat} {xs ys:Array Value} {a b:Value} {Q:Option Value→Shared→Prop} (hh:A.handled=none) (D:ZipApart z I O i j l t) (qz:IsZip s.heap z I O .none) (qI:IsPair s.heap I (.ref i) (.ref j)) (qO:IsPair s.heap O a b)
  (q1:s.heap.IsListIter i l n) (q2:s.heap.IsTupleIter j t m) (ql:s.heap.IsList l xs) (qt:s.heap.IsTuple t ys) (hend:xs[n]?=none∨ys[m]?=none)
  (k: ∀h',(∀c o,c≠z→c≠O→c≠i→c≠j→s.heap.get? c=some o→h'.get? c=some o)→Q none {s with heap:=h'}):wpAny (model prog w) A (pyNext (.ref z)) Q E s:=by
 have ty:s.TypeIs (.ref z) "zip" :=⟨_,qz,rfl⟩
 unfold pyNext
 refine wpAny_bind (wpAny_attempt (wpAny_callSpecial?_slot (name:=Str.ofString "__next__") ty F.slot_zip_next (wpAny_call_entry F.slot_zip_next ty F.entry_zip_next
  (stop hh D qz qI qO q1 q2 ql qt hend fun h' e hk he=>?_) (F.args_zip_next_1 _))))
 obtain ⟨o,ho,hc⟩:=he
 refine wpAny_bind (wpAny_isInstance (T:= "StopIteration") (b:=true) ⟨o,ho,hc⟩ isSubtype_stop ?_)
 exact wpAny_pure (k _ hk)
end
abbrev m1 (h:Heap) (l:Addr):Heap:=h.push {cls:= .type "list_iterator",data:= .fields #[.ref l, .int 0 0]}
abbrev m2 (h:Heap) (l t:Addr):Heap:=(m1 h l).push {cls:= .type "tuple_iterator",data:= .fields #[.ref t, .int 0 0]}
abbrev m3 (h:Heap) (l t:Addr):Heap:=(m2 h l t).push {cls:= .type "tuple",data:= .seq #[.ref h.objs.size, .ref (m1 h l).objs.size]}
abbrev m4 (h:Heap) (l t:Addr):Heap:=(m3 h l t).push {cls:= .type "tuple",data:= .seq #[.none, .none]}
abbrev m5 (h:Heap) (l t:Addr):Heap:=(m4 h l t).push {cls:= .type "zip",data:= .fields #[.none, .bool false, .bool false, .ref (m2 h l t).objs.size, .ref (m3 h l t).objs.size]}
theorem made (l t:Addr) (xs ys:Array Value):Meets (Builtin.«zip.__new__» ⟨[.type "zip", .ref l, .ref t], []⟩) (fun _ R s=>s.heap.IsList l xs∧s.heap.IsTuple t ys∧R (.ok (.ret (.ref (m4 s.heap l t).objs.size))) {s with heap:=m5 s.heap l t}):=
 .of_wp fun prog w A R s h=>by
  obtain ⟨hp,g,d,tk,os⟩:=s
  obtain ⟨ql,qt,h⟩:=h
  have hsub:=sub_zip
  have hL1:Heap.IsList (Shared.heap ⟨hp,g,d,tk,os⟩) l xs:=ql
  have hL2:Heap.IsTuple (Shared.heap ⟨hp.push {cls:= .type "list_iterator",data:= .fields #[.ref l, .int 0 0]},g,d,tk,os⟩) t ys:=Heap.IsTuple.push qt _
  wp_walk using wpAny_pyIter_list hL1,wpAny_pyIter_tuple hL2
  exact ⟨_,rfl,h⟩
theorem called {prog:Program} {w:World} {A:Around} {E:Value→Shared→Prop} {s:Shared} {l t:Addr} {xs ys:Array Value} {Q:Value→Shared→Prop} (ql:s.heap.IsList l xs) (qt:s.heap.IsTuple t ys)
  (k: ∀h',IsZip h' (s.heap.objs.size+4) (s.heap.objs.size+2) (s.heap.objs.size+3) .none→IsPair h' (s.heap.objs.size+2) (.ref s.heap.objs.size) (.ref (s.heap.objs.size+1))→IsPair h' (s.heap.objs.size+3) .none .none→
   h'.IsListIter s.heap.objs.size l 0→h'.IsTupleIter (s.heap.objs.size+1) t 0→h'.objs.size=s.heap.objs.size+5→(∀c o,s.heap.get? c=some o→h'.get? c=some o)→Q (.ref (s.heap.objs.size+4)) {s with heap:=h'}):
  wpAny (model prog w) A (call (.type "zip") [.ref l, .ref t]) Q E s:=by
 refine callType_new F.called_zip (by decide) (F.typeCall_zip_2 _ _) (F.newCall_zip_2 _ _) (fun obj=>F.args_object_init_3 obj _ _) F.entry_zip_new (made l t xs ys) ⟨ql,qt,?_⟩
 have n1:(m1 s.heap l).objs.size=s.heap.objs.size+1:=Heap.size_push ..
 have n2:(m2 s.heap l t).objs.size=s.heap.objs.size+2:=by rw[Heap.size_push,n1]
 have n3:(m3 s.heap l t).objs.size=s.heap.objs.size+3:=by rw[Heap.size_push,n2]
 have n4:(m4 s.heap l t).objs.size=s.heap.objs.size+4:=by rw[Heap.size_push,n3]
 have n5:(m5 s.heap l t).objs.size=s.heap.objs.size+5:=by rw[Heap.size_push,n4]
 have up:=fun (h:Heap) (o:Obj) (c:Addr) (x:Obj) (e:h.get? c=some x)=>Heap.get?_push_of_some o e
 have g5:(m5 s.heap l t).get? (m4 s.heap l t).objs.size=some _:=Heap.get?_push_size _ rfl
 have g4:(m5 s.heap l t).get? (m3 s.heap l t).objs.size=some _:=up _ _ _ _ (Heap.get?_push_size _ rfl)
 have g3:(m5 s.heap l t).get? (m2 s.heap l t).objs.size=some _:=up _ _ _ _ (up _ _ _ _ (Heap.get?_push_size _ rfl))
 have g2:(m5 s.heap l t).get? (m1 s.heap l).objs.size=some _:=up _ _ _ _ (up _ _ _ _ (up _ _ _ _ (Heap.get?_push_size _ rfl)))
 have g1:(m5 s.heap l t).get? s.heap.objs.size=some _:=up _ _ _ _ (up _ _ _ _ (up _ _ _ _ (up _ _ _ _ (Heap.get?_push_size _ rfl))))
 show _∧_
 rw[n2,n3,n4] at g5
 rw[n1,n2] at g3
 rw[n3] at g4
 rw[n1] at g2
 rw[n4]
 exact ⟨⟨_,g5,rfl⟩,k _ g5 g3 g4 ⟨_,g1,rfl,rfl⟩ ⟨_,g2,rfl,rfl⟩ n5 fun c o x=>up _ _ _ _ (up _ _ _ _ (up _ _ _ _ (up _ _ _ _ (up _ _ _ _ x))))⟩
end Zt
end PySem
namespace L2
open PySem PySem.Spec PyProof.Rows
def wj (K:PySem.W.Frag) (a b:Addr):It:=
 ⟨fun i H=> ∃(xs ys:List V) (x y:V),ah K H a xs∧a8 K H b ys∧xs[i]?=some x∧ys[i]?=some y,
  fun i H v H'=> ∃p x y,v= .ref p∧H p=none∧H'=upd H p (.tup [x,y])∧(∀xs,ah K H a xs→xs[i]?=some x)∧ ∀ys,a8 K H b ys→ys[i]?=some y,
  fun i H=> ∃xs ys:List V,ah K H a xs∧a8 K H b ys∧(xs.length≤i∨ys.length≤i)⟩
theorem Ng {P:Program} {w:World} {K:PySem.W.Frag} {elts:List Expr} {kk:Nat} {tpos:Pos} {a b z I O i1 i2:Addr} (D:ZipApart z I O i1 i2 a b):
  Turn P w K (.Tuple elts kk tpos) (wj K a b) [z,I,O,i1,i2] z (fun i h=>IsZip h z I O .none∧IsPair h I (.ref i1) (.ref i2)∧(∃x y,IsPair h O x y)∧h.IsListIter i1 a i∧h.IsTupleIter i2 b i) where
 mem:=by simp
 obj:=fun i h st c hc=>by
  obtain ⟨qz,qI,⟨x,y,qO⟩,⟨o1,e1,_,d1⟩,⟨o2,e2,_,d2⟩⟩:=st
  have e':c=z∨c=I∨c=O∨c=i1∨c=i2:=by simpa using hc
  rcases e' with rfl|rfl|rfl|rfl|rfl
  ·exact ⟨_,qz,fun v q=>nomatch q⟩
  ·exact ⟨_,qI,fun v q=>nomatch q⟩
  ·exact ⟨_,qO,fun v q=>nomatch q⟩
  ·exact ⟨o1,e1,fun v q=>by rw[d1] at q;cases q⟩
  ·exact ⟨o2,e2,fun v q=>by rw[d2] at q;cases q⟩
 keep:=fun i h h' st k=>by
  obtain ⟨qz,qI,⟨x,y,qO⟩,h1,o2,e2,r2⟩:=st
  exact ⟨k z (by simp) _ qz,k I (by simp) _ qI,⟨x,y,k O (by simp) _ qO⟩,h1.at fun o q=>k i1 (by simp) o q,o2,k i2 (by simp) _ e2,r2⟩
 item:=by
  intro X hP hw hK hc i pins s σ H E II hf st hg
  subst hP hw hK
  obtain ⟨qz,qI,⟨x0,y0,qO⟩,h1,h2⟩:=st
  obtain ⟨xs,ys,x,y,hqx,hqy,hx,hy⟩:=hg
  obtain ⟨its,rv,p,_⟩:=II.list hqx
  obtain ⟨its2,rv2,p2,_⟩:=II.tuple hqy
  obtain ⟨u,hu,ru⟩:=rv.get hx
  obtain ⟨u2,hu2,ru2⟩:=rv2.get hy
  have zl:z<s.heap.objs.size:=Heap.lt_size qz
  refine Zt.nextOne D qz qI qO h1 h2 p.isList p2 (x:=u) (y:=u2) (by simpa using hu) (by simpa using hu2) fun h' z' O' h1' h2' hT hsz hk=>?_
  refine ⟨_,rfl,wpAny_letOwnedTupleGo_zip (s:={s with heap:=h'}) z' fun h'' z'' sb=>?_⟩
  have hT2:h''.get? s.heap.objs.size=some {cls:= .type "tuple",data:= .seq #[u,u2]}:=(sb.2 _ (Nat.ne_of_gt zl)).trans hT
  have new:cT X.prog X.w (upd H s.heap.objs.size (.tup [x,y])) h'' s.heap.objs.size (.tup [x,y]):=⟨by show 2≤sizeLine;decide, [u,u2], .cons ru (.cons ru2 .nil),⟨_,hT2,rfl,_,rfl⟩⟩
  have I1:Inv X pins σ (upd H s.heap.objs.size (.tup [x,y])) {s with heap:=h''}:=II.yd (t':=s.toks) (ch:= [z,I,O,i1,i2])
   (fun c o hb q=>(sb.2 c (fun q'=>hb (by simp [q']))).trans (hk c o (fun q'=>hb (by simp [q'])) (fun q'=>hb (by simp [q'])) (fun q'=>hb (by simp [q'])) (fun q'=>hb (by simp [q'])) q)) hf (Nat.le_refl _) new
  refine ⟨.ref s.heap.objs.size,_,I1,rfl,⟨_,x,y,rfl,II.ao.fresh (Nat.le_refl _),rfl,fun l hl=>by rw[II.pW hl hqx];exact hx,fun l hl=>?_⟩,⟨z'',?_,⟨u,u2,?_⟩,?_,?_⟩,fun c hcm=>?_⟩
  ·rw[II.Eb hl hqy];exact hy
  ·exact (sb.2 _ D.TIz).trans (hk _ _ D.TIz D.TITO D.TIi1 D.TIi2 qI)
  ·exact (sb.2 _ D.TOz).trans O'
  ·exact h1'.at fun o q=>(sb.2 _ D.i1z).trans q
  ·obtain ⟨o2,e2,r2⟩:=h2'
   exact ⟨o2,(sb.2 _ D.i2z).trans e2,r2⟩
  ·have hlt:c<s.heap.objs.size:=by
    have e':c=z∨c=I∨c=O∨c=i1∨c=i2:=by simpa using hcm
    rcases e' with q|q|q|q|q
    ·rw[q];exact zl
    ·rw[q];exact Heap.lt_size qI
    ·rw[q];exact Heap.lt_size qO
    ·rw[q];obtain ⟨_,e1,_⟩:=h1;exact Heap.lt_size e1
    ·rw[q];obtain ⟨_,e2,_⟩:=h2;exact Heap.lt_size e2
   rw[aL (Nat.ne_of_lt hlt)]
   exact (hf c hcm).1
 done:=by
  intro X hP hw hK hc i pins s σ H E II hf st hg
  subst hP hw hK
  obtain ⟨qz,qI,⟨x0,y0,qO⟩,h1,h2⟩:=st
  obtain ⟨xs,ys,hqx,hqy,hend⟩:=hg
  obtain ⟨its,rv,p,_⟩:=II.list hqx
  obtain ⟨its2,rv2,p2,_⟩:=II.tuple hqy
  have l1:=rv.length
  have l2:=rv2.length
  have he:its.toArray[i]?=none∨its2.toArray[i]?=none:=by
   rcases hend with q|q
   ·exact .inl (by simp;omega)
   ·exact .inr (by simp;omega)
  exact Zt.Ke (II.ok.hd hc) D qz qI qO h1 h2 p.isList p2 he fun h' hk=>⟨rfl,II.Ec (t':=s.toks) (ch:= [z,I,O,i1,i2])
   (fun c o hb q=>hk c o (fun q'=>hb (by simp [q'])) (fun q'=>hb (by simp [q'])) (fun q'=>hb (by simp [q'])) (fun q'=>hb (by simp [q'])) q) hf⟩
 self:=fun A i s Q E st h=>wpAny_pyIter_zip st.1 h
def JB (K:PySem.W.Frag) (ta:TA):TI:=fun σ H R=>ta σ H fun vs H1=> ∃a b xs ys,vs= [.ref a, .ref b]∧ah K H1 a xs∧a8 K H1 b ys∧R (wj K a b) H1
theorem Rk {X:Cx} {e e2:Expr} {ta:TA} {p pos tpos:Pos} {elts:List Expr} {kk:Nat} (hg:Gl X "zip") (hm:X.mg "zip" =none) (ha:PA X [e,e2] ta)
  (hs:starEach [e,e2] X.env=(false,eval e X.env)::starEach [e2] X.env:=by rfl) (hpl:(backTo pos (starEach [e2] X.env)).any (·.1)=false:=by rfl):
  PI X (.Tuple elts kk tpos) (.Call (.Name "zip" p) [e,e2] [] pos) (JB X.K ta):=by
 intro pins s σ H R I h
 refine Call_ (jm I hg hm Fq (PyProof.Rows.callWith_type1 (aI (ha pos pins s σ H _ I h) fun us s1 ⟨vs,H1,I1,r1,q1⟩=>?_) hs hpl))
 obtain ⟨a,b,xs,ys,ex,hqx,hqy,q⟩:=q1
 subst ex
 cases r1 with
 |cons r rr=>
  cases rr with
  |cons r' rr=>
   cases rr;cases r;cases r'
   obtain ⟨its,rv,p1,_⟩:=I1.list hqx
   obtain ⟨its2,rv2,p2,_⟩:=I1.tuple hqy
   have la:a<s1.heap.objs.size:=p1.lt
   have lb:b<s1.heap.objs.size:=by obtain ⟨_,e2,_⟩:=id p2;exact Heap.lt_size e2
   refine Zt.called p1.isList p2 fun h' qz qI qO h1 h2 hsz hk=>wpAny_pyIter_zip qz ?_
   have I2:Inv X pins σ H1 {s1 with heap:=h'}:=I1.kept (t':=s1.toks) hk
   refine ⟨s1.heap.objs.size+4, [s1.heap.objs.size+4,s1.heap.objs.size+2,s1.heap.objs.size+3,s1.heap.objs.size,s1.heap.objs.size+1],_,_,H1,rfl,I2,Ng (PySem.W.ktu_apart s1.heap.objs.size a b la lb),⟨qz,qI,⟨_,_,qO⟩,h1,h2⟩,fun c hcm=>?_,q⟩
   have hle:s1.heap.objs.size≤c:=by
    have e':c=s1.heap.objs.size+4∨c=s1.heap.objs.size+2∨c=s1.heap.objs.size+3∨c=s1.heap.objs.size∨c=s1.heap.objs.size+1:=by simpa using hcm
    rcases e' with z|z|z|z|z
    ·rw[z];exact Nat.le_add_right _ _
    ·rw[z];exact Nat.le_add_right _ _
    ·rw[z];exact Nat.le_add_right _ _
    ·rw[z];exact Nat.le_refl _
    ·rw[z];exact Nat.le_add_right _ _
   exact I1.gG hle (I1.ao.fresh hle)
theorem tT {X:Cx} {K:PySem.W.Frag} (h:X.K=K):ml X (yo K):=by subst h;exact tU
end L2
namespace L2
open PySem PySem.Spec PyProof.Rows
theorem Sr {P:Program} {w:World} {H:Hp} {h:Heap} {a:Addr} {o:HO} (x:cT P w H h a o): ∃ob,h.get? a=some ob:=by
 cases o with
 |lst xs=>obtain ⟨_,_,_,_,e⟩:=x;exact ⟨_,e⟩
 |tup xs=>obtain ⟨_,_,_,ob,e,_⟩:=x;exact ⟨ob,e⟩
 |dK kvs=>obtain ⟨_,_,_,_,o,_,_,e,_⟩:=x;exact ⟨o,e⟩
 |dT kvs=>obtain ⟨_,_,_,_,o,_,_,e,_⟩:=x;exact ⟨o,e⟩
 |set S n=>obtain ⟨o,_,_,_,e,_⟩:=x;exact ⟨o,e⟩
 |ins C dx fs=>obtain ⟨_,_,_,e,_⟩:=x;exact ⟨_,e⟩
 |own y=>exact x
 |xd fs=>obtain ⟨_,⟨o,_,_,e,_⟩,_⟩:=x;exact ⟨o,e⟩
 |ue lo hi=>obtain ⟨_,_,_,e⟩:=x;exact ⟨_,e⟩
 |cY ob u=>obtain ⟨e,_⟩:=x;exact ⟨_,e⟩
 |jf ps=>exact ⟨_,x⟩
 |met f y=>exact ⟨_,x⟩
 |ext φ=>obtain ⟨_,e,_⟩:=x;exact e
theorem lC {P:Program} {w:World} {H:Hp} {h:Heap} (x:bQ P w H h) {a:Addr} (e:h.get? a=none):H a=none:=by
 cases q:H a with
 |none=>rfl
 |some o=>
  obtain ⟨ob,z⟩:=Sr (x a o q)
  rw[e] at z;cases z
inductive b9 (h:Heap) (H:Hp) (av:List Addr):Nat→Value→Prop
 |nil:b9 h H av 0 .none
 |cons {n:Nat} {a:Addr} {o:Obj} {vs:Array Value} {c:Value}:h.get? a=some o→o.data= .fields vs→vs[2]?=some c→H a=none→a∉av→b9 h H av n c→b9 h H av (n+1) (.ref a)
theorem b9.move {h h':Heap} {H H':Hp} {av av':List Addr} {n:Nat} {c:Value} (x:b9 h H av n c) (k: ∀a o vs,h.get? a=some o→o.data= .fields vs→H a=none→a∉av→h'.get? a=some o∧H' a=none∧a∉av'):b9 h' H' av' n c:=by
 induction x with
 |nil=>exact .nil
 |cons h1 h2 h3 h4 h5 _ ih=>
  obtain ⟨k1,k2,k3⟩:=k _ _ _ h1 h2 h4 h5
  exact .cons k1 h2 h3 k2 k3 ih
def GY (h base:Heap) (e:Addr) (cls c fl:Value):Prop:=
 ∃oe vs T oT ts,h.get? e=some oe∧(oe.cls=cls∧vs[2]?=some c)∧oe.data= .fields vs∧vs[1]?=some (.ref T)∧base.get? T=none∧T≠e∧h.get? T=some oT∧oT.data= .fields ts∧ts[3]?=some fl
def gm (base:Heap) (l:List Env) (e:Addr) (cls c fl:Value) (h:Heap):Prop:=base.StaysIn h∧base.get? e=none∧h.FunFrames base l∧GY h base e cls c fl
section
variable {M:Model} {A:Around} {E:Value→Shared→Prop} {s:Shared}
theorem C0 {base:Heap} {env:Env} {outer:List Env} {L e:Addr} {oe:Obj} {vs:Array Value} {hd c:Value} {nx:Bool} {Q:Unit→Shared→Prop} (hfr:A.frames=some (env::outer)) (hl:s.heap.FunFrames base (env::outer)) (hf:env.frame=some L)
  (ge:s.heap.get? e=some oe) (st:base.StaysIn s.heap) (ne:base.get? e=none) (de:oe.data= .fields vs) (z1:1<vs.size) (h2:vs[2]?=some c) (k: ∀h',gm base (env::outer) e oe.cls c (rawInt L) h'→s.heap.UpToSlots h'→Q () {s with heap:=h'}):
  wpAny M A (do let fo←frameOf env;let pc←entryPlaceOf L nx;let tb←EntryCells.newEntry hd fo .none (rawInt L) .none pc;setField (.ref e) 1 tb) Q E s:=by
 have nfr:e∉(env::outer).filterMap (·.frame):=fun m=>by
  obtain ⟨_,q,hq,nf⟩:=hl.mem m
  rw[ge] at hq;cases hq;exact nf vs de
 refine wpAny_bind (wpAny_frameOf_fun hfr hl hf fun g ⟨_,sg,tg⟩=>wpAny_bind (wpAny_entryPlaceOf fun pc hp=>?_))
 have e1:g.get? e=some oe:=(sg e nfr).trans ge
 have b1:base.StaysIn g:=fun b q hb=>(sg b fun m=>by rw[(hl.mem m).1] at hb;cases hb).trans (st b q hb)
 have Te:g.objs.size≠e:=Nat.ne_of_gt (Heap.lt_size e1)
 unfold EntryCells.newEntry newFields
 refine wpAny_bind (wpAny_newObj_type ?_ (hp.sizeOk5 _ _ _ _ _))
 generalize hts:([hd,Value.ref L, .none,rawInt L, .none]++(if pc.isEmpty then List.replicate 6 Value.none else pc)).toArray=ts
 have t3:ts[3]?=some (rawInt L):=by rw[←hts];simp
 have e2:(g.push {cls:= .type "traceback",data:= .fields ts}).get? e=some oe:=Heap.get?_push_of_some _ e1
 refine wpAny_setField e2 de z1 (k _ ?_ ?_)
 ·have d3:=Obj.data_mapFields de (·.setIfInBounds 1 (Value.ref g.objs.size))
  refine ⟨fun b q hb=>?_,ne,hl.of_keeps fun b q hb nf=>?_,_,_,g.objs.size,_,ts,Heap.get?_update_self _ e2 (Obj.isFreed_of_fields d3),⟨Obj.cls_mapFields _ _,?_⟩,d3,by simp [z1],b1.fresh,Te,(Heap.get?_update_other _ _ (Ne.symm Te)).trans (Heap.get?_push_size _ rfl),rfl,t3⟩
  ·rw[Heap.get?_update_other _ _ (fun z=>by rw[←z,ne] at hb;cases hb)]
   exact Heap.get?_push_of_some _ (b1 b q hb)
  ·obtain ⟨sl,hs⟩:=tg b q hb
   refine ⟨{q with slots:=sl},?_,rfl⟩
   rw[Heap.get?_update_other _ _ (fun z=>by rw[←z,ge] at hb;cases hb;exact nf vs de)]
   exact Heap.get?_push_of_some _ hs
  ·rw[Array.getElem?_setIfInBounds_ne (by decide)];exact h2
 ·intro b q hb nf
  obtain ⟨sl,hs⟩:=tg b q hb
  refine ⟨sl,?_⟩
  rw[Heap.get?_update_other _ _ (fun z=>by rw[←z,ge] at hb;cases hb;exact nf vs de)]
  exact Heap.get?_push_of_some _ hs
theorem DH {base:Heap} {env:Env} {outer:List Env} {L e:Addr} {oe:Obj} {vs:Array Value} {c:Value} {Q:Unit→Shared→Prop} (hfr:A.frames=some (env::outer)) (hf:env.frame=some L) (hl:s.heap.FunFrames base (env::outer)) (ge:s.heap.get? e=some oe) (st:base.StaysIn s.heap) (ne:base.get? e=none) (de:oe.data= .fields vs) (h1:vs[1]?=some .none) (h2:vs[2]?=some c)
  (k: ∀h',gm base (env::outer) e oe.cls c (rawInt L) h'→s.heap.UpToSlots h'→Q () {s with heap:=h'}):wpAny M A (noteFrame (.ref e) env) Q E s:=by
 unfold noteFrame
 simp only [hf]
 refine wpAny_bind (wpAny_field ge de h1 ?_)
 rw[if_neg (by decide)]
 exact C0 hfr hl hf ge st ne de (Array.getElem?_eq_some_iff.mp h1).1 h2 k
theorem xn {base:Heap} {env:Env} {outer:List Env} {L e:Addr} {cls c fl:Value} {Q:Unit→Shared→Prop} (hfr:A.frames=some (env::outer)) (hf:env.frame=some L) (h:gm base (env::outer) e cls c fl s.heap)
  (k: ∀h',gm base (env::outer) e cls c (rawInt L) h'→s.heap.UpToSlots h'→Q () {s with heap:=h'}):wpAny M A (noteFrame (.ref e) env) Q E s:=by
 obtain ⟨st,ne,hl,oe,vs,T,oT,ts,ge,⟨hcls,h2⟩,de,h1,nT,Te,gT,dT,h3⟩:=id h
 subst hcls
 unfold noteFrame
 simp only [hf]
 refine wpAny_bind (wpAny_field ge de h1 ?_)
 rw[if_pos (by simp)]
 refine wpAny_bind (wpAny_field gT dT h3 ?_)
 by_cases q:fl=rawInt L
 ·subst q
  rw[if_pos (by simp)]
  exact wpAny_pure (k s.heap h (.refl _))
 ·rw[if_neg (by simpa using q)]
  refine wpAny_bind (wpAny_setField gT dT (Array.getElem?_eq_some_iff.mp h3).1 ?_)
  have oth: ∀b,b≠T→(s.heap.update T (Obj.mapFields (·.setIfInBounds 3 Value.none))).get? b=s.heap.get? b:=fun b hb=>Heap.get?_update_other _ _ (Ne.symm hb)
  have nrec: ∀b o,s.heap.get? b=some o→(∀vs,o.data≠ .fields vs)→b≠T:=fun b o hb hnf z=>by
   rw[z,gT] at hb;cases hb;exact hnf ts dT
  refine C0 hfr (hl.of_keeps fun b o hb hnf=>⟨o,(oth b (nrec b o hb hnf)).trans hb,rfl⟩) hf ((oth e (Ne.symm Te)).trans ge)
   (fun b o hbo=>(oth b fun z=>by rw[z,nT] at hbo;cases hbo).trans (st b o hbo)) ne de (Array.getElem?_eq_some_iff.mp h1).1 h2 fun h' x up=>k h' x fun b o hb hnf=>up b o ((oth b (nrec b o hb hnf)).trans hb) hnf
theorem yq {base:Heap} {l:List Env} {e:Addr} {cls c fl:Value} {fo:Option Addr} {Q:Unit→Shared→Prop} (h:gm base l e cls c fl s.heap) (k: ∀h',gm base l e cls c (fo.elim Value.none fun f=>rawInt f) h'→s.heap.UpToSlots h'→Q () {s with heap:=h'}):wpAny M A (setFlight (.ref e) fo) Q E s:=by
 obtain ⟨st,ne,hl,oe,vs,T,oT,ts,ge,hc,de,h1,nT,Te,gT,dT,h3⟩:=h
 have z3:3<ts.size:=(Array.getElem?_eq_some_iff.mp h3).1
 have oth: ∀b,b≠T→(s.heap.update T (Obj.mapFields (·.setIfInBounds 3 (fo.elim Value.none fun f=>rawInt f)))).get? b=s.heap.get? b:=fun b hb=>Heap.get?_update_other _ _ (Ne.symm hb)
 have nrec: ∀b o,s.heap.get? b=some o→(∀vs,o.data≠ .fields vs)→b≠T:=fun b o hb hnf z=>by
  rw[z,gT] at hb;cases hb;exact hnf ts dT
 unfold setFlight
 refine wpAny_bind (wpAny_field ge de h1 ?_)
 rw[if_pos (by simp)]
 refine wpAny_setField gT dT z3 (k _ ⟨fun b o hb=>(oth b fun z=>by rw[z,nT] at hb;cases hb).trans (st b o hb),ne,hl.of_keeps fun b o hb nf=>⟨o,(oth b (nrec b o hb nf)).trans hb,rfl⟩,oe,vs,T,_,_,(oth e (Ne.symm Te)).trans ge,hc,de,h1,nT,Te,Heap.get?_update_self _ gT (Obj.isFreed_of_fields (Obj.data_mapFields dT _)),Obj.data_mapFields dT _,by simp [z3]⟩ fun b o hb nf=>⟨o.slots,(oth b (nrec b o hb nf)).trans hb⟩)
theorem OL {base:Heap} {env:Env} {outer:List Env} {L e:Addr} {cls c fl:Value} {Q:Unit→Shared→Prop} (hfr:A.frames=some (env::outer)) (hf:env.frame=some L) (h:gm base (env::outer) e cls c fl s.heap)
  (k: ∀h',gm base outer e cls c .none h'→s.heap.UpToSlots h'→Q () {s with heap:=h'}):wpAny M A (leaving env (.ref e)) Q E s:=by
 unfold leaving
 refine wpAny_bind (xn hfr hf h fun h1 hh up=>?_)
 refine yq (s:={s with heap:=h1}) hh fun h2 fl2 up2=>?_
 obtain ⟨k1,k2,⟨_,_,k3⟩,k4⟩:=fl2
 exact k h2 ⟨k1,k2,k3,k4⟩ (up.trans up2)
theorem Gy {e:Value} {env env':Env} (h:env.frame=env'.frame):noteFrame e env=noteFrame e env':=by
 unfold noteFrame PySem.frameOf
 rw[h]
end
def sk (h:Heap) (x T:Addr) (cls c fl:Value):Prop:= ∃oe vs oT ts,h.get? x=some oe∧(oe.cls=cls∧vs[2]?=some c)∧oe.data= .fields vs∧vs[1]?=some (.ref T)∧T≠x∧h.get? T=some oT∧oT.data= .fields ts∧ts[3]?=some fl
def aY (P:Program) (w:World):ek:=fun outer H s E e s'=> ∃(x T:Addr) (cls c:Value) (n:Nat) (H':Hp),e= .ref x∧s'.os=s.os∧AllBare s'.gens∧Un (bo outer) [] H H' s.heap s'.heap∧bQ P w H' s'.heap∧
 (s.heap.get? x=none∧s.heap.get? T=none∧H' x=none∧H' T=none)∧(sk s'.heap x T cls c .none∧b9 s'.heap H' [x,T] n c)∧E cls none H'
section
variable {X:Cx} {pins:List (Addr×Obj)} {σ:St} {H:Hp} {s:Shared} {h':Heap}
theorem Inv.jJ (I:Inv X pins σ H s) (hex:X.ex= []) {b:Addr} (e:s.heap.get? b=none):X.bB.heap.get? b=none:=by
 cases q:X.bB.heap.get? b with
 |none=>rfl
 |some o=>
  obtain ⟨o',z⟩:=I.base.there b o q (by rw[hex];simp)
  rw[e] at z;cases z
theorem Inv.apart (I:Inv X pins σ H s) (hex:X.ex= []) {b:Addr} (e:s.heap.get? b=none):X.bB.heap.get? b=none∧b≠X.env.locals∧(∀x c,X.env.cells.lookup x=some c→c≠b)∧ ∀p∈X.pn++pins,p.1≠b:=by
 refine ⟨I.jJ hex e,fun z=>?_,fun x c q z=>?_,fun p hp z=>?_⟩
 ·obtain ⟨m,⟨o,_,_,ho,_⟩,_⟩:=I.loc
  rw[←z,e] at ho;cases ho
 ·obtain ⟨v,o,ho,_⟩:=I.cell x c q
  rw[z,e] at ho;cases ho
 ·have:=(I.pin p hp).1
  rw[z,e] at this;cases this
theorem yO (I:Inv X pins σ H s) (hex:X.ex= []) (hs:X.stack=X.env::X.outer) (hfr:X.env.frame=some X.env.locals) (hd:List Addr) (hh: ∀b∈hd,X.bB.heap.get? b=none∧H b=none)
  (keep: ∀b o,s.heap.get? b=some o→b∉bo X.stack→b∉hd→h'.get? b=some o) (slot: ∀b o,s.heap.get? b=some o→b∈bo X.stack→ ∃sl,h'.get? b=some {o with slots:=sl}):
  Un X.fs [] X.lF H X.bB.heap h'∧bQ X.prog X.w H h':=by
 have eR: ∀b:Addr,b∉X.ex:=fun b=>by rw[hex];simp
 have est:bo X.stack=X.env.locals::X.fs:=by rw[hs];unfold bo;rw[List.filterMap_cons,hfr];rfl
 have hL:X.bB.heap.get? X.env.locals=none:=Heap.get?_none_of_le I.ok.above
 have nst: ∀b o,X.bB.heap.get? b=some o→b∉X.fs→b∉bo X.stack:=fun b o e hb hm=>by
  rw[est] at hm
  rcases List.mem_cons.mp hm with z|z
  ·rw[z,hL] at e;cases e
  ·exact hb z
 have nhd: ∀b o,X.bB.heap.get? b=some o→b∉hd:=fun b o e hm=>by rw[(hh b hm).1] at e;cases e
 refine ⟨⟨fun b o e n hb _=>keep b o (I.base.keep b o e n hb (eR b)) (nst b o e hb) (nhd b o e),fun b o e n hb _=>?_,fun b o e n _=>I.base.free b o e n (eR b),fun b o e _=>?_,I.base.gR,I.base.gn,I.base.gD⟩,fun a o e=>?_⟩
 ·obtain ⟨sl,q⟩:=I.base.slot b o e n hb (eR b)
  obtain ⟨sl',q'⟩:=slot b _ q (by rw[est];exact List.mem_cons_of_mem _ hb)
  exact ⟨sl',q'⟩
 ·obtain ⟨o',q⟩:=I.base.there b o e (eR b)
  by_cases hm:b∈bo X.stack
  ·obtain ⟨sl,z⟩:=slot b _ q hm
   exact ⟨_,z⟩
  ·exact ⟨o',keep b o' q hm (nhd b o e)⟩
 ·have tracked: ∀b u,H b=some u→b∉bo X.stack∧b∉hd:=fun b u q=>⟨fun hm=>(by rw[I.rR b hm] at q;cases q),fun hm=>(by rw[(hh b hm).2] at q;cases q)⟩
  refine (I.ao a o e).fX (fun b u hb q=>?_) (fun _ q=>q) fun _ _ q=>q
  rcases hb with rfl|hb
  ·exact keep _ _ q (tracked _ _ e).1 (tracked _ _ e).2
  ·exact keep _ _ q (tracked _ _ hb).1 (tracked _ _ hb).2
theorem yG {l:List Env} {env:Env} (he:env∈l) {a:Addr} (ha:env.frame=some a):a∈bo l:=List.mem_filterMap.mpr ⟨env,he,ha⟩
theorem oY {P:Addr→Prop} {x T:Addr} (h1:P x) (h2:P T): ∀b∈ [x,T],P b:=fun b hb=>by
 rcases List.mem_cons.mp hb with rfl|hb
 ·exact h1
 ·rcases List.mem_cons.mp hb with rfl|hb
  ·exact h2
  ·cases hb
theorem Inv.moved (I:Inv X pins σ H s) (ch:List Addr) (hch: ∀b∈ch,X.bB.heap.get? b=none∧b≠X.env.locals∧(∀x c,X.env.cells.lookup x=some c→c≠b)∧(∀p∈X.pn++pins,p.1≠b)∧H b=none)
  (keep: ∀b o,s.heap.get? b=some o→b∉bo X.stack→b∉ch→h'.get? b=some o) (slot: ∀b o,s.heap.get? b=some o→b∈bo X.stack→ ∃sl,h'.get? b=some {o with slots:=sl}):Inv X pins σ H {s with heap:=h'}:=by
 have neL: ∀b o,X.bB.heap.get? b=some o→b≠X.env.locals:=fun b o e=>Nat.ne_of_lt (Nat.lt_of_lt_of_le (Heap.lt_size e) I.ok.above)
 have neC: ∀b o,X.bB.heap.get? b=some o→b∉ch:=fun b o e hb=>by rw[(hch b hb).1] at e;cases e
 have nst: ∀b o,X.bB.heap.get? b=some o→b∉X.fs→b∉bo X.stack:=fun b o e hb hm=>(List.mem_cons.mp (I.nV b hm)).elim (neL b o e) hb
 have any: ∀b o,s.heap.get? b=some o→b∉ch→ ∃sl,h'.get? b=some {o with slots:=sl}:=fun b o e hb=>by
  by_cases hm:b∈bo X.stack
  ·exact slot b o e hm
  ·exact ⟨o.slots,keep b o e hm hb⟩
 have cellK: ∀x c,X.env.cells.lookup x=some c→ ∀v,s.heap.IsCell c v→h'.IsCell c v:=fun x c e v ⟨o,ho,hd⟩=>by
  obtain ⟨sl,q⟩:=any c o ho fun z=>(hch c z).2.2.1 x c e rfl
  exact ⟨_,q,hd⟩
 have tracked: ∀b u,H b=some u→b∉bo X.stack∧b∉ch:=fun b u q=>⟨fun hm=>(by rw[I.rR b hm] at q;cases q),fun hm=>(by rw[(hch b hm).2.2.2.2] at q;cases q)⟩
 refine ⟨I.ok,I.os,I.bare,⟨fun b o e n hb hx=>?_,fun b o e n hb hx=>?_,fun b o e n hx=>I.base.free b o e n hx,fun b o e hx=>?_,I.base.gR,I.base.gn,I.base.gD⟩,?_,fun x c e=>?_,I.free,I.dN,fun p hp=>?_,fun a o e=>?_,I.len⟩
 ·exact keep b o (I.base.keep b o e n hb hx) (nst b o e hb) (neC b o e)
 ·obtain ⟨sl,e1⟩:=I.base.slot b o e n hb hx
  obtain ⟨sl',e2⟩:=any b _ e1 (neC b o e)
  exact ⟨sl',e2⟩
 ·obtain ⟨o',e1⟩:=I.base.there b o e hx
  obtain ⟨sl,e2⟩:=any b o' e1 (neC b o e)
  exact ⟨_,e2⟩
 ·obtain ⟨m,⟨o,es,ep,ho,r⟩,hl⟩:=I.loc
  obtain ⟨sl,q⟩:=any _ o ho fun z=>(hch _ z).2.1 rfl
  refine ⟨m,⟨_,es,ep,q,r⟩,fun i x v e1 e2 e3=>?_⟩
  obtain ⟨u,rr,l⟩:=hl i x v e1 e2 e3
  refine ⟨u,rr,?_⟩
  rcases l with l|⟨k,c,e,z⟩
  ·exact .inl l
  ·exact .inr ⟨k,c,e,cellK x c e _ z⟩
 ·obtain ⟨v,z⟩:=I.cell x c e
  exact ⟨v,cellK x c e v z⟩
 ·obtain ⟨e,n,ne,nf,d⟩:=I.pin p hp
  exact ⟨keep p.1 p.2 e (fun hm=>(List.mem_cons.mp (I.nV _ hm)).elim ne nf) (fun z=>(hch p.1 z).2.2.2.1 p hp rfl),n,ne,nf,d⟩
 ·refine (I.ao a o e).fX (fun b u hb q=>?_) (fun _ q=>q) fun _ _ q=>q
  rcases hb with rfl|hb
  ·exact keep _ _ q (tracked _ _ e).1 (tracked _ _ e).2
  ·exact keep _ _ q (tracked _ _ hb).1 (tracked _ _ hb).2
theorem sE (I:Inv X pins σ H s) {x T:Addr} {cls c fl:Value} (ht:sk s.heap x T cls c fl):gm (PySem.W.hideAll s.heap (x::T::bo X.stack)) X.stack x cls c fl s.heap:=by
 obtain ⟨oe,vs,oT,ts,g1,g2,g3,g4,g5,g6,g7,g8⟩:=ht
 exact ⟨fun b o q=>PySem.W.of_hideAll _ q,PySem.W.hideAll_none _ (by simp),PySem.W.funFrames_hide I.stack (fun env henv a ha=>List.mem_cons_of_mem _ (List.mem_cons_of_mem _ (yG henv ha))),oe,vs,T,oT,ts,g1,g2,g3,g4,PySem.W.hideAll_none _ (by simp),g5,g6,g7,g8⟩
theorem sG (I:Inv X pins σ H s) (up:s.heap.UpToSlots h'): ∀b o,s.heap.get? b=some o→b∈bo X.stack→(∀vs,o.data≠ .fields vs)∧ ∃sl,h'.get? b=some {o with slots:=sl}:=fun b o q hm=>by
 obtain ⟨_,o2,q2,nf⟩:=I.stack.mem hm
 rw[q] at q2;cases q2
 exact ⟨nf,up b o q nf⟩
theorem rP {x T:Addr} (k1:(PySem.W.hideAll s.heap (x::T::bo X.stack)).StaysIn h'): ∀b o,s.heap.get? b=some o→b∉bo X.stack→b∉ [x,T]→h'.get? b=some o:=fun b o q nb nd=>k1 b o (PySem.W.hideAll_get _ q fun hm=>by
 rcases List.mem_cons.mp hm with z|hm
 ·exact nd (by rw[z];simp)
 ·rcases List.mem_cons.mp hm with z|hm
  ·exact nd (by rw[z];simp)
  ·exact nb hm)
theorem yi (I:Inv X pins σ H s) {x T T':Addr} {oT':Obj} {ts':Array Value} (up:s.heap.UpToSlots h') (t5:(PySem.W.hideAll s.heap (x::T::bo X.stack)).get? T'=none) (t6:T'≠x) (t7:h'.get? T'=some oT') (t8:oT'.data= .fields ts'):s.heap.get? T'=none∨T'=T:=by
 cases q:s.heap.get? T' with
 |none=>exact .inl rfl
 |some o=>
  by_cases hm:T'∈x::T::bo X.stack
  ·rcases List.mem_cons.mp hm with z|hm
   ·exact absurd z t6
   ·rcases List.mem_cons.mp hm with z|hm
    ·exact .inr z
    ·obtain ⟨nf,sl,z⟩:=sG I up T' o q hm
     rw[t7] at z
     cases z
     exact absurd t8 (nf ts')
  ·have:=PySem.W.hideAll_get _ q hm
   rw[t5] at this;cases this
theorem yp (I:Inv X pins σ H s) {x T T':Addr} {n:Nat} {c:Value} (k1:(PySem.W.hideAll s.heap (x::T::bo X.stack)).StaysIn h') (e:s.heap.get? T'=none∨T'=T) (q:b9 s.heap H [x,T] n c):b9 h' H [x,T'] n c:=
 q.move fun a o vs g1 g2 g3 g4=>⟨rP k1 a o g1 (fun hm=>by obtain ⟨_,o2,q2,nf⟩:=I.stack.mem hm;rw[g1] at q2;cases q2;exact nf vs g2) g4,g3,fun hm=>by
  rcases List.mem_cons.mp hm with z|hm
  ·exact g4 (by rw[z];simp)
  ·rcases List.mem_cons.mp hm with z|hm
   ·rcases e with e|e
    ·rw[←z,g1] at e;cases e
    ·exact g4 (by rw[z,e];simp)
   ·cases hm⟩
end
def gY (X:Cx) (E:XK):Prop:= ∀(pins:List (Addr×Obj)) (σ:St) (H:Hp) (s:Shared) (x T:Addr) (cls c fl:Value) (n:Nat),Inv X pins σ H s→(X.bB.heap.get? x=none∧X.bB.heap.get? T=none∧H x=none∧H T=none)→sk s.heap x T cls c fl→b9 s.heap H [x,T] n c→E cls none H→X.xe (.ref x) s
def kS (X:Cx) (E:XK):Prop:= ∀(pins:List (Addr×Obj)) (σ:St) (H:Hp) (s:Shared) (h1:Heap) (e:Addr) (oe:Obj) (vs:Array Value) (c:Value) (n:Nat),Inv X pins σ H s→(∀b o,s.heap.get? b=some o→h1.get? b=some o)→s.heap.get? e=none→h1.get? e=some oe→oe.data= .fields vs→vs[1]?=some .none→vs[2]?=some c→b9 s.heap H [] n c→E oe.cls none H→X.xe (.ref e) {s with heap:=h1}
abbrev eD (P:Program) (w:World) (K:PySem.W.Frag) (mg:Str→Option Value) (base:Heap) (N:List Str) (qual:Str) (scope:Scope) (f:Addr) (cd:Value) (A:Around) (outer:List Env) (s0:Shared) (H0:Hp) (E:XK) (cb:Bool) (ps:List (Addr×Obj)):Cx:={fK (aY P w) P w K mg base N qual scope f cd A outer s0 H0 E with calm:=cb,pn:=ps}
section
variable {P:Program} {w:World} {K:PySem.W.Frag} {mg:Str→Option Value} {base:Heap} {N:List Str} {qual:Str} {scope:Scope} {f:Addr} {cd:Value} {A:Around} {outer:List Env} {s0:Shared} {H0:Hp} {E:XK} {cb:Bool} {ps:List (Addr×Obj)}
theorem AW:gY (eD P w K mg base N qual scope f cd A outer s0 H0 E cb ps) E:=by
 intro pins σ H s x T cls c fl n I hh ht hq he
 refine OL I.ok.frames rfl (sE I ht) fun h' fl up=>?_
 obtain ⟨k1,k2,k3,oe',vs',T',oT',ts',t1,t2,t3,t4,t5,t6,t7,t8,t9⟩:=fl
 have hd:=oY (P:=fun b=>s0.heap.get? b=none∧H b=none) ⟨hh.1,hh.2.2.1⟩ ⟨hh.2.1,hh.2.2.2⟩
 obtain ⟨un',hok'⟩:=yO (h':=h') I rfl rfl rfl [x,T] hd (rP k1) (fun b o q hm=>(sG I up b o q hm).2)
 have ent:=yi I up t5 t6 t7 t8
 have hT':s0.heap.get? T'=none∧H T'=none:=by
  rcases id ent with q|rfl
  ·exact ⟨I.jJ rfl q,lC I.ao q⟩
  ·exact hd T' (by simp)
 exact ⟨x,T',cls,c,n,H,rfl,I.os,I.bare,un',hok',⟨hh.1,hT'.1,hh.2.2.1,hT'.2⟩,⟨⟨oe',vs',oT',ts',t1,t2,t3,t4,t6,t7,t8,t9⟩,yp I k1 ent hq⟩,he⟩
theorem DW:Passes (aY P w) (eD P w K mg base N qual scope f cd A outer s0 H0 E cb ps) E:=by
 intro pins σ H s e s' I hx
 obtain ⟨x,T,cls,c,n,H',rfl,hos,hbare,un,ao,⟨hx0,hT0,hxn,hTn⟩,⟨ht,hq⟩,he⟩:=hx
 have I1:Inv (eD P w K mg base N qual scope f cd A outer s0 H0 E cb ps) pins σ H' s':=I.jT (ch:= []) hos un ao hbare (fun b hb=>absurd hb (by simp))
 exact AW pins σ H' s' x T cls c .none n I1 ⟨I.jJ rfl hx0,I.jJ rfl hT0,hxn,hTn⟩ ht hq he
theorem Ay:kS (eD P w K mg base N qual scope f cd A outer s0 H0 E cb ps) E:=by
 intro pins σ H s h1 e oe vs c n I kp ne ge de f1 f2 hq he
 have hff:=I.stack
 show wpAny _ _ (leaving _ (.ref e)) _ _ _
 unfold leaving
 have nh:(PySem.W.hideAll s.heap (bo (eD P w K mg base N qual scope f cd A outer s0 H0 E cb ps).stack)).get? e=none:=by
  cases q:(PySem.W.hideAll s.heap (bo (eD P w K mg base N qual scope f cd A outer s0 H0 E cb ps).stack)).get? e with
  |none=>rfl
  |some o=>rw[PySem.W.of_hideAll _ q] at ne;cases ne
 refine wpAny_bind (DH (s:={s with heap:=h1}) (base:=PySem.W.hideAll s.heap (bo (eD P w K mg base N qual scope f cd A outer s0 H0 E cb ps).stack)) I.ok.frames rfl ((PySem.W.funFrames_hide hff (fun env henv a ha=>yG henv ha)).of_keeps fun b o q nf=>⟨o,kp b o q,rfl⟩) ge (fun b o q=>kp b o (PySem.W.of_hideAll _ q)) nh de f1 f2 fun h2 o2 up1=>?_)
 refine yq (s:={s with heap:=h2}) o2 fun h' fl up2=>?_
 obtain ⟨k1,k2,k3,oe',vs',T',oT',ts',t1,t2,t3,t4,t5,t6,t7,t8,t9⟩:=fl
 have slot: ∀b o,s.heap.get? b=some o→b∈bo (eD P w K mg base N qual scope f cd A outer s0 H0 E cb ps).stack→(∀vs,o.data≠ .fields vs)∧ ∃sl,h'.get? b=some {o with slots:=sl}:=fun b o q hm=>by
  obtain ⟨_,o2,q2,nf⟩:=hff.mem hm
  rw[q] at q2;cases q2
  exact ⟨nf,(up1.trans up2) b o (kp b o q) nf⟩
 have keep: ∀b o,s.heap.get? b=some o→b∉bo (eD P w K mg base N qual scope f cd A outer s0 H0 E cb ps).stack→h'.get? b=some o:=fun b o q nb=>k1 b o (PySem.W.hideAll_get _ q nb)
 obtain ⟨un',hok'⟩:=yO (h':=h') I rfl rfl rfl [] (fun b hb=>absurd hb (by simp)) (fun b o q nb _=>keep b o q nb) (fun b o q hm=>(slot b o q hm).2)
 have new:s.heap.get? T'=none:=by
  cases q:s.heap.get? T' with
  |none=>rfl
  |some o=>
   by_cases hm:T'∈bo (eD P w K mg base N qual scope f cd A outer s0 H0 E cb ps).stack
   ·obtain ⟨nf,sl,z⟩:=slot T' o q hm
    rw[t7] at z
    cases z
    exact absurd t8 (nf ts')
   ·have:=PySem.W.hideAll_get _ q hm
    rw[t5] at this;cases this
 exact ⟨e,T',oe.cls,c,n,H,rfl,I.os,I.bare,un',hok',⟨I.jJ rfl ne,I.jJ rfl new,lC I.ao ne,lC I.ao new⟩,⟨⟨oe',vs',oT',ts',t1,t2,t3,t4,t6,t7,t8,t9⟩,hq.move fun a o vs g1 g2 g3 g4=>⟨keep a o g1 (fun hm=>by obtain ⟨_,o2,q2,nf⟩:=hff.mem hm;rw[g1] at q2;cases q2;exact nf vs g2),g3,fun hm=>by
  rcases List.mem_cons.mp hm with z|hm
  ·rw[←z,g1] at ne;cases ne
  ·rcases List.mem_cons.mp hm with z|hm
   ·rw[←z,g1] at new;cases new
   ·cases hm⟩⟩,he⟩
end
section
variable {P:Program} {w:World} {K:PySem.W.Frag} {mg:Str→Option Value} {base:Heap} {N:List Str} {qual:Str} {scope:Scope} {f:Addr} {cd:Value} {A:Around} {outer:List Env} {s0:Shared} {H0:Hp} {E:XK}
theorem jS:gY (fK (aY P w) P w K mg base N qual scope f cd A outer s0 H0 E) E:=AW (cb:=true) (ps:= [])
theorem aN:Passes (aY P w) (fK (aY P w) P w K mg base N qual scope f cd A outer s0 H0 E) E:=DW (cb:=true) (ps:= [])
theorem eE:kS (fK (aY P w) P w K mg base N qual scope f cd A outer s0 H0 E) E:=Ay (cb:=true) (ps:= [])
end
def kU:List Value:= [.type "Exception", .type "BaseException", .type "object"]
def iD (K:PySem.W.Frag) (C:Addr):Prop:=PySem.W.excIn K C kU "Exception.__new__" =true
theorem iD.obj {K:PySem.W.Frag} {h:Heap} {C:Addr} (X:K.In h) (q:iD K C): ∃bm N nm qn bs hdct sn sub ab col dd k0 k1 k2 k3 k5 mN,h.get? C=some (excClassObj nm qn C N bs bm hdct sn sub ab col dd k0 k1 k2 k3 k5 "Exception.__new__")∧h.Ns N mN∧mN "__init__" =none∧OwnTail h kU bm:=by
 unfold iD PySem.W.excIn at q
 split at q
 ·rename_i dd cd sl ho
  split at q
  ·rename_i C' bm k0 k1 k2 k3 n k5 hm hs
   simp only [Bool.and_eq_true,beq_iff_eq,Bool.not_eq_true'] at q
   obtain ⟨⟨⟨⟨⟨rfl,rfl⟩,hdel⟩,ht⟩,ao⟩,hni⟩:=q
   obtain ⟨nm,bs,mro,ns,qn,hd,sn,sub,ab,col,del⟩:=cd
   dsimp only at hm hdel ao hni
   subst hm hdel
   have hsl:sl= #[k0,k1,k2,k3,some (.builtin "Exception.__new__"),k5]:=by
    obtain ⟨l⟩:=sl
    simp only at hs
    rw[hs]
   subst hsl
   exact ⟨bm,ns,nm,qn,bs,hd,sn,sub,ab,col,dd,k0,k1,k2,k3,k5,_,X _ _ ho, .of_isNs (PySem.W.isNs_of_in X ao),PySem.W.nsMap_none_of_in X ao hni,PySem.W.tail_of_in X ht⟩
  ·cases q
 ·cases q
def vw (E:XK) (C:Addr):TS:=fun _ _ H=>E (.ref C) none H
theorem d8 {X:Cx} {x:Str} {C:Addr} {E:XK} {np cpos pos:Pos} (hc:X.calm=true) (hg:Gl X x) (hm:X.mg x=some (.ref C)) (hC:iD X.K C) (hr:kS X E) (hd:(x==("__debug__" :Str))=false:=by decide):
  PS X (.Raise (some (.Call (.Name x np) [] [] cpos)) none pos) (vw E C):=by
 intro pins s σ H D I h
 obtain ⟨bm,N,nm,qn,bs,hdct,sn,sub,ab,col,dd,k0,k1,k2,k3,k5,mN,g1,g2,g3,g4⟩:=hC.obj I.b7
 exact wpAny_Raise_call_subT (C:=C) (nm:=nm) (q:=qn) (N:=N) (bs:=bs) (bm:=bm) (hdct:=hdct) (sn:=sn) (sub:=sub) (ab:=ab) (col:=col) (dd:=dd) (k0:=k0) (k1:=k1) (k2:=k2) (k3:=k3) (k5:=k5)
  F.excBase_Exception (mN:=mN) (g4.hasType F.excBase_Exception.hasBase) (I.ok.hd hc) rfl g3 (kh I hg hm ⟨rfl,evalArgs_empty ⟨rfl,Nat.zero_le _,g1,g2,g4,fun h' e hx=>by
   obtain ⟨t,ht,_⟩:=hx.there
   exact hr pins σ H s h' e _ _ .none 0 I hx.keeps hx.new ht rfl rfl rfl .nil h⟩⟩ hd)
theorem aH.bO {P:Program} {w:World} {K:PySem.W.Frag} {mg:Str→Option Value} {base:Heap} {x qual:Str} {st:Stmt} {f:Addr} {fd:FuncData} {N ps:List Str} {k:Nat} {sp:Sp} (F:aH K x qual st f fd) (S:aK N ps (aB st)) (len: ∀vs H Q E,sp vs H Q E→vs.length=ps.length)
  (hbody: ∀(cdv:Value) (A:Around) (outer:List Env) (s:Shared) (H:Hp) (vs:List V) (Q:VK) (E:XK),aE k (A.deeper (envOfC qual (aB st) s.heap.objs.size f cdv))→sp vs H Q E→
   ∃t,cS (fK (aY P w) P w K mg base N qual (aB st) f cdv A outer s H E) (lI st) t∧t {nx:=fun _ H'=>Q .aw H',rt:=Q} (start N vs) H):az P w K mg base (aY P w) (k+1) f fd ps sp:=by
 obtain ⟨oc,od,kV,doc,pm,an,cdv,ct,osl,rfl,lk,hcd⟩:=F.ex
 exact Fm lk hcd S len fun A outer s H vs Q E hr hsp=>hbody cdv A outer s H vs Q E hr hsp
end L2
namespace L2
open PySem PySem.Spec PyProof.Rows
section
variable {X:Cx} {pins:List (Addr×Obj)} {σ:St} {H:Hp} {s:Shared}
theorem MB {α:Type} {M:Model} {A:Around} {E:Value→Shared→Prop} {what:String} {s:Shared} {x T:Addr} {oe oT:Obj} {vs ts:Array Value} {cenv:Env} {Q:α→Shared→Prop} (g1:s.heap.get? x=some oe) (g3:oe.data= .fields vs) (g4:vs[1]?=some (.ref T)) (g7:s.heap.get? T=some oT) (g8:oT.data= .fields ts) (h3:3<ts.size)
  (k:E (.ref x) {s with heap:=s.heap.update T (Obj.mapFields (·.setIfInBounds 3 (cenv.frame.elim Value.none fun f=>rawInt f)))}):wpAny M A (PySem.passOn what (.ref x) cenv) Q E s:=by
 unfold PySem.passOn
 refine wpAny_bind (wpAny_field g1 g3 g4 ?_)
 rw[if_neg (by simp)]
 unfold setFlight
 refine wpAny_bind (wpAny_bind (wpAny_field g1 g3 g4 ?_))
 rw[if_pos (by simp)]
 exact wpAny_setField g7 g8 h3 (wpAny_throw k)
end
section
variable {X:Cx}
theorem Gq {E:XK} {pins:List (Addr×Obj)} {s:Shared} {σ:St} {H:Hp} {Q:VK} {elt tg iter:Expr} {ifs:List Expr} {scope:Scope} {own:List (Str×Nat)} {pos pos':Pos} {wi:TI} {g:TG} {tt:TT} {te:TE} {use:Option (Value→Sem Unit)} {Qf:Value→Shared→Prop}
  (hex:X.ex= []) (hst:X.stack=X.env::X.outer) (hfr:X.env.frame=some X.env.locals) (hair:gY X E) (hc:X.calm=true) (hN:X.N.Nodup) (I:Inv X pins σ H s) (hi:PI X tg iter wi) (ok:iW X.N X.env.scope scope own)
  (hg: ∀(s:Shared) (H:Hp) (C:Addr) (cl:List (Str×Addr)) (fp:List Addr) (xb:Value→Shared→Prop),PG ((X.bz s H scope (compEnvC scope cl C X.env) fp).bP xb) tg g) (ht: ∀(s:Shared) (H:Hp) (C:Addr) (cl:List (Str×Addr)) (fp:List Addr) (xb:Value→Shared→Prop),jX ((X.bz s H scope (compEnvC scope cl C X.env) fp).bP xb) ifs tt)
  (he: ∀(s:Shared) (H:Hp) (C:Addr) (cl:List (Str×Addr)) (fp:List Addr) (xb:Value→Shared→Prop),Passes (aY X.prog X.w) ((X.bz s H scope (compEnvC scope cl C X.env) fp).bP xb) E→PE ((X.bz s H scope (compEnvC scope cl C X.env) fp).bP xb) elt te) (hs: ∀x,foldedSetIterable iter X.env x=pure x)
  (h:iH wi g tt te (own.map (·.2)) σ H Q)
  (hRR: ∀D C s' m H',Inv X pins σ H' s'→Q (.ref D) H'→s'.heap.Ns C m→eG X pins H' C→compPost (model X.prog X.w) X.A X.xe use Qf (.ref D) C (.ok .next) s'):
  wpAny (model X.prog X.w) X.A (comprehension (.ListComp elt [⟨tg,iter,ifs,0⟩] scope pos) scope X.env pos' (newList []) false (eval iter X.env) use) Qf X.xe s:=by
 have hfree: ∀y∈scope.names,y.2= .free→ ∃c,X.env.cells.lookup y.1=some c:=fun y hy e=>by
  rcases ok.free y hy e with k|k
  ·exact I.ok.has _ (.inl k)
  ·exact I.ok.has _ (.inr k)
 refine wpAny_comprehension_free (use:=use) rfl hs (ER hfree) ok.kind (fun y hy e=>by rw[ok.uniq y hy,e])
  (aI (hi pins s σ H _ I h) fun xv s1 hx=>aI hx fun itv s2 h2=>?_)
 obtain ⟨it,fp,tn,J,H2,e,I2,T,st2,f2,q⟩:=h2
 subst e
 refine wpAny_newObj_type (Bv ?_) (by show 0≤sizeLine;decide)
 generalize hD:s2.heap.objs.size=D
 have hDn:H2 D=none:=I2.ao.fresh (Nat.le_of_eq hD)
 obtain ⟨W,⟨m0,w0⟩,turn⟩:=q D hDn
 generalize hs3:({s2 with heap:=s2.heap.push {cls:= .type "list",data:= .seq ([]:List Value).toArray}}:Shared)=s3
 have I3:Inv X pins σ (upd H2 D (.lst [])) s3:=by
  rw[←hs3]
  refine I2.laid (t':=s2.toks) (fun b o e=>Heap.get?_push_of_some _ e) (Nat.le_of_eq hD) ⟨Nat.zero_le _, [],0, .nil,?_⟩
  rw[←hD]
  exact Heap.get?_push_size _ rfl
 have h3:s3.heap=s2.heap.push {cls:= .type "list",data:= .seq ([]:List Value).toArray}:=by rw[←hs3]
 have sz: ∀b∈fp,b<s2.heap.objs.size:=fun b hb=>by
  obtain ⟨o,e,_⟩:=T.obj _ _ st2 b hb
  exact Heap.lt_size e
 have f3: ∀b∈fp,eG X pins (upd H2 D (.lst [])) b∧b<s3.heap.objs.size:=fun b hb=>by
  have hlt:=sz b hb
  refine ⟨⟨?_,(f2 b hb).2⟩,by rw[h3,Heap.size_push];exact Nat.lt_succ_of_lt hlt⟩
  rw[aL (by rw[←hD];exact Nat.ne_of_lt hlt)]
  exact (f2 b hb).1
 have st3:tn 0 s3.heap:=T.keep _ _ _ st2 fun b _ o e=>by rw[h3];exact Heap.get?_push_of_some _ e
 have I4:=(BI I3 ok hN f3).bP (notedBy (model X.prog X.w) X.A (compEnvC scope (cellsFrom (s3.heap.objs.size+1) scope.names (bY X.env.cells scope.names [])) s3.heap.objs.size X.env) fun e s'=>compPost (model X.prog X.w) X.A X.xe use Qf (.ref D) s3.heap.objs.size (.error e) s')
 have pg:=hg s3 (upd H2 D (.lst [])) s3.heap.objs.size (cellsFrom (s3.heap.objs.size+1) scope.names (bY X.env.cells scope.names [])) fp (notedBy (model X.prog X.w) X.A (compEnvC scope (cellsFrom (s3.heap.objs.size+1) scope.names (bY X.env.cells scope.names [])) s3.heap.objs.size X.env) fun e s'=>compPost (model X.prog X.w) X.A X.xe use Qf (.ref D) s3.heap.objs.size (.error e) s')
 have pt:=ht s3 (upd H2 D (.lst [])) s3.heap.objs.size (cellsFrom (s3.heap.objs.size+1) scope.names (bY X.env.cells scope.names [])) fp (notedBy (model X.prog X.w) X.A (compEnvC scope (cellsFrom (s3.heap.objs.size+1) scope.names (bY X.env.cells scope.names [])) s3.heap.objs.size X.env) fun e s'=>compPost (model X.prog X.w) X.A X.xe use Qf (.ref D) s3.heap.objs.size (.error e) s')
 have pe:=he s3 (upd H2 D (.lst [])) s3.heap.objs.size (cellsFrom (s3.heap.objs.size+1) scope.names (bY X.env.cells scope.names [])) fp (notedBy (model X.prog X.w) X.A (compEnvC scope (cellsFrom (s3.heap.objs.size+1) scope.names (bY X.env.cells scope.names [])) s3.heap.objs.size X.env) fun e s'=>compPost (model X.prog X.w) X.A X.xe use Qf (.ref D) s3.heap.objs.size (.error e) s')
 show codeAny _ _ (.compStart (.ListComp elt [⟨tg,iter,ifs,0⟩] scope pos) 0 (.ref it) (.ref D) (compEnvC scope (cellsFrom (s3.heap.objs.size+1) scope.names (bY X.env.cells scope.names [])) s3.heap.objs.size X.env)) (compPost (model X.prog X.w) X.A X.xe use Qf (.ref D) s3.heap.objs.size) {s3 with heap:=pushCells (s3.heap.push {cls:= .type "dict",data:= .dict #[]}) scope.names}
 have nfp: ∀b∈fp,(upd H2 D (.lst [])) b=none:=fun b hb=>(f3 b hb).1.1
 generalize hce:compEnvC scope (cellsFrom (s3.heap.objs.size+1) scope.names (bY X.env.cells scope.names [])) s3.heap.objs.size X.env=ce at I4 pg pt pe⊢
 have cL:ce.locals=s3.heap.objs.size:=by subst hce;rfl
 have cF:ce.frame=X.env.frame:=by subst hce;rfl
 generalize hH3:upd H2 D (.lst [])=H3 at I3 I4 pg pt pe w0 nfp f3
 generalize hs4:({s3 with heap:=pushCells (s3.heap.push {cls:= .type "dict",data:= .dict #[]}) scope.names}:Shared)=s4 at I4⊢
 generalize hxb:(notedBy (model X.prog X.w) X.A ce fun e s'=>compPost (model X.prog X.w) X.A X.xe use Qf (.ref D) s3.heap.objs.size (.error e) s')=xb at I4 pg pt pe
 have hp:Passes (aY X.prog X.w) ((X.bz s3 H3 scope ce fp).bP xb) E:=by
  intro pins' σ' Hb sb e s' Ib hx
  obtain ⟨x,T0,cls,a0,n0,H',rfl,hos,hbare,un,ao,⟨hx0,hT0,hxn,hTn⟩,⟨ht,hq⟩,he'⟩:=hx
  have I1:Inv ((X.bz s3 H3 scope ce fp).bP xb) pins' σ' H' s':=Ib.jT (ch:= []) hos un ao hbare (fun b hb=>absurd hb (by simp))
  have hfc: ∀b∈fp,(b∈X.ex∨X.bB.heap.objs.size≤b)∧b≠X.env.locals∧(∀x c,X.env.cells.lookup x=some c→c≠b)∧ ∀p∈X.pn++pins,p.1≠b:=fun b hb=>⟨(f3 b hb).1.2.2.2.1,(f3 b hb).1.2.1,(f3 b hb).1.2.2.2.2.1,(f3 b hb).1.2.2.2.2.2⟩
  have Id0:Inv X pins σ Hb sb:=I3.jT (ch:=fp) Ib.os Ib.base Ib.ao Ib.bare hfc
  have Id:Inv X pins σ H' s':=I3.jT (ch:=fp) I1.os I1.base I1.ao I1.bare hfc
  have nC:H' s3.heap.objs.size=none:=by
   have z:H' ce.locals=none:=I1.free
   rw[cL] at z
   exact z
  obtain ⟨mC,hnC,_⟩:=I1.loc
  have hnC:s'.heap.Ns ce.locals mC:=hnC
  rw[cL] at hnC
  rw[←hxb]
  show wpAny (model X.prog X.w) X.A (noteFrame (.ref x) ce) _ _ s'
  rw[Gy cF]
  refine xn (by rw[Id.ok.frames,hst]) hfr (by rw[←hst];exact sE (fl:= .none) Id ht) fun h1 hh up=>?_
  obtain ⟨k1,k2,k3,oe',vs',T',oT',ts',t1,t2,t3,t4,t5,t6,t7,t8,t9⟩:=hh
  have hn1:h1.Ns s3.heap.objs.size mC:=up.ns hnC
  have hxC:x≠s3.heap.objs.size:=fun z=>by
   obtain ⟨o,es,ep,ho,hd,_⟩:=hn1
   rw[←z,t1] at ho;cases ho;rw[t3] at hd;cases hd
  have hTC:T'≠s3.heap.objs.size:=fun z=>by
   obtain ⟨o,es,ep,ho,hd,_⟩:=hn1
   rw[←z,t7] at ho;cases ho;rw[t8] at hd;cases hd
  refine ⟨mC,hn1,fun h2 sb2 cenv _=>?_⟩
  have g1:h2.get? x=some oe':=(sb2.2 x hxC).trans t1
  have g7:h2.get? T'=some oT':=(sb2.2 T' hTC).trans t7
  have hs3:3<ts'.size:=(Array.getElem?_eq_some_iff.mp t9).1
  refine MB (s:={s' with heap:=h2}) g1 t3 t4 g7 t8 hs3 ?_
  have hent:=yi Id up t5 t6 t7 t8
  have ap: ∀b∈ [x,T0,T',s3.heap.objs.size],X.bB.heap.get? b=none∧b≠X.env.locals∧(∀x c,X.env.cells.lookup x=some c→c≠b)∧(∀p∈X.pn++pins,p.1≠b)∧H' b=none:=fun b hb=>by
   have old: ∀{b:Addr},sb.heap.get? b=none→H' b=none→X.bB.heap.get? b=none∧b≠X.env.locals∧(∀x c,X.env.cells.lookup x=some c→c≠b)∧(∀p∈X.pn++pins,p.1≠b)∧H' b=none:=fun {b} q n=>by
    obtain ⟨z1,z2,z3,z4⟩:=Id0.apart hex q
    exact ⟨z1,z2,z3,z4,n⟩
   rcases List.mem_cons.mp hb with rfl|hb
   ·exact old hx0 hxn
   ·rcases List.mem_cons.mp hb with rfl|hb
    ·exact old hT0 hTn
    ·rcases List.mem_cons.mp hb with rfl|hb
     ·rcases hent with q|rfl
      ·obtain ⟨z1,z2,z3,z4⟩:=Id.apart hex q
       exact ⟨z1,z2,z3,z4,lC Id.ao q⟩
      ·exact old hT0 hTn
     ·rcases List.mem_cons.mp hb with rfl|hb
      ·obtain ⟨_,z2,_,_,z5,z6⟩:=I3.gG (Nat.le_refl _) nC
       exact ⟨I3.jJ hex (Heap.get?_none_of_le (Nat.le_refl _)),z2,z5,z6,nC⟩
      ·cases hb
  have frC: ∀b∈bo X.stack,b≠s3.heap.objs.size:=fun b hb z=>by
   obtain ⟨_,o,ho,_⟩:=I3.stack.mem hb
   rw[z] at ho
   exact absurd (Heap.lt_size ho) (Nat.lt_irrefl _)
  have Im:=Id.moved (h':=h2.update T' (Obj.mapFields (·.setIfInBounds 3 (cenv.frame.elim Value.none fun f=>rawInt f)))) [x,T0,T',s3.heap.objs.size] ap
   (fun b o q nb nd=>by
    have n1:b∉ [x,T0]:=fun z=>nd (by
     rcases List.mem_cons.mp z with rfl|z
     ·simp
     ·rcases List.mem_cons.mp z with rfl|z
      ·simp
      ·cases z)
    have n2:b≠T':=fun z=>nd (by rw[z];simp)
    have n3:b≠s3.heap.objs.size:=fun z=>nd (by rw[z];simp)
    rw[Heap.get?_update_other _ _ (Ne.symm n2),sb2.2 b n3]
    exact rP k1 b o q nb n1)
   (fun b o q hm=>by
    obtain ⟨nf,sl,z⟩:=sG Id up b o q hm
    have n2:b≠T':=fun w=>by
     rw[w,t7] at z
     cases z
     exact nf ts' t8
    refine ⟨sl,?_⟩
    rw[Heap.get?_update_other _ _ (Ne.symm n2),sb2.2 b (frC b hm)]
    exact z)
  refine hair pins σ H' _ x T' cls a0 (cenv.frame.elim Value.none fun f=>rawInt f) n0 Im ⟨(ap x (by simp)).1,(ap T' (by simp)).1,hxn,(ap T' (by simp)).2.2.2.2⟩ ?_ ((yp Id k1 hent hq).move fun a o vs q1 q2 q3 q4=>⟨?_,q3,q4⟩) he'
  rotate_left
  ·rw[Heap.get?_update_other _ _ (fun z=>q4 (by rw[z];simp)),sb2.2 a (fun z=>by
    obtain ⟨o2,es,ep,ho,hd,_⟩:=hn1
    rw[←z,q1] at ho;cases ho;rw[q2] at hd;cases hd)]
   exact q1
  exact ⟨oe',vs',_,_,(Heap.get?_update_other _ _ t6).trans g1,t2,t3,t4,t6,Heap.get?_update_self _ g7 (Obj.isFreed_of_fields (Obj.data_mapFields t8 _)),Obj.data_mapFields t8 _,by simp [hs3]⟩
 subst hxb
 have st4:tn 0 s4.heap:=T.keep _ _ _ st3 fun b _ o e=>by rw[←hs4];exact pushCells_keeps _ _ _ _ (Heap.get?_push_of_some _ e)
 have stat: ∀{σ':St} {H':Hp} {s':Shared},Inv ((X.bz s3 H3 scope ce fp).bP (notedBy (model X.prog X.w) X.A ce fun e s'=>compPost (model X.prog X.w) X.A X.xe use Qf (.ref D) s3.heap.objs.size (.error e) s')) [] σ' H' s'→(∀b∈fp,H' b=none)→ ∀b∈fp,eG ((X.bz s3 H3 scope ce fp).bP (notedBy (model X.prog X.w) X.A ce fun e s'=>compPost (model X.prog X.w) X.A X.xe use Qf (.ref D) s3.heap.objs.size (.error e) s')) [] H' b:=fun {σ' H' s'} I' hn b hb=>
  ⟨hn b hb,(I'.ok.gW b hb).1,I'.ok.ic b hb, .inl hb,fun x c e=>(I'.ok.gW b hb).2 x c e,fun p hp=>absurd (show p∈([]:List (Addr×Obj))++ [] from hp) (by simp)⟩
 have loop:codeAny (model X.prog X.w) X.A (.compLoop (.ListComp elt [⟨tg,iter,ifs,0⟩] scope pos) 0 (.ref it) (.ref D) ce) (compPost (model X.prog X.w) X.A X.xe use Qf (.ref D) s3.heap.objs.size) s4:=by
  refine Bf (fun n s'=> ∃i H',Inv ((X.bz s3 H3 scope ce fp).bP (notedBy (model X.prog X.w) X.A ce fun e s'=>compPost (model X.prog X.w) X.A X.xe use Qf (.ref D) s3.heap.objs.size (.error e) s')) [] (wipe σ (own.map (·.2))) H' s'∧tn i s'.heap∧(∀b∈fp,H' b=none)∧W i n H') ?_ m0 ⟨0,H3,I4,st4,nfp,w0⟩
  rintro n s5 ⟨i,H5,I5,st5,n5,w5⟩
  rcases turn i n H5 w5 with ⟨stop,qq⟩|⟨go,Nx,hNx,step⟩
  ·have td:=T.done ((X.bz s3 H3 scope ce fp).bP (notedBy (model X.prog X.w) X.A ce fun e s'=>compPost (model X.prog X.w) X.A X.xe use Qf (.ref D) s3.heap.objs.size (.error e) s')) rfl rfl rfl hc i [] s5 _ H5 (fun _ _=>False) I5 (stat I5 n5) st5 stop
   refine iF td fun r s6 ⟨hr,I6⟩=>?_
   subst hr
   have I7:Inv X pins σ H5 s6:=I3.jT (ch:=fp) I6.os I6.base I6.ao I6.bare fun b hb=>⟨(f3 b hb).1.2.2.2.1,(f3 b hb).1.2.1,(f3 b hb).1.2.2.2.2.1,(f3 b hb).1.2.2.2.2.2⟩
   have nC:H5 s3.heap.objs.size=none:=by
    have z:H5 ce.locals=none:=I6.free
    rw[cL] at z
    exact z
   obtain ⟨m,hn,_⟩:=I6.loc
   have hn:s6.heap.Ns ce.locals m:=hn
   rw[cL] at hn
   exact hRR D s3.heap.objs.size s6 m H5 I7 qq hn (I3.gG (Nat.le_refl _) nC)
  ·have ti:=T.item ((X.bz s3 H3 scope ce fp).bP (notedBy (model X.prog X.w) X.A ce fun e s'=>compPost (model X.prog X.w) X.A X.xe use Qf (.ref D) s3.heap.objs.size (.error e) s')) rfl rfl rfl hc i [] s5 _ H5 (fun _ _=>False) I5 (stat I5 n5) st5 go
   refine iF ti fun r s6 ⟨u,hr,h6⟩=>?_
   subst hr
   refine iF h6 fun _ s7 ⟨x,H7,I7,r7,y7,st7,n7⟩=>?_
   have I7':=I7.pinned (stat I7 n7) (T.obj _ _ st7)
   refine aI (pg _ s7 _ H7 x u _ I7' r7 (step x H7 y7)) fun _ s8 ⟨σ8,H8,I8,hw8,q8⟩=>?_
   refine aI (pt _ s8 σ8 H8 _ I8 q8) fun b s9 ⟨H9,I9,q9⟩=>?_
   have fin: ∀{s':Shared} {H':Hp},Inv ((X.bz s3 H3 scope ce fp).bP (notedBy (model X.prog X.w) X.A ce fun e s'=>compPost (model X.prog X.w) X.A X.xe use Qf (.ref D) s3.heap.objs.size (.error e) s')) ([]++ku fp s7.heap) σ8 H' s'→Nx H'→ ∃m,m<n∧ ∃i H',Inv ((X.bz s3 H3 scope ce fp).bP (notedBy (model X.prog X.w) X.A ce fun e s'=>compPost (model X.prog X.w) X.A X.xe use Qf (.ref D) s3.heap.objs.size (.error e) s')) [] (wipe σ (own.map (·.2))) H' s'∧tn i s'.heap∧(∀b∈fp,H' b=none)∧W i m H':=fun {s' H'} I' nx=>by
    obtain ⟨m',hm,w'⟩:=hNx H' nx
    have pin': ∀b∈fp,∀o,s7.heap.get? b=some o→s'.heap.get? b=some o∧H' b=none:=fun b hb o e=>
     let z:=I'.pin (b,o) (List.mem_append_right _ (List.mem_append_right _ (rF hb e)))
     ⟨z.1,z.2.1⟩
    have hl:(wipe σ (own.map (·.2))).length=σ8.length:=by rw[←hw8,rJ]
    refine ⟨m',hm,i+1,H',(I'.nE (pins:= [])).weak hl (fun j v e=>?_),T.keep _ _ _ st7 fun b hb o e=>(pin' b hb o e).1,fun b hb=>?_,w'⟩
    ·rw[←hw8] at e
     exact (uB e).1
    ·obtain ⟨o,e,_⟩:=T.obj _ _ st7 b hb
     exact (pin' b hb o e).2
   cases b with
   |false=>
    simp only [Bool.false_eq_true,if_false] at q9⊢
    exact fin I9 q9
   |true=>
    simp only [if_true] at q9⊢
    refine aI (pe hp _ s9 σ8 H9 _ I9 q9) fun z s10 ⟨yv,H10,I10,r10,acc,hD10,hz10,nx⟩=>?_
    exact FY (X:=(X.bz s3 H3 scope ce fp).bP (notedBy (model X.prog X.w) X.A ce fun e s'=>compPost (model X.prog X.w) X.A X.xe use Qf (.ref D) s3.heap.objs.size (.error e) s')) I10 hD10 hz10 r10 fun s11 I11=>fin I11 nx
 exact codeAny_compStart_list loop (T.self X.A 0 _ _ _ st4 loop)
theorem KJ {E:XK} {elt tg iter:Expr} {ifs:List Expr} {scope:Scope} {own:List (Str×Nat)} {pos:Pos} {wi:TI} {g:TG} {tt:TT} {te:TE} (hex:X.ex= []) (hst:X.stack=X.env::X.outer) (hfr:X.env.frame=some X.env.locals) (hair:gY X E) (hc:X.calm=true) (hN:X.N.Nodup) (hi:PI X tg iter wi) (ok:iW X.N X.env.scope scope own)
  (hg: ∀(s:Shared) (H:Hp) (C:Addr) (cl:List (Str×Addr)) (fp:List Addr) (xb:Value→Shared→Prop),PG ((X.bz s H scope (compEnvC scope cl C X.env) fp).bP xb) tg g) (ht: ∀(s:Shared) (H:Hp) (C:Addr) (cl:List (Str×Addr)) (fp:List Addr) (xb:Value→Shared→Prop),jX ((X.bz s H scope (compEnvC scope cl C X.env) fp).bP xb) ifs tt)
  (he: ∀(s:Shared) (H:Hp) (C:Addr) (cl:List (Str×Addr)) (fp:List Addr) (xb:Value→Shared→Prop),Passes (aY X.prog X.w) ((X.bz s H scope (compEnvC scope cl C X.env) fp).bP xb) E→PE ((X.bz s H scope (compEnvC scope cl C X.env) fp).bP xb) elt te) (hs: ∀x,foldedSetIterable iter X.env x=pure x:=by intro _;rfl):
  PE X (.ListComp elt [⟨tg,iter,ifs,0⟩] scope pos) (iH wi g tt te (own.map (·.2))):=by
 intro pins s σ H Q I h
 rw[eval_ListComp]
 refine Gq hex hst hfr hair hc hN I hi ok hg ht he hs h fun D C s' m H' I' q hn f=>⟨m,hn,fun h'' sb=>?_⟩
 obtain ⟨f0,f1,f2,f3,f4,f5⟩:=f
 exact ⟨.ref D,H',I'.turned (t':=s'.toks) (fun b o hb e=>(sb.2 b hb).trans e) f0 f1 f3 f4 f5,rfl,q⟩
end
end L2
namespace L2
open PySem PySem.Spec PyProof.Rows
def cE (X:Cx) (pins:List (Addr×Obj)) (σ:St) (E:XK) (ev:Value) (s:Shared):Prop:= ∃(x T:Addr) (cls c fl:Value) (n:Nat) (H:Hp),ev= .ref x∧Inv X pins σ H s∧
 (∀b∈ [x,T],X.bB.heap.get? b=none∧b≠X.env.locals∧(∀y c,X.env.cells.lookup y=some c→c≠b)∧(∀p∈X.pn++pins,p.1≠b)∧H b=none)∧sk s.heap x T cls c fl∧b9 s.heap H [x,T] n c∧E cls none H
section
variable {X:Cx} {pins:List (Addr×Obj)} {σ:St} {H:Hp} {s s':Shared} {E:XK}
theorem Gb (I:Inv X pins σ H s) (hex:X.ex= []) {e:Value} (h:aY X.prog X.w X.stack H s E e s'):cE X pins σ E e s':=by
 obtain ⟨x,T,cls,c,n,H',rfl,hos,hbare,un,ao,⟨hx0,hT0,hxn,hTn⟩,⟨ht,hq⟩,he⟩:=h
 have I1:Inv X pins σ H' s':=I.jT (ch:= []) hos un ao hbare (fun b hb=>absurd hb (by simp))
 obtain ⟨z1,z2,z3,z4⟩:=I.apart hex hx0
 obtain ⟨y1,y2,y3,y4⟩:=I.apart hex hT0
 exact ⟨x,T,cls,c, .none,n,H',rfl,I1,oY ⟨z1,z2,z3,z4,hxn⟩ ⟨y1,y2,y3,y4,hTn⟩,ht,hq,he⟩
theorem Gs {x T:Addr} {cls c fl:Value} {n:Nat} {l:List Env} {h2:Heap} (hex:X.ex= []) (I:Inv X pins σ H s) (ap: ∀b∈ [x,T],X.bB.heap.get? b=none∧b≠X.env.locals∧(∀y c,X.env.cells.lookup y=some c→c≠b)∧(∀p∈X.pn++pins,p.1≠b)∧H b=none) (hq:b9 s.heap H [x,T] n c) (he:E cls none H)
  (o:gm (PySem.W.hideAll s.heap (x::T::bo X.stack)) l x cls c fl h2) (up:s.heap.UpToSlots h2):cE X pins σ E (.ref x) {s with heap:=h2}:=by
 obtain ⟨k1,k2,k3,oe',vs',T',oT',ts',t1,t2,t3,t4,t5,t6,t7,t8,t9⟩:=o
 have hent:=yi I up t5 t6 t7 t8
 have apx:=ap x (by simp)
 have apT:=ap T (by simp)
 have apT':X.bB.heap.get? T'=none∧T'≠X.env.locals∧(∀y c,X.env.cells.lookup y=some c→c≠T')∧(∀p∈X.pn++pins,p.1≠T')∧H T'=none:=by
  rcases id hent with q|rfl
  ·obtain ⟨z1,z2,z3,z4⟩:=I.apart hex q
   exact ⟨z1,z2,z3,z4,lC I.ao q⟩
  ·exact apT
 have Im:Inv X pins σ H {s with heap:=h2}:=I.moved [x,T] (oY apx apT) (rP k1) (fun b o q hm=>(sG I up b o q hm).2)
 exact ⟨x,T',cls,c,fl,n,H,rfl,Im,oY apx apT',⟨oe',vs',oT',ts',t1,t2,t3,t4,t6,t7,t8,t9⟩,yp I k1 hent hq,he⟩
theorem wg {M:Model} {Ee:Value→Shared→Prop} {Q:Unit→Shared→Prop} {A:Around} {ev:Value} (hex:X.ex= []) (hst:X.stack=X.env::X.outer) (hfr:X.env.frame=some X.env.locals) (hA:A.frames=X.A.frames) (h:cE X pins σ E ev s) (k: ∀s3,cE X pins σ E ev s3→Q () s3):
  wpAny M A (noteFrame ev X.env) Q Ee s:=by
 obtain ⟨x,T,cls,c,fl,n,H,rfl,I,ap,ht,hq,he⟩:=h
 exact xn (by rw[hA,I.ok.frames,hst]) hfr (by rw[←hst];exact sE I ht) fun h1 hh up=>k _ (Gs hex I ap hq he hh up)
theorem rB {M:Model} {Ee:Value→Shared→Prop} {Q:Unit→Shared→Prop} {A:Around} {ev:Value} {fo:Option Addr} (hex:X.ex= []) (h:cE X pins σ E ev s) (k: ∀s3,cE X pins σ E ev s3→Q () s3):wpAny M A (setFlight ev fo) Q Ee s:=by
 obtain ⟨x,T,cls,c,fl,n,H,rfl,I,ap,ht,hq,he⟩:=h
 exact yq (sE I ht) fun h2 o up=>k _ (Gs hex I ap hq he o up)
theorem uS {M:Model} {Q:Value→Shared→Prop} {A:Around} {ev:Value} (hex:X.ex= []) (h:cE X pins σ E ev s) (k: ∀s3,cE X pins σ E ev s3→Q ev s3):cameBackBy M A X.env Q ev s:=by
 obtain ⟨x,T,cls,c,fl,n,H,rfl,I,ap,ht,hq,he⟩:=id h
 obtain ⟨oe,vs,oT,ts,g1,g2,g3,g4,_⟩:=ht
 unfold cameBackBy
 refine wpAny_bind (wpAny_field g1 g3 g4 ?_)
 rw[if_neg (by simp)]
 exact rB hex h k
theorem cE.imp {E':XK} {ev:Value} (h:cE X pins σ E ev s) (k: ∀cls d H,E cls d H→E' cls d H):cE X pins σ E' ev s:=by
 obtain ⟨x,T,cls,c,fl,n,H,e,I,ap,ht,hq,he⟩:=h
 exact ⟨x,T,cls,c,fl,n,H,e,I,ap,ht,hq,k _ _ _ he⟩
end
theorem M1 {M:Model} {A:Around} {E:Value→Shared→Prop} {h:Heap} {g:Array GenState} {d:Drawn} {t:Nat} {os:OsState} {e C C2:Addr} {oe:Obj} {Q:Bool→Shared→Prop}
  {nm q:Str} {N:Addr} {bs bm:List Value} {hdct:Bool} {sn:List Str} {sub:List Value} {ab:Bool} {col:Option Bool} {dd:Option Addr} {k0 k1 k2 k3 k5:Option Value} {newId:String}
  {nm' q':Str} {N':Addr} {bs' bm':List Value} {hdct':Bool} {sn':List Str} {sub':List Value} {ab':Bool} {col':Option Bool} {dd':Option Addr} {j0 j1 j2 j3 j5:Option Value} {newId':String}
  (hC:h.get? C=some (excClassObj nm q C N bs bm hdct sn sub ab col dd k0 k1 k2 k3 k5 newId)) (hC2:h.get? C2=some (excClassObj nm' q' C2 N' bs' bm' hdct' sn' sub' ab' col' dd' j0 j1 j2 j3 j5 newId')) (he:h.get? e=some oe) (hcls:oe.cls= .ref C) (hbase:bm'.contains (.type "BaseException")=true)
  (hq:Q ((Value.ref C::bm).contains (.ref C2)) ⟨h,g,d,t,os⟩):wpAny M A (excMatches (.ref e) (.ref C2)) Q E ⟨h,g,d,t,os⟩:=by
 have hcB:(Value.ref C2::bm').contains (.type "BaseException")=true:=by rw[List.contains_cons,hbase,Bool.or_true]
 have f:=tc_notTuple
 unfold excMatches
 repeat (first|(with_reducible refine wpAny_loadPart_at he ?_;rw[hcls])|with_reducible refine wpAny_loadPart_at hC2 ?_|(with_reducible refine wpAny_isSubtype_exc hC2 ?_;rw[hcB])|with_reducible refine wpAny_isSubtype_exc hC ?_|wp_step)
 cases hb:(Value.ref C::bm).contains (.ref C2)<;>(rw[hb] at hq;wp_walk;exact hq)
def xH (K:PySem.W.Frag) (C:Addr):Bool:=match K.lookup C with
 |some ⟨_,_, .cls cd,_⟩=>cd.mro== .ref C::kU
 |_=>false
theorem Aa {K:PySem.W.Frag} {h:Heap} {C:Addr} (X:K.In h) (hb:xH K C=true) {nm q:Str} {N:Addr} {bs bm:List Value} {hdct:Bool} {sn:List Str} {sub:List Value} {ab:Bool} {col:Option Bool} {dd:Option Addr} {k0 k1 k2 k3 k5:Option Value} {newId:String}
  (hC:h.get? C=some (excClassObj nm q C N bs bm hdct sn sub ab col dd k0 k1 k2 k3 k5 newId)):bm=kU:=by
 unfold xH at hb
 split at hb
 ·rename_i ho
  have:=X _ _ ho
  rw[hC] at this
  cases this
  have z:=beq_iff_eq.mp hb
  cases z
  rfl
 ·cases hb
structure Own (K:PySem.W.Frag) (C:Addr):Prop where
 exc:iD K C
 base:xH K C=true
inductive ft:List (Addr×Obj)→Nat→Value→Prop
 |nil:ft [] 0 .none
 |cons {a:Addr} {o:Obj} {vs:Array Value} {c:Value} {n:Nat} {ps:List (Addr×Obj)}:o.data= .fields vs→vs[2]?=some c→ft ps n c→ft ((a,o)::ps) (n+1) (.ref a)
theorem b9.pins {h:Heap} {H:Hp} {av:List Addr} {n:Nat} {c:Value} (x:b9 h H av n c): ∃ps,ft ps n c∧ ∀p∈ps,h.get? p.1=some p.2∧H p.1=none∧ ∃vs,p.2.data= .fields vs:=by
 induction x with
 |nil=>exact ⟨[], .nil,fun p hp=>absurd hp (by simp)⟩
 | @cons n a o vs c h1 h2 h3 h4 h5 _ ih=>
  obtain ⟨ps,k1,k2⟩:=ih
  refine ⟨(a,o)::ps, .cons h2 h3 k1,fun p hp=>?_⟩
  rcases List.mem_cons.mp hp with rfl|hp
  ·exact ⟨h1,h4,vs,h2⟩
  ·exact k2 p hp
theorem ft.wx {ps:List (Addr×Obj)} {n:Nat} {c:Value} (x:ft ps n c) {h:Heap} {H:Hp} {av:List Addr} (k: ∀p∈ps,h.get? p.1=some p.2∧H p.1=none∧p.1∉av):b9 h H av n c:=by
 induction x with
 |nil=>exact .nil
 |cons h1 h2 _ ih=>
  obtain ⟨k1,k2,k3⟩:=k _ (List.mem_cons_self ..)
  exact .cons k1 h1 h2 k2 k3 (ih fun p hp=>k p (List.mem_cons_of_mem _ hp))
def jn (X:Cx):Prop:= ∃h ps n,X.A.handled=some (.ref h)∧ft ps n (.ref h)∧ ∀p∈ps,p∈X.pn
abbrev Cx.dt (X:Cx) (x:Addr) (ps:List (Addr×Obj)):Cx:={X with A:=X.A.mark (some (.ref x)),calm:=false,pn:=X.pn++ps,xe:=notedBy (model X.prog X.w) (X.A.mark (some (.ref x))) X.env (cameBackBy (model X.prog X.w) X.A X.env X.xe)}
section
variable {X:Cx} {pins ps:List (Addr×Obj)} {σ:St} {H:Hp} {s:Shared} {x:Addr} {E:XK}
theorem Cx.Ok.dt (ok:X.Ok) (x:Addr) (ps:List (Addr×Obj)):(X.dt x ps).Ok:=⟨ok.mod,ok.kind,ok.glob,ok.blt,ok.above,ok.inj,ok.has,ok.il,(fun z=>nomatch z),ok.frames,ok.jv,ok.gW,ok.bs,ok.eW,ok.eR,ok.ic,ok.dq,ok.fV⟩
theorem Inv.dt (I:Inv X pins σ H s) (x:Addr) (hp: ∀p∈ps,s.heap.get? p.1=some p.2∧H p.1=none∧ ∃vs,p.2.data= .fields vs):Inv (X.dt x ps) pins σ H s:=by
 refine ⟨I.ok.dt x ps,I.os,I.bare,I.base,I.loc,I.cell,I.free,I.dN,fun p hm=>?_,I.ao,I.len⟩
 rcases List.mem_append.mp hm with hm|hm
 ·rcases List.mem_append.mp hm with hm|hm
  ·exact I.pin p (List.mem_append_left _ hm)
  ·obtain ⟨g1,g2,vs,g3⟩:=hp p hm
   refine ⟨g1,g2,fun z=>?_,fun z=>?_,fun v q=>by rw[g3] at q;cases q⟩
   ·obtain ⟨m,⟨o,es,ep,ho,hd,_⟩,_⟩:=I.loc
    rw[←z,g1] at ho;cases ho;rw[g3] at hd;cases hd
   ·obtain ⟨_,o,ho,nf⟩:=I.dq.mem z
    rw[g1] at ho;cases ho;exact nf vs g3
 ·exact I.pin p (List.mem_append_right _ hm)
theorem Inv.je (ok:X.Ok) (I:Inv (X.dt x ps) pins σ H s):Inv X pins σ H s:=⟨ok,I.os,I.bare,I.base,I.loc,I.cell,I.free,I.dN,fun p hm=>I.pin p (by
 rcases List.mem_append.mp hm with hm|hm
 ·exact List.mem_append_left _ (List.mem_append_left _ hm)
 ·exact List.mem_append_right _ hm),I.ao,I.len⟩
theorem SP.je (ok:X.Ok) {D:Ends} {f:Flow} {s':Shared} (h:SP (X.dt x ps) pins D f s'):SP X pins D f s':=by
 cases f with
 |next=>obtain ⟨σ',H',I,q⟩:=h;exact ⟨σ',H',I.je ok,q⟩
 |brk=>obtain ⟨σ',H',I,q⟩:=h;exact ⟨σ',H',I.je ok,q⟩
 |cont=>obtain ⟨σ',H',I,q⟩:=h;exact ⟨σ',H',I.je ok,q⟩
 |ret u=>obtain ⟨v,σ',H',I,r,q⟩:=h;exact ⟨v,σ',H',I.je ok,r,q⟩
theorem tD {n:Nat} (q:ft ps n (.ref x)):jn (X.dt x ps):=⟨x,ps,n,rfl,q,fun p hp=>List.mem_append_right _ hp⟩
theorem clause {C:Addr} {y:Str} {np pos:Pos} {b0:Stmt} {suite:List Stmt} {rest:List ExceptHandler} {t:TS} {D:Ends} {ev:Value} (hex:X.ex= []) (hC:Own X.K C) (hg:Gl X y) (hm:X.mg y=some (.ref C)) (hsu: ∀x ps n,ft ps n (.ref x)→cS (X.dt x ps) (b0::suite) t)
  (own: ∀cls d H,E cls d H→ ∃C',cls= .ref C'∧Own X.K C') (hit: ∀d H,E (.ref C) d H→t D σ H) (h:cE X pins σ E ev s)
  (miss: ∀s3,cE X pins σ (fun cls d H=>E cls d H∧cls≠ .ref C) ev s3→wpAny (model X.prog X.w) X.A (handleBy ev X.env rest) (SP X pins D) X.xe s3) (hd:(y==("__debug__" :Str))=false:=by decide):
  wpAny (model X.prog X.w) X.A (handleBy ev X.env (.ExceptHandler (some (.Name y np)) none (b0::suite) pos::rest)) (SP X pins D) X.xe s:=by
 obtain ⟨x,T,cls,c,fl,n,H,rfl,I,ap,ht,hq,he⟩:=id h
 refine wpAny_handleBy_cons (codeAny_handlers_test (kh (X:=X.dt x []) (I.dt x fun p hp=>absurd hp (by simp)) hg hm ?_ hd)) (by intro q;cases q)
 obtain ⟨C',rfl,oC⟩:=own _ _ _ he
 obtain ⟨bm,N,nm,qn,bs,hdct,sn,sub,ab,col,dd,k0,k1,k2,k3,k5,mN,g1,g2,g3,g4⟩:=oC.exc.obj I.b7
 obtain ⟨bm',N',nm',qn',bs',hdct',sn',sub',ab',col',dd',j0,j1,j2,j3,j5,mN',g1',g2',g3',g4'⟩:=hC.exc.obj I.b7
 obtain rfl:=Aa I.b7 oC.base g1
 obtain rfl:=Aa I.b7 hC.base g1'
 obtain ⟨oe,vs,oT,ts,e1,e2,_⟩:=id ht
 obtain ⟨hh,g,d,tk,os⟩:=s
 refine M1 g1 g1' e1 e2.1 (by decide) ?_
 by_cases hc:C'=C
 ·subst hc
  have:(Value.ref C'::kU).contains (.ref C')=true:=by simp
  rw[this]
  have h0:cE X pins σ (fun cls d H=>E cls d H∧cls= .ref C') (.ref x) ⟨hh,g,d,tk,os⟩:=⟨x,T,_,c,fl,n,H,rfl,I,ap,ht,hq,he,rfl⟩
  refine codeAny_handlers_suite (rB hex h0 fun s3 h3=>?_)
  obtain ⟨x3,T3,cls3,c3,fl3,n3,H3,q3,I3,ap3,ht3,hq3,he3,rfl⟩:=h3
  cases q3
  obtain ⟨oe3,vs3,_,_,z1,z2,z3,_⟩:=ht3
  have ch:b9 s3.heap H3 [] (n3+1) (.ref x):= .cons z1 z3 z2.2 (ap3 x (by simp)).2.2.2.2 (by simp) (hq3.move fun a o vs q1 _ q3 _=>⟨q1,q3,by simp⟩)
  obtain ⟨ps,p1,p2⟩:=ch.pins
  exact wpAny_mono (hsu x ps _ p1 pins s3 σ H3 D (I3.dt x p2) (hit _ _ he3)) (fun f s' q=>q.je I.ok) (fun _ _ z=>z)
 ·have:(Value.ref C'::kU).contains (.ref C)=false:=by
   have e:(Value.ref C==Value.ref C')=false:=by simp;exact fun z=>hc z.symm
   rw[List.contains_cons,e];rfl
  rw[this]
  exact miss _ ⟨x,T,_,c,fl,n,H,rfl,I,ap,ht,hq,he,fun z=>hc (by cases z;rfl)⟩
def c1 (C:Addr) (u:TS):Ends→St→XK:=fun D σ cls _ H=>cls= .ref C∧u D σ H
def c2 (C:Addr) (u:TS) (C':Addr) (u':TS):Ends→St→XK:=fun D σ cls _ H=>(cls= .ref C∧u D σ H)∨(cls= .ref C'∧u' D σ H)
abbrev Cx.tr (X:Cx) (pn:List (Addr×Obj)) (xe:Value→Shared→Prop):Cx:={X with pn:=pn,xe:=xe}
def nk (X:Cx) (E:St→XK):Prop:= ∀(pins:List (Addr×Obj)) (σ:St) (H:Hp) (s:Shared) (e:Value) (s':Shared),Inv X pins σ H s→aY X.prog X.w X.stack H s (E σ) e s'→X.xe e s'
def MX (tb:(St→XK)→TS) (cl:Ends→St→XK):TS:=fun D σ H=>tb (cl D) D σ H
theorem Inv.tr {xe:Value→Shared→Prop} (I:Inv X pins σ H s):Inv (X.tr (X.pn++pins) xe) [] σ H s:=
 ⟨⟨I.ok.mod,I.ok.kind,I.ok.glob,I.ok.blt,I.ok.above,I.ok.inj,I.ok.has,I.ok.il,I.ok.hd,I.ok.frames,I.ok.jv,I.ok.gW,I.ok.bs,I.ok.eW,I.ok.eR,I.ok.ic,I.ok.dq,I.ok.fV⟩,I.os,I.bare,I.base,I.loc,I.cell,I.free,I.dN,fun p hp=>I.pin p (by rw[List.append_nil] at hp;exact hp),I.ao,I.len⟩
theorem Inv.jz {xe:Value→Shared→Prop} {pins':List (Addr×Obj)} (ok:X.Ok) (I:Inv (X.tr (X.pn++pins) xe) pins' σ H s):Inv X pins σ H s:=⟨ok,I.os,I.bare,I.base,I.loc,I.cell,I.free,I.dN,fun p hp=>I.pin p (List.mem_append_left _ hp),I.ao,I.len⟩
theorem SP.jz {xe:Value→Shared→Prop} {pins':List (Addr×Obj)} (ok:X.Ok) {D:Ends} {f:Flow} {s':Shared} (h:SP (X.tr (X.pn++pins) xe) pins' D f s'):SP X pins D f s':=by
 cases f with
 |next=>obtain ⟨σ',H',I,q⟩:=h;exact ⟨σ',H',I.jz ok,q⟩
 |brk=>obtain ⟨σ',H',I,q⟩:=h;exact ⟨σ',H',I.jz ok,q⟩
 |cont=>obtain ⟨σ',H',I,q⟩:=h;exact ⟨σ',H',I.jz ok,q⟩
 |ret u=>obtain ⟨v,σ',H',I,r,q⟩:=h;exact ⟨v,σ',H',I.jz ok,r,q⟩
theorem sR {tb:(St→XK)→TS} {cl:Ends→St→XK} {body:List Stmt} {h0:ExceptHandler} {hs:List ExceptHandler} {pos:Pos} (hex:X.ex= []) (hst:X.stack=X.env::X.outer) (hfr:X.env.frame=some X.env.locals)
  (hb: ∀(E:St→XK) (pn:List (Addr×Obj)) (xe:Value→Shared→Prop),nk (X.tr pn xe) E→PassesOwn (model X.prog X.w) X.A X.env xe→cS (X.tr pn xe) body (tb E))
  (hh: ∀(pins:List (Addr×Obj)) (σ:St) (D:Ends) (ev:Value) (s3:Shared),cE X pins σ (cl D σ) ev s3→wpAny (model X.prog X.w) X.A (handleBy ev X.env (h0::hs)) (SP X pins D) X.xe s3):
  PS X (.Try body (h0::hs) [] [] pos) (MX tb cl):=by
 intro pins s σ H D I h
 have hp:nk (X.tr (X.pn++pins) fun ev s=> ∃σ',cE X pins σ' (cl D σ') ev s) (cl D):=fun pins' σ' H' s1 e s' I' q=>⟨σ',Gb (I'.jz I.ok) hex q⟩
 have ho:PassesOwn (model X.prog X.w) X.A X.env fun ev s=> ∃σ',cE X pins σ' (cl D σ') ev s:=fun ev s1 ⟨σ',q⟩=>wg hex hst hfr rfl q fun s2 q2=>uS hex q2 fun s3 q3=>⟨σ',q3⟩
 refine wpAny_Try_except (wpAny_mono (hb (cl D) _ _ hp ho [] s σ H D I.tr h) (fun f s1 q=>?_) fun ev s1 ⟨σ',q⟩=>wg hex hst hfr rfl q fun s2 q2=>rB hex q2 fun s3 q3=>hh pins σ' D ev s3 q3)
 have q:=q.jz I.ok
 cases f with
 |next=>exact wpAny_execs_nil q
 |brk=>exact q
 |cont=>exact q
 |ret u=>exact q
theorem AU {C:Addr} {y:Str} {np pos:Pos} {b0:Stmt} {suite:List Stmt} {u:TS} (hex:X.ex= []) (hC:Own X.K C) (hg:Gl X y) (hm:X.mg y=some (.ref C)) (hsu: ∀x ps n,ft ps n (.ref x)→cS (X.dt x ps) (b0::suite) u) (hd:(y==("__debug__" :Str))=false:=by decide):
  ∀(pins:List (Addr×Obj)) (σ:St) (D:Ends) (ev:Value) (s3:Shared),cE X pins σ (c1 C u D σ) ev s3→wpAny (model X.prog X.w) X.A (handleBy ev X.env [.ExceptHandler (some (.Name y np)) none (b0::suite) pos]) (SP X pins D) X.xe s3:=fun pins σ D ev s3 h=>by
 refine clause (t:=u) hex hC hg hm hsu (fun cls d H ⟨z,_⟩=>⟨C,z,hC⟩) (fun d H ⟨_,z⟩=>z) h (fun s3 h3=>?_) hd
 obtain ⟨_,_,_,_,_,_,_,_,_,_,_,_,⟨z,_⟩,n⟩:=h3
 exact absurd z n
theorem NJ {C C':Addr} {y y':Str} {np pos np' pos':Pos} {b0 b0':Stmt} {suite suite':List Stmt} {u u':TS} (hex:X.ex= []) (hC:Own X.K C) (hg:Gl X y) (hm:X.mg y=some (.ref C)) (hsu: ∀x ps n,ft ps n (.ref x)→cS (X.dt x ps) (b0::suite) u)
  (hC':Own X.K C') (hg':Gl X y') (hm':X.mg y'=some (.ref C')) (hsu': ∀x ps n,ft ps n (.ref x)→cS (X.dt x ps) (b0'::suite') u') (hne:C≠C') (hd:(y==("__debug__" :Str))=false:=by decide) (hd':(y'==("__debug__" :Str))=false:=by decide):
  ∀(pins:List (Addr×Obj)) (σ:St) (D:Ends) (ev:Value) (s3:Shared),cE X pins σ (c2 C u C' u' D σ) ev s3→wpAny (model X.prog X.w) X.A (handleBy ev X.env [.ExceptHandler (some (.Name y np)) none (b0::suite) pos, .ExceptHandler (some (.Name y' np')) none (b0'::suite') pos']) (SP X pins D) X.xe s3:=fun pins σ D ev s3 h=>by
 refine clause (t:=u) hex hC hg hm hsu (fun cls d H z=>z.elim (fun z=>⟨C,z.1,hC⟩) fun z=>⟨C',z.1,hC'⟩) (fun d H z=>z.elim (fun z=>z.2) fun z=>absurd (by injection z.1) hne) h (fun s3 h3=>?_) hd
 refine clause (t:=u') hex hC' hg' hm' hsu' (fun cls d H z=>z.1.elim (fun w=>absurd w.1 z.2) fun w=>⟨C',w.1,hC'⟩) (fun d H z=>z.1.elim (fun w=>absurd w.1 z.2) fun w=>w.2) h3 (fun s4 h4=>?_) hd'
 obtain ⟨_,_,_,_,_,_,_,_,_,_,_,_,⟨z,n1⟩,n⟩:=h4
 rcases z with z|z
 ·exact absurd z.1 n1
 ·exact absurd z.1 n
end
section
variable {X:Cx} {k:Nat} {f:Addr} {fd:FuncData} {ps:List Str} {sp:Sp} {dvs:List V} {ds:List Value} {E:St→XK} {x:Str} {p pos:Pos} {e:Expr} {es:List Expr} {t:TA}
def MM (sp:Sp) (dvs:List V) (E:St→XK) (t:TA):TE:=fun σ H Q=>t σ H fun vs H1=>sp (vs++dvs) H1 Q (E σ)
theorem FR {pins:List (Addr×Obj)} {σ:St} {H:Hp} {s:Shared} {Q:VK} {us:List Value} {vs:List V} (F:az X.prog X.w X.K X.mg X.base (aY X.prog X.w) k f fd ps sp) (hr:aE k X.A) (hb:Binds X.K fd ps ds) (hd:Vals dvs ds) (hx:nk X E)
  (I:Inv X pins σ H s) (r:Vals vs us) (h:sp (vs++dvs) H Q (E σ)):wpAny (model X.prog X.w) X.A (call (.ref f) us) (EP X pins σ Q) X.xe s:=by
 have r2:Vals (vs++dvs) (us++ds):=r.append hd
 have hl:(us++ds).length=ps.length:=by rw[←r2.length];exact F.len _ _ _ _ h
 refine wpAny_call (codeAny_mono (F.run X.A X.stack s H ⟨us, []⟩ (us++ds) (vs++dvs) Q (E σ) hr I.uj (hb s us I.b7 hl) r2 h) fun r s' hq=>?_)
 cases r with
 |error e=>exact hx pins σ H s e s' I hq
 |ok fl=>
  cases fl with
  |ret u=>exact I.after hq
  |next=>exact False.elim hq
  |brk=>exact False.elim hq
  |cont=>exact False.elim hq
theorem yC (F:az X.prog X.w X.K X.mg X.base (aY X.prog X.w) k f fd ps sp) (hr:aE k X.A) (hg:Gl X x) (hm:X.mg x=some (.ref f)) (hk:PySem.W.keepIn X.K (.ref f)=true) (hb:Binds X.K fd ps ds) (hd:Vals dvs ds) (hx:nk X E)
  (ha:PA X (e::es) t) (hdb:(x==("__debug__" :Str))=false:=by decide) (he:starEach (e::es) X.env=(false,eval e X.env)::starEach es X.env:=by rfl) (hpl:(backTo pos (starEach es X.env)).any (·.1)=false:=by rfl):
  PE X (.Call (.Name x p) (e::es) [] pos) (MM sp dvs E t):=by
 intro pins s σ H Q I h
 refine wpAny_Call_Name_kw (kh I hg hm ?_ hdb)
 refine PySem.W.callWith_K (h₀:=X.base) I.ok.mod.iP hk (aI (ha pos pins s σ H _ I h) fun us s1 ⟨vs,H1,I1,r,q⟩=>⟨I1.b7,?_⟩) he hpl
 exact FR F hr hb hd hx I1 r q
end
end L2
namespace L2
open PySem PySem.Spec PyProof.Rows
theorem Cb:entryFor table "proto.unchain" =some Builtin.«proto.unchain»:=entryFor_of_fast (by kernel_rfl)
section
variable {prog:Program} {w:World} {A:Around} {s:Shared} {H:Hp} {a:Addr}
theorem Jw {R:Result→Shared→Prop} (hR:R (.ok (.ret .none)) s): ∀(m:Nat) (o slow:Value) (tg:Bool) (ns:Nat),b9 s.heap H [a] (m+1) o→b9 s.heap H [a] ns slow→m+1≤ns→codeAny (model prog w) A (.builtin "proto.unchain" ⟨[.ref a,o,slow, .bool tg], []⟩) R s:=by
 intro m
 induction m with
 |zero=>
  intro o slow tg ns ho hs hm
  cases ho with
  |cons g d f2 hn nav t=>
   cases t
   refine codeAny_builtin Cb ?_
   unfold Builtin.«proto.unchain»
   refine wpAny_bind (wpAny_field g d f2 ?_)
   rw[if_pos (by decide)]
   wp_walk
   exact hR
 |succ m ih=>
  intro o slow tg ns ho hs hm
  cases ho with
  |cons g d f2 hn nav t=>
   cases id t with
   | @cons _ a2 _ _ _ g2 d2 f22 hn2 nav2 t2=>
    refine codeAny_builtin Cb ?_
    unfold Builtin.«proto.unchain»
    refine wpAny_bind (wpAny_field g d f2 ?_)
    rw[if_neg (by simp)]
    have n1:(Value.ref a2==Value.ref a)=false:=by simp;intro z;exact nav2 (by rw[z];simp)
    rw[n1,if_neg (by decide)]
    by_cases q:(Value.ref a2==slow)=true
    ·rw[q,if_pos rfl]
     wp_walk
     exact hR
    ·rw[if_neg q]
     cases tg with
     |false=>
      rw[if_neg (by decide)]
      refine wpAny_bind (wpAny_pure (wpAny_pure ⟨Code.quiet_builtin _ (by decide+kernel),?_⟩))
      exact ih _ slow true ns t hs (by omega)
     |true=>
      rw[if_pos rfl]
      cases hs with
      |nil=>omega
      |cons j1 j2 j3 j4 j5 j6=>
       refine wpAny_bind (wpAny_field j1 j2 j3 (wpAny_pure ⟨Code.quiet_builtin _ (by decide+kernel),?_⟩))
       exact ih _ _ false _ t j6 (by omega)
theorem Bs {α:Type} {E:Value→Shared→Prop} {Q:α→Shared→Prop} {h:Addr} {oa:Obj} {vs:Array Value} {n:Nat} (hh:A.handled=some (.ref h)) (ga:s.heap.get? a=some oa) (da:oa.data= .fields vs) (z2:2<vs.size) (ch:b9 s.heap H [a] n (.ref h)) (k:E (.ref a) {s with heap:=s.heap.update a (Obj.mapFields (·.setIfInBounds 2 (.ref h)))}):
  wpAny (model prog w) A (raiseNew (.ref a):Sem α) Q E s:=by
 unfold raiseNew
 refine wpAny_bind (wpAny_handled ?_)
 rw[hh]
 have ne:(Value.ref h !=Value.ref a)=true:=by
  cases ch with
  |cons _ _ _ _ nav _=>
   simp
   intro z
   exact nav (by rw[z];simp)
 simp only [ne,if_true]
 refine wpAny_bind (wpAny_holding (wpAny_runValue ?_))
 cases ch with
 |cons j1 j2 j3 j4 j5 j6=>
  refine Jw ?_ _ _ _ _ _ (.cons j1 j2 j3 j4 j5 j6) (.cons j1 j2 j3 j4 j5 j6) (Nat.le_refl _)
  exact wpAny_bind (wpAny_setField (x:= .ref h) ga da z2 (wpAny_throw k))
end
theorem Bi {h:Heap} {a:Addr} {o:Obj} {e:Addr} (g:h.get? a=some o) (n:h.get? e=none):a∉ [e]:=fun z=>by
 rcases List.mem_cons.mp z with z|z
 ·rw[←z,g] at n;cases n
 ·cases z
section
variable {X:Cx} {E:XK}
theorem Ck {pins:List (Addr×Obj)} {σ:St} {H:Hp} {s:Shared} {x:Str} {C:Addr} {np cpos:Pos} {Q:Value→Shared→Prop} {Ee:Value→Shared→Prop} (I:Inv X pins σ H s) (hg:Gl X x) (hm:X.mg x=some (.ref C)) (hC:iD X.K C)
  (k: ∀h' e,Heap.MadeExcOf s.heap h' e (.ref C) []→Q (.ref e) {s with heap:=h'}) (hd:(x==("__debug__" :Str))=false:=by decide):wpAny (model X.prog X.w) X.A (eval (.Call (.Name x np) [] [] cpos) X.env) Q Ee s:=by
 obtain ⟨bm,N,nm,qn,bs,hdct,sn,sub,ab,col,dd,k0,k1,k2,k3,k5,mN,g1,g2,g3,g4⟩:=hC.obj I.b7
 refine wpAny_Call_ofName (kh I hg hm ?_ hd)
 unfold callWith
 refine wpAny_bind (wpAny_holding (evalArgs_empty (wpAny_bind (wpAny_standAt ?_))))
 obtain ⟨hp,g,d,tk,os⟩:=s
 simp only [starEach,backTo,List.any_nil]
 refine wpAny_bind (wpAny_keeperOf_exc g1 ?_)
 refine wpAny_bind (wpAny_call_exc_subT F.excBase_Exception g4 g1 g2 g3 fun h' e hx=>wpAny_bind (wpAny_holding (wpAny_point (wpAny_pure ?_))))
 exact k h' e hx
theorem OD {x:Str} {C:Addr} {np cpos pos:Pos} (hh:jn X) (hg:Gl X x) (hm:X.mg x=some (.ref C)) (hC:iD X.K C) (hr:kS X E) (hd:(x==("__debug__" :Str))=false:=by decide):
  PS X (.Raise (some (.Call (.Name x np) [] [] cpos)) none pos) (vw E C):=by
 intro pins s σ H D I h
 rw[arm_exec_Raise]
 simp only [evalOpt,Option.map]
 refine wpAny_bind (wpAny_standAt ?_)
 unfold raiseStmt
 refine wpAny_bind (wpAny_bind (Ck I hg hm hC (fun h1 e hx=>wpAny_bind (wpAny_standAt (wpAny_pure ?_))) hd))
 obtain ⟨bm,N,nm,qn,bs,hdct,sn,sub,ab,col,dd,k0,k1,k2,k3,k5,mN,g1,g2,g3,g4⟩:=hC.obj I.b7
 have hcB:(Value.ref C::bm).contains (.type "BaseException")=true:=by rw[List.contains_cons,g4.hasType F.excBase_Exception.hasBase,Bool.or_true]
 obtain ⟨t,he,htn,ht⟩:=hx.there
 have hC1:=hx.keeps _ _ g1
 obtain ⟨hp,g,d,tk,os⟩:=s
 repeat (first|with_reducible refine wpAny_loadPart_at he ?_|with_reducible refine wpAny_loadPart_at hC1 ?_|(with_reducible refine wpAny_isSubtype_exc hC1 ?_;rw[hcB])|wp_step)
 obtain ⟨hx1,ps,n,q1,q2,q3⟩:=hh
 have ch: ∀av,(∀p∈ps,p.1∉av)→b9 hp H av n (.ref hx1):=fun av ha=>q2.wx fun p hp'=>⟨(I.pin p (List.mem_append_left _ (q3 p hp'))).1,(I.pin p (List.mem_append_left _ (q3 p hp'))).2.1,ha p hp'⟩
 have che:b9 h1 H [e] n (.ref hx1):=(ch [e] fun p hp'=>Bi (I.pin p (List.mem_append_left _ (q3 p hp'))).1 hx.new).move fun a o vs z1 _ z3 z4=>⟨hx.keeps _ _ z1,z3,z4⟩
 refine Bs (s:=⟨h1,g,d,tk,os⟩) q1 he rfl (by show 2<6;decide) che ?_
 refine hr pins σ H ⟨hp,g,d,tk,os⟩ _ e _ _ (.ref hx1) n I (fun b o z=>?_) hx.new (Heap.get?_update_self _ he rfl) rfl rfl rfl (ch [] fun p _=>by simp) h
 rw[Heap.get?_update_other _ _ (fun z2:e=b=>by have z3:=hx.new;rw[z2] at z3;exact absurd (z.symm.trans z3) (by simp))]
 exact hx.keeps b o z
theorem CI {x:Str} {C:Addr} {np cpos pos cp:Pos} {j} (hh:jn X) (hg:Gl X x) (hm:X.mg x=some (.ref C)) (hC:iD X.K C) (hr:kS X E) (hd:(x==("__debug__" :Str))=false:=by decide):
  PS X (.Raise (some (.Call (.Name x np) [] [] cpos)) (some (.Constant .none j cp)) pos) (vw E C):=by
 intro pins s σ H D I h
 rw[arm_exec_Raise]
 simp only [evalOpt,Option.map]
 refine wpAny_bind (wpAny_standAt ?_)
 unfold raiseStmt
 refine wpAny_bind (wpAny_bind (Ck I hg hm hC (fun h1 e hx=>wpAny_bind (wpAny_standAt (wpAny_pure ?_))) hd))
 obtain ⟨bm,N,nm,qn,bs,hdct,sn,sub,ab,col,dd,k0,k1,k2,k3,k5,mN,g1,g2,g3,g4⟩:=hC.obj I.b7
 have hcB:(Value.ref C::bm).contains (.type "BaseException")=true:=by rw[List.contains_cons,g4.hasType F.excBase_Exception.hasBase,Bool.or_true]
 obtain ⟨t,he,htn,ht⟩:=hx.there
 have hC1:=hx.keeps _ _ g1
 obtain ⟨hp,g,d,tk,os⟩:=s
 refine wpAny_bind (wpAny_holding (wpAny_bind (Constant_none (wpAny_bind (wpAny_standAt (wpAny_pure (wpAny_bind (wpAny_pure ?_))))))))
 repeat (first|with_reducible refine wpAny_loadPart_at he ?_|with_reducible refine wpAny_loadPart_at hC1 ?_|(with_reducible refine wpAny_isSubtype_exc hC1 ?_;rw[hcB])|wp_step)
 have neC:e≠C:=fun z=>by have z3:=hx.new;rw[z,g1] at z3;cases z3
 have he2:=Heap.get?_update_self (Obj.mapFields (·.setIfInBounds 3 Value.none)) he rfl
 have hC2:=(Heap.get?_update_other h1 (Obj.mapFields (·.setIfInBounds 3 Value.none)) neC).trans hC1
 have kp2: ∀b o,hp.get? b=some o→(h1.update e (Obj.mapFields (·.setIfInBounds 3 Value.none))).get? b=some o:=fun b o z=>(Heap.get?_update_other _ _ (fun z2:e=b=>by have z3:=hx.new;rw[z2] at z3;exact absurd (z.symm.trans z3) (by simp))).trans (hx.keeps b o z)
 generalize h1.update e (Obj.mapFields (·.setIfInBounds 3 Value.none))=h2 at*
 have he3:=Heap.get?_update_self (Obj.mapFields (·.setIfInBounds 4 (Value.bool true))) he2 rfl
 have hC3:=(Heap.get?_update_other h2 (Obj.mapFields (·.setIfInBounds 4 (Value.bool true))) neC).trans hC2
 have kp3: ∀b o,hp.get? b=some o→(h2.update e (Obj.mapFields (·.setIfInBounds 4 (Value.bool true)))).get? b=some o:=fun b o z=>(Heap.get?_update_other _ _ (fun z2:e=b=>by have z3:=hx.new;rw[z2] at z3;exact absurd (z.symm.trans z3) (by simp))).trans (kp2 b o z)
 generalize h2.update e (Obj.mapFields (·.setIfInBounds 4 (Value.bool true)))=h3 at*
 repeat (first|with_reducible refine wpAny_loadPart_at he3 ?_|with_reducible refine wpAny_loadPart_at hC3 ?_|(with_reducible refine wpAny_isSubtype_exc hC3 ?_;rw[hcB])|wp_step)
 obtain ⟨hx1,ps,n,q1,q2,q3⟩:=hh
 have ch: ∀av,(∀p∈ps,p.1∉av)→b9 hp H av n (.ref hx1):=fun av ha=>q2.wx fun p hp'=>⟨(I.pin p (List.mem_append_left _ (q3 p hp'))).1,(I.pin p (List.mem_append_left _ (q3 p hp'))).2.1,ha p hp'⟩
 have che:b9 h3 H [e] n (.ref hx1):=(ch [e] fun p hp'=>Bi (I.pin p (List.mem_append_left _ (q3 p hp'))).1 hx.new).move fun a o vs z1 _ z3 z4=>⟨kp3 _ _ z1,z3,z4⟩
 refine Bs (s:=⟨h3,g,d,tk,os⟩) q1 he3 rfl (by show 2<6;decide) che ?_
 refine hr pins σ H ⟨hp,g,d,tk,os⟩ _ e _ _ (.ref hx1) n I (fun b o z=>?_) hx.new (Heap.get?_update_self _ he3 rfl) rfl rfl rfl (ch [] fun p _=>by simp) h
 rw[Heap.get?_update_other _ _ (fun z2:e=b=>by have z3:=hx.new;rw[z2] at z3;exact absurd (z.symm.trans z3) (by simp))]
 exact kp3 b o z
end
section
variable {X:Cx} {pins ps:List (Addr×Obj)} {σ:St} {H:Hp} {s:Shared} {x:Addr} {E:XK}
theorem cE.to {ev:Value} (hair:gY X E) (h:cE X pins σ E ev s):X.xe ev s:=by
 obtain ⟨x,T,cls,c,fl,n,H,rfl,I,ap,ht,hq,he⟩:=h
 exact hair pins σ H s x T cls c fl n I ⟨(ap x (by simp)).1,(ap T (by simp)).1,(ap x (by simp)).2.2.2.2,(ap T (by simp)).2.2.2.2⟩ ht hq he
theorem L4 {e:Addr} {cls c fl:Value} {n:Nat} {l:List Env} {h1 h2:Heap} (hex:X.ex= []) (I:Inv X pins σ H s) (kp: ∀b o,s.heap.get? b=some o→h1.get? b=some o) (ne:s.heap.get? e=none) (hq:b9 s.heap H [] n c) (he:E cls none H)
  (o:gm (PySem.W.hideAll s.heap (bo X.stack)) l e cls c fl h2) (up:h1.UpToSlots h2):cE X pins σ E (.ref e) {s with heap:=h2}:=by
 obtain ⟨k1,k2,k3,oe',vs',T',oT',ts',t1,t2,t3,t4,t5,t6,t7,t8,t9⟩:=o
 have slot: ∀b o,s.heap.get? b=some o→b∈bo X.stack→(∀vs,o.data≠ .fields vs)∧ ∃sl,h2.get? b=some {o with slots:=sl}:=fun b o q hm=>by
  obtain ⟨_,o2,q2,nf⟩:=I.stack.mem hm
  rw[q] at q2;cases q2
  exact ⟨nf,up b o (kp b o q) nf⟩
 have keep: ∀b o,s.heap.get? b=some o→b∉bo X.stack→h2.get? b=some o:=fun b o q nb=>k1 b o (PySem.W.hideAll_get _ q nb)
 have new:s.heap.get? T'=none:=by
  cases q:s.heap.get? T' with
  |none=>rfl
  |some o=>
   by_cases hm:T'∈bo X.stack
   ·obtain ⟨nf,sl,z⟩:=slot T' o q hm
    rw[t7] at z
    cases z
    exact absurd t8 (nf ts')
   ·have:=PySem.W.hideAll_get _ q hm
    rw[t5] at this;cases this
 have ap: ∀b,s.heap.get? b=none→X.bB.heap.get? b=none∧b≠X.env.locals∧(∀y c,X.env.cells.lookup y=some c→c≠b)∧(∀p∈X.pn++pins,p.1≠b)∧H b=none:=fun b q=>by
  obtain ⟨z1,z2,z3,z4⟩:=I.apart hex q
  exact ⟨z1,z2,z3,z4,lC I.ao q⟩
 have Im:Inv X pins σ H {s with heap:=h2}:=I.moved [] (fun b hb=>absurd hb (by simp)) (fun b o q nb _=>keep b o q nb) (fun b o q hm=>(slot b o q hm).2)
 refine ⟨e,T',cls,c,fl,n,H,rfl,Im,oY (ap e ne) (ap T' new),⟨oe',vs',oT',ts',t1,t2,t3,t4,t6,t7,t8,t9⟩,hq.move fun a o vs g1 g2 g3 _=>⟨keep a o g1 (fun hm=>by obtain ⟨_,o2,q2,nf⟩:=I.stack.mem hm;rw[g1] at q2;cases q2;exact nf vs g2),g3,fun hm=>?_⟩,he⟩
 rcases List.mem_cons.mp hm with z|hm
 ·rw[←z,g1] at ne;cases ne
 ·rcases List.mem_cons.mp hm with z|hm
  ·rw[←z,g1] at new;cases new
  ·cases hm
theorem Bn (hh:X.A.handled=none) (ok:(X.dt x ps).Ok):X.Ok:=⟨ok.mod,ok.kind,ok.glob,ok.blt,ok.above,ok.inj,ok.has,ok.il,(fun _=>hh),ok.frames,ok.jv,ok.gW,ok.bs,ok.eW,ok.eR,ok.ic,ok.dq,ok.fV⟩
theorem EE (hh:X.A.handled=none) (hex:X.ex= []) (hst:X.stack=X.env::X.outer) (hfr:X.env.frame=some X.env.locals) (hair:gY X E):Passes (aY X.prog X.w) (X.dt x ps) E:=fun pins σ H s e s' I hx=>
 wg hex hst hfr rfl (Gb (I.je (Bn hh I.ok)) hex hx) fun s2 q2=>uS hex q2 fun s3 q3=>q3.to hair
theorem CY (hh:X.A.handled=none) (hex:X.ex= []) (hst:X.stack=X.env::X.outer) (hfr:X.env.frame=some X.env.locals) (hair:gY X E):kS (X.dt x ps) E:=by
 intro pins σ H s h1 e oe vs c n I kp ne ge de f1 f2 hq he
 have I:=I.je (Bn hh I.ok)
 have nh:(PySem.W.hideAll s.heap (bo X.stack)).get? e=none:=by
  cases q:(PySem.W.hideAll s.heap (bo X.stack)).get? e with
  |none=>rfl
  |some o=>rw[PySem.W.of_hideAll _ q] at ne;cases ne
 have ff:h1.FunFrames (PySem.W.hideAll s.heap (bo X.stack)) X.stack:=(PySem.W.funFrames_hide I.stack (fun env henv a ha=>yG henv ha)).of_keeps fun b o q nf=>⟨o,kp b o q,rfl⟩
 exact DH (s:={s with heap:=h1}) (by show X.A.frames=_;rw[I.ok.frames,hst]) hfr (by rw[←hst];exact ff) ge (fun b o q=>kp b o (PySem.W.of_hideAll _ q)) nh de f1 f2 fun h2 o2 up=>
  uS hex (L4 (s:=s) (h1:=h1) hex I kp ne hq he o2 up) fun s3 q3=>q3.to hair
end
structure iv (k:Nat) (A:Around):Prop where
 dp:A.depth+3*k+5<recursionLimit
 un:A.units+16*k+200<cLine
theorem aE.h {k:Nat} {A:Around} (r:aE k A) (v:Option Value):iv k (A.mark v):=⟨r.dp,r.un⟩
theorem iv.deeper {k:Nat} {A:Around} (r:iv (k+1) A) (env:Env):iv k (A.deeper env):=⟨by have:=r.dp;show A.depth+1+3*k+5<_;omega,by have:=r.un;show A.units+3+16*k+200<_;omega⟩
structure k7 (P:Program) (w:World) (K:PySem.W.Frag) (mg:Str→Option Value) (base:Heap) (k:Nat) (f:Addr) (fd:FuncData) (ps:List Str) (sp:Sp):Prop where
 len: ∀vs H Q E,sp vs H Q E→vs.length=ps.length
 run: ∀(A:Around) (outer:List Env) (s:Shared) (H:Hp) (args:Args) (us:List Value) (vs:List V) (Q:VK) (E:XK) (h:Addr) (n:Nat),iv k A→A.handled=some (.ref h)→b9 s.heap H [] n (.ref h)→i7 P w K mg base A outer s H→BindsTo s fd args (ps.zip us)→Vals vs us→sp vs H Q E→
  codeAny (model P w) A (.call (.ref f) args) (CR (aY P w) outer P w H s Q E) s
theorem aH.Ff {P:Program} {w:World} {K:PySem.W.Frag} {mg:Str→Option Value} {base:Heap} {x qual:Str} {st:Stmt} {f:Addr} {fd:FuncData} {N ps:List Str} {k:Nat} {sp:Sp} (F:aH K x qual st f fd) (S:aK N ps (aB st)) (len: ∀vs H Q E,sp vs H Q E→vs.length=ps.length)
  (hbody: ∀(cdv:Value) (A:Around) (outer:List Env) (s:Shared) (H:Hp) (vs:List V) (Q:VK) (E:XK) (pn:List (Addr×Obj)),iv k (A.deeper (envOfC qual (aB st) s.heap.objs.size f cdv))→jn (eD P w K mg base N qual (aB st) f cdv A outer s H E false pn)→sp vs H Q E→
   ∃t,cS (eD P w K mg base N qual (aB st) f cdv A outer s H E false pn) (lI st) t∧t {nx:=fun _ H'=>Q .aw H',rt:=Q} (start N vs) H):k7 P w K mg base (k+1) f fd ps sp:=by
 obtain ⟨oc,od,kV,doc,pm,an,cdv,ct,osl,rfl,lk,hcd⟩:=F.ex
 refine ⟨len,fun A outer s H args us vs Q E hx n hr hh hch e0 hb r hsp=>?_⟩
 have hl:=len _ _ _ _ hsp
 have KX:K.In s.heap:=e0.mod.iP.keeps fun b o e=>(e0.bs b o e).1
 have lim:s.heap.NoLimit:=e0.mod.nolimit.keeps fun b o e=>(e0.bs b o e).1
 have hkind: ∀y∈ps.zip us,(aB st).names.lookup y.1=some .local∨((aB st).names.lookup y.1=some .cell∧((cellsFrom (s.heap.objs.size+1) (aB st).names []).lookup y.1).isSome=true):=fun ⟨n,v⟩ hy=>by
  rcases S.par n (List.of_mem_zip hy).1 with q|q
  ·exact .inl q
  ·exact .inr ⟨q,PySem.W.cellsFrom_some _ _ _ (.inl q)⟩
 refine codeAny_call_function (by have:=hr.dp;omega) (KX _ _ lk) rfl S.co S.gen rfl (PySem.W.codeRec_of KX hcd) (hb _ _ _ _ ?_)
 refine wpAny_newFunctionEnv_cells S.kind hkind fun env he s1 x=>?_
 subst he
 refine ⟨lim.keeps x.toInCall.keep,codeAny_func ?_⟩
 obtain ⟨pn,p1,p2⟩:=hch.pins
 have hn:jn (eD P w K mg base N qual (aB st) f cdv A outer s H E false pn):=⟨hx,pn,n,hh,p1,fun p hp=>hp⟩
 obtain ⟨t,ht,hq⟩:=hbody cdv A outer s H vs Q E pn (hr.deeper _) hn hsp
 have I0:Inv (fK (aY P w) P w K mg base N qual (aB st) f cdv {A with handled:=none} outer s H E) [] (start N vs) H s1:=DR S rfl ⟨e0.frames,e0.mod,e0.bs,e0.eW,e0.dq,e0.fV,e0.ao,e0.bare⟩ hl r x
 have I:Inv (eD P w K mg base N qual (aB st) f cdv A outer s H E false pn) [] (start N vs) H s1:=by
  refine ⟨⟨I0.ok.mod,I0.ok.kind,I0.ok.glob,I0.ok.blt,I0.ok.above,I0.ok.inj,I0.ok.has,I0.ok.il,(fun z=>nomatch z),Around.frames_deeper e0.frames,I0.ok.jv,I0.ok.gW,I0.ok.bs,I0.ok.eW,I0.ok.eR,I0.ok.ic,I0.ok.dq,I0.ok.fV⟩,I0.os,I0.bare,I0.base,I0.loc,I0.cell,I0.free,I0.dN,fun p hp=>?_,I0.ao,I0.len⟩
  have hp:p∈pn:=by
   rcases List.mem_append.mp hp with z|z
   ·exact z
   ·cases z
  obtain ⟨g1,g2,vs',g3⟩:=p2 p hp
  refine ⟨x.toInCall.keep _ _ g1,g2,Nat.ne_of_lt (Heap.lt_size g1),fun z=>?_,fun v q=>by rw[g3] at q;cases q⟩
  obtain ⟨_,o,ho,nf⟩:=e0.dq.mem z
  rw[g1] at ho;cases ho;exact nf vs' g3
 refine wpAny_mono (ht [] s1 (start N vs) H _ I hq) (fun fl s' hs=>?_) fun e s' hs=>hs
 have fin: ∀{σ':St} {H':Hp} {v:V} {u:Value},Inv (eD P w K mg base N qual (aB st) f cdv A outer s H E false pn) [] σ' H' s'→RelV v u→Q v H'→CE outer P w H s Q u s':=
  fun {σ' H' v u} J rv q=>⟨v,H',J.os,J.bare,J.base,J.ao,rv,q⟩
 cases fl with
 |ret u=>
  obtain ⟨v,σ',H',J,rv,q⟩:=hs
  exact fin J rv q
 |next=>
  obtain ⟨σ',H',J,q⟩:=hs
  exact fin (v:=V.aw) (u:=Value.none) J rfl q
 |brk=>
  obtain ⟨_,_,_,q⟩:=hs
  exact False.elim q
 |cont=>
  obtain ⟨_,_,_,q⟩:=hs
  exact False.elim q
section
variable {X:Cx} {k:Nat} {f C:Addr} {fd:FuncData} {ps:List Str} {sp:Sp} {E:XK} {x m:Str} {p pos apos:Pos} {e o:Expr} {es:List Expr} {ta:TE} {t:TA}
theorem Fi {pins:List (Addr×Obj)} {σ:St} {H:Hp} {s:Shared} {Q:VK} {us:List Value} {vs:List V} (F:k7 X.prog X.w X.K X.mg X.base k f fd ps sp) (hh:jn X) (hr:iv k X.A) (hb:Binds X.K fd ps []) (hx:Passes (aY X.prog X.w) X E)
  (I:Inv X pins σ H s) (r:Vals vs us) (h:sp vs H Q E):wpAny (model X.prog X.w) X.A (call (.ref f) us) (EP X pins σ Q) X.xe s:=by
 have hl:(us++ []).length=ps.length:=by rw[List.append_nil,←r.length];exact F.len _ _ _ _ h
 obtain ⟨hx1,pn,n,q1,q2,q3⟩:=hh
 have ch:b9 s.heap H [] n (.ref hx1):=q2.wx fun p hp'=>⟨(I.pin p (List.mem_append_left _ (q3 p hp'))).1,(I.pin p (List.mem_append_left _ (q3 p hp'))).2.1,by simp⟩
 have hb':=hb s us I.b7 hl
 rw[List.append_nil] at hb'
 refine wpAny_call (codeAny_mono (F.run X.A X.stack s H ⟨us, []⟩ us vs Q E hx1 n hr q1 ch I.uj hb' r h) fun r s' hq=>?_)
 cases r with
 |error e=>exact hx pins σ H s e s' I hq
 |ok fl=>
  cases fl with
  |ret u=>exact I.after hq
  |next=>exact False.elim hq
  |brk=>exact False.elim hq
  |cont=>exact False.elim hq
theorem E7 {pl:Sem Bool} (hh:jn X) (he:PE X o ta) (c:cg X.K C) (hm:Meth X.K C m f) (F:k7 X.prog X.w X.K X.mg X.base k f fd ps sp) (hr:iv k X.A) (hb:Binds X.K fd ps []) (hx:Passes (aY X.prog X.w) X E) (ha:PA X (e::es) t)
  (hst:starEach (e::es) X.env=(false,eval e X.env)::starEach es X.env:=by rfl) (hpl:(backTo pos (starEach es X.env)).any (·.1)=false:=by rfl)
  (ht:eval (.Call (.Attribute o m apos) (e::es) [] pos) X.env=(do
   let ov←eval o X.env
   standAt apos.atName
   let (f,first)←holding [ov] (getMethod ov m pl)
   callWith pos f first (backTo pos (starEach (e::es) X.env)) (backToKw pos (keywordEach [] X.env))):=by rfl):
  PE X (.Call (.Attribute o m apos) (e::es) [] pos) (tL C m sp [] E ta t):=by
 intro pins s σ H Q I h
 refine PySem.W.methodCall_KW (pl:=pl) (aI (he pins s σ H _ I h) fun u s1 ⟨x,H1,I1,rx,a,dx,fs,ex,ea,l,q⟩=>?_) ht
 subst ex
 obtain rfl:u=Value.ref a:=rx
 refine tY I1 ea c hm l ?_
 refine PySem.W.callWith_K (first:= [.ref a]) (h₀:=X.base) I.ok.mod.iP hm.kp (aI (ha pos pins s1 σ H1 _ I1 q) fun us s2 ⟨vs,H2,I2,r,q2⟩=>⟨I2.b7,?_⟩) hst hpl
 have q2:sp (.ref a::(vs++ [])) H2 Q E:=q2
 rw[List.append_nil] at q2
 exact Fi (us:= .ref a::us) (vs:= .ref a::vs) F hh hr hb hx I2 (.cons rfl r) q2
theorem NI {pl:Sem Bool} (hh:jn X) (he:PE X o ta) (c:cg X.K C) (hm:Meth X.K C m f) (F:k7 X.prog X.w X.K X.mg X.base k f fd ps sp) (hr:iv k X.A) (hb:Binds X.K fd ps []) (hx:Passes (aY X.prog X.w) X E)
  (ht:eval (.Call (.Attribute o m apos) [] [] pos) X.env=(do
   let ov←eval o X.env
   standAt apos.atName
   let (f,first)←holding [ov] (getMethod ov m pl)
   callWith pos f first (backTo pos (starEach [] X.env)) (backToKw pos (keywordEach [] X.env))):=by rfl):
  PE X (.Call (.Attribute o m apos) [] [] pos) (tL C m sp [] E ta rX):=by
 intro pins s σ H Q I h
 refine PySem.W.methodCall_KW (pl:=pl) (aI (he pins s σ H _ I h) fun u s1 ⟨x,H1,I1,rx,a,dx,fs,ex,ea,l,q⟩=>?_) ht
 subst ex
 obtain rfl:u=Value.ref a:=rx
 refine tY I1 ea c hm l ?_
 exact PySem.W.callWith_K0 (first:= [.ref a]) I1.b7 hm.kp (Fi (us:= [.ref a]) (vs:= [.ref a]) F hh hr hb hx I1 (.cons rfl .nil) q)
end
end L2
namespace L2
open PySem PySem.Spec PyProof.Rows
section
variable {X:Cx}
theorem RL {E:XK} {i:Nat} {y:Str} {py:Pos} {elt tg iter:Expr} {ifs:List Expr} {scope:Scope} {own:List (Str×Nat)} {pos spos:Pos} {wi:TI} {g:TG} {tt:TT} {te:TE} (hex:X.ex= []) (hst:X.stack=X.env::X.outer) (hfr:X.env.frame=some X.env.locals) (hair:gY X E) (hc:X.calm=true) (hN:X.N.Nodup) (hy:X.N[i]?=some y) (hyl:X.env.scope.names.lookup y=some .local)
  (hsw:swapsWith (.ListComp elt [⟨tg,iter,ifs,0⟩] scope pos) (some (.Name y py)) spos.line X.env=pure true) (hi:PI X tg iter wi) (ok:iW X.N X.env.scope scope own)
  (hg: ∀(s:Shared) (H:Hp) (C:Addr) (cl:List (Str×Addr)) (fp:List Addr) (xb:Value→Shared→Prop),PG ((X.bz s H scope (compEnvC scope cl C X.env) fp).bP xb) tg g) (ht: ∀(s:Shared) (H:Hp) (C:Addr) (cl:List (Str×Addr)) (fp:List Addr) (xb:Value→Shared→Prop),jX ((X.bz s H scope (compEnvC scope cl C X.env) fp).bP xb) ifs tt)
  (he: ∀(s:Shared) (H:Hp) (C:Addr) (cl:List (Str×Addr)) (fp:List Addr) (xb:Value→Shared→Prop),Passes (aY X.prog X.w) ((X.bz s H scope (compEnvC scope cl C X.env) fp).bP xb) E→PE ((X.bz s H scope (compEnvC scope cl C X.env) fp).bP xb) elt te) (hs: ∀x,foldedSetIterable iter X.env x=pure x:=by intro _;rfl):
  PS X (.Assign [.Name y py] (.ListComp elt [⟨tg,iter,ifs,0⟩] scope pos) spos) (wC (iH wi g tt te (own.map (·.2))) (jK i)):=by
 intro pins s σ H D I h
 rw[exec_Assign_Name_used _ _ _ _ hsw]
 refine wpAny_bind (wpAny_standAt (wpAny_bind ?_))
 show wpAny _ X.A (do let _←comprehension (.ListComp elt [⟨tg,iter,ifs,0⟩] scope pos) scope X.env (firstIterPos [⟨tg,iter,ifs,0⟩] pos) (newList []) false (eval iter X.env) (some (assign (.Name y py) X.env))) _ _ s
 have h:iH wi g tt te (own.map (·.2)) σ H (fun x H1=>jK i x σ H1 D.nx):=h
 refine wpAny_bind (aI (Gq (Qf:=fun _ s'=>SP X pins D .next s') hex hst hfr hair hc hN I hi ok hg ht he hs h fun L C s' m H' I' q hn f=>?_) fun _ s' hq=>wpAny_pure (wpAny_pure hq))
 show wpAny _ _ (assign (.Name y py) X.env (.ref L)) _ _ _
 refine wpAny_assign_Name (uV (v:=V.ref L) I' hN hy (.inl hyl) rfl (fun s2 I2 ⟨a,sb,ha⟩=>?_) (.inr hyl))
 obtain ⟨f0,f1,f2,f3,f4,f5⟩:=f
 have haC:C≠a:=by
  rcases ha with z|z
  ·rw[z];exact f1
  ·exact fun e=>f4 y a z e.symm
 refine ⟨m,hn.sameBut sb haC,fun h3 sb3=>?_⟩
 exact ⟨_,H',I2.turned (t':=s2.toks) (fun b o hb e=>(sb3.2 b hb).trans e) f0 f1 f3 f4 f5,q⟩
def LW (i:Nat) (tab:Addr→Sp→Prop) (E:St→XK) (t:TA):TE:=fun σ H Q=> ∃f sp,σ[i]?=some (some (.ref f))∧tab f sp∧t σ H fun vs H1=>sp vs H1 Q (E σ)
theorem KD {k:Nat} {i:Nat} {tab:Addr→Sp→Prop} {E:St→XK} {x:Str} {p pos:Pos} {e:Expr} {es:List Expr} {t:TA} (hv:PE X (.Name x p) (gJ i)) (htab: ∀f sp,tab f sp→ ∃fd ps,az X.prog X.w X.K X.mg X.base (aY X.prog X.w) k f fd ps sp∧PySem.W.keepIn X.K (.ref f)=true∧Binds X.K fd ps [])
  (hr:aE k X.A) (hx:nk X E) (ha:PA X (e::es) t) (he:starEach (e::es) X.env=(false,eval e X.env)::starEach es X.env:=by rfl) (hpl:(backTo pos (starEach es X.env)).any (·.1)=false:=by rfl):PE X (.Call (.Name x p) (e::es) [] pos) (LW i tab E t):=by
 intro pins s σ H Q I h
 obtain ⟨f,sp,h1,h2,h3⟩:=h
 obtain ⟨fd,ps,F,hk,hb⟩:=htab f sp h2
 refine wpAny_Call_Name_kw (aI (hv pins s σ H (fun v H'=>v= .ref f∧H'=H) I ⟨_,h1,rfl,rfl⟩) fun u s1 ⟨v,H1,I1,r1,e1,e2⟩=>?_)
 subst e1 e2
 obtain rfl:u=Value.ref f:=r1
 refine PySem.W.callWith_K (h₀:=X.base) I1.ok.mod.iP hk (aI (ha pos pins s1 σ H1 _ I1 h3) fun us s2 ⟨vs,H2,I2,r,q⟩=>⟨I2.b7,?_⟩) he hpl
 exact FR (dvs:= []) (ds:= []) F hr hb .nil hx I2 r (by rw[List.append_nil];exact q)
end
end L2
namespace L2
open PySem PySem.Spec PyProof.Rows
section
variable {X:Cx}
def Js (K:PySem.W.Frag):R2:=fun x y H Q=> ∃l b xs zs,x= .ref l∧y= .ref b∧ah K H l xs∧ah K H b zs∧xs.length+zs.length≤sizeLine∧ ∀p,H p=none→Q (.ref p) (upd H p (.lst (xs++zs)))
theorem fc:bD X (binaryOp .Add) (Js X.K):=by
 intro pins s σ H x y v u Q I rx ry h
 obtain ⟨l,b,xs,zs,rfl,rfl,hl,hb,hz,q⟩:=h
 cases rx
 cases ry
 obtain ⟨its,r1,⟨⟨c1,d1,a1,s1⟩,n1,e1,k1,_,t1⟩,_⟩:=I.list hl
 obtain ⟨its2,r2,⟨⟨c2,d2,a2,s2⟩,n2,e2,k2,_,t2⟩,_⟩:=I.list hb
 simp only at k1 t1 k2 t2
 subst k1 t1 k2 t2
 have ez:its.toArray.size+its2.toArray.size≤sizeLine:=by rw[List.size_toArray,List.size_toArray,←r1.length,←r2.length];exact hz
 refine concat_meets ⟨_,e1,rfl⟩ ⟨_,e2,rfl⟩ noFill_list_add seq_list_add PySem.F.slot_list_add PySem.F.entry_list_add (PySem.F.args_list_add_2 _ _) (list_addW l b its.toArray its2.toArray n1 n2 d1 d2 s1 s2 ez) ⟨e1,e2,?_⟩
 have ea:its.toArray++its2.toArray=(its++its2).toArray:=by simp
 rw[ea]
 exact ⟨.ref _,_,I.xA (t':=s.toks) (r1.append r2) (by rw[List.length_append];omega),rfl,q _ I.fresh⟩
end
end L2
namespace L2
open PySem PySem.Spec PyProof.Rows
section
variable {X:Cx}
theorem K5 {E:XK} {pins:List (Addr×Obj)} {σ:St} {s:Shared} {ev:Value} {what:String} {α:Type} {Q:α→Shared→Prop} (hex:X.ex= []) (hair:gY X E) (h:cE X pins σ E ev s):wpAny (model X.prog X.w) X.A (PySem.passOn what ev X.env) Q X.xe s:=by
 obtain ⟨x,T,cls,c,fl,n,H,rfl,I,ap,ht,hq,he⟩:=id h
 obtain ⟨oe,vs,oT,ts,g1,g2,g3,g4,_⟩:=ht
 unfold PySem.passOn
 refine wpAny_bind (wpAny_field g1 g3 g4 ?_)
 rw[if_neg (by simp)]
 refine wpAny_bind (rB hex h fun s3 q3=>wpAny_throw (q3.to hair))
def JQ (K:PySem.W.Frag) (C:Addr) (u:TS) (E':XK):Ends→St→XK:=fun D σ cls d H=>(cls= .ref C∧u D σ H)∨((∃C',cls= .ref C'∧Own K C')∧cls≠ .ref C∧E' cls d H)
theorem RI {E':XK} {C:Addr} {y:Str} {np pos:Pos} {b0:Stmt} {suite:List Stmt} {u:TS} (hex:X.ex= []) (hair:gY X E') (hC:Own X.K C) (hg:Gl X y) (hm:X.mg y=some (.ref C)) (hsu: ∀x ps n,ft ps n (.ref x)→cS (X.dt x ps) (b0::suite) u) (hd:(y==("__debug__" :Str))=false:=by decide):
  ∀(pins:List (Addr×Obj)) (σ:St) (D:Ends) (ev:Value) (s3:Shared),cE X pins σ (JQ X.K C u E' D σ) ev s3→wpAny (model X.prog X.w) X.A (handleBy ev X.env [.ExceptHandler (some (.Name y np)) none (b0::suite) pos]) (SP X pins D) X.xe s3:=fun pins σ D ev s3 h=>by
 refine clause (t:=u) hex hC hg hm hsu (fun cls d H z=>z.elim (fun z=>⟨C,z.1,hC⟩) fun z=>z.1) (fun d H z=>z.elim (fun z=>z.2) fun z=>absurd rfl z.2.1) h (fun s3 h3=>?_) hd
 refine wpAny_handleBy_nil (K5 hex hair (h3.imp fun cls d H z=>?_))
 rcases z.1 with w|w
 ·exact absurd w.1 z.2
 ·exact w.2.2
end
end L2
set_option maxHeartbeats 2000000
namespace L2
open PySem PySem.Spec PyProof.Rows
theorem mD {K:PySem.W.Frag} {H:Hp}: ∀xs:List Int,ki K H (xs.map V.int) (xs.map PyData.int)
 | []=> .nil
 |x::xs=> .cons (.int x) (mD xs)
theorem lay_ints: ∀xs:List Int,PyData.canLayAll0 (xs.map PyData.int)=true
 | []=>rfl
 |x::xs=>by
  rw[List.map_cons,PyData.canLayAll0,lay_ints xs];rfl
theorem FJ: ∀xs:List Int,PyData.depthAll (xs.map PyData.int)≤1
 | []=>by simp [PyData.depthAll]
 |x::xs=>by
  have:=FJ xs
  rw[List.map_cons,PyData.depthAll]
  simp only [PyData.depth]
  omega
theorem shaped_ints (xs:List Int):SeqAt.shaped (.list (xs.map PyData.int))=true:=by
 unfold SeqAt.shaped
 rw[Bool.and_eq_true]
 refine ⟨by rw[PyData.canLay0];exact lay_ints xs,decide_eq_true ?_⟩
 have:=FJ xs
 rw[PyData.depth]
 omega
theorem vH: ∀xs ys:List Int,PyData.eqvAll (xs.map PyData.int) (ys.map PyData.int)=decide (xs=ys)
 | [], []=>by simp [PyData.eqvAll]
 | [],_::_=>by simp [PyData.eqvAll]
 |_::_, []=>by simp [PyData.eqvAll]
 |x::xs,y::ys=>by
  rw[List.map_cons,List.map_cons,PyData.eqvAll,vH xs ys,PyData.eqv]
  by_cases h:x=y
  ·by_cases h2:xs=ys
   ·simp [h,h2]
   ·simp [h,h2]
  ·simp [h]
section
variable {X:Cx}
def BA (K:PySem.W.Frag):R2:=fun x y H Q=> ∃a b,∃xs ys:List Int,x= .ref a∧y= .ref b∧ah K H a (xs.map V.int)∧ah K H b (ys.map V.int)∧Q (.bl (decide (xs=ys))) H
def Ot (K:PySem.W.Frag):R2:=fun x y H Q=> ∃a b,∃xs ys:List Int,x= .ref a∧y= .ref b∧ah K H a (xs.map V.int)∧ah K H b (ys.map V.int)∧Q (.bl (!decide (xs=ys))) H
theorem Rh (hu:X.A.units+64<cLine):bD X (compareOp .Eq) (BA X.K):=by
 intro pins s σ H x y v u Q I rx ry h
 obtain ⟨a,b,xs,ys,rfl,rfl,ha,hb,q⟩:=h
 refine Na hu pins s σ H _ _ v u Q I rx ry ⟨.list (xs.map PyData.int), .list (ys.map PyData.int), .lst ha (mD xs), .lst hb (mD ys),shaped_ints xs,shaped_ints ys,?_⟩
 rw[PyData.eqv,vH]
 exact q
theorem u9 (hu:X.A.units+64<cLine):bD X (compareOp .NotEq) (Ot X.K):=by
 intro pins s σ H x y v u Q I rx ry h
 obtain ⟨a,b,xs,ys,rfl,rfl,ha,hb,q⟩:=h
 refine Mf hu pins s σ H _ _ v u Q I rx ry ⟨.list (xs.map PyData.int), .list (ys.map PyData.int), .lst ha (mD xs), .lst hb (mD ys),shaped_ints xs,shaped_ints ys,?_⟩
 rw[PyData.eqv,vH]
 exact q
theorem SA {K:PySem.W.Frag} (h:X.K=K) (hu:X.A.units+64<cLine):bD X (compareOp .Eq) (BA K):=by subst h;exact Rh hu
end
end L2
namespace L2
open PySem PySem.Spec PyProof.Rows
theorem aD {K:PySem.W.Frag} {i:Nat} {f:Str} {σ:L2.St} {H:Hp} {Q:V→Prop} {p C dx:Addr} {fs:List (Str×V)} {v:V} (e:σ[i]?=some (some (.ref p))) (h:H p=some (.ins C dx fs)) (c:cg K C) (n:bf K C f) (l:fs.lookup f=some v) (q:Q v): ∃w,σ[i]?=some (some w)∧ ∃a C' dx' fs' v',w= .ref a∧H a=some (.ins C' dx' fs')∧cg K C'∧bf K C' f∧fs'.lookup f=some v'∧Q v':=⟨_,e,p,C,dx,fs,v,rfl,h,c,n,l,q⟩
theorem fI {K:PySem.W.Frag} {f:Str} {H:Hp} {Q:V→Prop} {p C dx:Addr} {fs:List (Str×V)} {v:V} (h:H p=some (.ins C dx fs)) (c:cg K C) (n:bf K C f) (l:fs.lookup f=some v) (q:Q v): ∃a C' dx' fs' v',V.ref p= .ref a∧H a=some (.ins C' dx' fs')∧cg K C'∧bf K C' f∧fs'.lookup f=some v'∧Q v':=⟨p,C,dx,fs,v,rfl,h,c,n,l,q⟩
theorem aS {i:Nat} {m:Str} {σ:L2.St} {H:Hp} {Q:V→Prop} {p C dx:Addr} {fs:List (Str×V)} (e:σ[i]?=some (some (.ref p))) (h:H p=some (.ins C dx fs)) (l:fs.lookup m=none) (q:Q (.ref p)): ∃w,σ[i]?=some (some w)∧ ∃a dx' fs',w= .ref a∧H a=some (.ins C dx' fs')∧fs'.lookup m=none∧Q w:=⟨_,e,p,dx,fs,rfl,h,l,q⟩
theorem mJ {m:Str} {H:Hp} {Q:Prop} {p C dx:Addr} {fs:List (Str×V)} (h:H p=some (.ins C dx fs)) (l:fs.lookup m=none) (q:Q): ∃a dx' fs',V.ref p= .ref a∧H a=some (.ins C dx' fs')∧fs'.lookup m=none∧Q:=⟨p,dx,fs,rfl,h,l,q⟩
theorem ag {T0 T1:Sort _} {P:T0→T1→Prop} (a:T0) (b:T1) (hh:P a b): ∃a b,P a b:=⟨a,b,hh⟩
theorem bE {T0 T1 T2:Sort _} {P:T0→T1→T2→Prop} (a:T0) (b:T1) (c:T2) (hh:P a b c): ∃a b c,P a b c:=⟨a,b,c,hh⟩
theorem aA {T0 T1 T2 T3:Sort _} {P:T0→T1→T2→T3→Prop} (a:T0) (b:T1) (c:T2) (d:T3) (hh:P a b c d): ∃a b c d,P a b c d:=⟨a,b,c,d,hh⟩
theorem tS {T0 T1 T2 T3 T4:Sort _} {P:T0→T1→T2→T3→T4→Prop} (a:T0) (b:T1) (c:T2) (d:T3) (e:T4) (hh:P a b c d e): ∃a b c d e,P a b c d e:=⟨a,b,c,d,e,hh⟩
theorem oA {T0 T1 T2 T3 T4 T5:Sort _} {P:T0→T1→T2→T3→T4→T5→Prop} (a:T0) (b:T1) (c:T2) (d:T3) (e:T4) (f:T5) (hh:P a b c d e f): ∃a b c d e f,P a b c d e f:=⟨a,b,c,d,e,f,hh⟩
theorem ve {T0 T1 T2 T3 T4 T5 T6:Sort _} {P:T0→T1→T2→T3→T4→T5→T6→Prop} (a:T0) (b:T1) (c:T2) (d:T3) (e:T4) (f:T5) (g:T6) (hh:P a b c d e f g): ∃a b c d e f g,P a b c d e f g:=⟨a,b,c,d,e,f,g,hh⟩
theorem dH {T0 T1 T2 T3 T4 T5 T6 T7:Sort _} {P:T0→T1→T2→T3→T4→T5→T6→T7→Prop} (a:T0) (b:T1) (c:T2) (d:T3) (e:T4) (f:T5) (g:T6) (h:T7) (hh:P a b c d e f g h): ∃a b c d e f g h,P a b c d e f g h:=⟨a,b,c,d,e,f,g,h,hh⟩
theorem wO {T0 T1 T2 T3 T4 T5 T6 T7 T8:Sort _} {P:T0→T1→T2→T3→T4→T5→T6→T7→T8→Prop} (a:T0) (b:T1) (c:T2) (d:T3) (e:T4) (f:T5) (g:T6) (h:T7) (i:T8) (hh:P a b c d e f g h i): ∃a b c d e f g h i,P a b c d e f g h i:=⟨a,b,c,d,e,f,g,h,i,hh⟩
end L2
namespace Wg
def aT (c n:Nat):List Nat:=(List.range c).map fun i=>n/256^(c-1-i)%256
theorem J2 (c n:Nat):(Sound.high c n).map UInt8.toNat=aT c n:=by
 unfold Sound.high aT
 rw[List.map_map]
 refine List.map_congr_left fun i _=>?_
 simp [UInt8.toNat_ofNat']
def bN (l:List Nat):Nat:=l.foldl (fun n c=>256*n+c) 0
theorem mi (b:Sound.Bytes):Sound.fromHigh b=bN (b.map UInt8.toNat):=by
 unfold Sound.fromHigh bN
 rw[List.foldl_map]
def fe (d:Nat):Nat:=if d%2=1 then (d/2)^^^0xEDB88320 else d/2
def k8:List Nat:= [0,498536548,997073096,651767980,1994146192,1802195444,1303535960,1342533948,3988292384,4027552580,3604390888,3412177804,2607071920,2262029012,2685067896,3183342108]
def qZ (c:Nat):Nat:=(c/16)^^^k8.getD (c%16) 0
def rE (c b:Nat):Nat:=qZ (qZ (c^^^b))
def kd (l:List Nat):Nat:=(l.foldl rE 0xFFFFFFFF)^^^0xFFFFFFFF
theorem Rx (a b:Nat):(a^^^b)/2=a/2^^^b/2:=by
 have:=Nat.shiftRight_xor_distrib (a:=a) (b:=b) (i:=1)
 simpa [Nat.shiftRight_eq_div_pow] using this
theorem PM (a b:Nat):fe (a^^^b)=fe a^^^fe b:=by
 unfold fe
 rw[Rx]
 have h:(a^^^b)%2=(a%2+b%2)%2:=by
  have h1:=Nat.testBit_xor a b 0
  simp only [Nat.testBit_zero] at h1
  rcases Nat.mod_two_eq_zero_or_one a with ha|ha<;>rcases Nat.mod_two_eq_zero_or_one b with hb|hb<;>rcases Nat.mod_two_eq_zero_or_one (a^^^b) with hc|hc<;>rw[ha,hb,hc] at h1<;>first|(rw[ha,hb,hc];done)|(exact absurd h1 (by decide))
 rcases Nat.mod_two_eq_zero_or_one a with ha|ha<;>rcases Nat.mod_two_eq_zero_or_one b with hb|hb<;>simp only [h,ha,hb]
 ·simp
 ·simp [Nat.xor_assoc]
 ·simp only [Nat.reduceAdd,Nat.reduceMod,if_true]
  rw[if_neg (by decide),Nat.xor_assoc,Nat.xor_assoc,Nat.xor_comm (b/2)]
 ·simp only [Nat.reduceAdd,Nat.reduceMod,if_true]
  rw[if_neg (by decide),Nat.xor_assoc,←Nat.xor_assoc 3988292384,Nat.xor_comm 3988292384,Nat.xor_assoc (b/2),Nat.xor_self,Nat.xor_zero]
theorem SK (d:Nat):d=(16*(d/16))^^^(d%16):=by
 apply Nat.eq_of_testBit_eq
 intro i
 have e:d=2^4*(d/16)+d%16:=by omega
 rw[Nat.testBit_xor,show (16*(d/16))=2^4*(d/16) by omega,Nat.testBit_two_pow_mul]
 conv=>lhs;rw[e,Nat.testBit_two_pow_mul_add _ (by omega)]
 by_cases h:i<4
 ·rw[if_pos h,decide_eq_false (by omega)];simp
 ·rw[if_neg h,decide_eq_true (by omega),show (d%16).testBit i=false from Nat.testBit_lt_two_pow (Nat.lt_of_lt_of_le (Nat.mod_lt d (by decide)) (by rw[show 16=2^4 by decide];exact Nat.pow_le_pow_right (by decide) (by omega)))];simp
theorem J9 (q:Nat):fe (2*q)=q:=by unfold fe;rw[if_neg (by omega)];omega
theorem Fn (d:Nat):qZ d=fe (fe (fe (fe d))):=by
 have h: ∀r:Nat,r<16→fe (fe (fe (fe r)))=k8.getD r 0:=by decide
 conv=>rhs;rw[SK d]
 simp only [PM]
 rw[h _ (Nat.mod_lt d (by decide)),show 16*(d/16)=2*(2*(2*(2*(d/16)))) by omega]
 simp only [J9]
 rfl
theorem LY (c:Nat) (x:UInt8):rE c x.toNat=Sound.crc32step c x:=by
 unfold rE
 rw[Fn,Fn]
 rfl
theorem xg (b:Sound.Bytes):kd (b.map UInt8.toNat)=Sound.crc32 b:=by
 unfold kd Sound.crc32
 rw[List.foldl_map]
 congr 2
 funext c x
 exact LY c x
def cQ (a:Nat):Nat→Nat
 |0=>a
 |k+1=>Sound.times2 (cQ a k)
def e9 (k a b:Nat):Nat:=((List.range k).foldl (fun (x:Nat×Nat) (i:Nat)=>(if b.testBit i=true then x.1^^^x.2 else x.1,Sound.times2 x.2)) (0,a)).1
theorem Ry (k a b:Nat):((List.range k).foldl (fun (x:Nat×Nat) (i:Nat)=>(if b.testBit i=true then x.1^^^x.2 else x.1,Sound.times2 x.2)) (0,a)).2=cQ a k:=by
 induction k with
 |zero=>rfl
 |succ k ih=>rw[List.range_succ,List.foldl_append];simp only [List.foldl_cons,List.foldl_nil,ih];rfl
theorem ji (k a b:Nat):e9 (k+1) a b=if b.testBit k=true then e9 k a b^^^cQ a k else e9 k a b:=by
 unfold e9
 rw[List.range_succ,List.foldl_append]
 simp only [List.foldl_cons,List.foldl_nil,Ry]
theorem Sk (k a b c:Nat) (h: ∀i,i<k→b.testBit i=c.testBit i):e9 k a b=e9 k a c:=by
 induction k with
 |zero=>rfl
 |succ k ih=>rw[ji,ji,h k (by omega),ih fun i hi=>h i (by omega)]
def gB (a k:Nat):List Nat:=(List.range (2^k)).map (e9 k a)
theorem Rt (a k:Nat):gB a (k+1)=gB a k++(gB a k).map (fun p=>p^^^cQ a k):=by
 unfold gB
 rw[show 2^(k+1)=2^k+2^k by rw[Nat.pow_succ];omega,List.range_add,List.map_append,List.map_map,List.map_map]
 congr 1
 ·refine List.map_congr_left fun b hb=>?_
  rw[ji,Nat.testBit_lt_two_pow (List.mem_range.mp hb)]
  simp
 ·refine List.map_congr_left fun b hb=>?_
  have hb:=List.mem_range.mp hb
  show e9 (k+1) a (2^k+b)=e9 k a b^^^cQ a k
  have t: ∀j,(2^k+b).testBit j=if j<k then b.testBit j else (1:Nat).testBit (j-k):=fun j=>by
   have:=Nat.testBit_two_pow_mul_add 1 hb j
   rwa [Nat.mul_one] at this
  rw[ji,t k,if_neg (Nat.lt_irrefl _),Nat.sub_self,if_pos (by decide),Sk k a (2^k+b) b fun i hi=>by rw[t i,if_pos hi]]
theorem MA {a:Nat} (h:a<256):Sound.times2 a<256:=by
 have: ∀a:Nat,a<256→Sound.times2 a<256:=by decide+kernel
 exact this a h
theorem wk {a:Nat} (h:a<256): ∀k,cQ a k<256
 |0=>h
 |k+1=>MA (wk h k)
theorem wM {a:Nat} (h:a<256) (b:Nat): ∀k,e9 k a b<256
 |0=>by show 0<256;decide
 |k+1=>by
  rw[ji]
  split
  ·exact Nat.xor_lt_two_pow (n:=8) (wM h b k) (wk h k)
  ·exact wM h b k
theorem SV {a:Nat} (h:a<256) (b:Nat):Sound.mul a b<256:=wM h b 8
end Wg
namespace Wg
theorem CD (a b c:Nat): ∀k,e9 k a (b^^^c)=e9 k a b^^^e9 k a c
 |0=>by show 0=0^^^0;rfl
 |k+1=>by
  rw[ji,ji,ji,Nat.testBit_xor,CD a b c k]
  cases b.testBit k<;>cases c.testBit k<;>simp
  ·rw[Nat.xor_assoc]
  ·rw[Nat.xor_assoc,Nat.xor_assoc,Nat.xor_comm (cQ a k)]
  ·rw[Nat.xor_assoc,←Nat.xor_assoc (cQ a k),Nat.xor_comm (cQ a k),Nat.xor_assoc (e9 k a c),Nat.xor_self,Nat.xor_zero]
theorem xj (a b c:Nat):Sound.mul a (b^^^c)=Sound.mul a b^^^Sound.mul a c:=CD a b c 8
theorem mul_zero (a:Nat):Sound.mul a 0=0:=by
 have:=xj a 0 0
 rw[Nat.xor_self,Nat.xor_self] at this
 exact this
theorem Cy: ∀a:Nat,a<256→a≠0→Sound.inverse a<256∧Sound.mul a (Sound.inverse a)=1∧ ∀i,i<8→Sound.mul (Sound.inverse a) (Sound.mul a (2^i))=2^i:=by decide+kernel
theorem Ce {b k:Nat} (h:b<2^(k+1)):b=(b%2^k)^^^(if b.testBit k=true then 2^k else 0):=by
 apply Nat.eq_of_testBit_eq
 intro i
 rw[Nat.testBit_xor,Nat.testBit_mod_two_pow]
 rcases Nat.lt_trichotomy i k with q|q|q
 ·rw[decide_eq_true q]
  split
  ·rw[Nat.testBit_two_pow,decide_eq_false (by omega)];simp
  ·simp
 ·subst q
  rw[decide_eq_false (Nat.lt_irrefl _)]
  cases e:b.testBit i<;>simp [Nat.testBit_two_pow]
 ·rw[decide_eq_false (by omega),Nat.testBit_lt_two_pow (Nat.lt_of_lt_of_le h (Nat.pow_le_pow_right (by decide) q))]
  split
  ·rw[Nat.testBit_two_pow,decide_eq_false (by omega)];rfl
  ·simp
theorem yr {a:Nat} (ha:a<256) (h0:a≠0): ∀k,k≤8→ ∀b,b<2^k→Sound.mul (Sound.inverse a) (Sound.mul a b)=b
 |0,_,b,hb=>by
  have:b=0:=by simp at hb;exact hb
  rw[this,mul_zero,mul_zero]
 |k+1,hk,b,hb=>by
  conv=>lhs;rw[Ce hb]
  rw[xj,xj,yr ha h0 k (by omega) _ (Nat.mod_lt _ (Nat.two_pow_pos k))]
  conv=>rhs;rw[Ce hb]
  congr 1
  split
  ·exact (Cy a ha h0).2.2 k (by omega)
  ·rw[mul_zero,mul_zero]
theorem NC {a:Nat} (ha:a<256) (h0:a≠0) {b c:Nat} (hb:b<256) (hc:c<256) (h:Sound.mul a b=Sound.mul a c):b=c:=by
 rw[←yr ha h0 8 (Nat.le_refl _) b hb,←yr ha h0 8 (Nat.le_refl _) c hc,h]
theorem Fo {a:Nat} (ha:a<256) (h0:a≠0):Sound.inverse a<256∧Sound.mul a (Sound.inverse a)=1∧ ∀b,b<Sound.inverse a→Sound.mul a b≠1:=by
 obtain ⟨h1,h2,_⟩:=Cy a ha h0
 refine ⟨h1,h2,fun b hb e=>?_⟩
 have:=NC ha h0 (by omega) h1 (e.trans h2.symm)
 omega
theorem F7: ∀i:Nat,i<8→ ∀j:Nat,j<4→i^^^(128+j)<256∧i^^^(128+j)≠0:=by decide
end Wg
namespace Wg
def ip:List Int→List Int→Int
 |a::l,b::m=>a*b+ip l m
 |_,_=>0
section
variable {v1 v2 v3 v4:List Int}
end
section
variable {g11 g12 g13 g14 g22 g23 g24 g33 g34 g44:Int}
end
end Wg
namespace Wg
open Sound
theorem foldl_add (l:List Int): ∀a:Int,l.foldl (fun (a b:Int)=>a+b) a=a+l.foldl (fun (a b:Int)=>a+b) 0:=by
 induction l with
 |nil=>intro a;simp
 |cons x l ih=>intro a;simp only [List.foldl_cons];rw[ih (a+x),ih (0+x)];omega
theorem OW (x:Int) (l:List Int):sumOf (x::l)=x+sumOf l:=by
 unfold sumOf;rw[List.foldl_cons,foldl_add];omega
theorem EL: ∀l m:List Int,sumOf (List.zipWith (fun (a b:Int)=>a*b) l m)=ip l m
 | [],_=>by simp [sumOf,ip]
 |_::_, []=>by simp [sumOf,ip]
 |a::l,b::m=>by rw[List.zipWith_cons_cons,OW,EL l m];rfl
end Wg
namespace Wg
open PySem
theorem QZ (n m:Nat):(n&&&m)%2=0↔n%2=0∨m%2=0:=by
 have h:=congrArg (· =true) (Nat.testBit_and n m 0)
 simp only [Nat.testBit_zero,Bool.and_eq_true,decide_eq_true_eq,eq_iff_iff] at h
 omega
theorem GV (n m:Nat):(n|||m)%2=0↔n%2=0∧m%2=0:=by
 have h:=congrArg (· =true) (Nat.testBit_or n m 0)
 simp only [Nat.testBit_zero,Bool.or_eq_true,decide_eq_true_eq,eq_iff_iff] at h
 omega
theorem Ls (n m:Nat):(n&&&m)/2=n/2&&&m/2:=by
 apply Nat.eq_of_testBit_eq;intro i
 rw[Nat.testBit_and,Nat.testBit_div_two,Nat.testBit_div_two,Nat.testBit_div_two,Nat.testBit_and]
theorem Qj (n m:Nat):(n|||m)/2=n/2|||m/2:=by
 apply Nat.eq_of_testBit_eq;intro i
 rw[Nat.testBit_or,Nat.testBit_div_two,Nat.testBit_div_two,Nat.testBit_div_two,Nat.testBit_or]
theorem Ol {x y:Int} (hx:0≤x) (hy:0≤y):Builtin.bitOr x y=((x.toNat|||y.toNat:Nat):Int):=by
 unfold Builtin.bitOr Builtin.bitAnd Builtin.bitNot
 have h1:decide (0≤ -x-1)=false:=by simp;omega
 have h2:decide (0≤ -y-1)=false:=by simp;omega
 simp only [h1,h2]
 have e1:(-(-x-1)-1).toNat=x.toNat:=by congr 1;omega
 have e2:(-(-y-1)-1).toNat=y.toNat:=by congr 1;omega
 rw[e1,e2];omega
end Wg
namespace Wg
open PySem Sound
def bl (n:Nat):Nat:=if n=0 then 0 else n.log2+1
theorem RE (n:Nat):Builtin.Int.intBits (n:Int)=bl n:=by
 unfold Builtin.Int.intBits bl
 by_cases h:n=0
 ·subst h;rfl
 ·rw[if_neg h,if_neg (by simpa using h),Int.natAbs_natCast]
theorem Of {n v:Nat} (h:n<2^v):bl n≤v:=by
 unfold bl
 by_cases h0:n=0
 ·rw[if_pos h0];exact Nat.zero_le _
 ·rw[if_neg h0]
  exact (Nat.log2_lt h0).mpr h
end Wg
namespace Wg
open PySem Sound
def pd (n p r:Nat):Bool:=decide (r≤6)&&(decide (n/2^r*2^r=n)&&decide (p≤n/2^r))
end Wg
namespace Wg
open PySem Sound
def gq:List Int→List Int→Nat→Int
 | [],_,_=>0
 |f::fs,y,t=>f*y.getD (t-1) 0+gq fs y (t-1)
def uo (a:List Int) (h:Nat) (y:List Int) (t:Nat):Int:=gq a y t/2^h
theorem vI: ∀a b:List Int,ip a (b.take a.length)=ip a b
 | [],b=>by simp [ip]
 |x::a, []=>by simp [ip]
 |x::a,y::b=>by simp [ip,vI a b]
theorem Q2 {y:List Int} {t:Nat} (h:t<y.length):(y.take (t+1)).reverse=y.getD t 0::(y.take t).reverse:=by
 rw[List.take_succ,List.getElem?_eq_getElem h,List.getD_eq_getElem?_getD,List.getElem?_eq_getElem h]
 simp
theorem B2: ∀(a y:List Int) (t:Nat),t≤y.length→a.length≤t→ip a (y.take t).reverse=gq a y t
 | [],y,t,_,_=>by simp [ip,gq]
 |f::fs,y,0,h1,h2=>by simp at h2
 |f::fs,y,t+1,h1,h2=>by
  rw[Q2 (by omega)]
  simp only [ip,gq,Nat.add_sub_cancel]
  rw[B2 fs y t (by omega) (by simpa using h2)]
theorem Ig {a y before:List Int} {h t:Nat} (h1:t≤y.length) (h2:a.length≤t) (hb:before.take a.length=(y.take t).reverse.take a.length):guess a h before=uo a h y t:=by
 unfold guess uo
 rw[EL,←vI,hb,vI,B2 a y t h1 h2,Int.fdiv_eq_ediv_of_nonneg _ (Int.le_of_lt (Int.pow_pos (by decide)))]
def Bd (B:Int) (l:List Int):Prop:= ∀x∈l,-B≤x∧x≤B
theorem sX (n v:Nat):(u n v).length=n:=by simp [u]
end Wg
namespace Wg
open PySem
theorem L0 (l:Sound.Bits): ∀a:Nat,l.foldl (fun (n:Nat) (b:Bool)=>2*n+(if b=true then 1 else 0)) a=a*2^l.length+Sound.value l:=by
 induction l with
 |nil=>intro a;simp [Sound.value]
 |cons b l ih=>
  intro a
  unfold Sound.value
  rw[List.foldl_cons,List.foldl_cons,ih,ih (2*0+_),List.length_cons,Nat.pow_succ]
  generalize 2^l.length=m
  rw[Nat.add_mul,Nat.add_mul]
  have e1:2*a*m=a*(m*2):=by rw[Nat.mul_comm m 2,←Nat.mul_assoc,Nat.mul_comm a 2]
  have e2:2*0*m=0:=by simp
  omega
theorem uu (l m:Sound.Bits):Sound.value (l++m)=Sound.value l*2^m.length+Sound.value m:=by
 unfold Sound.value
 rw[List.foldl_append,L0 m]
 rfl
theorem uz (b:Bool) (l:Sound.Bits):Sound.value (b::l)=(if b=true then 1 else 0)*2^l.length+Sound.value l:=by
 have:=uu [b] l
 rw[List.singleton_append] at this
 rw[this]
 cases b<;>rfl
theorem kz: ∀l:Sound.Bits,Sound.value l<2^l.length
 | []=>by simp [Sound.value]
 |b::l=>by
  have:=kz l
  rw[uz,List.length_cons,Nat.pow_succ]
  cases b<;>simp<;>omega
theorem Ks (n v:Nat):Sound.u (n+1) v=v.testBit n::Sound.u n v:=by
 unfold Sound.u
 rw[List.range_succ_eq_map,List.map_cons,List.map_map]
 congr 1
 refine List.map_congr_left fun i hi=>?_
 show v.testBit (n+1-1-(i+1))=v.testBit (n-1-i)
 congr 1;omega
theorem Co: ∀n v:Nat,Sound.value (Sound.u n v)=v%2^n
 |0,v=>by simp [Sound.u,Sound.value,Nat.mod_one]
 |n+1,v=>by
  rw[Ks,uz,Co n v,sX]
  have h:=Nat.mod_mul (x:=v) (a:=2^n) (b:=2)
  have hb:v.testBit n=decide (v/2^n%2=1):=by rw[Nat.testBit_eq_decide_div_mod_eq]
  rw[Nat.pow_succ,h,hb]
  rcases Nat.mod_two_eq_zero_or_one (v/2^n) with e|e
  ·rw[e];simp
  ·rw[e];simp;omega
theorem vo (a b:Nat):Builtin.bitOr (a:Int) (b:Int)=((a|||b:Nat):Int):=by
 rw[Ol (by omega) (by omega),Int.toNat_natCast,Int.toNat_natCast]
theorem sy (a b:Nat):Builtin.bitAnd (a:Int) (b:Int)=((a&&&b:Nat):Int):=by
 unfold Builtin.bitAnd
 have h1:decide (0≤(a:Int))=true:=by simp
 have h2:decide (0≤(b:Int))=true:=by simp
 simp only [h1,h2,Int.toNat_natCast]
theorem Qk (n m:Nat):(n^^^m)%2=(n+m)%2:=by
 have h:=Nat.testBit_xor n m 0
 simp only [Nat.testBit_zero] at h
 rcases Nat.mod_two_eq_zero_or_one n with a|a<;>rcases Nat.mod_two_eq_zero_or_one m with b|b<;>rw[a,b] at h
 ·have: ¬(n^^^m)%2=1:=of_decide_eq_false h
  omega
 ·have:(n^^^m)%2=1:=of_decide_eq_true h
  omega
 ·have:(n^^^m)%2=1:=of_decide_eq_true h
  omega
 ·have: ¬(n^^^m)%2=1:=of_decide_eq_false h
  omega
theorem Rj (n m:Nat):(n^^^m)/2=n/2^^^m/2:=by
 apply Nat.eq_of_testBit_eq;intro i
 rw[Nat.testBit_xor,Nat.testBit_div_two,Nat.testBit_div_two,Nat.testBit_div_two,Nat.testBit_xor]
theorem za: ∀(k n m:Nat),n≤k→m≤k→(n|||m)=(n^^^m)+(n&&&m)
 |0,n,m,h1,h2=>by
  have:n=0:=by omega
  have:m=0:=by omega
  subst n m;rfl
 |k+1,n,m,h1,h2=>by
  by_cases h0:n=0∧m=0
  ·obtain ⟨rfl,rfl⟩:=h0;rfl
  have ih:=za k (n/2) (m/2) (by omega) (by omega)
  have a1:=GV n m
  have a2:=Qk n m
  have a3:=QZ n m
  have b1:=Qj n m
  have b2:=Rj n m
  have b3:=Ls n m
  omega
theorem iw (a b:Nat):Builtin.bitXor (a:Int) (b:Int)=((a^^^b:Nat):Int):=by
 unfold Builtin.bitXor
 rw[vo,sy,za (max a b) a b (by omega) (by omega)]
 omega
theorem mask (x:Int) (w:Nat):Builtin.bitAnd x ((2^w:Int)-1)=x%2^w:=by
 have hp:0<2^w:=Nat.two_pow_pos w
 have e2:((2:Int)^w)=((2^w:Nat):Int):=by simp
 have e1:(2:Int)^w-1=((2^w-1:Nat):Int):=by rw[e2];omega
 rcases Int.lt_or_le x 0 with hx|hx
 ·unfold Builtin.bitAnd Builtin.bitNot
  have h1:decide (0≤x)=false:=by simp;omega
  have h2:decide (0≤(2:Int)^w-1)=true:=by rw[e1];simp
  simp only [h1,h2]
  rw[e1,Int.toNat_natCast,Nat.and_comm,Nat.and_two_pow_sub_one_eq_mod]
  generalize hm:(-x-1).toNat=m
  have hd:=Nat.div_add_mod m (2^w)
  have hlt:=Nat.mod_lt m hp
  rw[e2]
  have ex:x=((2^w-1-m%2^w:Nat):Int)+((2^w:Nat):Int)*(-((m/2^w:Nat):Int)-1):=by
   have:((2^w:Nat):Int)*(-((m/2^w:Nat):Int)-1)= -((2^w*(m/2^w):Nat):Int)-((2^w:Nat):Int):=by
    rw[Int.mul_sub,Int.mul_neg,←Int.natCast_mul,Int.mul_one]
   rw[this]
   omega
  have:x%((2^w:Nat):Int)=((2^w-1-m%2^w:Nat):Int):=by
   rw[ex,Int.add_mul_emod_self_left]
   exact Int.emod_eq_of_lt (by omega) (by omega)
  rw[this]
  omega
 ·obtain ⟨n,rfl⟩:=Int.eq_ofNat_of_zero_le hx
  rw[e1,sy,Nat.and_two_pow_sub_one_eq_mod,e2]
  simp
theorem Pl (n:Nat):Builtin.bitAnd (n:Int) 255=((n%256:Nat):Int):=by
 have:=mask (n:Int) 8
 have e:(2:Int)^8=256:=by decide
 rw[e] at this
 rw[show (255:Int)=256-1 by decide,this]
 simp
end Wg
namespace Wg
open PySem
def iN (p:Nat):Nat:=if 65535<2*p then 2*p^^^69665 else 2*p
def eQ (c b:Nat):Nat:=(List.range 8).foldl (fun p _=>iN p) (c^^^(b*256))
def ui (l:List Nat):Nat:=l.foldl eQ 65535
def b6 (c:Nat) (x:Bool):Nat:=let d:=2*c%65536
 if (c.testBit 15 !=x)=true then d^^^0x1021 else d
theorem ug (q i:Nat):(q%65536).testBit i=(decide (i<16)&&q.testBit i):=by
 rw[show (65536:Nat)=2^16 by decide,Nat.testBit_mod_two_pow]
theorem Et {q:Nat} (h1:65536≤q) (h2:q<131072):q^^^65536=q%65536:=by
 apply Nat.eq_of_testBit_eq
 intro i
 rw[Nat.testBit_xor,ug,show (65536:Nat)=2^16 by decide,Nat.testBit_two_pow]
 rcases Nat.lt_trichotomy i 16 with h|h|h
 ·rw[decide_eq_true h,decide_eq_false (by omega)];simp
 ·subst h
  have:q.testBit 16=true:=by
   rw[Nat.testBit_eq_decide_div_mod_eq]
   simp;omega
  rw[this];simp
 ·have:q.testBit i=false:=Nat.testBit_lt_two_pow (Nat.lt_of_lt_of_le h2 (by rw[show (131072:Nat)=2^17 by decide];exact Nat.pow_le_pow_right (by decide) h))
  rw[this,decide_eq_false (by omega),decide_eq_false (by omega)];rfl
theorem Kh (a b:Nat):2*(a^^^b)%65536=(2*a%65536)^^^(2*b%65536):=by
 apply Nat.eq_of_testBit_eq
 intro i
 rw[Nat.testBit_xor,ug,ug,ug]
 cases i with
 |zero=>simp [Nat.testBit_zero]
 |succ i=>
  have e: ∀x:Nat,(2*x).testBit (i+1)=x.testBit i:=fun x=>by
   rw[Nat.testBit_succ];congr 1;omega
  rw[e,e,e,Nat.testBit_xor]
  cases decide (i+1<16)<;>simp
theorem Qz {p:Nat} (h:p<65536):p.testBit 15=decide (65535<2*p):=by
 rw[Nat.testBit_eq_decide_div_mod_eq]
 have:p/2^15=p/32768:=rfl
 rw[this,Bool.eq_iff_iff,decide_eq_true_eq,decide_eq_true_eq];omega
theorem sN {a b:Nat} (h1:a<65536) (h2:b<65536):a^^^b<65536:=Nat.xor_lt_two_pow (n:=16) h1 h2
theorem iT {c:Nat} (x:Bool):b6 c x<65536:=by
 unfold b6
 simp only
 split
 ·exact sN (Nat.mod_lt _ (by decide)) (by decide)
 ·exact Nat.mod_lt _ (by decide)
theorem jd {s r:Nat} (hs:s<65536) (hr:r<256):iN (s^^^(r*256))=b6 s (r.testBit 7)^^^((2*r%256)*256):=by
 have hp:s^^^(r*256)<65536:=sN hs (by omega)
 have hb:(s^^^(r*256)).testBit 15=(s.testBit 15 !=r.testBit 7):=by
  rw[Nat.testBit_xor,show r*256=2^8*r by omega,Nat.testBit_two_pow_mul]
  simp
 have hd:2*(s^^^(r*256))%65536=(2*s%65536)^^^((2*r%256)*256):=by
  rw[Kh]
  congr 1;omega
 have h15:=Qz hp
 unfold iN b6
 simp only
 rw[←hb,h15]
 by_cases hc:65535<2*(s^^^(r*256))
 ·rw[if_pos hc,if_pos (decide_eq_true hc)]
  have e:(69665:Nat)=65536^^^4129:=by decide
  rw[e,←Nat.xor_assoc,Et (by omega) (by omega),hd,show (0x1021:Nat)=4129 by decide,Nat.xor_assoc,Nat.xor_assoc,Nat.xor_comm (2*r%256*256)]
 ·rw[if_neg hc,if_neg (by simpa using hc),←hd]
  omega
theorem Bb {c b:Nat} (hc:c<65536) (hb:b<256):eQ c b=(Sound.u 8 b).foldl b6 c∧eQ c b<65536:=by
 have hu:Sound.u 8 b= [b.testBit 7,b.testBit 6,b.testBit 5,b.testBit 4,b.testBit 3,b.testBit 2,b.testBit 1,b.testBit 0]:=rfl
 have tb: ∀(x i:Nat),i<7→(2*x%256).testBit (i+1)=x.testBit i:=fun x i hi=>by
  rw[show (256:Nat)=2^8 by decide,Nat.testBit_mod_two_pow,decide_eq_true (by omega),Nat.testBit_succ,Bool.true_and]
  congr 1;omega
 have lt: ∀x:Nat,2*x%256<256:=fun x=>Nat.mod_lt _ (by decide)
 have h0:=jd hc hb
 have h1:=jd (iT (c:=c) (b.testBit 7)) (lt b)
 have h2:=jd (iT (c:=b6 c (b.testBit 7)) ((2*b%256).testBit 7)) (lt (2*b%256))
 rw[tb b 6 (by omega)] at h1 h2
 have h3:=jd (iT (c:=b6 (b6 c (b.testBit 7)) (b.testBit 6)) ((2*(2*b%256)%256).testBit 7)) (lt (2*(2*b%256)%256))
 rw[tb _ 6 (by omega),tb _ 5 (by omega)] at h2 h3
 have h4:=jd (iT (c:=b6 (b6 (b6 c (b.testBit 7)) (b.testBit 6)) (b.testBit 5)) ((2*(2*(2*b%256)%256)%256).testBit 7)) (lt (2*(2*(2*b%256)%256)%256))
 rw[tb _ 6 (by omega),tb _ 5 (by omega),tb _ 4 (by omega)] at h3 h4
 have h5:=jd (iT (c:=b6 (b6 (b6 (b6 c (b.testBit 7)) (b.testBit 6)) (b.testBit 5)) (b.testBit 4)) ((2*(2*(2*(2*b%256)%256)%256)%256).testBit 7)) (lt (2*(2*(2*(2*b%256)%256)%256)%256))
 rw[tb _ 6 (by omega),tb _ 5 (by omega),tb _ 4 (by omega),tb _ 3 (by omega)] at h4 h5
 have h6:=jd (iT (c:=b6 (b6 (b6 (b6 (b6 c (b.testBit 7)) (b.testBit 6)) (b.testBit 5)) (b.testBit 4)) (b.testBit 3)) ((2*(2*(2*(2*(2*b%256)%256)%256)%256)%256).testBit 7)) (lt (2*(2*(2*(2*(2*b%256)%256)%256)%256)%256))
 rw[tb _ 6 (by omega),tb _ 5 (by omega),tb _ 4 (by omega),tb _ 3 (by omega),tb _ 2 (by omega)] at h5 h6
 have h7:=jd (iT (c:=b6 (b6 (b6 (b6 (b6 (b6 c (b.testBit 7)) (b.testBit 6)) (b.testBit 5)) (b.testBit 4)) (b.testBit 3)) (b.testBit 2)) ((2*(2*(2*(2*(2*(2*b%256)%256)%256)%256)%256)%256).testBit 7)) (lt (2*(2*(2*(2*(2*(2*b%256)%256)%256)%256)%256)%256))
 rw[tb _ 6 (by omega),tb _ 5 (by omega),tb _ 4 (by omega),tb _ 3 (by omega),tb _ 2 (by omega),tb _ 1 (by omega)] at h6 h7
 rw[tb _ 6 (by omega),tb _ 5 (by omega),tb _ 4 (by omega),tb _ 3 (by omega),tb _ 2 (by omega),tb _ 1 (by omega),tb _ 0 (by omega)] at h7
 have hz:2*(2*(2*(2*(2*(2*(2*(2*b%256)%256)%256)%256)%256)%256)%256)%256=0:=by omega
 have e:eQ c b=(Sound.u 8 b).foldl b6 c:=by
  unfold eQ
  rw[show List.range 8= [0,1,2,3,4,5,6,7] from rfl]
  simp only [List.foldl_cons,List.foldl_nil]
  rw[h0,h1,h2,h3,h4,h5,h6,h7,hz,hu]
  simp only [List.foldl_cons,List.foldl_nil,Nat.zero_mul,Nat.xor_zero]
 rw[e]
 refine ⟨rfl,?_⟩
 rw[hu]
 simp only [List.foldl_cons,List.foldl_nil]
 exact iT _
theorem Sf (b:Sound.Bytes):ui (b.map UInt8.toNat)=Sound.crc16 b:=by
 have key: ∀(l:Sound.Bytes) (c:Nat),c<65536→(l.map UInt8.toNat).foldl eQ c=(Sound.bitsOf l).foldl b6 c:=by
  intro l
  induction l with
  |nil=>intro c _;rfl
  |cons x l ih=>
   intro c hc
   obtain ⟨h1,h2⟩:=Bb hc x.toNat_lt
   have e:Sound.bitsOf (x::l)=Sound.u 8 x.toNat++Sound.bitsOf l:=List.flatMap_cons
   rw[List.map_cons,List.foldl_cons,e,List.foldl_append,←h1,ih _ h2]
 unfold ui
 rw[key b 65535 (by decide)]
 rfl
end Wg
namespace Wg
open PySem
theorem mB (x:UInt8) (B:Sound.Bytes):Sound.bitsOf (x::B)=Sound.u 8 x.toNat++Sound.bitsOf B:=List.flatMap_cons
theorem jH: ∀B:Sound.Bytes,(Sound.bitsOf B).length=8*B.length
 | []=>rfl
 |x::B=>by rw[mB,List.length_append,sX,jH B,List.length_cons];omega
theorem Q6 (x:Nat) (l:List Nat):bN (x::l)=x*256^l.length+bN l:=by
 have key: ∀(l:List Nat) (a:Nat),l.foldl (fun n c=>256*n+c) a=a*256^l.length+bN l:=by
  intro l
  induction l with
  |nil=>intro a;simp [bN]
  |cons y l ih=>
   intro a
   unfold bN
   rw[List.foldl_cons,List.foldl_cons,ih,ih (256*0+y),List.length_cons,Nat.pow_succ,Nat.add_mul,Nat.add_mul]
   have:256*a*256^l.length=a*(256^l.length*256):=by rw[Nat.mul_comm (256^l.length),←Nat.mul_assoc,Nat.mul_comm 256 a]
   omega
 show (x::l).foldl _ 0=_
 rw[List.foldl_cons,key]
 simp
theorem zd: ∀B:Sound.Bytes,Sound.value (Sound.bitsOf B)=bN (B.map UInt8.toNat)
 | []=>rfl
 |x::B=>by
  rw[mB,uu,zd B,List.map_cons,Q6,jH,List.length_map]
  have h:=x.toNat_lt
  rw[Co,Nat.mod_eq_of_lt (by omega),Nat.pow_mul]
theorem ES: ∀(B:Sound.Bytes) (i:Nat),Sound.bitsOf (B.drop i)=(Sound.bitsOf B).drop (8*i)
 |B,0=>by simp
 | [],i+1=>by simp [Sound.bitsOf]
 |x::B,i+1=>by
  rw[List.drop_succ_cons,ES B i,mB,show 8*(i+1)=8+8*i by omega,←List.drop_drop,List.drop_left' (sX 8 _)]
theorem Fl: ∀(B:Sound.Bytes) (i:Nat),Sound.bitsOf (B.take i)=(Sound.bitsOf B).take (8*i)
 |B,0=>by simp [Sound.bitsOf]
 | [],i+1=>by simp [Sound.bitsOf]
 |x::B,i+1=>by
  rw[List.take_succ_cons,mB,Fl B i,mB,show 8*(i+1)=(Sound.u 8 x.toNat).length+8*i by rw[sX];omega,List.take_length_add_append]
theorem Lx {B:Sound.Bytes} {p n:Nat} (h:p+n≤8*B.length):
  bN (((B.drop (p/8)).take ((p+n+7)/8-p/8)).map UInt8.toNat)/2^(8*((p+n+7)/8)-(p+n))%2^n=Sound.value (((Sound.bitsOf B).drop p).take n):=by
 rw[←zd,Fl,ES]
 generalize hj:(p+n+7)/8=j
 generalize hi:p/8=i
 have hL:=jH B
 generalize Sound.bitsOf B=L at*
 have e:(L.drop (8*i)).take (8*(j-i))=(L.drop (8*i)).take (p-8*i)++((L.drop p).take n++(L.drop (p+n)).take (8*j-(p+n))):=by
  have h1:8*(j-i)=(p-8*i)+(n+(8*j-(p+n))):=by omega
  rw[h1,List.take_add,List.drop_drop,show 8*i+(p-8*i)=p by omega,List.take_add,List.drop_drop]
 rw[e,uu,uu]
 have l1:((L.drop p).take n).length=n:=by rw[List.length_take,List.length_drop];omega
 have l2:((L.drop (p+n)).take (8*j-(p+n))).length=8*j-(p+n):=by rw[List.length_take,List.length_drop];omega
 have v1:=kz ((L.drop p).take n)
 have v2:=kz ((L.drop (p+n)).take (8*j-(p+n)))
 rw[List.length_append,l1,l2]
 rw[l1] at v1
 rw[l2] at v2
 generalize Sound.value ((L.drop (8*i)).take (p-8*i))=x
 generalize Sound.value ((L.drop p).take n)=y at*
 generalize Sound.value ((L.drop (p+n)).take (8*j-(p+n)))=z at*
 generalize 8*j-(p+n)=m at*
 have e2:x*2^(n+m)+(y*2^m+z)=(x*2^n+y)*2^m+z:=by rw[Nat.pow_add,Nat.add_mul,Nat.mul_assoc];omega
 rw[e2,Nat.add_comm _ z,Nat.add_mul_div_right _ _ (Nat.two_pow_pos m),Nat.div_eq_of_lt v2,Nat.zero_add,Nat.add_comm,Nat.add_mul_mod_self_right,Nat.mod_eq_of_lt v1]
theorem kc (n:Nat) (l:Sound.Bits):Sound.lacks n l=true↔l.length<n:=by
 unfold Sound.lacks
 rw[Bool.and_eq_true,decide_eq_true_eq,List.isEmpty_iff,List.drop_eq_nil_iff]
 omega
theorem Od (l:Sound.Bits):Sound.svalue l=(Sound.value l:Int)-2*(if l.head?=some true then (2^(l.length-1):Nat) else 0:Nat):=by
 unfold Sound.svalue
 split
 ·rename_i h
  cases l with
  |nil=>cases h
  |cons b l=>
   rw[List.length_cons,Nat.add_sub_cancel]
   have:((2:Int)^(l.length+1))=2*((2^l.length:Nat):Int):=by
    rw[Int.pow_succ,Int.mul_comm];simp
   rw[this]
 ·simp
theorem Ki {l:Sound.Bits}:(Sound.value l)&&&(2^l.length/2)=if l.head?=some true then 2^(l.length-1) else 0:=by
 cases l with
 |nil=>rfl
 |cons b l=>
  rw[List.length_cons,Nat.add_sub_cancel,Nat.pow_succ,Nat.mul_div_cancel _ (by decide)]
  rw[uz]
  have v:=kz l
  apply Nat.eq_of_testBit_eq
  intro i
  rw[Nat.testBit_and,Nat.testBit_two_pow]
  have hh:((if b=true then 1 else 0)*2^l.length+Sound.value l).testBit l.length=b:=by
   have:=Nat.testBit_two_pow_mul_add (if b=true then 1 else 0) v l.length
   rw[Nat.mul_comm,this,if_neg (Nat.lt_irrefl _),Nat.sub_self]
   cases b<;>rfl
  by_cases q:l.length=i
  ·subst q
   rw[decide_eq_true rfl,Bool.and_true,hh]
   cases b<;>simp [Nat.testBit_two_pow]
  ·rw[decide_eq_false q,Bool.and_false]
   cases b
   ·simp
   ·simp [Nat.testBit_two_pow,q]
end Wg
namespace Wg
open PySem PySem.Spec PyProof.Rows L2
def top (i:Nat):Stmt:=PySem.Challenge.pw_soundkeeping_s11_retag.main.body.getD i (.Pass ⟨0,0,0,0⟩)
abbrev EK:Stmt:=top 5
abbrev Ak:Stmt:=top 10
abbrev zW:Stmt:=top 11
abbrev zP:Stmt:=top 16
abbrev FD:Stmt:=top 22
abbrev yJ:Stmt:=top 23
abbrev BY:Stmt:=top 24
abbrev B6:Stmt:=top 25
abbrev Bp:Stmt:=top 26
abbrev F6:Stmt:=top 34
abbrev Cr:Stmt:=top 35
abbrev F2:Stmt:=top 36
abbrev zp:Stmt:=top 37
abbrev AL:Stmt:=top 38
abbrev Dl:Stmt:=top 44
abbrev BL:Stmt:=top 45
abbrev Ez:Stmt:=top 46
abbrev zo:Stmt:=top 47
abbrev DN:Stmt:=top 48
abbrev BR:Stmt:=top 49
abbrev AB:Stmt:=top 50
abbrev Bc:Stmt:=top 51
abbrev FW:Stmt:=top 55
abbrev FI:Stmt:=top 56
abbrev Ft:Stmt:=top 57
abbrev yX:Stmt:=top 58
abbrev AA:Stmt:=top 74
abbrev DK:Stmt:=top 75
abbrev CU:Stmt:=top 76
abbrev Cp:Stmt:=top 77
abbrev zX:Stmt:=top 86
abbrev AK:Stmt:=top 87
abbrev Ex:Stmt:=top 88
abbrev EW:Stmt:=top 91
abbrev DJ:Stmt:=top 92
abbrev DP:Stmt:=top 93
abbrev yK:Stmt:=top 94
abbrev B5:Stmt:=top 99
abbrev EB:Stmt:=top 100
abbrev Ei:Stmt:=top 101
abbrev CV:Stmt:=top 102
abbrev Fv:Stmt:=top 105
abbrev yW:Stmt:=top 106
abbrev Bj:Stmt:=top 107
abbrev Bg:Stmt:=top 116
abbrev B9:Stmt:=top 117
abbrev zH:Stmt:=top 118
abbrev Gn:Stmt:=top 119
abbrev Ai:Stmt:=top 120
abbrev FZ:Stmt:=top 121
abbrev z8:Stmt:=top 122
abbrev y8:Stmt:=top 123
abbrev yN:Stmt:=top 124
abbrev F3:Stmt:=top 125
abbrev Gk:Stmt:=top 128
abbrev Am:Stmt:=top 129
abbrev FN:Stmt:=top 130
abbrev Be:Stmt:=inClass (top 4) 0
abbrev CB:Stmt:=inClass (top 4) 1
abbrev DZ:Stmt:=inClass (top 4) 2
abbrev CL:Stmt:=inClass (top 4) 3
abbrev DY:Stmt:=inClass (top 9) 0
abbrev zm:Stmt:=inClass (top 9) 1
abbrev AH:Stmt:=inClass (top 9) 2
abbrev zS:Stmt:=inClass (top 9) 5
abbrev E6:Stmt:=inClass (top 15) 0
abbrev Fx:Stmt:=inClass (top 15) 1
abbrev Fj:Stmt:=inClass (top 33) 0
abbrev FC:Stmt:=inClass (top 33) 1
abbrev Bq:Stmt:=inClass (top 33) 2
abbrev Dz:Stmt:=inClass (top 42) 0
abbrev Gi:Stmt:=inClass (top 42) 1
abbrev DV:Stmt:=inClass (top 43) 0
abbrev C7:Stmt:=inClass (top 62) 0
abbrev El:Stmt:=inClass (top 62) 1
abbrev A2:Stmt:=inClass (top 62) 2
abbrev zF:Stmt:=inClass (top 62) 3
abbrev FG:Stmt:=inClass (top 62) 4
abbrev Ad:Stmt:=inClass (top 62) 5
abbrev DI:Stmt:=inClass (top 73) 0
abbrev A0:Stmt:=inClass (top 85) 0
abbrev zJ:Stmt:=inClass (top 115) 0
set_option genInjectivity false in
structure aW where
 (rk mK qC lV qH qv pB mR qf ni ny mZ mH pV pL rg pU lX oS p8 ou nG nA l7 md nv oN oK pH qs qj oI qk lS om pQ lZ oh pO pE qw mx pS pN lW o5 lR gZ gE jP kj pf pG jC mW oz pX oF oH pT oZ mL mP qm lQ qD ox mv qp oM oo mM mf pb lr kL lL qR pR oq qX lT aV bM cz bL dm dI ax b4 eS bu iR fR bV lP jM qL jD pD nQ mS mz rf oP pP rh qc p9 nR oy:Addr)
 (qM qS pZ pJ qg qY lM mm pw ow m7 qF mh oQ qW pz p7 o3 nj pY oV nS nU qa me qJ qy ng qV mw nz nO lY m9 qG nM pk og qU nq m8 mO mV oU mE qA qr ll kK my oX nY o4 oE lO mU jR mn lN o7 oi qQ pq pA pj mQ o8 o6 ph mT nJ o9 pK mX lg kI qB mF qu nZ qE qb:FuncData)
 (yD vW uY vg yB yz wz yx uM uT vS yl uO wY vd xc xl yj wH w9 vK v9 xt wu uQ vX yF yw vT xm vt wQ uL x6 vF vJ vx uW yk xw:Tok)
structure Txt (K:PySem.W.Frag) (mg:Str→Option Value) (A:aW):Prop where
 L9:mg "BitReader" =some (.ref A.aV)
 N0:mg "Form" =some (.ref A.bM)
 CS:mg "Guess" =some (.ref A.cz)
 OK:mg "PartTaken" =some (.ref A.bL)
 Oy:mg "Partner" =some (.ref A.dm)
 NV:mg "FrameTaken" =some (.ref A.dI)
 FX:mg "Reading" =some (.ref A.ax)
 Nm:mg "Tag" =some (.ref A.b4)
 L8:mg "Head" =some (.ref A.eS)
 Sl:mg "Hearing" =some (.ref A.bu)
 Q7:mg "crc16" =some (.ref A.rk)
 Fh:aH K "crc16" "crc16" EK A.rk A.qM
 Ta:Binds K A.qM ["data"] []
 QW:mg "is_form" =some (.ref A.mK)
 De:aH K "is_form" "is_form" Ak A.mK A.qS
 GA:Binds K A.qS ["form"] []
 Ax:mg "fits" =some (.ref A.qC)
 xh:aH K "fits" "fits" zW A.qC A.pZ
 Bk:Binds K A.pZ ["width", "number"] []
 Q9:mg "fixed_guess" =some (.ref A.lV)
 zx:aH K "fixed_guess" "fixed_guess" zP A.lV A.pJ
 Jr:Binds K A.pJ ["order"] []
 LN:mg "unfolded_rest" =some (.ref A.qH)
 CZ:aH K "unfolded_rest" "unfolded_rest" FD A.qH A.qg
 Me:Binds K A.qg ["folded"] []
 MD:mg "can_split" =some (.ref A.qv)
 Em:aH K "can_split" "can_split" yJ A.qv A.qY
 Ie:Binds K A.qY ["n", "order", "r"] []
 Sn:mg "read_rests" =some (.ref A.pB)
 Ci:aH K "read_rests" "read_rests" BY A.pB A.lM
 QC:Binds K A.lM ["reader", "n", "order", "part"] []
 Nc:mg "read_group" =some (.ref A.mR)
 CG:aH K "read_group" "read_group" B6 A.mR A.mm
 QD:Binds K A.mm ["reader", "count", "part"] []
 Kp:mg "read_plain" =some (.ref A.qf)
 zI:aH K "read_plain" "read_plain" Bp A.qf A.pw
 OB:Binds K A.pw ["reader", "count", "part"] []
 OH:mg "order_of_kind" =some (.ref A.ni)
 Fb:aH K "order_of_kind" "order_of_kind" F6 A.ni A.ow
 RG:Binds K A.ow ["kind"] []
 xu:mg "read_part" =some (.ref A.ny)
 rN:aH K "read_part" "read_part" Cr A.ny A.m7
 wU:Binds K A.m7 ["reader", "n", "width", "partner"] []
 KA:mg "read_zeros" =some (.ref A.mZ)
 BO:aH K "read_zeros" "read_zeros" F2 A.mZ A.qF
 Jn:Binds K A.qF ["reader", "width"] []
 Bo:mg "read_plainly" =some (.ref A.mH)
 xE:aH K "read_plainly" "read_plainly" zp A.mH A.mh
 BK:Binds K A.mh ["reader", "count", "part"] []
 Qy:mg "read_guessed" =some (.ref A.pV)
 Af:aH K "read_guessed" "read_guessed" AL A.pV A.oQ
 KQ:Binds K A.oQ ["reader", "n", "kind", "part"] []
 AV:mg "joined_pair" =some (.ref A.pL)
 xQ:aH K "joined_pair" "joined_pair" Dl A.pL A.qW
 CJ:Binds K A.qW ["mode", "x", "y"] []
 OV:mg "first_width" =some (.ref A.rg)
 Fp:aH K "first_width" "first_width" BL A.rg A.pz
 Pu:Binds K A.pz ["mode", "depth"] []
 K9:mg "second_width" =some (.ref A.pU)
 zT:aH K "second_width" "second_width" Ez A.pU A.p7
 Oj:Binds K A.p7 ["mode", "depth"] []
 G6:mg "read_frame" =some (.ref A.lX)
 Fc:aH K "read_frame" "read_frame" zo A.lX A.o3
 Jg:Binds K A.o3 ["form", "data"] []
 JX:mg "read_items" =some (.ref A.oS)
 FL:aH K "read_items" "read_items" DN A.oS A.nj
 Gz:Binds K A.nj ["form", "reader"] []
 Qi:mg "read_channels" =some (.ref A.p8)
 Dg:aH K "read_channels" "read_channels" BR A.p8 A.pY
 To:Binds K A.pY ["form", "n", "reader"] []
 N9:mg "read_pair" =some (.ref A.ou)
 Gr:aH K "read_pair" "read_pair" AB A.ou A.oV
 ME:Binds K A.oV ["depth", "n", "mode", "reader"] []
 Ji:mg "read_end" =some (.ref A.nG)
 E3:aH K "read_end" "read_end" Bc A.nG A.nS
 NL:Binds K A.nS ["reader"] []
 gU:mg "to_octets" =some (.ref A.nA)
 gh:aH K "to_octets" "to_octets" FW A.nA A.nU
 gu:Binds K A.nU ["count", "number"] []
 su:mg "from_octets" =some (.ref A.l7)
 nL:aH K "from_octets" "from_octets" FI A.l7 A.qa
 rQ:Binds K A.qa ["data"] []
 wI:mg "crc32" =some (.ref A.md)
 sU:aH K "crc32" "crc32" Ft A.md A.me
 w6:Binds K A.me ["data"] []
 vV:mg "sealed" =some (.ref A.nv)
 rD:aH K "sealed" "sealed" yX A.nv A.qJ
 yc:Binds K A.qJ ["data"] []
 JN:mg "can_be_key" =some (.ref A.oN)
 Aj:aH K "can_be_key" "can_be_key" AA A.oN A.qy
 K4:Binds K A.qy ["key"] []
 AO:mg "read_tag" =some (.ref A.oK)
 xD:aH K "read_tag" "read_tag" DK A.oK A.ng
 CA:Binds K A.ng ["reading", "end", "tags"] []
 NN:mg "read_tags" =some (.ref A.pH)
 Ed:aH K "read_tags" "read_tags" CU A.pH A.qV
 Mu:Binds K A.qV ["reading", "size", "tags"] []
 Nq:mg "write_tags" =some (.ref A.qs)
 C1:aH K "write_tags" "write_tags" Cp A.qs A.mw
 LS:Binds K A.mw ["pad", "data"] []
 Jx:mg "write_head" =some (.ref A.qj)
 zi:aH K "write_head" "write_head" zX A.qj A.nz
 Nh:Binds K A.nz ["form", "samples", "tags_size"] []
 GP:mg "read_head" =some (.ref A.oI)
 DO:aH K "read_head" "read_head" AK A.oI A.nO
 MW:Binds K A.nO ["reading"] []
 QP:mg "head_told" =some (.ref A.qk)
 CH:aH K "head_told" "head_told" Ex A.qk A.lY
 MY:Binds K A.lY ["data"] []
 Al:mg "products" =some (.ref A.lS)
 v8:aH K "products" "products" EW A.lS A.m9
 DM:Binds K A.m9 ["factor"] []
 Sa:mg "inverse" =some (.ref A.om)
 B3:aH K "inverse" "inverse" DJ A.om A.qG
 Rq:Binds K A.qG ["number"] []
 IQ:mg "scaled" =some (.ref A.pQ)
 yS:aH K "scaled" "scaled" DP A.pQ A.nM
 MT:Binds K A.nM ["factor", "data"] []
 Sv:mg "added" =some (.ref A.lZ)
 CT:aH K "added" "added" yK A.lZ A.pk
 Q1:Binds K A.pk ["one", "other"] []
 NZ:mg "factor_of" =some (.ref A.oh)
 Gm:aH K "factor_of" "factor_of" B5 A.oh A.og
 JM:Binds K A.og ["i", "j"] []
 Mv:mg "row_sum" =some (.ref A.pO)
 DD:aH K "row_sum" "row_sum" EB A.pO A.qU
 QJ:Binds K A.qU ["j", "row_size", "frames"] []
 PL:mg "longest_row" =some (.ref A.pE)
 Di:aH K "longest_row" "longest_row" Ei A.pE A.nq
 Kq:Binds K A.nq ["frames"] []
 QM:mg "write_piece" =some (.ref A.qw)
 BD:aH K "write_piece" "write_piece" CV A.qw A.m8
 KL:Binds K A.m8 ["g", "j", "frames"] []
 Rb:mg "with_tags" =some (.ref A.mx)
 EV:aH K "with_tags" "with_tags" Fv A.mx A.mO
 Om:Binds K A.mO ["head", "data", "tags_part"] []
 NK:mg "write_sum" =some (.ref A.pS)
 B8:aH K "write_sum" "write_sum" yW A.pS A.mV
 MR:Binds K A.mV ["depth", "numbers"] []
 R6:mg "plain_bytes" =some (.ref A.pN)
 Cs:aH K "plain_bytes" "plain_bytes" Bj A.pN A.oU
 GU:Binds K A.oU ["depth", "numbers"] []
 Tp:mg "hear_file" =some (.ref A.lW)
 FK:aH K "hear_file" "hear_file" Bg A.lW A.mE
 Ts:Binds K A.mE ["data"] []
 Mr:mg "hear_beginning" =some (.ref A.o5)
 DQ:aH K "hear_beginning" "hear_beginning" B9 A.o5 A.qA
 PQ:Binds K A.qA ["data"] []
 AG:mg "heard" =some (.ref A.lR)
 ya:aH K "heard" "heard" zH A.lR A.qr
 A3:Binds K A.qr ["data", "stages"] []
 DG:mg "hear_head" =some (.ref A.gZ)
 uN:aH K "hear_head" "hear_head" Gn A.gZ A.ll
 Ac:Binds K A.ll ["hearing"] []
 AI:mg "hear_tags" =some (.ref A.gE)
 xI:aH K "hear_tags" "hear_tags" Ai A.gE A.kK
 Cd:Binds K A.kK ["hearing"] []
 SW:mg "hear_index" =some (.ref A.jP)
 CN:aH K "hear_index" "hear_index" FZ A.jP A.my
 Jk:Binds K A.my ["hearing"] []
 J1:mg "hear_body" =some (.ref A.kj)
 zy:aH K "hear_body" "hear_body" z8 A.kj A.oX
 Ln:Binds K A.oX ["hearing"] []
 KG:mg "hear_frame" =some (.ref A.pf)
 DS:aH K "hear_frame" "hear_frame" y8 A.pf A.nY
 Sh:Binds K A.nY ["hearing", "k"] []
 Oe:mg "hear_piece" =some (.ref A.pG)
 Ct:aH K "hear_piece" "hear_piece" yN A.pG A.o4
 LI:Binds K A.o4 ["reading", "piece"] []
 RZ:mg "hear_end" =some (.ref A.jC)
 zD:aH K "hear_end" "hear_end" F3 A.jC A.oE
 OR:Binds K A.oE ["hearing"] []
 QQ:mg "counted" =some (.ref A.mW)
 EF:aH K "counted" "counted" Gk A.mW A.lO
 GR:Binds K A.lO ["data"] []
 Lf:mg "file_answer" =some (.ref A.oz)
 BZ:aH K "file_answer" "file_answer" Am A.oz A.mU
 IU:Binds K A.mU ["data"] []
 Qt:mg "retag" =some (.ref A.pX)
 NT:aH K "retag" "retag" FN A.pX A.jR
 Tw:Binds K A.jR ["pad", "file", "tags"] []
 IM:Mk K A.aV A.oF
 P1:aH K "__init__" "BitReader.__init__" Be A.oF A.mn
 Ni:Binds K A.mn ["self", "data"] []
 eA:Meth K A.aV "unsigned" A.oH
 Mg:aH K "unsigned" "BitReader.unsigned" CB A.oH A.lN
 eC:Binds K A.lN ["self", "width"] []
 rK:Meth K A.aV "signed" A.pT
 JU:aH K "signed" "BitReader.signed" DZ A.pT A.o7
 uA:Binds K A.o7 ["self", "width"] []
 yQ:Meth K A.aV "run" A.oZ
 G5:aH K "run" "BitReader.run" CL A.oZ A.oi
 En:Binds K A.oi ["self", "most"] []
 QA:Mk K A.bM A.mL
 Qe:aH K "__init__" "Form.__init__" DY A.mL A.qQ
 Kj:Binds K A.qQ ["self", "form"] []
 RB:Meth K A.bM "frame_count" A.mP
 LD:aH K "frame_count" "Form.frame_count" zm A.mP A.pq
 Ss:Binds K A.pq ["self", "samples"] []
 Mo:Meth K A.bM "frame_samples" A.qm
 My:aH K "frame_samples" "Form.frame_samples" AH A.qm A.pA
 Jf:Binds K A.pA ["self", "k", "samples"] []
 OS:Meth K A.bM "last_of_group" A.lQ
 Oz:aH K "last_of_group" "Form.last_of_group" zS A.lQ A.pj
 QT:Binds K A.pj ["self", "k", "frame_count"] []
 Ba:Mk K A.cz A.qD
 IY:aH K "__init__" "Guess.__init__" E6 A.qD A.mQ
 DL:Binds K A.mQ ["self", "factors", "shift"] []
 Pz:Meth K A.cz "at" A.ox
 GF:aH K "at" "Guess.at" Fx A.ox A.o8
 ND:Binds K A.o8 ["self", "numbers", "place"] []
 RM:Mk K A.bL A.mv
 JW:aH K "__init__" "PartTaken.__init__" Fj A.mv A.o6
 K0:Binds K A.o6 ["self", "width", "z", "partner"] []
 wR:Meth K A.bL "take" A.qp
 P2:aH K "take" "PartTaken.take" FC A.qp A.ph
 xf:Binds K A.ph ["self", "number"] []
 AQ:Meth K A.bL "take_rest" A.oM
 Tj:aH K "take_rest" "PartTaken.take_rest" Bq A.oM A.mT
 AE:Binds K A.mT ["self", "rest"] []
 G7:Mk K A.dm A.oo
 Qs:aH K "__init__" "Partner.__init__" Dz A.oo A.nJ
 OC:Binds K A.nJ ["self", "mode", "depth", "numbers"] []
 M8:Meth K A.dm "judge" A.mM
 MQ:aH K "judge" "Partner.judge" Gi A.mM A.o9
 JZ:Binds K A.o9 ["self", "place", "number"] []
 Ov:Mk K A.dI A.mf
 Jq:aH K "__init__" "FrameTaken.__init__" DV A.mf A.pK
 Ti:Binds K A.pK ["self", "size", "k", "n", "numbers"] []
 EO:Mk K A.ax A.pb
 O6:aH K "__init__" "Reading.__init__" C7 A.pb A.mX
 zj:Binds K A.mX ["self", "data"] []
 dC:Meth K A.ax "stop_at" A.lr
 yM:aH K "stop_at" "Reading.stop_at" El A.lr A.lg
 dz:Binds K A.lg ["self", "fault", "place"] []
 Bw:Meth K A.ax "end_too_soon" A.kL
 EJ:aH K "end_too_soon" "Reading.end_too_soon" A2 A.kL A.kI
 By:Binds K A.kI ["self"] []
 i9:Meth K A.ax "take" A.lL
 GS:aH K "take" "Reading.take" zF A.lL A.qB
 iV:Binds K A.qB ["self", "count"] []
 lh:Meth K A.ax "number" A.qR
 JT:aH K "number" "Reading.number" FG A.qR A.mF
 kZ:Binds K A.mF ["self", "count"] []
 wc:Meth K A.ax "seal" A.pR
 MS:aH K "seal" "Reading.seal" Ad A.pR A.qu
 vC:Binds K A.qu ["self", "begin", "fault"] []
 JA:Mk K A.b4 A.oq
 KN:aH K "__init__" "Tag.__init__" DI A.oq A.nZ
 Kb:Binds K A.nZ ["self", "key", "value"] []
 Jv:Mk K A.eS A.qX
 G1:aH K "__init__" "Head.__init__" A0 A.qX A.qE
 Pd:Binds K A.qE ["self", "form", "samples", "tags_size"] []
 K8:Mk K A.bu A.lT
 Td:aH K "__init__" "Hearing.__init__" zJ A.lT A.qb
 JV:Binds K A.qb ["self", "data"] []
 bR:cg K A.aV
 sO:bf K A.aV "data"
 jE:bf K A.aV "place"
 b8:cg K A.bM
 rO:bf K A.bM "channels"
 nN:bf K A.bM "depth"
 jF:bf K A.bM "block"
 JE:bf K A.bM "order"
 rH:bf K A.bM "group"
 vn:bf K A.bM "spare"
 qx:cg K A.cz
 FH:bf K A.cz "factors"
 BW:bf K A.cz "shift"
 cy:cg K A.bL
 sC:bf K A.bL "width"
 vL:bf K A.bL "z"
 vp:bf K A.bL "partner"
 tu:bf K A.bL "guess"
 lK:bf K A.bL "taken"
 ke:cg K A.dm
 FV:bf K A.dm "mode"
 zO:bf K A.dm "depth"
 A4:bf K A.dm "numbers"
 jb:cg K A.dI
 Fu:bf K A.dI "size"
 CF:bf K A.dI "k"
 yR:bf K A.dI "n"
 Ge:bf K A.dI "numbers"
 aM:cg K A.ax
 gb:bf K A.ax "data"
 cC:bf K A.ax "place"
 kT:bf K A.ax "fault"
 wq:bf K A.ax "fault_place"
 wX:cg K A.b4
 Cw:bf K A.b4 "key"
 S4:bf K A.b4 "value"
 fi:cg K A.eS
 kN:bf K A.eS "form"
 r6:bf K A.eS "samples"
 vR:bf K A.eS "tags_size"
 bJ:cg K A.bu
 gI:bf K A.bu "reading"
 gM:bf K A.bu "head"
 F4:bf K A.bu "tags"
 oB:bf K A.bu "starts"
 wB:bf K A.bu "index_bytes"
 Aw:bf K A.bu "frames_taken"
 xS:bf K A.bu "numbers"
 sx:mg "Short" =some (.ref A.iR)
 uq:Own K A.iR
 fg:mg "Wrong" =some (.ref A.fR)
 eY:Own K A.fR
 kQ:mg "Faulty" =some (.ref A.bV)
 ly:Own K A.bV
 zU:A.iR≠A.fR
 Tv:A.iR≠A.bV
 Tx:A.fR≠A.bV
 Mc:mg "MOST_NUMBERS" =some (.int 2048 A.yD)
 RW:mg "FACTOR_WIDTH" =some (.int 12 A.vW)
 OP:mg "GREATEST_SPLIT" =some (.int 6 A.uY)
 Og:mg "PLAIN" =some (.int 31 A.vg)
 Nb:mg "GREATEST_PLAIN_WIDTH" =some (.int 40 A.yB)
 Mn:mg "GREATEST_FOLDED" =some (.int 1099511627775 A.yz)
 P6:mg "SAME" =some (.int 0 A.wz)
 Mh:mg "PLAIN_KIND" =some (.int 1 A.yx)
 Gu:mg "FIRST_FIXED" =some (.int 2 A.uM)
 yn:mg "FIRST_LINEAR" =some (.int 7 A.uT)
 Pt:mg "LAST_KIND" =some (.int 10 A.vS)
 SG:mg "MARK_frames" =some (.int 19287 A.yl)
 xX:mg "LONGEST" =some (.int 4096 A.uO)
 kg:mg "CRC32_SIZE" =some (.int 4 A.wY)
 DB:mg "ENDS_TOO_SOON" =some (.int 1 A.vd)
 lx:mg "BAD_TAGS" =some (.int 5 A.xc)
 QS:mg "BAD_TAGS_CHECK" =some (.int 6 A.xl)
 F8:mg "MOST_TAGS" =some (.int 16 A.yj)
 RC:mg "LONGEST_KEY" =some (.int 32 A.wH)
 x8:mg "COUNT_SIZE" =some (.int 2 A.w9)
 zE:mg "VALUE_LENGTH_SIZE" =some (.int 2 A.vK)
 ML:mg "LEAST_TAGS_SIZE" =some (.int 6 A.v9)
 F9:mg "MOST_TAGS_SIZE" =some (.int 1024 A.xt)
 RO:mg "EQUALS_SIGN" =some (.int 61 A.wu)
 yf:mg "HEAD_SIZE" =some (.int 26 A.uQ)
 Pb:mg "ORDER" =some (.int 4 A.vX)
 Sw:mg "BAD_MARK" =some (.int 2 A.yF)
 Pk:mg "BAD_SHAPE" =some (.int 3 A.yw)
 R9:mg "BAD_HEAD_CHECK" =some (.int 4 A.vT)
 NP:mg "MODULUS" =some (.int 285 A.xm)
 IF:mg "MARK_spares" =some (.int 19280 A.vt)
 vQ:mg "LENGTH_SIZE" =some (.int 2 A.wQ)
 Si:mg "FIRST_DIVISOR" =some (.int 128 A.uL)
 MO:mg "ENTRY_SIZE" =some (.int 3 A.x6)
 Lv:mg "BAD_ENTRY" =some (.int 7 A.vF)
 PK:mg "BAD_INDEX_CHECK" =some (.int 8 A.vJ)
 rp:mg "BAD_BODY" =some (.int 9 A.vx)
 Sj:mg "BAD_END" =some (.int 10 A.uW)
 P0:mg "BYTES_BEHIND" =some (.int 11 A.yk)
 NO:mg "LONGEST_FILE" =some (.int 16384 A.xw)
 C3:mg "RANGES" =some (.ref A.jD)
 m6: ∀H,a8 K H A.jD [V.ref A.pD,V.ref A.nQ,V.ref A.mS,V.ref A.mz,V.ref A.rf,V.ref A.oP]
 Tc: ∀H,a8 K H A.pD [V.int (1),V.int (4)]
 S3: ∀H,a8 K H A.nQ [V.int (4),V.int (24)]
 Qa: ∀H,a8 K H A.mS [V.int (16),V.int (256)]
 RR: ∀H,a8 K H A.mz [V.int (0),V.int (4)]
 Kf: ∀H,a8 K H A.rf [V.int (1),V.int (8)]
 Rn: ∀H,a8 K H A.oP [V.int (0),V.int (4)]
 Sm:mg "FIXED" =some (.ref A.pP)
 Rz: ∀H,a8 K H A.pP [V.ref A.rh,V.ref A.qc,V.ref A.p9,V.ref A.nR,V.ref A.oy]
 S9: ∀H,a8 K H A.rh []
 JO: ∀H,a8 K H A.qc [V.int (1)]
 SJ: ∀H,a8 K H A.p9 [V.int (2),V.int (-1)]
 LK: ∀H,a8 K H A.nR [V.int (3),V.int (-3),V.int (1)]
 Qw: ∀H,a8 K H A.oy [V.int (4),V.int (-6),V.int (4),V.int (-1)]
 zZ:mg "CRC32_STEPS" =some (.ref A.lP)
 MC: ∀H,a8 K H A.lP [V.int (0),V.int (498536548),V.int (997073096),V.int (651767980),V.int (1994146192),V.int (1802195444),V.int (1303535960),V.int (1342533948),V.int (3988292384),V.int (4027552580),V.int (3604390888),V.int (3412177804),V.int (2607071920),V.int (2262029012),V.int (2685067896),V.int (3183342108)]
 yg:mg "MARK_heads" =some (.ref A.jM)
 vj: ∀H,a8 K H A.jM [V.int (83),V.int (75),V.int (69),V.int (69),V.int (80),V.int (1),V.int (13),V.int (10)]
 IS:mg "LOOKS" =some (.ref A.qL)
 Iw: ∀H,a8 K H A.qL [V.int (2),V.int (4),V.int (5),V.int (7)]
 E8:mg "all" =none
 QG:mg "any" =none
 C8:mg "enumerate" =none
 cj:mg "len" =none
 tV:mg "list" =none
 Pp:mg "max" =none
 GD:mg "min" =none
 dU:mg "range" =none
 we:mg "zip" =none
 entry: ∀(s:Shared) (us:List Value),us.length=(["pad", "file", "tags"]:List Str).length→BindsTo s A.jR ⟨us, []⟩ ((["pad", "file", "tags"]:List Str).zip us)
theorem Ko {K:PySem.W.Frag} {a:Addr} {d:Option Addr} {n:Nat} {s:Array (Option Value)} {i:Array Value} {x:List V} (t:K.lookup a=some ⟨.type "tuple",d, .seq i n,s⟩) (z:i.size≤sizeLine) (v:Vals x i.toList) (H:Hp):a8 K H a x:= .inr ⟨_,_,_,t,rfl,rfl,z,v⟩
theorem Su {K:PySem.W.Frag} {mg:Str→Option Value} {rk mK qC lV qH qv pB mR qf ni ny mZ mH pV pL rg pU lX oS p8 ou nG nA l7 md nv oN oK pH qs qj oI qk lS om pQ lZ oh pO pE qw mx pS pN lW o5 lR gZ gE jP kj pf pG jC mW oz pX oF oH pT oZ mL mP qm lQ qD ox mv qp oM oo mM mf pb lr kL lL qR pR oq qX lT aV bM cz bL dm dI ax b4 eS bu iR fR bV lP jM qL jD pD nQ mS mz rf oP pP rh qc p9 nR oy:Addr} {qM qS pZ pJ qg qY lM mm pw ow m7 qF mh oQ qW pz p7 o3 nj pY oV nS nU qa me qJ qy ng qV mw nz nO lY m9 qG nM pk og qU nq m8 mO mV oU mE qA qr ll kK my oX nY o4 oE lO mU jR mn lN o7 oi qQ pq pA pj mQ o8 o6 ph mT nJ o9 pK mX lg kI qB mF qu nZ qE qb:FuncData} {yD vW uY vg yB yz wz yx uM uT vS yl uO wY vd xc xl yj wH w9 vK v9 xt wu uQ vX yF yw vT xm vt wQ uL x6 vF vJ vx uW yk xw:Tok} (h:Txt K mg ⟨rk,mK,qC,lV,qH,qv,pB,mR,qf,ni,ny,mZ,mH,pV,pL,rg,pU,lX,oS,p8,ou,nG,nA,l7,md,nv,oN,oK,pH,qs,qj,oI,qk,lS,om,pQ,lZ,oh,pO,pE,qw,mx,pS,pN,lW,o5,lR,gZ,gE,jP,kj,pf,pG,jC,mW,oz,pX,oF,oH,pT,oZ,mL,mP,qm,lQ,qD,ox,mv,qp,oM,oo,mM,mf,pb,lr,kL,lL,qR,pR,oq,qX,lT,aV,bM,cz,bL,dm,dI,ax,b4,eS,bu,iR,fR,bV,lP,jM,qL,jD,pD,nQ,mS,mz,rf,oP,pP,rh,qc,p9,nR,oy,qM,qS,pZ,pJ,qg,qY,lM,mm,pw,ow,m7,qF,mh,oQ,qW,pz,p7,o3,nj,pY,oV,nS,nU,qa,me,qJ,qy,ng,qV,mw,nz,nO,lY,m9,qG,nM,pk,og,qU,nq,m8,mO,mV,oU,mE,qA,qr,ll,kK,my,oX,nY,o4,oE,lO,mU,jR,mn,lN,o7,oi,qQ,pq,pA,pj,mQ,o8,o6,ph,mT,nJ,o9,pK,mX,lg,kI,qB,mF,qu,nZ,qE,qb,yD,vW,uY,vg,yB,yz,wz,yx,uM,uT,vS,yl,uO,wY,vd,xc,xl,yj,wH,w9,vK,v9,xt,wu,uQ,vX,yF,yw,vT,xm,vt,wQ,uL,x6,vF,vJ,vx,uW,yk,xw⟩): ∃A,Txt K mg A:=⟨_,h⟩
theorem Jc {K:PySem.W.Frag} {fd:FuncData} {a0:Str} (h: ∀u0,bindArgs fd ⟨[u0], []⟩=pure [(a0,u0)]):Binds K fd [a0] []:= .all fun us hl=>match us,hl with| [u0],_=>h u0
theorem Qp {K:PySem.W.Frag} {fd:FuncData} {a0 a1:Str} (h: ∀u0 u1,bindArgs fd ⟨[u0,u1], []⟩=pure [(a0,u0),(a1,u1)]):Binds K fd [a0,a1] []:= .all fun us hl=>match us,hl with| [u0,u1],_=>h u0 u1
theorem LA {K:PySem.W.Frag} {fd:FuncData} {a0 a1 a2:Str} (h: ∀u0 u1 u2,bindArgs fd ⟨[u0,u1,u2], []⟩=pure [(a0,u0),(a1,u1),(a2,u2)]):Binds K fd [a0,a1,a2] []:= .all fun us hl=>match us,hl with| [u0,u1,u2],_=>h u0 u1 u2
theorem PB {K:PySem.W.Frag} {fd:FuncData} {a0 a1 a2 a3:Str} (h: ∀u0 u1 u2 u3,bindArgs fd ⟨[u0,u1,u2,u3], []⟩=pure [(a0,u0),(a1,u1),(a2,u2),(a3,u3)]):Binds K fd [a0,a1,a2,a3] []:= .all fun us hl=>match us,hl with| [u0,u1,u2,u3],_=>h u0 u1 u2 u3
theorem Pq {K:PySem.W.Frag} {fd:FuncData} {a0 a1 a2 a3 a4:Str} (h: ∀u0 u1 u2 u3 u4,bindArgs fd ⟨[u0,u1,u2,u3,u4], []⟩=pure [(a0,u0),(a1,u1),(a2,u2),(a3,u3),(a4,u4)]):Binds K fd [a0,a1,a2,a3,a4] []:= .all fun us hl=>match us,hl with| [u0,u1,u2,u3,u4],_=>h u0 u1 u2 u3 u4
end Wg
namespace Wg
open PySem PySem.Spec PyProof.Rows L2
def hide (D:Addr) (H:Hp):Hp:=fun b=>if b=D then none else H b
theorem hide_ne {D b:Addr} {H:Hp} (h:b≠D):hide D H b=H b:=by unfold hide;rw[if_neg h]
theorem cq {D b:Addr} {H:Hp} {o:HO} (h:hide D H b=some o):H b=some o∧b≠D:=by
 unfold hide at h
 by_cases e:b=D
 ·rw[if_pos e] at h;cases h
 ·rw[if_neg e] at h;exact ⟨h,e⟩
theorem dZ (D:Addr) (H:Hp):ae (hide D H) H:=fun b o h=>(cq h).1
theorem rb {D:Addr} {H H':Hp} (s:ae H H'):ae (hide D H) (hide D H'):=fun b o h=>by
 obtain ⟨h1,h2⟩:=cq h
 rw[hide_ne h2];exact s b o h1
theorem FO (D:Addr) (H:Hp) (o:HO):hide D (upd H D o)=hide D H:=by
 funext b
 unfold hide
 by_cases e:b=D
 ·rw[if_pos e,if_pos e]
 ·rw[if_neg e,if_neg e,aL e]
theorem aF {H:Hp} {p:Addr} {o:HO} (h:H p=none):ae H (upd H p o):=fun b u e=>by rw[aL (cH e h)];exact e
theorem fh {H H':Hp} {p:Addr} {o:HO} (s:ae H H') (h:H p=none):ae H (upd H' p o):=fun b u e=>by rw[aL (cH e h)];exact s b u e
theorem zA {J:It} {H1:Hp} {D:Addr} {σ:L2.St} {vs:List Nat} {g:TG} {te:TE} {Qf:Hp→Prop} (hD:H1 D=none) (n:Nat) (hn:n≤sizeLine) (Pr:Nat→V→Hp→Prop)
  (fX: ∀k v H H',k<n→ae H H'→Pr k v H→Pr k v H')
  (hgo: ∀i Hh,i<n→ae H1 Hh→J.go i Hh) (hstop: ∀Hh,ae H1 Hh→J.stop n Hh)
  (turn: ∀i Hh x H',i<n→ae H1 Hh→(∃acc,Hh D=some (.lst acc))→J.eI i Hh x H'→ ∀C:VK,(∀y H4,ae Hh H4→Pr i y (hide D H4)→C y H4)→g x (wipe σ vs) H' fun σ2 H2=>wipe σ2 vs=wipe σ vs∧te σ2 H2 C)
  (fin: ∀Hh xs,ae H1 Hh→xs.length=n→(∀(k:Nat) (v:V),xs[k]?=some v→Pr k v Hh)→Hh D=some (.lst xs)→Qf Hh):
  ∃W:Nat→Nat→Hp→Prop,(∃m,W 0 m (upd H1 D (.lst [])))∧ ∀i m H,W i m H→
   (J.stop i H∧Qf H)∨(J.go i H∧ ∃Nx:Hp→Prop,(∀H',Nx H'→ ∃m',m'<m∧W (i+1) m' H')∧ ∀x H',J.eI i H x H'→g x (wipe σ vs) H' fun σ2 H2=>wipe σ2 vs=wipe σ vs∧mj σ2 H2 fun b H3=>
    if b=true then te σ2 H3 fun y H4=> ∃acc,H4 D=some (.lst acc)∧acc.length<sizeLine∧Nx (upd H4 D (.lst (acc++ [y]))) else Nx H3):=by
 refine ⟨fun i m H=>i+m=n∧ae H1 H∧ ∃xs:List V,xs.length=i∧H D=some (.lst xs)∧ ∀(k:Nat) (v:V),xs[k]?=some v→Pr k v (hide D H),⟨n,by omega,aF hD, [],rfl,aj,fun k v e=>by simp at e⟩,?_⟩
 rintro i m H ⟨hm,s1,xs,hl,hx,hp⟩
 by_cases hi:i=n
 ·subst hi
  exact .inl ⟨hstop H s1,fin H xs s1 hl (fun k v e=>fX k v _ _ (by have:=(List.getElem?_eq_some_iff.mp e).1;omega) (dZ D H) (hp k v e)) hx⟩
 ·have hi:i<n:=by omega
  refine .inr ⟨hgo i H hi s1,fun H'=> ∃m',m'<m∧i+1+m'=n∧ae H1 H'∧ ∃xs:List V,xs.length=i+1∧H' D=some (.lst xs)∧ ∀(k:Nat) (v:V),xs[k]?=some v→Pr k v (hide D H'),fun H' h=>?_,fun x H' hy=>?_⟩
  ·obtain ⟨m',h1,h2,h3⟩:=h
   exact ⟨m',h1,h2,h3⟩
  ·refine turn i H x H' hi s1 ⟨xs,hx⟩ hy _ fun y H4 s4 p4=>?_
   refine ⟨xs,s4 _ _ hx,by omega,m-1,by omega,by omega,fh (s1.trans s4) hD,xs++ [y],by rw[List.length_append,hl];rfl,aj,fun k v e=>?_⟩
   rw[FO]
   by_cases hk:k<xs.length
   ·rw[List.getElem?_append_left hk] at e
    exact fX k v _ _ (by omega) (rb s4) (hp k v e)
   ·rw[List.getElem?_append_right (by omega)] at e
    have hk0:k-xs.length=0:=by
     have:=(List.getElem?_eq_some_iff.mp e).1
     simp at this;omega
    rw[hk0] at e
    have e:=Option.some.inj e
    subst e
    have:k=i:=by omega
    subst this
    exact p4
theorem fq {J:It} {H1:Hp} {D:Addr} {σ:L2.St} {vs:List Nat} {g:TG} {te:TE} {Qf:Hp→Prop} (hD:H1 D=none) (n:Nat) (hn:n≤sizeLine) (val:Nat→V)
  (hgo: ∀i Hh,i<n→ae H1 Hh→J.go i Hh) (hstop: ∀Hh,ae H1 Hh→J.stop n Hh)
  (turn: ∀i Hh x H',i<n→ae H1 Hh→J.eI i Hh x H'→ ∀C:VK,(∀H4,ae Hh H4→C (val i) H4)→g x (wipe σ vs) H' fun σ2 H2=>wipe σ2 vs=wipe σ vs∧te σ2 H2 C)
  (fin: ∀Hh,ae H1 Hh→Hh D=some (.lst ((List.range n).map val))→Qf Hh):
  ∃W:Nat→Nat→Hp→Prop,(∃m,W 0 m (upd H1 D (.lst [])))∧ ∀i m H,W i m H→
   (J.stop i H∧Qf H)∨(J.go i H∧ ∃Nx:Hp→Prop,(∀H',Nx H'→ ∃m',m'<m∧W (i+1) m' H')∧ ∀x H',J.eI i H x H'→g x (wipe σ vs) H' fun σ2 H2=>wipe σ2 vs=wipe σ vs∧mj σ2 H2 fun b H3=>
    if b=true then te σ2 H3 fun y H4=> ∃acc,H4 D=some (.lst acc)∧acc.length<sizeLine∧Nx (upd H4 D (.lst (acc++ [y]))) else Nx H3):=by
 refine zA hD n hn (fun k v _=>v=val k) (fun _ _ _ _ _ _ h=>h) hgo hstop (fun i Hh x H' hi s1 _ hy C hC=>turn i Hh x H' hi s1 hy C fun H4 s4=>hC _ H4 s4 rfl) fun Hh xs s1 hl hp hx=>fin Hh s1 ?_
 have:xs=(List.range n).map val:=by
  refine List.ext_getElem? fun k=>?_
  by_cases hk:k<n
  ·rw[List.getElem?_map,List.getElem?_range hk]
   have e:=List.getElem?_eq_getElem (l:=xs) (i:=k) (by omega)
   rw[e,hp k _ e];rfl
  ·rw[List.getElem?_eq_none (by omega),List.getElem?_eq_none (by rw[List.length_map,List.length_range];omega)]
 rw[←this];exact hx
theorem aR {X:Cx} {x:Str} {i:Int} {tk:Tok} {pos:Pos} (hg:Gl X x) (hm:X.mg x=some (.int i tk)) (hd:(x==("__debug__" :Str))=false:=by decide):PE X (.Name x pos) (tC (.int i)):=BQ hg hm (show RelV (.int i) (.int i tk) from ⟨tk,rfl⟩) hd
theorem dR {X:Cx} {x:Str} {a:Addr} {pos:Pos} (hg:Gl X x) (hm:X.mg x=some (.ref a)) (hd:(x==("__debug__" :Str))=false:=by decide):PE X (.Name x pos) (tC (.ref a)):=BQ hg hm (show RelV (.ref a) (.ref a) from rfl) hd
theorem z7 {X:Cx} {K:PySem.W.Frag} (h:X.K=K):ml X (Bt K):=by subst h;exact d9
theorem xW {X:Cx} {K:PySem.W.Frag} {e:Expr} {f:Str} {pos:Pos} {ta:TE} (h:X.K=K) (he:PE X e ta) (hb:attributeBase e f X.env (eval e X.env)=eval e X.env):PE X (.Attribute e f pos) (oG K ta f):=by subst h;exact ay he hb
theorem uC {l:List Int} {i:Nat} {x:V} (h:(l.map V.int)[i]?=some x):x= .int (l.getD i 0)∧i<l.length:=by
 rw[List.getElem?_map] at h
 cases e:l[i]? with
 |none=>rw[e] at h;cases h
 |some z=>
  rw[e] at h
  refine ⟨?_,(List.getElem?_eq_some_iff.mp e).1⟩
  rw[List.getD_eq_getElem?_getD,e]
  exact (Option.some.inj h).symm
theorem lp {l:List Int} {i:Nat} (h:i<l.length):(l.map V.int)[i]?=some (.int (l.getD i 0)):=by
 rw[List.getElem?_map,List.getElem?_eq_getElem h,List.getD_eq_getElem?_getD,List.getElem?_eq_getElem h];rfl
end Wg
namespace Wg
open PySem PySem.Spec PyProof.Rows L2
section
variable {P:Program} {w:World} {K:PySem.W.Frag} {mg:Str→Option Value} {base:Heap} {A:aW}
theorem _root_.L2.ae.none {H H':Hp} {b:Addr} (s:ae H H') (h:H' b=none):H b=none:=by
 cases q:H b with
 |none=>rfl
 |some o=>rw[s b o q] at h;cases h
def vN (F:List Nat):List V:=F.map fun (n:Nat)=>V.int (n:Int)
theorem ja (F:List Nat):vN F=(F.map fun (n:Nat)=>(n:Int)).map V.int:=by unfold vN;rw[List.map_map];rfl
theorem aO (F:List Nat):(vN F).length=F.length:=by simp [vN]
theorem fF {F:List Nat} {i:Nat} (h:i<F.length):(vN F)[i]?=some (.int ((F.getD i 0:Nat):Int)):=by
 unfold vN
 rw[List.getElem?_map,List.getElem?_eq_getElem h,List.getD_eq_getElem?_getD,List.getElem?_eq_getElem h];rfl
theorem eT {F:List Nat} {i:Nat} {x:V} (h:(vN F)[i]?=some x):x= .int ((F.getD i 0:Nat):Int)∧i<F.length:=by
 have hi:i<F.length:=by
  have:=(List.getElem?_eq_some_iff.mp h).1
  rwa [aO] at this
 rw[fF hi] at h
 exact ⟨(Option.some.inj h).symm,hi⟩
theorem dB (F G:List Nat):vN (F++G)=vN F++vN G:=by unfold vN;rw[List.map_append]
theorem JF {α:Type} (l:List α) (a b:Nat):(l.drop (min a l.length)).take (min b l.length-min a l.length)=(l.drop a).take (b-a):=by
 rcases Nat.le_total a l.length with h|h
 ·rw[Nat.min_eq_left h]
  rcases Nat.le_total b l.length with g|g
  ·rw[Nat.min_eq_left g]
  ·rw[Nat.min_eq_right g,List.take_of_length_le (Nat.le_of_eq List.length_drop),List.take_of_length_le (by rw[List.length_drop];exact Nat.sub_le_sub_right g a)]
 ·rw[Nat.min_eq_right h,List.drop_length,List.drop_of_length_le h,List.take_nil,List.take_nil]
theorem kb (F:List Nat) (a b:Nat):cW (vN F) (some (a:Int)) (some (b:Int))=vN ((F.drop a).take (b-a)):=by
 unfold cW HT.dh vN
 simp only [List.length_map]
 rw[if_neg (by lia),if_neg (by lia),Int.toNat_natCast,Int.toNat_natCast,←List.map_drop,←List.map_take,JF]
theorem ur (F:List Nat) (b:Nat):cW (vN F) none (some (b:Int))=vN (F.take b):=by
 unfold cW HT.dh vN
 simp only [List.length_map]
 rw[if_neg (by lia),Int.toNat_natCast,←List.map_drop,←List.map_take,List.drop_zero,Nat.sub_zero]
 congr 1
 rw[List.take_eq_take_iff];lia
theorem Lr (F:List Nat) (a:Nat):cW (vN F) (some (a:Int)) none=vN (F.drop a):=by
 unfold cW HT.dh vN
 simp only [List.length_map]
 rw[if_neg (by lia),Int.toNat_natCast,←List.map_drop,←List.map_take]
 congr 1
 rw[show F.drop (min a F.length)=F.drop a by rw[List.drop_eq_drop_iff];lia,List.take_of_length_le (by rw[List.length_drop];lia)]
theorem sZ (k:Nat):256^k=2^(8*k):=by rw[Nat.pow_mul]
theorem NB {nb:Nat} (h:nb≤100000000):rV (8*(nb:Int)-8) (-1) (-8) nb:=by
 refine ⟨by decide,by decide,?_,?_⟩
 ·unfold Builtin.Range.small Builtin.Range.rangeSize
  simp only [Builtin.Range.rangeFitsLong,Bool.and_eq_true,Bool.or_eq_true,decide_eq_true_eq,beq_iff_eq,show¬((-8:Int)>0) by decide,if_false,show-(-8:Int)=8 by decide]
  split<;>lia
 ·unfold Builtin.Range.rangeSize
  rw[if_neg (by decide),show-(-8:Int)=8 by decide]
  split<;>lia
abbrev fU (H:Hp) (Q:VK) (l:List Nat):Prop:= ∀D H',H D=none→ae H H'→H' D=some (.lst (vN l))→Q (.ref D) H'
theorem zf: ∀(l:List Nat),(∀x∈l,x<256)→ ∀n,l.foldl (fun n c=>256*n+c) n<(n+1)*256^l.length
 | [],_,n=>by simp
 |x::l,h,n=>by
  have:=zf l (fun y hy=>h y (List.mem_cons_of_mem _ hy)) (256*n+x)
  rw[List.foldl_cons,List.length_cons,Nat.pow_succ]
  have hx:=h x (List.mem_cons_self ..)
  have h2:(256*n+x+1)*256^l.length≤((n+1)*256)*256^l.length:=Nat.mul_le_mul_right _ (by lia)
  have e:(n+1)*(256^l.length*256)=(n+1)*256*256^l.length:=by rw[Nat.mul_comm (256^l.length),Nat.mul_assoc]
  lia
theorem sr {l:List Nat} (h: ∀x∈l,x<256):bN l<256^l.length:=by
 have:=zf l h 0
 rwa [Nat.zero_add,Nat.one_mul] at this
theorem rn {α β:Type} (f:β→α→β) (l:List α) (i:Nat) (h:i<l.length) (b:β):(l.take (i+1)).foldl f b=f ((l.take i).foldl f b) l[i]:=by
 rw[List.take_succ,List.getElem?_eq_getElem h,List.foldl_append];rfl
theorem tH {l:List Nat} {m i:Nat} (h: ∀x∈l,x<m) (hi:i<l.length):l.getD i 0<m:=h _ (by rw[List.getD_eq_getElem?_getD,List.getElem?_eq_getElem hi];exact List.getElem_mem hi)
theorem getD_at {l:List Nat} {i:Nat} (hi:i<l.length):l.getD i 0=l[i]:=by rw[List.getD_eq_getElem?_getD,List.getElem?_eq_getElem hi];rfl
theorem E5 {n b:Nat} (h:b<256):(256*n)|||b=256*n+b:=by
 have:=Nat.two_pow_add_eq_or_of_lt (i:=8) h n
 exact this.symm
theorem Ew {n k:Nat} (h:n<2^k):Builtin.Int.intBits ((n:Nat):Int)≤k:=by rw[RE];exact Of h
theorem FA {J:It} {g:TG} {tb:TS} {D:Ends} {σ:L2.St} {H:Hp} (n:Nat) (Pv:Nat→L2.St→Hp→Prop) (h0:Pv 0 σ H) (hgo: ∀i σ H,i<n→Pv i σ H→J.go i H) (hstop: ∀σ H,Pv n σ H→J.stop n H)
  (hs: ∀i σ H x H',i<n→Pv i σ H→J.eI i H x H'→g x σ H' fun σ2 H2=>tb {D with nx:=Pv (i+1),ct:=Pv (i+1),bk:=D.nx} σ2 H2) (hd: ∀σ H,Pv n σ H→D.nx σ H):
  ∃W:Nat→Nat→L2.St→Hp→Prop,(∃m,W 0 m σ H)∧ ∀i m σ H,W i m σ H→
   (J.stop i H∧D.nx σ H)∨(J.go i H∧ ∃N:L2.St→Hp→Prop,(∀σ' H',N σ' H'→ ∃m',m'<m∧W (i+1) m' σ' H')∧ ∀x H',J.eI i H x H'→g x σ H' fun σ2 H2=>tb {D with nx:=N,ct:=N,bk:=D.nx} σ2 H2):=by
 refine ⟨fun i m σ H=>i+m=n∧Pv i σ H,⟨n,by lia,h0⟩,?_⟩
 rintro i m σ H ⟨hm,p⟩
 by_cases hi:i=n
 ·subst hi
  exact .inl ⟨hstop σ H p,hd σ H p⟩
 ·exact .inr ⟨hgo i σ H (by lia) p,Pv (i+1),fun σ' H' p'=>⟨m-1,by lia,by lia,p'⟩,fun x H' y=>hs i σ H x H' (by lia) p y⟩
theorem map_getD {f:Nat→Nat} (l:List Nat):(List.range l.length).map (fun i=>V.int ((f (l.getD i 0):Nat):Int))=vN (l.map f):=by
 unfold vN
 rw[List.map_map]
 refine List.ext_getElem (by simp) fun i h1 h2=>?_
 simp at h1 h2
 simp [List.getD_eq_getElem?_getD,List.getElem?_eq_getElem h2]
theorem nu {X:Cx} {K:PySem.W.Frag} {pos:Pos} {es:List Expr} {k:Nat} {t:iY} {n:Nat} (h:X.K=K) (hc:X.calm=true) (hg:p5 X es t)
  (hn:(assignEach es X.env).length=n:=by rfl) (hst:(assignEach es X.env).findIdx? (·.1)=none:=by rfl):PG X (.Tuple es k pos) (zB K n t):=by subst h;exact K7 hc hg hn hst
theorem Eg {X:Cx} {K:PySem.W.Frag} (h:X.K=K):ik X (.builtin "len") (fun xs H Q=> ∃p ys,xs= [.ref p]∧(ah K H p ys∨a8 K H p ys)∧Q (.int ys.length) H):=by subst h;exact cx
theorem uc {as:List Addr} {i:Nat} {x:V} (h:(as.map V.ref)[i]?=some x): ∃a,x= .ref a∧as[i]?=some a:=by
 rw[List.getElem?_map] at h
 cases e:as[i]? with
 |none=>rw[e] at h;cases h
 |some a=>rw[e] at h;exact ⟨a,(Option.some.inj h).symm,rfl⟩
theorem tR {as:List Addr} {i:Nat} (h:i<as.length): ∃a,(as.map V.ref)[i]?=some (.ref a)∧as[i]?=some a:=⟨as[i],by rw[List.getElem?_map,List.getElem?_eq_getElem h];rfl,List.getElem?_eq_getElem h⟩
def bn (b:Sound.Bytes):List Nat:=b.map UInt8.toNat
theorem bx (b:Sound.Bytes):(bn b).length=b.length:=by unfold bn;rw[List.length_map]
theorem eX (b:Sound.Bytes): ∀x∈bn b,x<256:=fun x hx=>by
 obtain ⟨c,_,rfl⟩:=List.mem_map.mp hx
 exact c.toNat_lt
theorem gO (b:Sound.Bytes) (n:Nat):(bn b).drop n=bn (b.drop n):=by unfold bn;rw[List.map_drop]
theorem fH (b:Sound.Bytes) (n:Nat):(bn b).take n=bn (b.take n):=by unfold bn;rw[List.map_take]
theorem dJ (a b:Sound.Bytes):bn (a++b)=bn a++bn b:=by unfold bn;rw[List.map_append]
def Sq (i n:Nat):L2.St→Hp→Nat:=fun σ _=>match σ[i]? with
 |some (some (.int p))=>n-p.toNat
 |_=>0
theorem A9 {c:TT} {tb:TS} {D:Ends} {σ:L2.St} {H:Hp} (Pv:L2.St→Hp→Prop) (μ:L2.St→Hp→Nat) (h0:Pv σ H)
  (hs: ∀σ H,Pv σ H→ ∀C:Bool→Hp→Prop,(∀H1,tb {D with nx:=fun σ' H'=>Pv σ' H'∧μ σ' H'<μ σ H,ct:=fun σ' H'=>Pv σ' H'∧μ σ' H'<μ σ H,bk:=D.nx} σ H1→C true H1)→(∀H1,D.nx σ H1→C false H1)→c σ H C):Fe c tb D σ H:=by
 refine ⟨fun m σ H=>m=μ σ H∧Pv σ H,⟨_,rfl,h0⟩,?_⟩
 rintro m σ H ⟨rfl,p⟩
 exact hs σ H p _ (fun H1 h=>⟨_,fun σ' H' ⟨p',l⟩=>⟨_,l,rfl,p'⟩,h⟩) (fun H1 h=>h)
def newOf (H H':Hp):Hp:=fun b=>match H b with
 |none=>H' b
 |some _=>none
theorem iq {H H':Hp} {b:Addr} (h:H b=none):newOf H H' b=H' b:=by unfold newOf;rw[h]
theorem kH {H H':Hp} {b:Addr} {o:HO} (h:newOf H H' b=some o):H b=none∧H' b=some o:=by
 unfold newOf at h
 cases e:H b with
 |none=>rw[e] at h;exact ⟨rfl,h⟩
 |some u=>rw[e] at h;cases h
theorem K2 (H H':Hp):ae (newOf H H') H':=fun b o h=>(kH h).2
def SN:Sp:=fun vs H Q _=> ∃c n:Nat,vs= [.int c, .int n]∧c≤1000∧fU H Q (aT c n)
theorem vB:aK ["count", "number", "shift"] ["count", "number"] (aB FW):=⟨rfl,rfl,rfl,by decide+kernel,rfl,by decide+kernel,by decide+kernel⟩
theorem gQ (T:Txt K mg A):az P w K mg base a9 1 A.nA A.nU ["count", "number"] SN:=by
 refine T.gh.ok vB (fun vs H Q E h=>?_) (fun cdv Ar outer s H vs Q E hr h=>?_)
 ·obtain ⟨c,n,rfl,_⟩:=h
  rfl
 ·obtain ⟨c,n,rfl,hc,k⟩:=h
  refine ⟨_,ak (aX (fz (own:= [("shift",2)]) rfl vB.nd (Ab rfl T.dU (aa (au du (au ko aq (pv 0)) aq) (aa (fw fB aq) (aa (fw fB aq) af))))
   (d5 (by kernel_rfl)) (fun _ _ _ _ _=>bq (i:=2) vB.nd rfl (Or.inl rfl)) (fun _ _ _ _ _=>d6) (fun _ _ _ _ _=>au lB (au fk (pv 1) (pv 2)) aq))),?_⟩
  refine ⟨_,rfl,ag _ _ ⟨rfl,rfl, .inl ⟨by decide,by decide⟩,ag _ _ ⟨rfl,rfl,_,rfl,_,rfl,8*(c:Int)-8,-1,-8,c,rfl,NB (by lia),fun D hD=>?_⟩⟩⟩
  refine fq (J:=r9 (8*(c:Int)-8) (-8) c) hD c (by rw[sizeLine_eq];lia) (fun i=> .int ((n/256^(c-1-i)%256:Nat):Int)) (fun i Hh hi s1=>hi) (fun Hh s1=>Nat.le_refl _) ?_ ?_
  ·rintro i Hh z H' hi s1 ⟨rfl,rfl⟩ C hC
   have e1:8*(c:Int)-8+(i:Nat)*(-8)=((8*(c-1-i):Nat):Int):=by lia
   rw[e1]
   refine ⟨rfl,_,rfl,_,rfl,ag _ _ ⟨rfl,rfl,(by lia),ag _ _ ⟨rfl,rfl,?_⟩⟩⟩
   have e2:((n:Nat):Int)/2^((8*(c-1-i):Nat):Int).toNat=((n/256^(c-1-i):Nat):Int):=by rw[Int.toNat_natCast,sZ];simp
   dsimp only
   rw[e2,Pl]
   exact hC _ (ae.refl _)
  ·intro Hh s1 hx
   refine k D Hh hD s1 (hx.trans ?_)
   unfold vN aT
   rw[List.map_map]
   rfl
def IK (K:PySem.W.Frag):Sp:=fun vs H Q _=> ∃(q:Addr) (l:List Nat),vs= [.ref q]∧ah K H q (vN l)∧l.length≤1000∧(∀x∈l,x<256)∧Q (.int (bN l:Nat)) H
theorem uI:aK ["data", "number", "byte"] ["data"] (aB FI):=⟨rfl,rfl,rfl,by decide+kernel,rfl,by decide+kernel,by decide+kernel⟩
theorem sJ (T:Txt K mg A):az P w K mg base a9 1 A.l7 A.qa ["data"] (IK K):=by
 refine T.nL.ok uI (fun vs H Q E h=>?_) (fun cdv Ar outer s H vs Q E hr h=>?_)
 ·obtain ⟨q,l,rfl,_⟩:=h
  rfl
 ·obtain ⟨q,l,rfl,hq,hl,hb,k⟩:=h
  refine ⟨_,ai (aJ (i:=1) uI.nd rfl (Or.inl rfl) aq)
   (ai (cw PassesOwn.never rfl (dn (pv 0)) (bq (i:=2) uI.nd rfl (Or.inl rfl))
    (ak (aJ (i:=1) uI.nd rfl (Or.inl rfl) (au CK (au sY (pv 1) aq) (pv 2)))))
   (ak (aX (pv 1)))),?_⟩
  refine ⟨_,rfl,q,rfl,⟨_,hq⟩,?_⟩
  refine ie (K:=K) (a:=q) (xs:=vN l) (fun i σ H'=>H'=H∧ ∃v2:Option V,σ= [some (.ref q),some (.int (bN (l.take i):Nat)),v2]) ⟨rfl,none,rfl⟩ (fun i σ H' _ ⟨e,_⟩=>by rw[e];exact hq) ?_ ?_
  ·rintro i x σ H' hi ⟨rfl,v2,rfl⟩
   obtain ⟨rfl,hil⟩:=eT hi
   have hlt:=sr (l:=l.take i) fun x hx=>hb x (List.mem_of_mem_take hx)
   have hbits:Builtin.Int.intBits ((bN (l.take i):Nat):Int)≤8*i:=by
    rw[sZ,List.length_take] at hlt
    exact Ew (Nat.lt_of_lt_of_le hlt (Nat.pow_le_pow_right (by decide) (by lia)))
   have e27:(2:Int)^27=134217728:=by decide
   refine ⟨_,rfl,ag _ _ ⟨rfl,rfl,⟨by lia,by lia⟩,_,rfl,ag _ _ ⟨rfl,rfl,rfl,some (.int (l.getD i 0:Nat)),?_⟩⟩⟩
   have e:bN (l.take (i+1))=256*bN (l.take i)+l.getD i 0:=by
    unfold bN
    rw[rn _ _ _ hil,getD_at hil]
   have ex:Builtin.bitOr (((bN (l.take i):Nat):Int)*2^(8:Int).toNat) ((l.getD i 0:Nat):Int)=((bN (l.take (i+1)):Nat):Int):=by
    have e8:((bN (l.take i):Nat):Int)*2^(8:Int).toNat=((256*bN (l.take i):Nat):Int):=by
     rw[show (2:Int)^(8:Int).toNat=256 by decide];lia
    rw[e8,vo,E5 (tH hb hil),e]
   show [some (V.ref q),some (V.int (Builtin.bitOr _ _)),_]=_
   rw[ex]
  ·rintro σ H' ⟨rfl,v2,rfl⟩
   refine ⟨_,rfl,?_⟩
   have:bN (l.take (vN l).length)=bN l:=by rw[aO,List.take_length]
   rw[this]
   exact k
def JR (K:PySem.W.Frag):Sp:=fun vs H Q _=> ∃(q:Addr) (l:List Nat),vs= [.ref q]∧ah K H q (vN l)∧(∀x∈l,x<256)∧Q (.int (kd l:Nat)) H
theorem kX:aK ["data", "check", "byte"] ["data"] (aB Ft):=⟨rfl,rfl,rfl,by decide+kernel,rfl,by decide+kernel,by decide+kernel⟩
theorem Mb (n:Nat):Builtin.bitAnd (n:Int) 15=((n%16:Nat):Int):=by
 rw[show (15:Int)=((15:Nat):Int) from rfl,sy,show (15:Nat)=2^4-1 by decide,Nat.and_two_pow_sub_one_eq_mod]
theorem Au {c:Nat} {H:Hp} {a:Addr} {Qf:V→Hp→Prop} (hs:a8 K H a (vN k8)) (k:Qf (.int (qZ c:Nat)) H) {σ:L2.St} (hσ:σ[1]?=some (some (V.int (c:Nat)))):
  iC (dX fun i j=> .int (Builtin.bitXor i j)) (iC (rI (fun _ j=>0≤j) fun i j=> .int (i/2^j.toNat)) (gJ 1) (tC (.int 4))) (iC (yo K) (tC (.ref a)) (iC (dX fun i j=> .int (Builtin.bitAnd i j)) (gJ 1) (tC (.int 15)))) σ H Qf:=by
 refine ⟨_,hσ,ag _ _ ⟨rfl,rfl,(by show (0:Int)≤4;decide),_,hσ,ag _ _ ⟨rfl,rfl,?_⟩⟩⟩
 dsimp only
 rw[Mb]
 have hm:c%16<k8.length:=Nat.mod_lt _ (by decide)
 refine (aA a _ _ _ ⟨rfl,rfl,hs,cv (fF hm),ag _ _ ⟨rfl,rfl,?_⟩⟩)
 have e:Builtin.bitXor (((c:Nat):Int)/2^(4:Int).toNat) ((k8.getD (c%16) 0:Nat):Int)=((qZ c:Nat):Int):=by
  have e1:((c:Nat):Int)/2^(4:Int).toNat=((c/16:Nat):Int):=by rw[show (2:Int)^(4:Int).toNat=16 by decide];lia
  rw[e1,iw];rfl
 dsimp only
 rw[e]
 exact k
theorem xC (T:Txt K mg A):az P w K mg base a9 1 A.md A.me ["data"] (JR K):=by
 refine T.sU.ok kX (fun vs H Q E h=>?_) (fun cdv Ar outer s H vs Q E hr h=>?_)
 ·obtain ⟨q,l,rfl,_⟩:=h
  rfl
 ·obtain ⟨q,l,rfl,hq,hb,k⟩:=h
  refine ⟨_,ai (aJ (i:=1) kX.nd rfl (Or.inl rfl) aq)
   (ai (cw PassesOwn.never rfl (dn (pv 0)) (bq (i:=2) kX.nd rfl (Or.inl rfl))
    (ai (iO (i:=1) kX.nd rfl (Or.inl rfl) (pv 2) uH)
    (ai (aJ (i:=1) kX.nd rfl (Or.inl rfl) (au kY (au fk (pv 1) aq) (cJ tU (dR rfl T.zZ) (au lB (pv 1) aq) (fun _ _=>rfl))))
    (ak (aJ (i:=1) kX.nd rfl (Or.inl rfl) (au kY (au fk (pv 1) aq) (cJ tU (dR rfl T.zZ) (au lB (pv 1) aq) (fun _ _=>rfl))))))))
   (ak (aX (au kY (pv 1) aq)))),?_⟩
  refine ⟨_,rfl,q,rfl,⟨_,hq⟩,?_⟩
  have hS: ∀H,a8 K H A.lP (vN k8):=fun H=>T.MC H
  refine ie (K:=K) (a:=q) (xs:=vN l) (fun i σ H'=>H'=H∧ ∃v2:Option V,σ= [some (.ref q),some (.int ((l.take i).foldl rE 0xFFFFFFFF:Nat)),v2]) ⟨rfl,none,rfl⟩ (fun i σ H' _ ⟨e,_⟩=>by rw[e];exact hq) ?_ ?_
  ·rintro i x σ H' hi ⟨rfl,v2,rfl⟩
   obtain ⟨rfl,hil⟩:=eT hi
   refine ⟨_,rfl,_,rfl,ag _ _ ⟨rfl,rfl,?_⟩⟩
   dsimp only
   rw[iw]
   refine Au (hS _) (Au (hS _) ⟨rfl,some (.int (l.getD i 0:Nat)),?_⟩ rfl) rfl
   rw[rn _ _ _ hil,←getD_at hil]
   rfl
  ·rintro σ H' ⟨rfl,v2,rfl⟩
   refine ⟨_,rfl,ag _ _ ⟨rfl,rfl,?_⟩⟩
   dsimp only
   rw[aO,List.take_length,show (4294967295:Int)=((4294967295:Nat):Int) from rfl,iw]
   exact k
def i8 (l:List Nat):List Nat:=l++aT 4 (kd l)
theorem bG (c n:Nat):(aT c n).length=c:=by unfold aT;rw[List.length_map,List.length_range]
theorem pC (c n:Nat): ∀x∈aT c n,x<256:=fun x hx=>by
 unfold aT at hx
 obtain ⟨i,_,rfl⟩:=List.mem_map.mp hx
 exact Nat.mod_lt _ (by decide)
def Mm:Sp:=fun vs H Q _=> ∃a:Nat,vs= [.int a]∧a<256∧fU H Q ((List.range 256).map (Sound.mul a))
theorem iA:aK ["factor", "table", "power", "step", "product"] ["factor"] (aB EW):=⟨rfl,rfl,rfl,by decide+kernel,rfl,by decide+kernel,by decide+kernel⟩
theorem rq (a k:Nat):(gB a k).length=2^k:=by unfold gB;rw[List.length_map,List.length_range]
theorem Av (T:Txt K mg A):az P w K mg base a9 1 A.lS A.m9 ["factor"] Mm:=by
 refine T.v8.ok iA (fun vs H Q E h=>?_) (fun cdv Ar outer s H vs Q E hr h=>?_)
 ·obtain ⟨a,rfl,_⟩:=h
  rfl
 ·obtain ⟨a,rfl,ha,k⟩:=h
  refine ⟨_,ai (aJ (i:=1) iA.nd rfl (Or.inl rfl) (bZ (aa aq af)))
   (ai (aJ (i:=2) iA.nd rfl (Or.inr rfl) (pv 0))
   (ai (cw PassesOwn.never rfl (fu rfl T.dU (aa aq af)) (bq (i:=3) iA.nd rfl (Or.inl rfl))
    (ai (aJ (i:=1) iA.nd rfl (Or.inl rfl) (au jZ (pv 1) (fz (own:= [("product",4)]) rfl iA.nd (dn (pv 1)) (d5 (by kernel_rfl)) (fun _ _ _ _ _=>bq (i:=4) iA.nd rfl (Or.inl rfl)) (fun _ _ _ _ _=>d6) (fun _ _ _ _ _=>au kY (pv 4) (pv 2)))))
    (ai (iO (i:=2) iA.nd rfl (Or.inr rfl) aq AD)
    (ak (bg (bc dF (pv 2) aq (aZ _)) (ak (iO (i:=2) iA.nd rfl (Or.inr rfl) (aR rfl T.NP) uH)) br)))))
   (ak (aX (pv 1))))),?_⟩
  refine ⟨by rw[sizeLine_eq];show 1≤_;lia,fun t0 ht0=>⟨_,rfl,_,rfl,by decide,by decide,?_⟩⟩
  refine fM (lo:=0) (n:=8) (fun j σ H'=> ∃(t:Addr) (v3 v4:Option V),H t=none∧ae H H'∧H' t=some (.lst (vN (gB a j)))∧σ= [some (.int a),some (.ref t),some (.int (cQ a j:Nat)),v3,v4]) ⟨t0,none,none,ht0,aF ht0,aj,rfl⟩ ?_ ?_
  ·rintro j σ H1 hj ⟨t,v3,v4,ht,s1,hx,rfl⟩
   have hp:=wk ha j
   have h2j:2^j≤128:=Nat.le_trans (Nat.pow_le_pow_right (by decide) (show j≤7 by lia)) (by decide)
   refine ⟨_,rfl,_,rfl,t,rfl,⟨_,ah.of hx⟩,fun D hD=>?_⟩
   refine fq (J:=eM K t) hD (2^j) (by rw[sizeLine_eq];lia) (fun i=> .int (((gB a j).getD i 0^^^cQ a j:Nat):Int)) (fun i Hh hi t1=>⟨_,_,t1.seq (ah.of hx),fF (by rw[rq];exact hi)⟩) (fun Hh t1=>⟨_,t1.seq (ah.of hx),by rw[aO,rq];exact Nat.le_refl _⟩) ?_ ?_
   ·rintro i Hh z H' hi t1 ⟨rfl,hz⟩ C hC
    obtain ⟨rfl,_⟩:=eT (hz _ (t1.seq (ah.of hx)))
    refine ⟨rfl,_,rfl,_,rfl,ag _ _ ⟨rfl,rfl,?_⟩⟩
    dsimp only
    rw[iw]
    exact hC _ (ae.refl _)
   ·intro H2 s2 hx2
    have e2:(List.range (2^j)).map (fun i=>V.int (((gB a j).getD i 0^^^cQ a j:Nat):Int))=vN ((gB a j).map fun p=>p^^^cQ a j):=by
     unfold vN
     rw[List.map_map]
     refine List.ext_getElem (by rw[List.length_map,List.length_map,List.length_range,rq]) fun i h1 h2=>?_
     simp at h1 h2
     simp [List.getD_eq_getElem?_getD,List.getElem?_eq_getElem h2]
    rw[e2] at hx2
    refine (aA t D _ _ ⟨rfl,rfl,s2 _ _ hx,hx2,(by rw[aO,aO,List.length_map,rq,sizeLine_eq];lia),fun p hp2=>?_⟩)
    rw[←dB,←Rt]
    have n0:H p=none:=(s1.trans s2).none hp2
    refine ⟨_,rfl,ag _ _ ⟨rfl,rfl,⟨by decide,by decide,by rw[Int.natAbs_natCast];lia⟩,?_⟩⟩
    have e3:((cQ a j:Nat):Int)*2^(1:Int).toNat=((2*cQ a j:Nat):Int):=by
     rw[show (2:Int)^(1:Int).toNat=2 by decide];lia
    dsimp only
    rw[e3]
    refine ⟨_,rfl,ag _ _ ⟨rfl,rfl,_,rfl,?_⟩⟩
    refine bW (fun hc2=>?_) fun hc2=>?_
    ·have hc2:(255:Int)<((2*cQ a j:Nat):Int):=of_decide_eq_true hc2
     refine ⟨_,rfl,ag _ _ ⟨rfl,rfl,p,some (.int (0+(j:Nat))),v4,n0,fh (s1.trans s2) n0,aj,?_⟩⟩
     show [_,_,some (V.int (Builtin.bitXor ((2*cQ a j:Nat):Int) 285)),_,_]=_
     rw[show (285:Int)=((285:Nat):Int) from rfl,iw]
     have:cQ a (j+1)=2*cQ a j^^^285:=by
      show Sound.times2 _=_
      unfold Sound.times2
      rw[if_pos (by lia)]
     rw[this]
    ·have hc2: ¬(255:Int)<((2*cQ a j:Nat):Int):=fun z=>hc2 (decide_eq_true z)
     refine ⟨p,some (.int (0+(j:Nat))),v4,n0,fh (s1.trans s2) n0,aj,?_⟩
     have:cQ a (j+1)=2*cQ a j:=by
      show Sound.times2 _=_
      unfold Sound.times2
      rw[if_neg (by lia)]
     rw[this];rfl
  ·rintro σ H1 ⟨t,v3,v4,ht,s1,hx,rfl⟩
   exact ⟨_,rfl,k t H1 ht s1 hx⟩
def M0 (K:PySem.W.Frag):Sp:=fun vs H Q _=> ∃(q:Addr) (l:List Nat),vs= [.ref q]∧ah K H q (vN l)∧(∀x∈l,x<256)∧l.length≤1000000∧fU H Q (i8 l)
theorem Tb:aK ["data"] ["data"] (aB yX):=⟨rfl,rfl,rfl,by decide+kernel,rfl,by decide+kernel,by decide+kernel⟩
theorem wL (T:Txt K mg A):az P w K mg base a9 2 A.nv A.qJ ["data"] (M0 K):=by
 refine T.rD.ok Tb (fun vs H Q E h=>?_) (fun cdv Ar outer s H vs Q E hr h=>?_)
 ·obtain ⟨q,l,rfl,_⟩:=h
  rfl
 ·obtain ⟨q,l,rfl,hq,hb,hl,k⟩:=h
  refine ⟨_,ak (aX (au fc (pv 0) (aP (gQ T) hr rfl T.gU T.gh.kp T.gu .nil aQ
   (aa (aR rfl T.kg) (aa (aP (xC T) hr rfl T.wI T.sU.kp T.w6 .nil aQ (aa (pv 0) af)) af))))),?_⟩
  refine ⟨_,rfl,_,rfl,ag q l ⟨rfl,hq,hb,4,kd l,rfl,by decide,fun D H1 hD s1 hx=>?_⟩⟩
  refine (aA q D _ _ ⟨rfl,rfl,s1.seq hq,ah.of hx,(by rw[aO,aO,bG,sizeLine_eq];lia),fun p hp=>?_⟩)
  refine k p _ (s1.none hp) (fh s1 (s1.none hp)) ?_
  rw[aj,←dB];rfl
theorem Ja (a b:Int):gg (.int a) (.int b)=decide (a=b):=by
 by_cases h:a=b
 ·subst h;simp [gg]
 ·simp [gg,h]
theorem RV (F:List Nat):(vN F).all gH=true:=by
 rw[List.all_eq_true]
 intro x hx
 obtain ⟨n,_,rfl⟩:=List.mem_map.mp hx
 rfl
def LV:Sp:=fun vs H Q _=> ∃a:Nat,vs= [.int a]∧(a<256∧a≠0)∧ ∀H',ae H H'→Q (.int (Sound.inverse a:Nat)) H'
theorem Po:aK ["number"] ["number"] (aB DJ):=⟨rfl,rfl,rfl,by decide+kernel,rfl,by decide+kernel,by decide+kernel⟩
theorem IA (T:Txt K mg A):az P w K mg base a9 2 A.om A.qG ["number"] LV:=by
 refine T.B3.ok Po (fun vs H Q E h=>?_) (fun cdv Ar outer s H vs Q E hr h=>?_)
 ·obtain ⟨a,rfl,_⟩:=h
  rfl
 ·obtain ⟨a,rfl,⟨ha,h0⟩,k⟩:=h
  refine ⟨_,ak (aX (gS PySem.F.plainAttrs_list PySem.F.slot_list_index PySem.F.type_list_index P5 (aP (Av T) hr rfl T.Al T.v8.kp T.DM .nil aQ (aa (pv 0) af)) (aa aq af))),?_⟩
  obtain ⟨i1,i2,i3⟩:=Fo ha h0
  refine ⟨_,rfl,a,rfl,ha,fun D H1 hD s1 hx=>?_⟩
  have gt: ∀b,b<256→((List.range 256).map (Sound.mul a)).getD b 0=Sound.mul a b:=fun b hb=>by
   rw[List.getD_eq_getElem?_getD,List.getElem?_map,List.getElem?_range hb];rfl
  have hl:((List.range 256).map (Sound.mul a)).length=256:=by rw[List.length_map,List.length_range]
  refine ⟨.inl ⟨rfl,_,ah.of hx⟩,tS D _ (.int 1) (Sound.inverse a) _ ⟨rfl,rfl,ah.of hx,rfl,RV _,fF (by rw[hl];exact i1),?_,fun m z' hm hz=>?_,k _ s1⟩⟩
  ·rw[gt _ i1,i2];rfl
  ·obtain ⟨rfl,_⟩:=eT hz
   rw[gt m (by lia),Ja]
   have:=i3 m hm
   exact decide_eq_false (by lia)
def IW (K:PySem.W.Frag):Sp:=fun vs H Q _=> ∃(a:Nat) (q:Addr) (l:List Nat),vs= [.int a, .ref q]∧a<256∧ah K H q (vN l)∧(∀x∈l,x<256)∧l.length≤100000∧fU H Q (l.map (Sound.mul a))
theorem rM:aK ["factor", "data", "table", "byte"] ["factor", "data"] (aB DP):=⟨rfl,rfl,rfl,by decide+kernel,rfl,by decide+kernel,by decide+kernel⟩
theorem Md (T:Txt K mg A):az P w K mg base a9 2 A.pQ A.nM ["factor", "data"] (IW K):=by
 refine T.yS.ok rM (fun vs H Q E h=>?_) (fun cdv Ar outer s H vs Q E hr h=>?_)
 ·obtain ⟨a,q,l,rfl,_⟩:=h
  rfl
 ·obtain ⟨a,q,l,rfl,ha,hq,hb,hl,k⟩:=h
  refine ⟨_,ai (aJ (i:=2) rM.nd rfl (Or.inr rfl) (aP (Av T) hr rfl T.Al T.v8.kp T.DM .nil aQ (aa (pv 0) af)))
   (ak (aX (fz (own:= [("byte",3)]) rfl rM.nd (dn (pv 1)) (d5 (by kernel_rfl)) (fun _ _ _ _ _=>bq (i:=3) rM.nd rfl (Or.inl rfl)) (fun _ _ _ _ _=>d6) (fun _ _ _ _ _=>cJ (z7 (K:=K) rfl) (pv 2) (pv 3) (fun _ _=>rfl))))),?_⟩
  refine ⟨_,rfl,a,rfl,ha,fun D H1 hD s1 hx=>⟨_,rfl,q,rfl,⟨_,s1.seq hq⟩,fun D2 hD2=>?_⟩⟩
  refine fq (J:=eM K q) hD2 l.length (by rw[sizeLine_eq];lia) (fun i=> .int ((Sound.mul a (l.getD i 0):Nat):Int)) (fun i Hh hi t1=>⟨_,_,t1.seq (s1.seq hq),fF hi⟩) (fun Hh t1=>⟨_,t1.seq (s1.seq hq),by rw[aO];exact Nat.le_refl _⟩) ?_ ?_
  ·rintro i Hh z H' hi t1 ⟨rfl,hz⟩ C hC
   obtain ⟨rfl,_⟩:=eT (hz _ (t1.seq (s1.seq hq)))
   have hbl:=tH hb hi
   have hg:((List.range 256).map (Sound.mul a)).getD (l.getD i 0) 0=Sound.mul a (l.getD i 0):=by
    rw[List.getD_eq_getElem?_getD,List.getElem?_map,List.getElem?_range hbl];rfl
   have:=fF (F:=(List.range 256).map (Sound.mul a)) (i:=l.getD i 0) (by rw[List.length_map,List.length_range];exact hbl)
   rw[hg] at this
   exact ⟨rfl,_,rfl,_,rfl,aA D _ _ _ ⟨rfl,rfl,t1.seq (ah.of hx),cv this,hC _ (ae.refl _)⟩⟩
  ·intro H2 s2 hx2
   rw[map_getD] at hx2
   exact k D2 H2 (s1.none hD2) (s1.trans s2) hx2
def Jy (K:PySem.W.Frag):Sp:=fun vs H Q _=> ∃(q r:Addr) (l m:List Nat),vs= [.ref q, .ref r]∧ah K H q (vN l)∧ah K H r (vN m)∧l.length=m.length∧l.length≤100000∧fU H Q (Sound.added l m)
theorem sP:aK ["one", "other", "x", "y"] ["one", "other"] (aB yK):=⟨rfl,rfl,rfl,by decide+kernel,rfl,by decide+kernel,by decide+kernel⟩
theorem Lc (T:Txt K mg A):az P w K mg base a9 1 A.lZ A.pk ["one", "other"] (Jy K):=by
 refine T.CT.ok sP (fun vs H Q E h=>?_) (fun cdv Ar outer s H vs Q E hr h=>?_)
 ·obtain ⟨q,r,l,m,rfl,_⟩:=h
  rfl
 ·obtain ⟨q,r,l,m,rfl,hq,hr',hlm,hl,k⟩:=h
  refine ⟨_,ak (aX (fz (own:= [("x",2),("y",3)]) rfl sP.nd (CP rfl T.we (aa (pv 0) (aa (pv 1) af))) (d5 (by kernel_rfl))
   (fun _ _ _ _ _=>nu (K:=K) (n:=2) rfl rfl (gX (bq (i:=2) sP.nd rfl (Or.inl rfl)) (gX (bq (i:=3) sP.nd rfl (Or.inl rfl)) mY))) (fun _ _ _ _ _=>d6) (fun _ _ _ _ _=>au kY (pv 2) (pv 3)))),?_⟩
  refine ⟨_,rfl,_,rfl,aA q r _ _ ⟨rfl,hq,hr',fun D hD=>?_⟩⟩
  refine fq (J:=uJ K q r) hD l.length (by rw[sizeLine_eq];lia) (fun i=> .int ((l.getD i 0^^^m.getD i 0:Nat):Int))
   (fun i Hh hi t1=>⟨_,_,_,_,t1.seq hq,t1.seq hr',fF hi,fF (by lia)⟩) (fun Hh t1=>⟨_,_,t1.seq hq,t1.seq hr', .inl (by rw[aO];exact Nat.le_refl _)⟩) ?_ ?_
  ·rintro i Hh z H' hi t1 ⟨t,x1,y1,rfl,ht,rfl,hx,hy⟩ C hC
   obtain ⟨rfl,_⟩:=eT (hx _ (t1.seq hq))
   obtain ⟨rfl,_⟩:=eT (hy _ (t1.seq hr'))
   refine (ag t _ ⟨rfl,a8.of aj,rfl,ag _ _ ⟨rfl,ag _ _ ⟨rfl,rfl,rfl,_,rfl,_,rfl,ag _ _ ⟨rfl,rfl,?_⟩⟩⟩⟩)
   dsimp only
   rw[iw]
   exact hC _ (aF ht)
  ·intro H2 s2 hx2
   refine k D H2 hD s2 (hx2.trans ?_)
   congr 2
   unfold vN Sound.added
   refine List.ext_getElem (by simp;lia) fun i h1 h2=>?_
   simp at h1
   simp [List.getD_eq_getElem?_getD,List.getElem?_eq_getElem h1,List.getElem?_eq_getElem (show i<m.length by lia)]
def N6:Sp:=fun vs H Q _=> ∃i j:Nat,vs= [.int i, .int j]∧(i<8∧j<4)∧ ∀H',ae H H'→Q (.int (Sound.factor i j:Nat)) H'
theorem Ir:aK ["i", "j"] ["i", "j"] (aB B5):=⟨rfl,rfl,rfl,by decide+kernel,rfl,by decide+kernel,by decide+kernel⟩
theorem Lo (T:Txt K mg A):az P w K mg base a9 3 A.oh A.og ["i", "j"] N6:=by
 refine T.Gm.ok Ir (fun vs H Q E h=>?_) (fun cdv Ar outer s H vs Q E hr h=>?_)
 ·obtain ⟨i,j,rfl,_⟩:=h
  rfl
 ·obtain ⟨i,j,rfl,⟨hi,hj⟩,k⟩:=h
  refine ⟨_,ak (aX (aP (IA T) hr rfl T.Sa T.B3.kp T.Rq .nil aQ (aa (au kY (pv 0) (au bS (aR rfl T.Si) (pv 1))) af))),?_⟩
  refine ⟨_,rfl,_,rfl,ag _ _ ⟨rfl,rfl,ag _ _ ⟨rfl,rfl,i^^^(128+j),?_,F7 i hi j hj,k⟩⟩⟩
  show [V.int (Builtin.bitXor _ _)]=_
  rw[show (128:Int)+(j:Nat)=((128+j:Nat):Int) by lia,iw]
def jI (K:PySem.W.Frag) (H:Hp) (r:Addr) (M:List (List Nat)):Prop:= ∃as:List Addr,ah K H r (as.map V.ref)∧as.length=M.length∧ ∀(k:Nat) (a:Addr),as[k]?=some a→ah K H a (vN (M.getD k []))
theorem jI.same {H H':Hp} {r:Addr} {M:List (List Nat)} (h:jI K H r M) (s:ae H H'):jI K H' r M:=by
 obtain ⟨as,h1,h2,h3⟩:=h
 exact ⟨as,s.seq h1,h2,fun k a e=>s.seq (h3 k a e)⟩
def fC (M:List (List Nat)):List Nat:=M.map List.length
def cX (M:List (List Nat)):Nat:=(fC M).foldl max 0+2
theorem mI: ∀(l:List Nat) (b:Nat),b≤l.foldl max b∧(∀x∈l,x≤l.foldl max b)∧(l.foldl max b=b∨l.foldl max b∈l)
 | [],b=>⟨Nat.le_refl _,fun x hx=>(by cases hx), .inl rfl⟩
 |y::l,b=>by
  obtain ⟨h1,h2,h3⟩:=mI l (max b y)
  rw[List.foldl_cons]
  refine ⟨by lia,fun x hx=>?_,?_⟩
  ·rcases List.mem_cons.mp hx with rfl|hx
   ·lia
   ·exact h2 x hx
  ·rcases h3 with h3|h3
   ·rw[h3]
    rcases Nat.le_total b y with q|q
    ·exact .inr (by rw[Nat.max_eq_right q];simp)
    ·exact .inl (Nat.max_eq_left q)
   ·exact .inr (List.mem_cons_of_mem _ h3)
theorem FP {l:List Nat} {m:Nat} (h1:m∈l) (h2: ∀x∈l,x≤m):l.foldl max 0=m:=by
 obtain ⟨a,b,c⟩:=mI l 0
 have:=b m h1
 rcases c with c|c
 ·lia
 ·have:=h2 _ c;lia
def RQ (K:PySem.W.Frag):Sp:=fun vs H Q _=> ∃(r:Addr) (M:List (List Nat)),vs= [.ref r]∧jI K H r M∧(1≤M.length∧M.length≤100000)∧ ∀H',ae H H'→Q (.int (cX M:Nat)) H'
theorem vm:aK ["frames", "one"] ["frames"] (aB Ei):=⟨rfl,rfl,rfl,by decide+kernel,rfl,by decide+kernel,by decide+kernel⟩
theorem LC {M:List (List Nat)} {i:Nat} (h:i<M.length):(fC M).getD i 0=(M.getD i []).length:=by
 unfold fC
 rw[List.getD_eq_getElem?_getD,List.getD_eq_getElem?_getD,List.getElem?_map,List.getElem?_eq_getElem h];rfl
theorem Qd (T:Txt K mg A):az P w K mg base a9 1 A.pE A.nq ["frames"] (RQ K):=by
 refine T.Di.ok vm (fun vs H Q E h=>?_) (fun cdv Ar outer s H vs Q E hr h=>?_)
 ·obtain ⟨r,M,rfl,_⟩:=h
  rfl
 ·obtain ⟨r,M,rfl,⟨as,hr',hlen,hrow⟩,⟨hM1,hM2⟩,k⟩:=h
  refine ⟨_,ak (aX (au bS (bX (JD rfl) (by rfl) T.Pp (by decide+kernel:bootBuiltins "max" =some (.builtin "max")) (aa (fz (own:= [("one",1)]) rfl vm.nd (dn (pv 0)) (d5 (by kernel_rfl)) (fun _ _ _ _ _=>bq (i:=1) vm.nd rfl (Or.inl rfl)) (fun _ _ _ _ _=>d6)
   (fun _ _ _ _ _=>bX (Eg (K:=K) rfl) (by rfl) T.cj PySem.boot_len (aa (pv 1) af))) af)) (aR rfl T.vQ))),?_⟩
  refine ⟨_,rfl,r,rfl,⟨_,hr'⟩,fun D hD=>?_⟩
  refine fq (J:=eM K r) hD M.length (by rw[sizeLine_eq];lia) (fun i=> .int (((fC M).getD i 0:Nat):Int)) (fun i Hh hi t1=>?_) (fun Hh t1=>⟨_,t1.seq hr',by rw[List.length_map];lia⟩) ?_ ?_
  ·obtain ⟨a,h1,_⟩:=tR (as:=as) (i:=i) (by lia)
   exact ⟨_,_,t1.seq hr',h1⟩
  ·rintro i Hh z H' hi t1 ⟨rfl,hz⟩ C hC
   obtain ⟨a,rfl,ha⟩:=uc (hz _ (t1.seq hr'))
   refine ⟨rfl,_,rfl,ag a _ ⟨rfl, .inl (t1.seq (hrow i a ha)),?_⟩⟩
   rw[aO,←LC hi]
   exact hC _ (ae.refl _)
  ·intro H2 s2 hx2
   have e:(List.range M.length).map (fun i=>V.int (((fC M).getD i 0:Nat):Int))=vN (fC M):=by
    have:=map_getD (f:=id) (fC M)
    rw[List.map_id] at this
    rw[←this]
    unfold fC
    rw[List.length_map];rfl
   rw[e] at hx2
   refine ⟨D,(fC M).map fun (n:Nat)=>(n:Int),rfl,(by rw[←ja];exact ah.of hx2),(by unfold fC;rw[List.length_map,List.length_map];exact hM1),fun m hm hall=>?_⟩
   obtain ⟨n,hn,rfl⟩:=List.mem_map.mp hm
   refine (ag _ _ ⟨rfl,rfl,?_⟩)
   have:cX M=n+2:=by
    unfold cX
    rw[FP hn fun x hx=>by have:=hall _ (List.mem_map_of_mem hx);lia]
   have k2:=k H2 s2
   rw[this] at k2
   exact k2
def cZ (r:Nat) (m:List Nat):List Nat:=aT 2 m.length++m++List.replicate (r-2-m.length) 0
def iB (r j:Nat) (M:List (List Nat)):List Nat:=(M.zipIdx).foldl (fun a x=>Sound.added a ((cZ r x.1).map (Sound.mul (Sound.factor x.2 j)))) (List.replicate r 0)
theorem um {r:Nat} {m:List Nat} (h:m.length+2≤r):(cZ r m).length=r:=by
 unfold cZ
 rw[List.length_append,List.length_append,bG,List.length_replicate];lia
theorem Lm {r:Nat} {m:List Nat} (h: ∀x∈m,x<256): ∀x∈cZ r m,x<256:=fun x hx=>by
 unfold cZ at hx
 rcases List.mem_append.mp hx with hx|hx
 ·rcases List.mem_append.mp hx with hx|hx
  ·exact pC _ _ x hx
  ·exact h x hx
 ·rw[(List.mem_replicate.mp hx).2];decide
theorem A1 {i j:Nat} (hi:i<8) (hj:j<4):Sound.factor i j<256:=by
 obtain ⟨h1,h2⟩:=F7 i hi j hj
 exact (Fo h1 h2).1
theorem Es {a b:List Nat}:(Sound.added a b).length=min a.length b.length:=by unfold Sound.added;rw[List.length_zipWith]
theorem wN (n:Nat):(List.replicate n [V.int 0]).flatten=vN (List.replicate n 0):=by
 unfold vN
 induction n with
 |zero=>rfl
 |succ n ih=>rw[List.replicate_succ,List.replicate_succ,List.flatten_cons,ih];rfl
def N2 (K:PySem.W.Frag):Sp:=fun vs H Q _=> ∃(j r:Nat) (f:Addr) (M:List (List Nat)),vs= [.int j, .int r, .ref f]∧jI K H f M∧(j<4∧r≤10000∧M.length≤8)∧(∀m∈M,m.length+2≤r∧ ∀x∈m,x<256)∧fU H Q (iB r j M)
theorem lJ:aK ["j", "row_size", "frames", "total", "i", "one", "row"] ["j", "row_size", "frames"] (aB EB):=⟨rfl,rfl,rfl,by decide+kernel,rfl,by decide+kernel,by decide+kernel⟩
theorem G8 {r j i:Nat} {M:List (List Nat)} (hi:i<M.length):((M.zipIdx).take (i+1)).foldl (fun a x=>Sound.added a ((cZ r x.1).map (Sound.mul (Sound.factor x.2 j)))) (List.replicate r 0)=Sound.added (((M.zipIdx).take i).foldl (fun a x=>Sound.added a ((cZ r x.1).map (Sound.mul (Sound.factor x.2 j)))) (List.replicate r 0)) ((cZ r (M.getD i [])).map (Sound.mul (Sound.factor i j))):=by
 rw[rn _ _ _ (by rw[List.length_zipIdx];exact hi)]
 have e:M.zipIdx[i]'(by rw[List.length_zipIdx];exact hi)=(M.getD i [],i):=by
  rw[List.getElem_zipIdx,List.getD_eq_getElem?_getD,List.getElem?_eq_getElem hi];simp
 rw[e]
theorem getD_mem' {M:List (List Nat)} {i:Nat} (h:i<M.length):M.getD i []∈M:=by
 rw[List.getD_eq_getElem?_getD,List.getElem?_eq_getElem h];exact List.getElem_mem h
theorem KW (T:Txt K mg A):az P w K mg base a9 4 A.pO A.qU ["j", "row_size", "frames"] (N2 K):=by
 refine T.DD.ok lJ (fun vs H Q E h=>?_) (fun cdv Ar outer s H vs Q E hr h=>?_)
 ·obtain ⟨j,r,f,M,rfl,_⟩:=h
  rfl
 ·obtain ⟨j,r,f,M,rfl,hf,⟨hj,hr1,hM⟩,hrows,k⟩:=h
  have hr1':aE 1 _:=hr.mono (by decide)
  have hr2':aE 2 _:=hr.mono (by decide)
  refine ⟨_,ai (aJ (i:=3) lJ.nd rfl (Or.inl rfl) (au xk (bZ (aa aq af)) (pv 1)))
   (ai (cw PassesOwn.never rfl (A5 rfl T.C8 (aa (pv 2) af)) (nu (K:=K) (n:=2) rfl rfl (gX (bq (i:=4) lJ.nd rfl (Or.inl rfl)) (gX (bq (i:=5) lJ.nd rfl (Or.inl rfl)) mY)))
    (ai (aJ (i:=6) lJ.nd rfl (Or.inl rfl) (au jZ (au fc (aP (gQ T) hr1' rfl T.gU T.gh.kp T.gu .nil aQ (aa (aR rfl T.vQ) (aa (bX cx (by rfl) T.cj PySem.boot_len (aa (pv 5) af)) af))) (pv 5))
     (au xk (bZ (aa aq af)) (au du (au du (pv 1) (aR rfl T.vQ)) (bX cx (by rfl) T.cj PySem.boot_len (aa (pv 5) af))))))
    (ak (aJ (i:=3) lJ.nd rfl (Or.inl rfl) (aP (Lc T) hr1' rfl T.Sv T.CT.kp T.Q1 .nil aQ (aa (pv 3) (aa (aP (Md T) hr2' rfl T.IQ T.yS.kp T.MT .nil aQ (aa (aP (Lo T) hr rfl T.NZ T.Gm.kp T.JM .nil aQ (aa (pv 4) (aa (pv 0) af))) (aa (pv 6) af))) af)))))))
   (ak (aX (pv 3)))),?_⟩
  refine ⟨by rw[sizeLine_eq];show 1≤_;lia,fun p0 hp0=>⟨_,rfl,bE p0 _ _ ⟨rfl,rfl,aj,by lia,by lia,(by rw[sizeLine_eq];simp;lia),fun t0 ht0=>?_⟩⟩⟩
  have n0:H t0=none:=(aF hp0).none ht0
  have s0:ae H (upd (upd H p0 (.lst [.int 0])) t0 (.lst (List.replicate ((r:Nat):Int).toNat [V.int 0]).flatten)):=fh (aF hp0) n0
  obtain ⟨as,hf1,hf2,hf3⟩:=id hf
  refine ⟨_,rfl,ag f _ ⟨rfl,s0.seq hf1,?_⟩⟩
  rw[Int.toNat_natCast,wN] at s0⊢
  refine FA (J:=ua K f) M.length (fun i σ H'=> ∃(t:Addr) (v4 v5 v6:Option V),H t=none∧ae H H'∧(((M.zipIdx).take i).foldl (fun a x=>Sound.added a ((cZ r x.1).map (Sound.mul (Sound.factor x.2 j)))) (List.replicate r 0)).length=r∧H' t=some (.lst (vN (((M.zipIdx).take i).foldl (fun a x=>Sound.added a ((cZ r x.1).map (Sound.mul (Sound.factor x.2 j)))) (List.replicate r 0))))∧σ= [some (.int j),some (.int r),some (.ref f),some (.ref t),v4,v5,v6])
   ⟨t0,none,none,none,n0,s0,(by simp),aj,rfl⟩ ?_ ?_ ?_ ?_
  ·rintro i σ H1 hi ⟨t,v4,v5,v6,ht,s1,hl,hx,rfl⟩
   obtain ⟨a,h1,_⟩:=tR (as:=as) (i:=i) (by lia)
   exact ⟨_,_,s1.seq hf1,h1⟩
  ·rintro σ H1 ⟨t,v4,v5,v6,ht,s1,hl,hx,rfl⟩
   exact ⟨_,s1.seq hf1,by rw[List.length_map];lia⟩
  ·rintro i σ H1 x H1' hi ⟨t,v4,v5,v6,ht,s1,hl,hx,rfl⟩ ⟨T1,x1,rfl,hT1,rfl,hz⟩
   obtain ⟨a,rfl,ha⟩:=uc (hz _ (s1.seq hf1))
   obtain ⟨hm1,hm2⟩:=hrows _ (getD_mem' hi)
   rw[G8 hi]
   generalize (((M.zipIdx).take i).foldl (fun a x=>Sound.added a ((cZ r x.1).map (Sound.mul (Sound.factor x.2 j)))) (List.replicate r 0))=acc at*
   generalize hm:M.getD i []=m at*
   have sT:=aF (o:= .tup [.int (i:Nat), .ref a]) hT1
   have hma:ah K H a (vN m):=by rw[←hm];exact hf3 i a ha
   have s1T:=s1.trans sT
   refine (ag T1 _ ⟨rfl,a8.of aj,rfl,ag _ _ ⟨rfl,ag _ _ ⟨rfl,rfl,?_⟩⟩⟩)
   refine ⟨_,rfl,ag a _ ⟨rfl, .inl (s1T.seq hma),2,m.length,?_,by decide,fun D1 H2 hD1 s2 hx2=>?_⟩⟩
   ·rw[aO];rfl
   have s12:=s1T.trans s2
   refine ⟨_,rfl,aA D1 a _ _ ⟨rfl,rfl,ah.of hx2,s12.seq hma,(by rw[aO,aO,bG,sizeLine_eq];lia),fun p1 hp1=>?_⟩⟩
   have s3:=aF (o:= .lst (vN (aT 2 m.length)++vN m)) hp1
   have s13:=s12.trans s3
   refine ⟨by rw[sizeLine_eq];show 1≤_;lia,fun p2 hp2=>?_⟩
   have s4:=aF (o:= .lst [V.int 0]) hp2
   have s14:=s13.trans s4
   refine ⟨_,rfl,ag _ _ ⟨rfl,rfl,_,rfl,ag a _ ⟨rfl, .inl (s14.seq hma),ag _ _ ⟨rfl,rfl,bE p2 _ _ ⟨rfl,rfl,aj,by rw[aO];lia,by rw[aO];lia,(by rw[sizeLine_eq,aO];simp;lia),fun p3 hp3=>?_⟩⟩⟩⟩⟩
   have e1:(((r:Nat):Int)-2-((vN m).length:Nat)).toNat=r-2-m.length:=by rw[aO];lia
   rw[e1,wN]
   have s5:=aF (o:= .lst (vN (List.replicate (r-2-m.length) 0))) hp3
   have s15:=s14.trans s5
   refine (aA p1 p3 _ _ ⟨rfl,rfl,(s4.trans s5) _ _ aj,aj,(by rw[List.length_append,aO,aO,aO,bG,List.length_replicate,sizeLine_eq];lia),fun p4 hp4=>?_⟩)
   have e2:vN (aT 2 m.length)++vN m++vN (List.replicate (r-2-m.length) 0)=vN (cZ r m):=by unfold cZ;rw[dB,dB]
   rw[e2]
   have s6:=aF (o:= .lst (vN (cZ r m))) hp4
   have s16:=s15.trans s6
   refine ⟨_,rfl,_,rfl,_,rfl,ag i j ⟨rfl,⟨by lia,hj⟩,fun H6 s7=>?_⟩⟩
   refine ⟨_,rfl,Sound.factor i j,p4,cZ r m,rfl,A1 (by lia) hj,ah.of (s7 _ _ aj),Lm hm2,(by rw[um hm1];lia),fun D2 H7 hD2 s8 hx8=>?_⟩
   have hxt:H7 t=some (.lst (vN acc)):=s8 _ _ (s7 _ _ (s6 _ _ (s5 _ _ (s4 _ _ (s3 _ _ (s2 _ _ (sT _ _ hx)))))))
   have s18:=s16.trans (s7.trans s8)
   refine (aA t D2 acc _ ⟨rfl,ah.of hxt,ah.of hx8,(by rw[List.length_map,um hm1,hl]),by lia,fun D3 H8 hD3 s9 hx9=>?_⟩)
   exact ⟨D3,_,_,_,s18.none hD3,s18.trans s9,(by rw[Es,List.length_map,um hm1,hl];lia),hx9,rfl⟩
  ·rintro σ H1 ⟨t,v4,v5,v6,ht,s1,hl,hx,rfl⟩
   refine ⟨_,rfl,k t H1 ht s1 ?_⟩
   rw[hx]
   unfold iB
   rw[List.take_of_length_le (by rw[List.length_zipIdx];exact Nat.le_refl _)]
def lH (g j:Nat) (M:List (List Nat)):List Nat:=i8 (aT 2 0x4B50++aT 2 g++ [j]++aT 2 (cX M)++iB (cX M) j M)
theorem zk {r j:Nat}: ∀(L:List (List Nat×Nat)) (a:List Nat),a.length=r→(∀x∈L,x.1.length+2≤r)→(L.foldl (fun a x=>Sound.added a ((cZ r x.1).map (Sound.mul (Sound.factor x.2 j)))) a).length=r
 | [],a,h,_=>h
 |x::L,a,h,hx=>zk L _ (by rw[Es,List.length_map,um (hx x (List.mem_cons_self ..)),h];lia) fun y hy=>hx y (List.mem_cons_of_mem _ hy)
theorem w8 {r j:Nat} {M:List (List Nat)} (h: ∀m∈M,m.length+2≤r):(iB r j M).length=r:=
 zk _ _ (by simp) fun x hx=>h _ (List.fst_mem_of_mem_zipIdx hx)
theorem La {a b:List Nat} (ha: ∀x∈a,x<256) (hb: ∀x∈b,x<256): ∀x∈Sound.added a b,x<256:=fun x hx=>by
 unfold Sound.added at hx
 obtain ⟨i,hi,rfl⟩:=List.getElem_of_mem hx
 rw[List.length_zipWith] at hi
 rw[List.getElem_zipWith]
 exact Nat.xor_lt_two_pow (n:=8) (ha _ (List.getElem_mem (by lia))) (hb _ (List.getElem_mem (by lia)))
theorem Gf {r j:Nat} (hj:j<4): ∀(L:List (List Nat×Nat)) (a:List Nat),(∀x∈a,x<256)→(∀x∈L,x.2<8)→ ∀x∈L.foldl (fun a x=>Sound.added a ((cZ r x.1).map (Sound.mul (Sound.factor x.2 j)))) a,x<256
 | [],a,h,_=>h
 |y::L,a,h,hx=>Gf hj L _ (La h fun z hz=>by
   obtain ⟨c,_,rfl⟩:=List.mem_map.mp hz
   exact SV (A1 (hx y (List.mem_cons_self ..)) hj) c) fun z hz=>hx z (List.mem_cons_of_mem _ hz)
theorem EH {r j:Nat} {M:List (List Nat)} (hj:j<4) (hM:M.length≤8): ∀x∈iB r j M,x<256:=
 Gf hj _ _ (fun x hx=>by rw[(List.mem_replicate.mp hx).2];decide) fun x hx=>by have:=List.snd_lt_of_mem_zipIdx hx;lia
theorem qe {M:List (List Nat)} {m:List Nat} (h:m∈M):m.length+2≤cX M:=by
 have:=(mI (fC M) 0).2.1 m.length (List.mem_map_of_mem h)
 unfold cX;lia
theorem F5 {M:List (List Nat)} {b:Nat} (h: ∀m∈M,m.length≤b):cX M≤b+2:=by
 rcases (mI (fC M) 0).2.2 with q|q
 ·unfold cX;lia
 ·obtain ⟨m,hm,e⟩:=List.mem_map.mp q
  have:=h m hm
  unfold cX;lia
def Tg (K:PySem.W.Frag):Sp:=fun vs H Q _=> ∃(g j:Nat) (f:Addr) (M:List (List Nat)),vs= [.int g, .int j, .ref f]∧jI K H f M∧(j<4∧1≤M.length∧M.length≤8)∧(∀m∈M,m.length≤4096∧ ∀x∈m,x<256)∧fU H Q (lH g j M)
theorem vO:aK ["g", "j", "frames", "row_size", "front"] ["g", "j", "frames"] (aB CV):=⟨rfl,rfl,rfl,by decide+kernel,rfl,by decide+kernel,by decide+kernel⟩
theorem QY (T:Txt K mg A):az P w K mg base a9 5 A.qw A.m8 ["g", "j", "frames"] (Tg K):=by
 refine T.BD.ok vO (fun vs H Q E h=>?_) (fun cdv Ar outer s H vs Q E hr h=>?_)
 ·obtain ⟨g,j,f,M,rfl,_⟩:=h
  rfl
 ·obtain ⟨g,j,f,M,rfl,hf,⟨hj,hM1,hM⟩,hrows,k⟩:=h
  have hr1':aE 1 _:=hr.mono (by decide)
  have hr2':aE 2 _:=hr.mono (by decide)
  refine ⟨_,ai (aJ (i:=3) vO.nd rfl (Or.inl rfl) (aP (Qd T) hr1' rfl T.PL T.Di.kp T.Kq .nil aQ (aa (pv 2) af)))
   (ai (aJ (i:=4) vO.nd rfl (Or.inl rfl) (au jZ (au jZ (au jZ (aP (gQ T) hr1' rfl T.gU T.gh.kp T.gu .nil aQ (aa aq (aa (aR rfl T.IF) af)))
     (aP (gQ T) hr1' rfl T.gU T.gh.kp T.gu .nil aQ (aa aq (aa (pv 0) af)))) (bZ (aa (pv 1) af))) (aP (gQ T) hr1' rfl T.gU T.gh.kp T.gu .nil aQ (aa aq (aa (pv 3) af)))))
   (ak (aX (aP (wL T) hr2' rfl T.vV T.rD.kp T.yc .nil aQ (aa (au jZ (pv 4) (aP (KW T) hr rfl T.Mv T.DD.kp T.QJ .nil aQ (aa (pv 1) (aa (pv 3) (aa (pv 2) af))))) af))))),?_⟩
  refine ⟨_,rfl,ag f M ⟨rfl,hf,⟨hM1,by lia⟩,fun H1 s1=>?_⟩⟩
  have hL:=F5 fun m hm=>(hrows m hm).1
  have hge: ∀m∈M,m.length+2≤cX M:=fun m hm=>qe hm
  have hx:=w8 (r:=cX M) (j:=j) fun m hm=>qe hm
  have hlt:=EH (r:=cX M) (M:=M) hj hM
  unfold lH at k
  generalize cX M=r at*
  refine (ag 2 19280 ⟨rfl,by decide,fun D1 H2 hD1 s2 x1=>?_⟩)
  refine ⟨_,rfl,ag 2 g ⟨rfl,by decide,fun D2 H3 hD2 s3 x2=>?_⟩⟩
  refine (aA D1 D2 _ _ ⟨rfl,rfl,s3 _ _ x1,x2,(by rw[aO,aO,bG,bG,sizeLine_eq];lia),fun p1 hp1=>?_⟩)
  have s4:=aF (o:= .lst (vN (aT 2 19280)++vN (aT 2 g))) hp1
  refine ⟨_,rfl,by rw[sizeLine_eq];show 1≤_;lia,fun p2 hp2=>?_⟩
  have s5:=aF (o:= .lst [V.int (j:Nat)]) hp2
  refine (aA p1 p2 _ _ ⟨rfl,rfl,s5 _ _ aj,aj,(by rw[List.length_append,aO,aO,bG,bG,sizeLine_eq];show _+1≤_;lia),fun p3 hp3=>?_⟩)
  have e1:vN (aT 2 19280)++vN (aT 2 g)++ [V.int (j:Nat)]=vN (aT 2 19280++aT 2 g++ [j]):=by rw[dB,dB];rfl
  rw[e1]
  have s6:=aF (o:= .lst (vN (aT 2 19280++aT 2 g++ [j]))) hp3
  refine ⟨_,rfl,ag 2 r ⟨rfl,by decide,fun D3 H4 hD3 s7 x3=>?_⟩⟩
  refine (aA p3 D3 _ _ ⟨rfl,rfl,s7 _ _ aj,x3,(by rw[aO,aO,bG,List.length_append,List.length_append,bG,bG,sizeLine_eq];show _+1+_≤_;lia),fun p4 hp4=>?_⟩)
  rw[←dB]
  have s8:=aF (o:= .lst (vN (aT 2 19280++aT 2 g++ [j]++aT 2 r))) hp4
  have s08:=s1.trans (s2.trans (s3.trans (s4.trans (s5.trans (s6.trans (s7.trans s8))))))
  refine ⟨_,rfl,_,rfl,_,rfl,_,rfl,aA j r f M ⟨rfl,hf.same s08,⟨hj,by lia,hM⟩,fun m hm=>⟨?_,(hrows m hm).2⟩,fun D5 H5 hD5 s9 x5=>?_⟩⟩
  ·exact hge m hm
  refine (aA p4 D5 _ _ ⟨rfl,rfl,s9 _ _ aj,x5,(by rw[aO,aO,hx,List.length_append,List.length_append,List.length_append,bG,bG,bG,sizeLine_eq];show _+1+_+_≤_;lia),fun p6 hp6=>?_⟩)
  rw[←dB]
  have s10:=aF (o:= .lst (vN (aT 2 19280++aT 2 g++ [j]++aT 2 r++iB r j M))) hp6
  have s0:=s08.trans (s9.trans s10)
  refine (ag p6 _ ⟨rfl,ah.of aj,fun x hx=>?_,(by rw[List.length_append,hx,List.length_append,List.length_append,List.length_append,bG,bG,bG];show _+1+_+_≤_;lia),fun D7 H7 hD7 s11 x7=>k D7 H7 (s0.none hD7) (s0.trans s11) x7⟩)
  rcases List.mem_append.mp hx with hx|hx
  ·rcases List.mem_append.mp hx with hx|hx
   ·rcases List.mem_append.mp hx with hx|hx
    ·rcases List.mem_append.mp hx with hx|hx
     ·exact pC _ _ x hx
     ·exact pC _ _ x hx
    ·rcases List.mem_cons.mp hx with rfl|hx
     ·lia
     ·cases hx
   ·exact pC _ _ x hx
  ·exact hlt x hx
def uD (w n:Int):Bool:=decide (-(2^(w-1).toNat)≤n)&&decide (n<2^(w-1).toNat)
def Ru:Sp:=fun vs H Q _=> ∃w n:Int,vs= [.int w, .int n]∧(1≤w∧w≤25)∧Q (.bl (uD w n)) H
theorem E4:aK ["width", "number", "half"] ["width", "number"] (aB zW):=⟨rfl,rfl,rfl,by decide+kernel,rfl,by decide+kernel,by decide+kernel⟩
theorem Gj (T:Txt K mg A):az P w K mg base a9 1 A.qC A.pZ ["width", "number"] Ru:=by
 refine T.xh.ok E4 (fun vs H Q E h=>?_) (fun cdv Ar outer s H vs Q E hr h=>?_)
 ·obtain ⟨w,n,rfl,_⟩:=h
  rfl
 ·obtain ⟨w,n,rfl,⟨h1,h2⟩,k⟩:=h
  refine ⟨_,ai (aJ (i:=2) E4.nd rfl (Or.inl rfl) (au jY aq (au du (pv 0) aq)))
   (ak (aX (wW ib pF (fw fB (pv 2)) (pv 1) (pv 2)))),?_⟩
  refine ⟨_,rfl,ag _ _ ⟨rfl,rfl,ag _ _ ⟨rfl,rfl,⟨by lia,by lia,by decide⟩,_,rfl,_,rfl,_,rfl,ag _ _ ⟨rfl,rfl,_,rfl,?_⟩⟩⟩⟩
  unfold uD at k
  dsimp only
  rw[Int.one_mul]
  by_cases q: -(2^(w-1).toNat)≤n
  ·rw[decide_eq_true q,Bool.true_and] at k
   rw[decide_eq_true q]
   exact bt ⟨_,rfl,ag _ _ ⟨rfl,rfl,k⟩⟩
  ·rw[decide_eq_false q,Bool.false_and] at k
   rw[decide_eq_false q]
   exact bA k
theorem Br {W:Nat} (h:1≤W) (n:Int):uD (W:Int) n=Sound.fits W n:=by
 unfold uD Sound.fits
 have:((W:Int)-1).toNat=W-1:=by lia
 rw[this]
def RK:Sp:=fun vs H Q _=> ∃n p r:Nat,vs= [.int n, .int p, .int r]∧(n≤1024∧r≤7)∧Q (.bl (pd n p r)) H
theorem zz:aK ["n", "order", "r", "size"] ["n", "order", "r"] (aB yJ):=⟨rfl,rfl,rfl,by decide+kernel,rfl,by decide+kernel,by decide+kernel⟩
theorem Kn (T:Txt K mg A):az P w K mg base a9 1 A.qv A.qY ["n", "order", "r"] RK:=by
 refine T.Em.ok zz (fun vs H Q E h=>?_) (fun cdv Ar outer s H vs Q E hr h=>?_)
 ·obtain ⟨n,p,r,rfl,_⟩:=h
  rfl
 ·obtain ⟨n,p,r,rfl,⟨hn,hr7⟩,k⟩:=h
  refine ⟨_,ai (aJ (i:=3) zz.nd rfl (Or.inl rfl) (au fk (pv 0) (pv 2)))
   (ak (aX (xP (iu ib (pv 2) (aR rfl T.OP) (aZ _)) (xP (iu dA (au jY (pv 3) (pv 2)) (pv 0) (aZ _)) (wA (iu AY (pv 3) (pv 1) (aZ _))))))),?_⟩
  have e1:((n:Int)/2^(r:Int).toNat)=((n/2^r:Nat):Int):=by
   rw[Int.toNat_natCast];simp
  refine ⟨_,rfl,_,rfl,ag _ _ ⟨rfl,rfl,(by lia),?_⟩⟩
  dsimp only
  rw[e1]
  refine ⟨_,rfl,ag _ _ ⟨rfl,rfl,_,rfl,?_⟩⟩
  have hdn:n/2^r≤n:=Nat.div_le_self _ _
  unfold pd at k
  by_cases q1:r≤6
  ·rw[decide_eq_true q1,Bool.true_and] at k
   rw[decide_eq_true (show (r:Int)≤6 by lia)]
   refine bt ⟨_,rfl,_,rfl,ag _ _ ⟨rfl,rfl,⟨by lia,by lia,by rw[Int.natAbs_natCast];exact Nat.lt_of_le_of_lt (Nat.le_trans hdn hn) (by decide)⟩,_,rfl,?_⟩⟩
   dsimp only
   have e2:((n/2^r:Nat):Int)*2^(r:Int).toNat=((n/2^r*2^r:Nat):Int):=by
    rw[Int.toNat_natCast];simp
   rw[e2]
   by_cases q2:n/2^r*2^r=n
   ·rw[decide_eq_true q2,Bool.true_and] at k
    rw[q2]
    refine ⟨rfl,_,rfl,?_⟩
    rw[decide_eq_true (show V.int (n:Int)=V.int (n:Int) from rfl)]
    refine bt ⟨_,rfl,_,rfl,ag _ _ ⟨rfl,rfl,?_⟩⟩
    dsimp only
    have:decide ((p:Int)≤((n/2^r:Nat):Int))=decide (p≤n/2^r):=by
     rw[Bool.eq_iff_iff,decide_eq_true_eq,decide_eq_true_eq];lia
    rw[this];exact k
   ·rw[decide_eq_false q2,Bool.false_and] at k
    refine ⟨rfl,_,rfl,?_⟩
    rw[decide_eq_false (show¬V.int ((n/2^r*2^r:Nat):Int)=V.int (n:Int) from fun e=>q2 (by have:=V.int.inj e;lia))]
    exact bA k
  ·rw[decide_eq_false q1,Bool.false_and] at k
   rw[decide_eq_false (show¬(r:Int)≤6 by lia)]
   exact bA k
def Ld:Sp:=fun vs H Q _=> ∃k:Nat,vs= [.int k]∧(2≤k∧k≤10)∧Q (.int ((if k≤6 then k-2 else k-6:Nat):Int)) H
theorem S5:aK ["kind"] ["kind"] (aB F6):=⟨rfl,rfl,rfl,by decide+kernel,rfl,by decide+kernel,by decide+kernel⟩
theorem Nd (T:Txt K mg A):az P w K mg base a9 1 A.ni A.ow ["kind"] Ld:=by
 refine T.Fb.ok S5 (fun vs H Q E h=>?_) (fun cdv Ar outer s H vs Q E hr h=>?_)
 ·obtain ⟨e,rfl,_⟩:=h
  rfl
 ·obtain ⟨e,rfl,⟨h1,h2⟩,k⟩:=h
  refine ⟨_,ak (aX (lA (bc pF (pv 0) (aR rfl T.yn) (aZ _)) (au du (pv 0) (aR rfl T.Gu)) (au bS (au du (pv 0) (aR rfl T.yn)) aq))),?_⟩
  refine ⟨_,rfl,ag _ _ ⟨rfl,rfl,_,rfl,?_⟩⟩
  by_cases q:e≤6
  ·rw[decide_eq_true (show (e:Int)<7 by lia)]
   rw[if_pos q] at k
   have e1:((e:Int)-2)=((e-2:Nat):Int):=by lia
   refine bt ⟨_,rfl,ag _ _ ⟨rfl,rfl,?_⟩⟩
   dsimp only
   rw[e1];exact k
  ·rw[decide_eq_false (show¬(e:Int)<7 by lia)]
   rw[if_neg q] at k
   have e1:((e:Int)-7+1)=((e-6:Nat):Int):=by lia
   refine bA ⟨_,rfl,ag _ _ ⟨rfl,rfl,ag _ _ ⟨rfl,rfl,?_⟩⟩⟩
   dsimp only
   rw[e1];exact k
def gf (f h:V):List (Str×V):= [("factors",f),("shift",h)]
theorem L7 (f h:V):bC "shift" h (bC "factors" f [])=gf f h:=by
 show bC "shift" h [(("factors" :Str),f)]=_
 unfold bC
 rw[if_neg (by decide)]
 rfl
theorem O3 (f h:V):(gf f h).lookup ("factors" :Str)=some f:=rfl
theorem SO (f h:V):(gf f h).lookup ("shift" :Str)=some h:=rfl
def ia (K:PySem.W.Frag) (C:Addr) (H:Hp) (x:Addr) (a:List Int) (h:Nat):Prop:= ∃dx p,H x=some (.ins C dx (gf (.ref p) (.int h)))∧ah K H p (a.map V.int)
theorem ia.same {K:PySem.W.Frag} {C:Addr} {H H':Hp} {x:Addr} {a:List Int} {h:Nat} (s:ae H H') (g:ia K C H x a h):ia K C H' x a h:=by
 obtain ⟨dx,p,h1,h2⟩:=g
 exact ⟨dx,p,s _ _ h1,s.seq h2⟩
def G3 (C:Addr):Sp:=fun vs H Q _=> ∃(p dx:Addr) (f h:V),vs= [.ref p,f,h]∧H p=some (.ins C dx [])∧Q .aw (upd H p (.ins C dx (gf f h)))
theorem LX:aK ["self", "factors", "shift"] ["self", "factors", "shift"] (aB E6):=⟨rfl,rfl,rfl,by decide+kernel,rfl,by decide+kernel,by decide+kernel⟩
theorem zL (T:Txt K mg A):az P w K mg base a9 1 A.qD A.mQ ["self", "factors", "shift"] (G3 A.cz):=by
 refine T.IY.ok LX (fun vs H Q E h=>?_) (fun cdv Ar outer s H vs Q E hr h=>?_)
 ·obtain ⟨p,dx,f,h,rfl,_⟩:=h
  rfl
 ·obtain ⟨p,dx,f,h,rfl,hp,k⟩:=h
  refine ⟨_,ai (bh (pv 0) (pv 1) rfl) (ak (bh (pv 0) (pv 2) rfl)),?_⟩
  refine ⟨_,rfl,_,rfl,p,A.cz,dx, [],rfl,hp,T.qx,T.FH,(by show 0<1000;decide),?_⟩
  refine ⟨_,rfl,_,rfl,aA p A.cz dx _ ⟨rfl,aj,T.qx,T.BW,(by show 1<1000;decide),?_⟩⟩
  rw[L7,cB]
  exact k
theorem gN {H:Hp} {x dx C:Addr} {fs:List (Str×V)}:upd (upd (upd H dx (.own x)) x (.ins C dx [])) x (.ins C dx fs)=upd (upd H dx (.own x)) x (.ins C dx fs):=cB
theorem d4 {H:Hp} {x dx:Addr} {o u:HO} (hx:H x=none) (hd:H dx=none):ae H (upd (upd H dx o) x u):=fun b v e=>by
 rw[aL (cH e hx),aL (cH e hd)];exact e
theorem yI: ∀(a y:List Int) (i t:Nat),i<a.length→gq (a.take (i+1)) y t=gq (a.take i) y t+a.getD i 0*y.getD (t-1-i) 0
 | [],y,i,t,h=>by simp at h
 |f::fs,y,0,t,h=>by simp [gq]
 |f::fs,y,i+1,t,h=>by
  rw[List.take_succ_cons,List.take_succ_cons]
  simp only [gq]
  rw[yI fs y i (t-1) (by simpa using h)]
  have e:t-1-1-i=t-1-(i+1):=by lia
  rw[e,List.getD_cons_succ]
  lia
def KC (K:PySem.W.Frag) (C:Addr):Sp:=fun vs H Q _=> ∃(x q:Addr) (a y:List Int) (h t:Nat),vs= [.ref x, .ref q, .int t]∧ia K C H x a h∧ah K H q (y.map V.int)∧(a.length≤t∧t≤y.length)∧Bd 2048 a∧Q (.int (uo a h y t)) H
theorem kx:aK ["self", "numbers", "place", "total", "before", "factor"] ["self", "numbers", "place"] (aB Fx):=⟨rfl,rfl,rfl,by decide+kernel,rfl,by decide+kernel,by decide+kernel⟩
theorem Nu (T:Txt K mg A):az P w K mg base a9 1 A.ox A.o8 ["self", "numbers", "place"] (KC K A.cz):=by
 refine T.GF.ok kx (fun vs H Q E h=>?_) (fun cdv Ar outer s H vs Q E hr h=>?_)
 ·obtain ⟨x,q,a,y,h,t,rfl,_⟩:=h
  rfl
 ·obtain ⟨x,q,a,y,h,t,rfl,⟨dx,p,hx,hp⟩,hq,⟨h1,h2⟩,hb,k⟩:=h
  refine ⟨_,ai (aJ (i:=3) kx.nd rfl (Or.inl rfl) aq) (ai (aJ (i:=4) kx.nd rfl (Or.inl rfl) (pv 2))
   (ai (cw PassesOwn.never rfl (dn (ay (pv 0) rfl)) (bq (i:=5) kx.nd rfl (Or.inl rfl))
    (ai (iO (i:=4) kx.nd rfl (Or.inl rfl) aq Py) (ak (iO (i:=3) kx.nd rfl (Or.inl rfl) (au ko (pv 5) (cJ d9 (pv 1) (pv 4) (fun _ _=>rfl))) E9))))
   (ak (aX (au fk (pv 3) (ay (pv 0) rfl)))))),?_⟩
  refine ⟨_,rfl,_,rfl,x,A.cz,dx,_,_,rfl,hx,T.qx,T.FH,O3 _ _,p,rfl,⟨_,hp⟩,?_⟩
  refine ie (K:=K) (a:=p) (xs:=a.map V.int) (fun i σ H'=>H'=H∧ ∃v:Option V,σ= [some (.ref x),some (.ref q),some (.int t),some (.int (gq (a.take i) y t)),some (.int ((t:Int)-i)),v])
   ⟨rfl,none,by simp [L2.start,gq]⟩ (fun i σ H' _ ⟨e,_⟩=>by rw[e];exact hp) ?_ ?_
  ·rintro i y' σ H' hi ⟨rfl,v,rfl⟩
   obtain ⟨rfl,hl⟩:=uC hi
   have hm:=hb _ (show a.getD i 0∈a by rw[List.getD_eq_getElem?_getD,List.getElem?_eq_getElem hl];exact List.getElem_mem hl)
   have e1:(t:Int)-i-1=((t-1-i:Nat):Int):=by lia
   refine ⟨_,rfl,ag _ _ ⟨rfl,rfl,_,rfl,_,rfl,_,rfl,_,rfl,aA q _ _ _ ⟨rfl,rfl,hq,at_of e1 (lp (by lia)),ag _ _ ⟨rfl,rfl, .inl ⟨by lia,by lia⟩,ag _ _ ⟨rfl,rfl,rfl,some (.int (a.getD i 0)),?_⟩⟩⟩⟩⟩
   rw[yI a y i t hl]
   have e2:(t:Int)-i-1=(t:Int)-((i+1:Nat):Int):=by lia
   rw[←e2]
   rfl
  ·rintro σ H' ⟨rfl,v,rfl⟩
   refine ⟨_,rfl,_,rfl,x,A.cz,dx,_,_,rfl,hx,T.qx,T.BW,SO _ _,ag _ _ ⟨rfl,rfl,(by lia),?_⟩⟩
   rw[List.length_map,List.take_length]
   exact k
def PJ (K:PySem.W.Frag) (C:Addr):Sp:=fun vs H Q _=> ∃p:Nat,vs= [.int p]∧p≤4∧ ∀x H',H x=none→ae H H'→ia K C (newOf H H') x (Sound.FIXED.getD p []) 0→Q (.ref x) H'
theorem Rv:aK ["order"] ["order"] (aB zP):=⟨rfl,rfl,rfl,by decide+kernel,rfl,by decide+kernel,by decide+kernel⟩
theorem LZ (T:Txt K mg A) {p:Nat} (h:p≤4) (H:Hp): ∃b,gp [V.ref A.rh,V.ref A.qc,V.ref A.p9,V.ref A.nR,V.ref A.oy] (p:Int)=some (V.ref b)∧a8 K H b ((Sound.FIXED.getD p []).map V.int):=by
 rcases (by lia:p=0∨p=1∨p=2∨p=3∨p=4) with rfl|rfl|rfl|rfl|rfl
 ·exact ⟨_,cv rfl,T.S9 H⟩
 ·exact ⟨_,cv rfl,T.JO H⟩
 ·exact ⟨_,cv rfl,T.SJ H⟩
 ·exact ⟨_,cv rfl,T.LK H⟩
 ·exact ⟨_,cv rfl,T.Qw H⟩
theorem O8 (T:Txt K mg A):az P w K mg base a9 3 A.lV A.pJ ["order"] (PJ K A.cz):=by
 refine T.zx.ok Rv (fun vs H Q E h=>?_) (fun cdv Ar outer s H vs Q E hr h=>?_)
 ·obtain ⟨p,rfl,_⟩:=h
  rfl
 ·obtain ⟨p,rfl,hp,k⟩:=h
  refine ⟨_,ak (aX (fW T.Ba (zL T) hr rfl T.CS T.DL .nil aQ
   (aa (tI tK rfl T.tV (by decide+kernel:bootBuiltins "list" =some (.type "list")) (aa (cJ tU (dR rfl T.Sm) (pv 0) (fun _ _=>rfl)) af)) (aa aq af)))),?_⟩
  obtain ⟨b,hb,hT⟩:=LZ T hp H
  refine ⟨_,rfl,aA A.pP _ _ _ ⟨rfl,rfl,T.Rz H,hb,ag b _ ⟨rfl, .inr hT,fun l hl=>?_⟩⟩⟩
  intro x dx hx hdx hne
  refine (aA x dx _ _ ⟨rfl,aj,rfl,?_⟩)
  rw[gN]
  have hx0:H x=none:=by
   cases e:H x with
   |none=>rfl
   |some o=>rw[aF hl _ _ e] at hx;cases hx
  refine k x _ hx0 ((aF hl).trans (d4 hx hdx)) ⟨dx,l,(iq hx0).trans aj,ah.of ((iq hl).trans ?_)⟩
  exact d4 hx hdx _ _ aj
def Kl (K:PySem.W.Frag):Sp:=fun vs H Q _=> ∃(q:Addr) (l:List Nat),vs= [.ref q]∧ah K H q (vN l)∧(∀x∈l,x<256)∧Q (.int (ui l:Nat)) H
theorem jU:aK ["data", "check", "byte", "step"] ["data"] (aB EK):=⟨rfl,rfl,rfl,by decide+kernel,rfl,by decide+kernel,by decide+kernel⟩
def iU:Nat→Nat→Nat
 |0,c=>c
 |j+1,c=>iN (iU j c)
theorem GQ {p:Nat} (h:p<65536):iN p<65536:=by
 unfold iN
 split
 ·rename_i hc
  rw[show (69665:Nat)=65536^^^4129 by decide,←Nat.xor_assoc,Et (by lia) (by lia)]
  exact sN (Nat.mod_lt _ (by decide)) (by decide)
 ·lia
theorem Fd {c:Nat} (h:c<65536): ∀j,iU j c<65536
 |0=>h
 |j+1=>GQ (Fd h j)
theorem GO (c b:Nat):iU 8 (c^^^(b*256))=eQ c b:=by
 unfold eQ
 rw[show List.range 8= [0,1,2,3,4,5,6,7] from rfl]
 simp only [List.foldl_cons,List.foldl_nil,iU]
theorem Pe (T:Txt K mg A):az P w K mg base a9 1 A.rk A.qM ["data"] (Kl K):=by
 refine T.Fh.ok jU (fun vs H Q E h=>?_) (fun cdv Ar outer s H vs Q E hr h=>?_)
 ·obtain ⟨q,l,rfl,_⟩:=h
  rfl
 ·obtain ⟨q,l,rfl,hq,hb,k⟩:=h
  refine ⟨_,ai (aJ (i:=1) jU.nd rfl (Or.inl rfl) aq)
   (ai (cw PassesOwn.never rfl (dn (pv 0)) (bq (i:=2) jU.nd rfl (Or.inl rfl))
    (ai (iO (i:=1) jU.nd rfl (Or.inl rfl) (au jY (pv 2) aq) uH)
    (ak (cw PassesOwn.never rfl (fu rfl T.dU (aa aq af)) (bq (i:=3) jU.nd rfl (Or.inl rfl))
     (ai (iO (i:=1) jU.nd rfl (Or.inl rfl) aq AD)
     (ak (bg (bc dF (pv 1) aq (aZ _)) (ak (iO (i:=1) jU.nd rfl (Or.inl rfl) aq uH)) br)))))))
   (ak (aX (pv 1)))),?_⟩
  refine ⟨_,rfl,q,rfl,⟨_,hq⟩,?_⟩
  refine ie (K:=K) (a:=q) (xs:=vN l) (fun i σ H'=>H'=H∧(l.take i).foldl eQ 65535<65536∧ ∃v2 v3:Option V,σ= [some (.ref q),some (.int ((l.take i).foldl eQ 65535:Nat)),v2,v3]) ⟨rfl,(by rw[List.take_zero,List.foldl_nil];decide),none,none,(by rw[List.take_zero,List.foldl_nil];rfl)⟩ (fun i σ H' _ ⟨e,_⟩=>by rw[e];exact hq) ?_ ?_
  ·rintro i x σ H' hi ⟨rfl,hlt,v2,v3,rfl⟩
   obtain ⟨rfl,hil⟩:=eT hi
   generalize hc:(l.take i).foldl eQ 65535=c at*
   have hbl:l.getD i 0<256:=hb _ (by rw[List.getD_eq_getElem?_getD,List.getElem?_eq_getElem hil];exact List.getElem_mem hil)
   have enext:(l.take (i+1)).foldl eQ 65535=eQ c (l.getD i 0):=by
    rw[List.take_succ,List.getElem?_eq_getElem hil,List.foldl_append,hc,List.getD_eq_getElem?_getD,List.getElem?_eq_getElem hil]
    simp only [Option.toList_some,List.foldl_cons,List.foldl_nil,Option.getD_some]
   have hnlt:eQ c (l.getD i 0)<65536:=(Bb hlt hbl).2
   refine ⟨_,rfl,_,rfl,ag _ _ ⟨rfl,rfl,⟨by decide,by decide,by rw[Int.natAbs_natCast];lia⟩,ag _ _ ⟨rfl,rfl,?_⟩⟩⟩
   have ex:Builtin.bitXor ((c:Nat):Int) (((l.getD i 0:Nat):Int)*2^(8:Int).toNat)=((c^^^(l.getD i 0*256):Nat):Int):=by
    rw[←iw]
    congr 1
   dsimp only
   rw[ex]
   have hstart:c^^^(l.getD i 0*256)<65536:=sN hlt (by lia)
   refine ⟨_,rfl,by decide,by decide,?_⟩
   refine fM (lo:=0) (n:=8) (fun j σ Hj=>Hj=H'∧ ∃v3:Option V,σ= [some (.ref q),some (.int (iU j (c^^^(l.getD i 0*256)):Nat)),some (.int (l.getD i 0:Nat)),v3]) ⟨rfl,v3,rfl⟩ ?_ ?_
   ·rintro j σ H' hj ⟨rfl,v3,rfl⟩
    have hjl:=Fd hstart j
    generalize hp:iU j (c^^^(l.getD i 0*256))=p at*
    have hnx:iU (j+1) (c^^^(l.getD i 0*256))=iN p:=by rw[iU,hp]
    rw[Int.zero_add]
    refine ⟨_,rfl,ag _ _ ⟨rfl,rfl,⟨by decide,by decide,by rw[Int.natAbs_natCast];lia⟩,?_⟩⟩
    have e2:((p:Nat):Int)*2^(1:Int).toNat=((2*p:Nat):Int):=by
     rw[show (2:Int)^(1:Int).toNat=2 by decide];lia
    dsimp only
    rw[e2]
    refine ⟨_,rfl,ag _ _ ⟨rfl,rfl,_,rfl,?_⟩⟩
    refine bW (fun hc2=>?_) fun hc2=>?_
    ·have hc2:(65535:Int)<((2*p:Nat):Int):=of_decide_eq_true hc2
     refine ⟨_,rfl,ag _ _ ⟨rfl,rfl,rfl,some (.int (j:Nat)),?_⟩⟩
     rw[hnx]
     unfold iN
     rw[if_pos (by lia)]
     have:=iw (2*p) 69665
     show [some (V.ref q),some (V.int (Builtin.bitXor ((2*p:Nat):Int) 69665)),some (V.int (l.getD i 0:Nat)),some (V.int (j:Nat))]=_
     rw[show (69665:Int)=((69665:Nat):Int) from rfl,this]
    ·have hc2: ¬(65535:Int)<((2*p:Nat):Int):=fun z=>hc2 (decide_eq_true z)
     refine ⟨rfl,some (.int (j:Nat)),?_⟩
     rw[hnx]
     unfold iN
     rw[if_neg (by lia)]
     rfl
   ·rintro σ H' ⟨rfl,v3,rfl⟩
    refine ⟨rfl,?_,some (.int (l.getD i 0:Nat)),v3,?_⟩
    ·rw[enext];exact hnlt
    ·rw[enext,GO]
  ·rintro σ H' ⟨rfl,_,v2,v3,rfl⟩
   rw[aO,List.take_length]
   exact ⟨_,rfl,k⟩
def tN:List Nat:= [1,4,16,0,1,0]
def xo:List Nat:= [4,24,256,4,8,4]
def oW (i z:Nat):Bool:=decide (((tN.getD i 0:Nat):Int)≤(z:Nat))&&decide ((z:Int)≤(xo.getD i 0:Nat))
theorem FQ (T:Txt K mg A) {i:Nat} (hi:i<6): ∃b,([V.ref A.pD,V.ref A.nQ,V.ref A.mS,V.ref A.mz,V.ref A.rf,V.ref A.oP]:List V)[i]?=some (.ref b)∧ ∀H,a8 K H b [V.int ((tN.getD i 0:Nat):Int),V.int ((xo.getD i 0:Nat):Int)]:=by
 rcases (by lia:i=0∨i=1∨i=2∨i=3∨i=4∨i=5) with rfl|rfl|rfl|rfl|rfl|rfl
 ·exact ⟨_,rfl,T.Tc⟩
 ·exact ⟨_,rfl,T.S3⟩
 ·exact ⟨_,rfl,T.Qa⟩
 ·exact ⟨_,rfl,T.RR⟩
 ·exact ⟨_,rfl,T.Kf⟩
 ·exact ⟨_,rfl,T.Rn⟩
theorem R7 {fm:List Nat} (h: ¬fm.length=6):(Sound.formOf fm).isSome=false:=by
 unfold Sound.formOf
 split
 ·exact absurd rfl h
 ·rfl
theorem SE {fm:List Nat} (h:fm.length=6):((List.range 6).map fun i=>oW i (fm.getD i 0)).all id=(Sound.formOf fm).isSome:=by
 match fm,h with
 | [c,d,b,o,g,p],_=>
  rw[show List.range 6= [0,1,2,3,4,5] from rfl]
  have e:(Sound.formOf [c,d,b,o,g,p]).isSome=(Sound.Form.mk c d b o g p).ok:=by
   unfold Sound.formOf
   simp only
   cases (Sound.Form.mk c d b o g p).ok<;>rfl
  rw[e,Bool.eq_iff_iff]
  unfold Sound.Form.ok
  simp only [List.map_cons,List.map_nil,List.all_cons,List.all_nil,oW,tN,xo,List.getD_cons_zero,List.getD_cons_succ,id,Bool.and_eq_true,decide_eq_true_eq,and_true]
  omega
def R0 (K:PySem.W.Frag):Sp:=fun vs H Q _=> ∃(q:Addr) (fm:List Nat),vs= [.ref q]∧ah K H q (vN fm)∧ ∀H',ae H H'→Q (.bl (Sound.formOf fm).isSome) H'
theorem sV:aK ["form", "number", "bounds"] ["form"] (aB Ak):=⟨rfl,rfl,rfl,by decide+kernel,rfl,by decide+kernel,by decide+kernel⟩
theorem Je (T:Txt K mg A):az P w K mg base a9 1 A.mK A.qS ["form"] (R0 K):=by
 refine T.De.ok sV (fun vs H Q E h=>?_) (fun cdv Ar outer s H vs Q E hr h=>?_)
 ·obtain ⟨q,fm,rfl,_⟩:=h
  rfl
 ·obtain ⟨q,fm,rfl,hq,k⟩:=h
  refine ⟨_,ai (bg (bc fE (bX cx (by rfl) T.cj PySem.boot_len (aa (pv 0) af)) (bX cx (by rfl) T.cj PySem.boot_len (aa (dR rfl T.C3) af)) (aZ _)) (ak (aX Pa)) br)
   (ak (aX (bX (Cm rfl) rfl T.E8 (by decide+kernel:bootBuiltins "all" =some (.builtin "all")) (aa (fz (own:= [("number",1),("bounds",2)]) rfl sV.nd (Rk rfl T.we (aa (pv 0) (aa (dR rfl T.C3) af))) (d5 (by kernel_rfl))
    (fun _ _ _ _ _=>nu (K:=K) (n:=2) rfl rfl (gX (bq (i:=1) sV.nd rfl (Or.inl rfl)) (gX (bq (i:=2) sV.nd rfl (Or.inl rfl)) mY))) (fun _ _ _ _ _=>d6)
    (fun _ _ _ _ _=>wW ib ib (cJ (tT (K:=K) rfl) (pv 2) aq (fun _ _=>rfl)) (pv 1) (cJ (tT (K:=K) rfl) (pv 2) aq (fun _ _=>rfl)))) af)))),?_⟩
  refine ⟨_,rfl,ag q _ ⟨rfl, .inl hq,ag A.jD _ ⟨rfl, .inr (T.m6 _),rfl,_,rfl,?_⟩⟩⟩
  refine bW (fun hne=>?_) fun hne=>?_
  ·have h6: ¬fm.length=6:=fun e=>by
    have hl:(vN fm).length=6:=by rw[aO,e]
    rw[hl] at hne
    exact absurd hne (show¬((!decide (V.int ((6:Nat):Int)=V.int ((6:Nat):Int)))=true) by decide)
   have:=k H (ae.refl _)
   rw[R7 h6] at this
   exact this
  ·have h6:fm.length=6:=by
    by_cases e:fm.length=6
    ·exact e
    ·exfalso
     apply hne
     rw[Bool.not_eq_true',decide_eq_false_iff_not]
     intro z
     have z:=V.int.inj z
     rw[aO] at z
     have z:((fm.length:Nat):Int)=((6:Nat):Int):=z
     lia
   refine ⟨_,rfl,aA q A.jD _ _ ⟨rfl,hq,T.m6 _,fun D hD=>?_⟩⟩
   refine fq (J:=wj K q A.jD) hD 6 (by rw[sizeLine_eq];lia) (fun i=> .bl (oW i (fm.getD i 0)))
    (fun i Hh hi s1=>by
     obtain ⟨b,hb1,_⟩:=FQ T hi
     exact ⟨_,_,_,_,s1.seq hq,T.m6 _,fF (by lia),hb1⟩) (fun Hh s1=>⟨_,_,s1.seq hq,T.m6 _, .inl (by rw[aO];lia)⟩) ?_ ?_
   ·rintro i Hh z H' hi s1 ⟨t,x1,y1,rfl,ht,rfl,hx,hy⟩ C hC
    obtain ⟨rfl,_⟩:=eT (hx _ (s1.seq hq))
    obtain ⟨b,hb1,hb2⟩:=FQ T hi
    have e:=hy _ (T.m6 _)
    rw[hb1] at e
    cases e
    have st:ae Hh (upd Hh t (.tup [V.int ((fm.getD i 0:Nat):Int),V.ref b])):=aF ht
    refine (ag t _ ⟨rfl,a8.of aj,rfl,ag _ _ ⟨rfl,ag _ _ ⟨rfl,rfl,rfl,?_⟩⟩⟩)
    refine ⟨_,rfl,aA b _ _ _ ⟨rfl,rfl,hb2 _,cv (j:=0) rfl,_,rfl,ag _ _ ⟨rfl,rfl,_,rfl,?_⟩⟩⟩
    have hC:=hC _ st
    unfold oW at hC
    by_cases c1:((tN.getD i 0:Nat):Int)≤((fm.getD i 0:Nat):Int)
    ·rw[decide_eq_true c1,Bool.true_and] at hC
     rw[decide_eq_true c1]
     exact bt ⟨_,rfl,aA b _ _ _ ⟨rfl,rfl,hb2 _,cv (j:=1) rfl,ag _ _ ⟨rfl,rfl,hC⟩⟩⟩
    ·rw[decide_eq_false c1,Bool.false_and] at hC
     rw[decide_eq_false c1]
     exact bA hC
   ·intro Hh s1 hx
    refine ⟨D,(List.range 6).map fun i=>oW i (fm.getD i 0),rfl,ah.of (hx.trans ?_),?_⟩
    ·rw[List.map_map];rfl
    ·rw[SE h6]
     exact k _ s1
def aC (S:List Addr) (H:Hp):Hp:=fun b=>if b∈S then none else H b
theorem bT (S:List Addr) (H:Hp):ae (aC S H) H:=fun b o h=>by
 unfold aC at h
 split at h
 ·cases h
 ·exact h
theorem _root_.L2.ae.aC {S:List Addr} {H0 H:Hp} (s:ae H0 H) (h: ∀b∈S,H0 b=none):ae H0 (aC S H):=fun b o e=>by
 unfold Wg.aC
 rw[if_neg (fun z=>by rw[h b z] at e;cases e)]
 exact s b o e
theorem gz {S:List Addr} {H:Hp} {b:Addr} (h:b∈S):aC S H b=none:=by unfold aC;rw[if_pos h]
theorem cU {S:List Addr} {H:Hp} {b:Addr} (h:b∉S):aC S H b=H b:=by unfold aC;rw[if_neg h]
structure bH where
 r:Addr
 dr:Addr
 q:Addr
 B:Sound.Bytes
def fP (d p:V):List (Str×V):= [("data",d),("place",p)]
theorem Rm (d p:V):bC "place" p (bC "data" d [])=fP d p:=by
 show bC "place" p [(("data" :Str),d)]=_
 unfold bC
 rw[if_neg (by decide)]
 rfl
theorem Lh (d p p':V):bC "place" p' (fP d p)=fP d p':=by
 have n1: ¬("data" :Str)= "place" :=by decide
 simp only [fP,bC,if_neg n1];rfl
def cI (K:PySem.W.Frag) (H0:Hp) (R:bH):Prop:=ah K H0 R.q (vN (bn R.B))∧H0 R.r=none∧R.B.length≤4096
def bj (C:Addr) (H:Hp) (R:bH) (l:Sound.Bits):Prop:= ∃p,l=(Sound.bitsOf R.B).drop p∧p≤8*R.B.length∧H R.r=some (.ins C R.dr (fP (.ref R.q) (.int (p:Nat))))
theorem cI.same {H0 H1:Hp} {R:bH} (h:cI K H0 R) (s:ae H0 H1) (n:H1 R.r=none):cI K H1 R:=⟨s.seq h.1,n,h.2.2⟩
def bF (A:aW) (H0:Hp) (R:bH) {α:Type} (g:Sound.Got α) (Q:α→Hp→Prop) (E:XK):Prop:=match g with
 | .ok x l=> ∀H',ae H0 H'→bj A.aV H' R l→Q x H'
 | .bad=> ∀H',ae H0 H'→E (.ref A.fR) none H'
 | .short=> ∀H',ae H0 H'→E (.ref A.iR) none H'
theorem bF.seq {H0:Hp} {R:bH} {α β:Type} {g:Sound.Got α} {f:α→Sound.Bits→Sound.Got β} {Q:β→Hp→Prop} {Q':α→Hp→Prop} {E:XK} (h:bF A H0 R (g.then_ f) Q E)
  (k: ∀x l H',g= .ok x l→ae H0 H'→bj A.aV H' R l→bF A H0 R (f x l) Q E→Q' x H'):bF A H0 R g Q' E:=by
 cases g with
 |ok x l=>exact fun H' s st=>k x l H' rfl s st h
 |bad=>exact h
 |short=>exact h
theorem bF.cV {H0 H1:Hp} {R:bH} {α β:Type} {g:Sound.Got α} {f:α→Sound.Bits→Sound.Got β} {Q:β→Hp→Prop} {Q':α→Hp→Prop} {E:XK} (h:bF A H0 R (g.then_ f) Q E) (s:ae H0 H1)
  (k: ∀x l H',g= .ok x l→ae H1 H'→bj A.aV H' R l→bF A H0 R (f x l) Q E→Q' x H'):bF A H1 R g Q' E:=by
 cases g with
 |ok x l=>exact fun H' s' st=>k x l H' rfl s' st h
 |bad=>exact fun H' s'=>h H' (s.trans s')
 |short=>exact fun H' s'=>h H' (s.trans s')
theorem bF.low {H0 H1:Hp} {R:bH} {α:Type} {g:Sound.Got α} {Q:α→Hp→Prop} {E:XK} (h:bF A H0 R g Q E) (s:ae H0 H1):bF A H1 R g Q E:=by
 cases g with
 |ok x l=>exact fun H' s' st=>h H' (s.trans s') st
 |bad=>exact fun H' s'=>h H' (s.trans s')
 |short=>exact fun H' s'=>h H' (s.trans s')
def Io (C:Addr):Sp:=fun vs H Q _=> ∃(p dx:Addr) (d:V),vs= [.ref p,d]∧H p=some (.ins C dx [])∧Q .aw (upd H p (.ins C dx (fP d (.int 0))))
theorem LU:aK ["self", "data"] ["self", "data"] (aB Be):=⟨rfl,rfl,rfl,by decide+kernel,rfl,by decide+kernel,by decide+kernel⟩
theorem KH (T:Txt K mg A):az P w K mg base a9 1 A.oF A.mn ["self", "data"] (Io A.aV):=by
 refine T.P1.ok LU (fun vs H Q E h=>?_) (fun cdv Ar outer s H vs Q E hr h=>?_)
 ·obtain ⟨p,dx,d,rfl,_⟩:=h
  rfl
 ·obtain ⟨p,dx,d,rfl,hp,k⟩:=h
  refine ⟨_,ai (bh (pv 0) (pv 1) rfl) (ak (bh (pv 0) aq rfl)),?_⟩
  refine ⟨_,rfl,_,rfl,p,A.aV,dx, [],rfl,hp,T.bR,T.sO,(by show 0<1000;decide),?_⟩
  refine ⟨_,rfl,aA p A.aV dx _ ⟨rfl,aj,T.bR,T.jE,(by show 1<1000;decide),?_⟩⟩
  rw[Rm,cB]
  exact k
def J3 (K:PySem.W.Frag) (A:aW):Sp:=fun vs H Q E=> ∃(H0:Hp) (R:bH) (n:Nat) (l:Sound.Bits),vs= [.ref R.r, .int n]∧ae H0 H∧cI K H0 R∧bj A.aV H R l∧n≤64∧bF A H0 R (Sound.takeU n l) (fun x H'=>Q (.int (x:Nat)) H') E
theorem pI:aK ["self", "width", "behind", "number", "byte"] ["self", "width"] (aB CB):=⟨rfl,rfl,rfl,by decide+kernel,rfl,by decide+kernel,by decide+kernel⟩
theorem Qm (n:Nat):(-(n:Int))%8=((8*((n+7)/8)-n:Nat):Int):=by lia
theorem eF (T:Txt K mg A):az P w K mg base (aY P w) 1 A.oH A.lN ["self", "width"] (J3 K A):=by
 refine T.Mg.bO pI (fun vs H Q E h=>?_) (fun cdv Ar outer s H vs Q E hr h=>?_)
 ·obtain ⟨H0,R,n,l,rfl,_⟩:=h
  rfl
 ·obtain ⟨H0,R,n,l,rfl,s0,⟨hq,hn0,hB⟩,⟨p,rfl,hp,hx⟩,hn,k⟩:=h
  refine ⟨_,ai (aJ (i:=2) pI.nd rfl (Or.inl rfl) (au bS (ay (pv 0) rfl) (pv 1)))
   (ai (bg (bc dF (pv 2) (au ko aq (bX cx (by rfl) T.cj PySem.boot_len (aa (ay (pv 0) rfl) af))) (aZ _)) (ak (d8 rfl rfl T.sx T.uq.exc eE)) br)
   (ai (aJ (i:=3) pI.nd rfl (Or.inl rfl) aq)
   (ai (cw PassesOwn.leaving rfl (dn (eH eJ (ay (pv 0) rfl) (cD (au jG (ay (pv 0) rfl) aq)) (cD (au jG (au bS (pv 2) aq) aq)))) (bq (i:=4) pI.nd rfl (Or.inl rfl))
    (ak (aJ (i:=3) pI.nd rfl (Or.inl rfl) (au CK (au sY (pv 3) aq) (pv 4)))))
   (ai (bh (pv 0) (pv 2) rfl)
   (ak (aX (au lB (au fk (pv 3) (au lj (fw fB (pv 2)) aq)) (au du (au sY aq (pv 1)) aq)))))))),?_⟩
  have hqH:=s0.seq hq
  refine (aD rfl hx T.bR T.jE rfl ⟨_,rfl,ag _ _ ⟨rfl,rfl,?_⟩⟩)
  dsimp only
  rw[show ((p:Nat):Int)+((n:Nat):Int)=((p+n:Nat):Int) by lia]
  refine ⟨_,rfl,aD rfl hx T.bR T.sO rfl (ag R.q _ ⟨rfl, .inl hqH,ag _ _ ⟨rfl,rfl, .inl ⟨by decide,by decide⟩,ag _ _ ⟨rfl,rfl,_,rfl,?_⟩⟩⟩)⟩
  rw[aO,bx]
  have hlen:((Sound.bitsOf R.B).drop p).length=8*R.B.length-p:=by rw[List.length_drop,jH]
  unfold Sound.takeU at k
  refine bW (fun hc=>?_) fun hc=>?_
  ·have hc:(8:Int)*((R.B.length:Nat):Int)<((p+n:Nat):Int):=of_decide_eq_true hc
   rw[if_pos ((kc _ _).mpr (by rw[hlen];lia))] at k
   exact k H s0
  ·have hc: ¬(8:Int)*((R.B.length:Nat):Int)<((p+n:Nat):Int):=fun z=>hc (decide_eq_true z)
   rw[if_neg (fun z=>by have:=(kc _ _).mp z;rw[hlen] at this;lia)] at k
   refine (aD rfl hx T.bR T.sO rfl (aD rfl hx T.bR T.jE rfl (ag _ _ ⟨rfl,rfl,⟨by decide,by decide⟩,_,rfl,_,rfl,ag _ _ ⟨rfl,rfl,ag _ _ ⟨rfl,rfl,⟨by decide,by decide⟩,_,rfl,ag R.q _ ⟨rfl,hqH,fun D hD=>?_⟩⟩⟩⟩)))
   have e1:((p:Nat):Int)/8=((p/8:Nat):Int):=by lia
   have e2:(((p+n:Nat):Int)+7)/8=(((p+n+7)/8:Nat):Int):=by lia
   rw[e1,e2,kb,gO,fH]
   have hv:=Lx (B:=R.B) (p:=p) (n:=n) (by lia)
   generalize hbs:(R.B.drop (p/8)).take ((p+n+7)/8-p/8)=bs at*
   have hbl:bs.length≤1000:=by rw[←hbs,List.length_take];lia
   have hnD:H0 D=none:=s0.none hD
   have sD:ae H (upd H D (.lst (vN (bn bs)))):=aF hD
   have hxD:upd H D (.lst (vN (bn bs))) R.r=some (.ins A.aV R.dr (fP (.ref R.q) (.int (p:Nat)))):=sD _ _ hx
   have s0D:ae H0 (upd H D (.lst (vN (bn bs)))):=s0.trans sD
   have hDx:upd H D (.lst (vN (bn bs))) D=some (.lst (vN (bn bs))):=aj
   generalize upd H D (.lst (vN (bn bs)))=H1 at*
   refine ⟨D,rfl,⟨_,ah.of hDx⟩,?_⟩
   refine ie (K:=K) (a:=D) (xs:=vN (bn bs)) (fun i σ H'=>H'=H1∧ ∃v4:Option V,σ= [some (.ref R.r),some (.int (n:Nat)),some (.int ((p+n:Nat):Int)),some (.int (bN ((bn bs).take i):Nat)),v4]) ⟨rfl,none,rfl⟩ (fun i σ H' _ ⟨e,_⟩=>by rw[e];exact ah.of hDx) ?_ ?_
   ·rintro i x σ H' hi ⟨rfl,v4,rfl⟩
    obtain ⟨rfl,hil⟩:=eT hi
    have hlt:=sr (l:=(bn bs).take i) fun x hx=>eX bs x (List.mem_of_mem_take hx)
    have hbits:Builtin.Int.intBits ((bN ((bn bs).take i):Nat):Int)≤8*i:=by
     rw[sZ,List.length_take] at hlt
     exact Ew (Nat.lt_of_lt_of_le hlt (Nat.pow_le_pow_right (by decide) (by lia)))
    have e27:(2:Int)^27=134217728:=by decide
    rw[bx] at hil
    refine ⟨_,rfl,ag _ _ ⟨rfl,rfl,⟨by lia,by lia⟩,_,rfl,ag _ _ ⟨rfl,rfl,rfl,some (.int ((bn bs).getD i 0:Nat)),?_⟩⟩⟩
    have hil':i<(bn bs).length:=by rw[bx];exact hil
    have e:bN ((bn bs).take (i+1))=256*bN ((bn bs).take i)+(bn bs).getD i 0:=by
     unfold bN
     rw[rn _ _ _ hil',getD_at hil']
    have ex:Builtin.bitOr (((bN ((bn bs).take i):Nat):Int)*2^(8:Int).toNat) (((bn bs).getD i 0:Nat):Int)=((bN ((bn bs).take (i+1)):Nat):Int):=by
     have e8:((bN ((bn bs).take i):Nat):Int)*2^(8:Int).toNat=((256*bN ((bn bs).take i):Nat):Int):=by
      rw[show (2:Int)^(8:Int).toNat=256 by decide];lia
     rw[e8,vo,E5 (tH (eX bs) hil'),e]
    show [_,_,_,some (V.int (Builtin.bitOr _ _)),_]=_
    rw[ex]
   ·rintro σ H' ⟨rfl,v4,rfl⟩
    rw[aO,List.take_length]
    refine ⟨_,rfl,_,rfl,aA R.r A.aV R.dr _ ⟨rfl,hxD,T.bR,T.jE,(by show 2<1000;decide),?_⟩⟩
    rw[Lh]
    have e27:(2:Int)^27=134217728:=by decide
    have ei:Builtin.Int.intBits 1=1:=by decide+kernel
    refine ⟨_,rfl,_,rfl,_,rfl,ag _ _ ⟨rfl,rfl,(by show (0:Int)<8;decide),?_⟩⟩
    dsimp only
    rw[Qm]
    refine (ag _ _ ⟨rfl,rfl,(by lia),_,rfl,ag _ _ ⟨rfl,rfl,⟨by lia,by rw[ei];lia⟩,ag _ _ ⟨rfl,rfl,ag _ _ ⟨rfl,rfl,?_⟩⟩⟩⟩)
    have ef:Builtin.bitAnd (((bN (bn bs):Nat):Int)/2^((8*((p+n+7)/8)-(p+n):Nat):Int).toNat) (1*2^((n:Nat):Int).toNat-1)=((Sound.value (((Sound.bitsOf R.B).drop p).take n):Nat):Int):=by
     rw[Int.one_mul,Int.toNat_natCast,Int.toNat_natCast,mask,←hv]
     unfold bn
     simp
    dsimp only
    rw[ef]
    refine k _ (fh s0D hn0) ⟨p+n,?_,by lia,aj⟩
    rw[List.drop_drop]
def Kr (K:PySem.W.Frag) (A:aW):Sp:=fun vs H Q E=> ∃(H0:Hp) (R:bH) (n:Nat) (l:Sound.Bits),vs= [.ref R.r, .int n]∧ae H0 H∧cI K H0 R∧bj A.aV H R l∧n≤64∧bF A H0 R (Sound.takeS n l) (fun x H'=>Q (.int x) H') E
theorem ye:aK ["self", "width", "number", "sign"] ["self", "width"] (aB DZ):=⟨rfl,rfl,rfl,by decide+kernel,rfl,by decide+kernel,by decide+kernel⟩
theorem bj.obj {H:Hp} {R:bH} {l:Sound.Bits} (h:bj A.aV H R l): ∃p:Nat,H R.r=some (.ins A.aV R.dr (fP (.ref R.q) (.int (p:Nat)))):=by
 obtain ⟨p,_,_,hx⟩:=h
 exact ⟨p,hx⟩
theorem so (T:Txt K mg A):az P w K mg base (aY P w) 2 A.pT A.o7 ["self", "width"] (Kr K A):=by
 refine T.JU.bO ye (fun vs H Q E h=>?_) (fun cdv Ar outer s H vs Q E hr h=>?_)
 ·obtain ⟨H0,R,n,l,rfl,_⟩:=h
  rfl
 ·obtain ⟨H0,R,n,l,rfl,s0,hI,hS,hn,k⟩:=h
  refine ⟨_,ai (aJ (i:=2) ye.nd rfl (Or.inl rfl) (aU (pv 0) T.bR T.eA (eF T) hr T.eC .nil aN (aa (pv 1) af)))
   (ai (aJ (i:=3) ye.nd rfl (Or.inl rfl) (au lB (pv 2) (au fk (au sY aq (pv 1)) aq)))
   (ak (aX (au du (pv 2) (au ko aq (pv 3)))))),?_⟩
  obtain ⟨p,hx⟩:=hS.obj
  refine (aS rfl hx rfl ⟨_,rfl,aA H0 R n l ⟨rfl,s0,hI,hS,hn,?_⟩⟩)
  unfold Sound.takeS at k
  unfold Sound.takeU
  by_cases hc:Sound.lacks n l=true
  ·rw[if_pos hc] at k⊢
   exact k
  ·rw[if_neg hc] at k⊢
   intro H1 s1 st
   have e27:(2:Int)^27=134217728:=by decide
   have ei:Builtin.Int.intBits 1=1:=by decide+kernel
   refine ⟨_,rfl,_,rfl,ag _ _ ⟨rfl,rfl,⟨by lia,by rw[ei];lia⟩,ag _ _ ⟨rfl,rfl,(by show (0:Int)≤1;decide),ag _ _ ⟨rfl,rfl,?_⟩⟩⟩⟩
   have hl:(l.take n).length=n:=by
    rw[List.length_take]
    have: ¬l.length<n:=fun z=>hc ((kc n l).mpr z)
    lia
   have e1:((1:Int)*2^((n:Nat):Int).toNat/2^(1:Int).toNat)=((2^n/2:Nat):Int):=by
    rw[Int.one_mul,Int.toNat_natCast,show (2:Int)^(1:Int).toNat=2 by decide];simp
   have e2:=Ki (l:=l.take n)
   rw[hl] at e2
   dsimp only
   rw[e1,sy,e2]
   refine ⟨_,rfl,_,rfl,ag _ _ ⟨rfl,rfl, .inl ⟨by decide,by decide⟩,ag _ _ ⟨rfl,rfl,?_⟩⟩⟩
   have k:=k H1 s1 st
   rw[Od,hl] at k
   exact k
def Rw (K:PySem.W.Frag) (A:aW):Sp:=fun vs H Q E=> ∃(H0:Hp) (R:bH) (m:Nat) (l:Sound.Bits),vs= [.ref R.r, .int m]∧ae H0 H∧cI K H0 R∧bj A.aV H R l∧bF A H0 R (Sound.takeRun (m+1) 0 l) (fun x H'=>Q (.int (x:Nat)) H') E
theorem xU:aK ["self", "most", "zeros"] ["self", "most"] (aB CL):=⟨rfl,rfl,rfl,by decide+kernel,rfl,by decide+kernel,by decide+kernel⟩
theorem take1 (b:Bool) (l:Sound.Bits):Sound.takeU 1 (b::l)= .ok (if b=true then 1 else 0) l:=by
 unfold Sound.takeU
 rw[if_neg (fun z=>by have:=(kc _ _).mp z;simp at this)]
 cases b<;>rfl
theorem EM (T:Txt K mg A):az P w K mg base (aY P w) 2 A.oZ A.oi ["self", "most"] (Rw K A):=by
 refine T.G5.bO xU (fun vs H Q E h=>?_) (fun cdv Ar outer s H vs Q E hr h=>?_)
 ·obtain ⟨H0,R,m,l,rfl,_⟩:=h
  rfl
 ·obtain ⟨H0,R,m,l,rfl,s0,hI,hS,k⟩:=h
  refine ⟨_,ai (aJ (i:=2) xU.nd rfl (Or.inl rfl) aq)
   (ai (Du PassesOwn.leaving (bc dA (aU (pv 0) T.bR T.eA (eF T) hr T.eC .nil aN (aa aq af)) aq (aZ _))
    (ai (iO (i:=2) xU.nd rfl (Or.inl rfl) aq E9)
    (ak (bg (bc dF (pv 2) (pv 1) (aZ _)) (ak (d8 rfl rfl T.fg T.eY.exc eE)) br))))
   (ak (aX (pv 2)))),?_⟩
  refine A9 (fun σ H'=> ∃(z:Nat) (l':Sound.Bits),σ= [some (.ref R.r),some (.int (m:Nat)),some (.int (z:Nat))]∧l'.length+z=l.length∧ae H0 H'∧bj A.aV H' R l'∧bF A H0 R (Sound.takeRun (m+1) z l') (fun x H'=>Q (.int (x:Nat)) H') E) (Sq 2 (l.length+1)) (ag 0 l ⟨rfl,rfl,s0,hS,k⟩) ?_
  rintro σ H1 ⟨z,l',rfl,hl,s1,hS1,k1⟩ C ht hf
  obtain ⟨p,hx⟩:=hS1.obj
  refine (aS rfl hx rfl (aA H0 R 1 l' ⟨rfl,s1,hI,hS1,by decide,?_⟩))
  cases l' with
  |nil=>exact k1
  |cons b r=>
   rw[take1]
   intro H2 s2 hS2
   cases b with
   |true=>
    refine ⟨rfl,_,rfl,?_⟩
    exact hf H2 ⟨_,rfl,k1 H2 s2 hS2⟩
   |false=>
    refine ⟨rfl,_,rfl,?_⟩
    refine ht H2 ⟨_,rfl,ag _ _ ⟨rfl,rfl,?_⟩⟩
    dsimp only
    rw[show ((z:Nat):Int)+1=((z+1:Nat):Int) by lia]
    refine ⟨_,rfl,_,rfl,ag _ _ ⟨rfl,rfl,_,rfl,?_⟩⟩
    have e:Sound.takeRun (m+1) z (false::r)=if m+1≤z+1 then .bad else Sound.takeRun (m+1) (z+1) r:=rfl
    rw[e] at k1
    refine bW (fun hc=>?_) fun hc=>?_
    ·have hc:((m:Nat):Int)<((z+1:Nat):Int):=of_decide_eq_true hc
     rw[if_pos (by lia)] at k1
     exact k1 H2 s2
    ·have hc: ¬((m:Nat):Int)<((z+1:Nat):Int):=fun z'=>hc (decide_eq_true z')
     rw[if_neg (by lia)] at k1
     rw[List.length_cons] at hl
     refine ⟨(ag (z+1) r ⟨rfl,by lia,s2,hS2,k1⟩),?_⟩
     show l.length+1-((z+1:Nat):Int).toNat<l.length+1-((z:Nat):Int).toNat
     lia
def S7:Sp:=fun vs H Q _=> ∃(m:Nat) (x y:Int),vs= [.int m, .int x, .int y]∧m<4∧ ∀D H',H D=none→ae H H'→H' D=some (.tup [.int (Sound.unpair m x y).1, .int (Sound.unpair m x y).2])→Q (.ref D) H'
theorem yT:aK ["mode", "x", "y", "a"] ["mode", "x", "y"] (aB Dl):=⟨rfl,rfl,rfl,by decide+kernel,rfl,by decide+kernel,by decide+kernel⟩
theorem Ap (T:Txt K mg A):az P w K mg base a9 1 A.pL A.qW ["mode", "x", "y"] S7:=by
 refine T.xQ.ok yT (fun vs H Q E h=>?_) (fun cdv Ar outer s H vs Q E hr h=>?_)
 ·obtain ⟨m,x,y,rfl,_⟩:=h
  rfl
 ·obtain ⟨m,x,y,rfl,hm,k⟩:=h
  refine ⟨_,ai (bg (bc dA (pv 0) aq (aZ _)) (ak (aX (sQ (aa (pv 1) (aa (pv 2) af))))) br)
   (ai (bg (bc dA (pv 0) aq (aZ _)) (ak (aX (sQ (aa (pv 1) (aa (au du (pv 1) (pv 2)) af))))) br)
   (ai (bg (bc dA (pv 0) aq (aZ _)) (ak (aX (sQ (aa (au bS (pv 1) (pv 2)) (aa (pv 2) af))))) br)
   (ai (aJ (i:=3) yT.nd rfl (Or.inl rfl) (au bS (pv 1) (au fk (au bS (pv 2) (au lj (pv 2) aq)) aq)))
   (ak (aX (sQ (aa (pv 3) (aa (au du (pv 3) (pv 2)) af)))))))),?_⟩
  have z2:(2:Nat)≤sizeLine:=by rw[sizeLine_eq];lia
  have ne: ∀a b:Nat,a≠b→decide (V.int ((a:Nat):Int)=V.int ((b:Nat):Int))=false:=fun a b h=>decide_eq_false fun z=>h (by have:=V.int.inj z;lia)
  have fin: ∀(x' y':Int),(x',y')=Sound.unpair m x y→ ∀p,H p=none→Q (.ref p) (upd H p (.tup [.int x', .int y'])):=fun x' y' e p hp=>by
   refine k p _ hp (aF hp) ?_
   rw[aj,←e]
  rcases (by lia:m=0∨m=1∨m=2∨m=3) with rfl|rfl|rfl|rfl
  ·exact ⟨_,rfl,rfl,_,rfl,bt ⟨_,rfl,_,rfl,z2,fin _ _ rfl⟩⟩
  ·refine ⟨_,rfl,rfl,_,rfl,?_⟩
   refine bA ⟨_,rfl,rfl,_,rfl,bt ⟨_,rfl,_,rfl,_,rfl,ag _ _ ⟨rfl,rfl,z2,fin _ _ rfl⟩⟩⟩
  ·refine ⟨_,rfl,rfl,_,rfl,?_⟩
   refine bA ⟨_,rfl,rfl,_,rfl,?_⟩
   refine bA ⟨_,rfl,rfl,_,rfl,bt ⟨_,rfl,_,rfl,ag _ _ ⟨rfl,rfl,_,rfl,z2,fin _ _ rfl⟩⟩⟩
  ·refine ⟨_,rfl,rfl,_,rfl,?_⟩
   refine bA ⟨_,rfl,rfl,_,rfl,?_⟩
   refine bA ⟨_,rfl,rfl,_,rfl,?_⟩
   refine bA ⟨_,rfl,_,rfl,_,rfl,ag _ _ ⟨rfl,rfl,(by show (0:Int)<2;decide),ag _ _ ⟨rfl,rfl,ag _ _ ⟨rfl,rfl,(by show (0:Int)≤1;decide),ag _ _ ⟨rfl,rfl,?_⟩⟩⟩⟩⟩
   refine ⟨_,rfl,_,rfl,_,rfl,ag _ _ ⟨rfl,rfl,z2,fin _ _ ?_⟩⟩
   have e:x+(y+y%2)/2^(1:Int).toNat=(2*x+y%2+y)/2:=by rw[show (2:Int)^(1:Int).toNat=2 by decide];lia
   rw[e];rfl
def lu (m d n:V):List (Str×V):= [("mode",m),("depth",d),("numbers",n)]
def SH (C:Addr):Sp:=fun vs H Q _=> ∃(p dx:Addr) (m d n:V),vs= [.ref p,m,d,n]∧H p=some (.ins C dx [])∧Q .aw (upd H p (.ins C dx (lu m d n)))
theorem IL:aK ["self", "mode", "depth", "numbers"] ["self", "mode", "depth", "numbers"] (aB Dz):=⟨rfl,rfl,rfl,by decide+kernel,rfl,by decide+kernel,by decide+kernel⟩
theorem G2 (T:Txt K mg A):az P w K mg base a9 1 A.oo A.nJ ["self", "mode", "depth", "numbers"] (SH A.dm):=by
 refine T.Qs.ok IL (fun vs H Q E h=>?_) (fun cdv Ar outer s H vs Q E hr h=>?_)
 ·obtain ⟨p,dx,m,d,n,rfl,_⟩:=h
  rfl
 ·obtain ⟨p,dx,m,d,n,rfl,hp,k⟩:=h
  refine ⟨_,ai (bh (pv 0) (pv 1) rfl) (ai (bh (pv 0) (pv 2) rfl) (ak (bh (pv 0) (pv 3) rfl))),?_⟩
  refine ⟨_,rfl,_,rfl,p,A.dm,dx, [],rfl,hp,T.ke,T.FV,(by show 0<1000;decide),?_⟩
  refine ⟨_,rfl,_,rfl,aA p A.dm dx _ ⟨rfl,aj,T.ke,T.zO,(by show 1<1000;decide),?_⟩⟩
  refine ⟨_,rfl,_,rfl,aA p A.dm dx _ ⟨rfl,aj,T.ke,T.A4,(by show 2<1000;decide),?_⟩⟩
  rw[cB,cB]
  exact k
def kC (m d:Nat) (a:List Int) (i:Nat) (y:Int):Bool:=Sound.fits d (Sound.unpair m (a.getD i 0) y).1&&Sound.fits d (Sound.unpair m (a.getD i 0) y).2
def qo (K:PySem.W.Frag) (C:Addr) (H:Hp) (p:Addr) (m d:Nat) (a:List Int):Prop:= ∃dx n,H p=some (.ins C dx (lu (.int m) (.int d) (.ref n)))∧ah K H n (a.map V.int)
theorem qo.same {C:Addr} {H H':Hp} {p:Addr} {m d:Nat} {a:List Int} (h:qo K C H p m d a) (s:ae H H'):qo K C H' p m d a:=by
 obtain ⟨dx,n,h1,h2⟩:=h
 exact ⟨dx,n,s _ _ h1,s.seq h2⟩
def MG (K:PySem.W.Frag) (A:aW):Sp:=fun vs H Q E=> ∃(p:Addr) (m d i:Nat) (a:List Int) (y:Int),vs= [.ref p, .int i, .int y]∧qo K A.dm H p m d a∧(m<4∧4≤d∧d≤24∧i<a.length)∧(if kC m d a i y=true then∀H',ae H H'→Q .aw H' else∀H',ae H H'→E (.ref A.fR) none H')
theorem Gh:aK ["self", "place", "number", "one"] ["self", "place", "number"] (aB Gi):=⟨rfl,rfl,rfl,by decide+kernel,rfl,by decide+kernel,by decide+kernel⟩
theorem Gw (T:Txt K mg A):az P w K mg base (aY P w) 2 A.mM A.o9 ["self", "place", "number"] (MG K A):=by
 refine T.MQ.bO Gh (fun vs H Q E h=>?_) (fun cdv Ar outer s H vs Q E hr h=>?_)
 ·obtain ⟨p,m,d,i,a,y,rfl,_⟩:=h
  rfl
 ·obtain ⟨p,m,d,i,a,y,rfl,⟨dx,n,hp,hn⟩,⟨hm,hd1,hd2,hi⟩,k⟩:=h
  refine ⟨_,ak (cw PassesOwn.leaving rfl (NA (aP (Ap T) hr rfl T.AV T.xQ.kp T.CJ .nil aQ (aa (ay (pv 0) rfl) (aa (cJ d9 (ay (pv 0) rfl) (pv 1) (fun _ _=>rfl)) (aa (pv 2) af))))) (bq (i:=3) Gh.nd rfl (Or.inl rfl))
   (ak (bg (jh (iS (aP (Gj T) hr rfl T.Ax T.xh.kp T.Bk .nil aQ (aa (ay (pv 0) rfl) (aa (pv 3) af))))) (ak (d8 rfl rfl T.fg T.eY.exc eE)) br))),?_⟩
  refine (aD rfl hp T.ke T.FV rfl (aD rfl hp T.ke T.A4 rfl ⟨_,rfl,aA n _ _ _ ⟨rfl,rfl,hn,cv (lp hi),_,rfl,m,a.getD i 0,y,rfl,hm,fun D H1 hD s1 hx=>?_⟩⟩))
  unfold kC at k
  generalize Sound.unpair m (a.getD i 0) y=uv at*
  obtain ⟨u,v⟩:=uv
  have hp1:=s1 _ _ hp
  refine ⟨D,rfl,⟨_,a8.of hx⟩,?_⟩
  have hor: ∀j,j<2→(∀i,i<j→Sound.fits d ([u,v].getD i 0)=true)→Sound.fits d ([u,v].getD j 0)=false→E (.ref A.fR) none H1:=fun j hj _ hf=>by
   rw[if_neg (by
    rcases (by lia:j=0∨j=1) with rfl|rfl
    ·have hf:Sound.fits d u=false:=hf
     rw[hf];simp
    ·have hf:Sound.fits d v=false:=hf
     rw[hf];simp)] at k
   exact k H1 s1
  refine Jm (K:=K) (a:=D) (xs:= [V.int u,V.int v]) (fun j σ H'=>H'=H1∧(∀i,i<j→Sound.fits d ([u,v].getD i 0)=true)∧ ∃v3:Option V,σ= [some (.ref p),some (.int (i:Nat)),some (.int y),v3]) ⟨rfl,(fun i h=>by lia),none,rfl⟩ (fun j σ H' _ ⟨e,_⟩=>by rw[e];exact a8.of hx) ?_ ?_
  ·rintro j x σ H' hj ⟨rfl,hall,v3,rfl⟩
   have hj2:j<2:=(List.getElem?_eq_some_iff.mp hj).1
   have hx2:x= .int ([u,v].getD j 0):=by
    rcases (by lia:j=0∨j=1) with rfl|rfl
    ·exact (Option.some.inj hj).symm
    ·exact (Option.some.inj hj).symm
   subst hx2
   refine (aD rfl hp1 T.ke T.zO rfl ⟨_,rfl,(d:Int),_,rfl,⟨by lia,by lia⟩,_,rfl,?_⟩)
   rw[Br (by lia)]
   cases hf:Sound.fits d ([u,v].getD j 0) with
   |false=>exact bt (hor j hj2 hall hf)
   |true=>
    refine bA ⟨rfl,fun i hi=>?_,some (.int ([u,v].getD j 0)),rfl⟩
    rcases (by lia:i<j∨i=j) with q|rfl
    ·exact hall i q
    ·exact hf
  ·rintro σ H' ⟨rfl,hall,v3,rfl⟩
   have h0:Sound.fits d u=true:=hall 0 (by show 0<2;decide)
   have h1:Sound.fits d v=true:=hall 1 (by show 1<2;decide)
   rw[if_pos (by rw[h0,h1];rfl)] at k
   exact k H' s1
def fT (wd z pn g t:V):List (Str×V):= [("width",wd),("z",z),("partner",pn),("guess",g),("taken",t)]
def kf (C:Addr) (H:Hp) (x dx t:Addr) (wd z:Nat) (pn g:V) (ys:List Int):Prop:=H x=some (.ins C dx (fT (.int wd) (.int z) pn g (.ref t)))∧H t=some (.lst (ys.map V.int))∧ ∀y∈ys,Sound.fits wd y=true
theorem kf.ne {C:Addr} {H:Hp} {x dx t:Addr} {wd z:Nat} {pn g:V} {ys:List Int} (h:kf C H x dx t wd z pn g ys):t≠x:=fun e=>by
 have h1:=h.1
 rw[←e,h.2.1] at h1;cases h1
def jy (K:PySem.W.Frag) (A:aW) (H:Hp) (pn:V) (n:Nat) (may:Nat→Int→Bool):Prop:=(pn= .aw∧may=fun _ _=>true)∨ ∃(p:Addr) (m d:Nat) (a:List Int),pn= .ref p∧qo K A.dm H p m d a∧(m<4∧4≤d∧d≤24∧a.length=n)∧may=kC m d a
theorem jy.same {H H':Hp} {pn:V} {n:Nat} {may:Nat→Int→Bool} (h:jy K A H pn n may) (s:ae H H'):jy K A H' pn n may:=by
 rcases h with h|⟨p,m,d,a,h1,h2,h3⟩
 ·exact .inl h
 ·exact .inr ⟨p,m,d,a,h1,h2.same s,h3⟩
def PD (K:PySem.W.Frag) (A:aW):Sp:=fun vs H Q E=> ∃(H0:Hp) (x dx t:Addr) (wd z n:Nat) (pn g:V) (ys:List Int) (may:Nat→Int→Bool) (y:Int),vs= [.ref x, .int y]∧ae H0 H∧(H0 x=none∧H0 t=none)∧kf A.bL H x dx t wd z pn g ys∧jy K A H0 pn n may∧(1≤wd∧wd≤25∧z≤25∧ys.length<n∧n≤256)∧
 (if (Sound.fits wd y&&may ys.length (y*2^z))=true then∀H',ae H0 H'→kf A.bL H' x dx t wd z pn g (ys++ [y])→Q .aw H' else∀H',ae H0 H'→E (.ref A.fR) none H')
theorem MU:aK ["self", "number"] ["self", "number"] (aB FC):=⟨rfl,rfl,rfl,by decide+kernel,rfl,by decide+kernel,by decide+kernel⟩
theorem Cu {wd:Nat} {y:Int} (h:Sound.fits wd y=true) (h2:wd≤25):y.natAbs<2^64:=by
 unfold Sound.fits at h
 rw[Bool.and_eq_true,decide_eq_true_eq,decide_eq_true_eq] at h
 have:(2:Int)^(wd-1)≤2^24:=by
  have:=Nat.pow_le_pow_right (n:=2) (by decide) (show wd-1≤24 by lia)
  exact_mod_cast this
 have e:(2:Int)^24=16777216:=by decide
 have e2:(2:Nat)^64=18446744073709551616:=by decide
 lia
theorem vy (T:Txt K mg A):az P w K mg base (aY P w) 3 A.qp A.ph ["self", "number"] (PD K A):=by
 refine T.P2.bO MU (fun vs H Q E h=>?_) (fun cdv Ar outer s H vs Q E hr h=>?_)
 ·obtain ⟨H0,x,dx,t,wd,z,n,pn,g,ys,may,y,rfl,_⟩:=h
  rfl
 ·obtain ⟨H0,x,dx,t,wd,z,n,pn,g,ys,may,y,rfl,s0,⟨hx0,ht0⟩,hP,hM,⟨hw1,hw2,hz,hl,hn⟩,k⟩:=h
  have hr1':aE 1 _:=hr.mono (by decide)
  refine ⟨_,ai (bg (jh (iS (aP (Gj T) hr1' rfl T.Ax T.xh.kp T.Bk .nil aQ (aa (ay (pv 0) rfl) (aa (pv 1) af))))) (ak (d8 rfl rfl T.fg T.eY.exc eE)) br)
   (ai (bg (ID (GH (ay (pv 0) rfl))) (ak (ba (aU (ay (pv 0) rfl) T.ke T.M8 (Gw T) hr T.JZ .nil aN
     (aa (bX cx (by rfl) T.cj PySem.boot_len (aa (ay (pv 0) rfl) af)) (aa (au jY (pv 1) (ay (pv 0) rfl)) af))))) br)
   (ak (ba (gS PySem.F.plainAttrs_list PySem.F.slot_list_append PySem.F.type_list_append qP (ay (pv 0) rfl) (aa (pv 1) af))))),?_⟩
  obtain ⟨hx,ht,hfy⟩:=id hP
  have htx:=hP.ne
  refine (aD rfl hx T.cy T.sC rfl ⟨_,rfl,(wd:Int),y,rfl,⟨by lia,by lia⟩,_,rfl,?_⟩)
  rw[Br hw1]
  cases hf:Sound.fits wd y with
  |false=>
   rw[hf,if_neg (by simp)] at k
   exact bt (k H s0)
  |true=>
   rw[hf,Bool.true_and] at k
   refine bA (aD rfl hx T.cy T.vp rfl ⟨_,rfl,?_⟩)
   have fin:may ys.length (y*2^z)=true→ ∀H1,ae H H1→zw (zc K "list" Aq (oG K (gJ 0) "taken") (BU (gJ 1) rX)) {nx:=fun x H'=>Q V.aw H',rt:=Q} [some (V.ref x),some (V.int y)] H1:=fun hm H1 s1=>by
    rw[if_pos hm] at k
    have hx1:=s1 _ _ hx
    have ht1:=s1 _ _ ht
    refine (aD rfl hx1 T.cy T.lK rfl ⟨.inl ⟨rfl,_,ah.of ht1⟩,_,rfl,bE t _ _ ⟨rfl,rfl,ht1,(by rw[List.length_map,sizeLine_eq];lia),?_⟩⟩)
    refine k _ (fh (s0.trans s1) ht0) ⟨?_,?_,fun y' hy'=>?_⟩
    ·rw[aL (Ne.symm htx)];exact hx1
    ·rw[aj,List.map_append];rfl
    ·rcases List.mem_append.mp hy' with q|q
     ·exact hfy y' q
     ·rw[List.mem_singleton.mp q];exact hf
   rcases hM with ⟨rfl,rfl⟩|⟨p,m,d,a,rfl,hPa,⟨hm,hd1,hd2,han⟩,rfl⟩
   ·exact bA (fin rfl H (ae.refl _))
   ·have hPa:=hPa.same s0
    obtain ⟨dp,nn,hp,_⟩:=id hPa
    refine bt (aD rfl hx T.cy T.vp rfl (mJ hp rfl (aD rfl hx T.cy T.lK rfl (ag t _ ⟨rfl, .inl (ah.of ht),_,rfl,aD rfl hx T.cy T.vL rfl (ag _ _ ⟨rfl,rfl,⟨by lia,by lia,Cu hf hw2⟩,p,m,d,ys.length,a,y*2^z,?_,hPa,⟨hm,hd1,hd2,by lia⟩,?_⟩)⟩))))
    ·rw[List.length_map];rfl
    ·by_cases hmay:kC m d a ys.length (y*2^z)=true
     ·rw[if_pos hmay]
      exact fun H1 s1=>fin hmay H1 s1
     ·rw[if_neg hmay] at k⊢
      exact fun H1 s1=>k H1 (s0.trans s1)
def RP (C:Addr):Sp:=fun vs H Q _=> ∃(p dx:Addr) (wd z:Int) (pn:V),vs= [.ref p, .int wd, .int z,pn]∧H p=some (.ins C dx [])∧ ∀(t:Addr) (H':Hp),H t=none→(∀b o,H b=some o→b≠p→H' b=some o)→H' p=some (.ins C dx (fT (.int (wd-z)) (.int z) pn .aw (.ref t)))→H' t=some (.lst [])→Q .aw H'
theorem Nz:aK ["self", "width", "z", "partner"] ["self", "width", "z", "partner"] (aB Fj):=⟨rfl,rfl,rfl,by decide+kernel,rfl,by decide+kernel,by decide+kernel⟩
theorem QH (T:Txt K mg A):az P w K mg base a9 1 A.mv A.o6 ["self", "width", "z", "partner"] (RP A.bL):=by
 refine T.JW.ok Nz (fun vs H Q E h=>?_) (fun cdv Ar outer s H vs Q E hr h=>?_)
 ·obtain ⟨p,dx,wd,z,pn,rfl,_⟩:=h
  rfl
 ·obtain ⟨p,dx,wd,z,pn,rfl,hp,k⟩:=h
  refine ⟨_,ai (bh (pv 0) (au du (pv 1) (pv 2)) rfl) (ai (bh (pv 0) (pv 2) rfl) (ai (bh (pv 0) (pv 3) rfl) (ai (bh (pv 0) jA rfl) (ak (bh (pv 0) (bZ af) rfl))))),?_⟩
  refine ⟨_,rfl,_,rfl,ag _ _ ⟨rfl,rfl,_,rfl,p,A.bL,dx, [],rfl,hp,T.cy,T.sC,(by show 0<1000;decide),?_⟩⟩
  refine ⟨_,rfl,_,rfl,aA p A.bL dx _ ⟨rfl,aj,T.cy,T.vL,(by show 1<1000;decide),?_⟩⟩
  refine ⟨_,rfl,_,rfl,aA p A.bL dx _ ⟨rfl,aj,T.cy,T.vp,(by show 2<1000;decide),?_⟩⟩
  refine ⟨_,rfl,aA p A.bL dx _ ⟨rfl,aj,T.cy,T.tu,(by show 3<1000;decide),?_⟩⟩
  rw[cB,cB,cB]
  refine ⟨by rw[sizeLine_eq];show 0≤_;lia,fun t ht=>?_⟩
  have htp:t≠p:=fun e=>by rw[e,aj] at ht;cases ht
  have ht0:H t=none:=by rw[aL htp] at ht;exact ht
  refine ⟨_,rfl,aA p A.bL dx _ ⟨rfl,(by rw[aL (Ne.symm htp)];exact aj),T.cy,T.lK,(by show 4<1000;decide),?_⟩⟩
  refine k t _ ht0 (fun b o e hb=>?_) aj ?_
  ·rw[aL hb,aL (cH e ht0),aL hb];exact e
  ·rw[aL htp];exact aj
theorem SI (a ys:List Int) (h:Nat) (hl:a.length≤ys.length):Sound.guess a h ys.reverse=uo a h ys ys.length:=Ig (Nat.le_refl _) hl (by rw[List.take_length])
def BM (K:PySem.W.Frag) (A:aW):Sp:=fun vs H Q E=> ∃(H0:Hp) (x dx t ga:Addr) (wd z n h:Nat) (pn:V) (ys a:List Int) (may:Nat→Int→Bool) (e:Int),vs= [.ref x, .int e]∧ae H0 H∧(H0 x=none∧H0 t=none)∧kf A.bL H x dx t wd z pn (.ref ga) ys∧ia K A.cz H0 ga a h∧(a.length≤ys.length∧Bd 2048 a)∧jy K A H0 pn n may∧(1≤wd∧wd≤25∧z≤25∧ys.length<n∧n≤256)∧
 (if (Sound.fits wd (Sound.guess a h ys.reverse+e)&&may ys.length ((Sound.guess a h ys.reverse+e)*2^z))=true then∀H',ae H0 H'→kf A.bL H' x dx t wd z pn (.ref ga) (ys++ [Sound.guess a h ys.reverse+e])→Q .aw H' else∀H',ae H0 H'→E (.ref A.fR) none H')
theorem GB:aK ["self", "rest"] ["self", "rest"] (aB Bq):=⟨rfl,rfl,rfl,by decide+kernel,rfl,by decide+kernel,by decide+kernel⟩
theorem BG (T:Txt K mg A):az P w K mg base (aY P w) 4 A.oM A.mT ["self", "rest"] (BM K A):=by
 refine T.Tj.bO GB (fun vs H Q E h=>?_) (fun cdv Ar outer s H vs Q E hr h=>?_)
 ·obtain ⟨H0,x,dx,t,ga,wd,z,n,h,pn,ys,a,may,e,rfl,_⟩:=h
  rfl
 ·obtain ⟨H0,x,dx,t,ga,wd,z,n,h,pn,ys,a,may,e,rfl,s0,hn0,hP,hG,⟨hal,hbd⟩,hM,hb,k⟩:=h
  have hr1':aE 1 _:=hr.mono (by decide)
  refine ⟨_,ak (ba (aU (pv 0) T.cy T.wR (vy T) hr T.xf .nil aN (aa (au bS (aU (ay (pv 0) rfl) T.qx T.Pz (Nu T) hr1' T.ND .nil aQ
   (aa (ay (pv 0) rfl) (aa (bX cx (by rfl) T.cj PySem.boot_len (aa (ay (pv 0) rfl) af)) af))) (pv 1)) af))),?_⟩
  obtain ⟨hx,ht,_⟩:=id hP
  have hG':=hG.same s0
  obtain ⟨dg,pg,hg,_⟩:=id hG'
  refine (aS rfl hx rfl (aD rfl hx T.cy T.tu rfl (mJ hg rfl (aD rfl hx T.cy T.lK rfl (aD rfl hx T.cy T.lK rfl (ag t _ ⟨rfl, .inl (ah.of ht),ga,t,a,ys,h,ys.length,?_,hG',ah.of ht,⟨hal,Nat.le_refl _⟩,hbd,_,rfl,ag _ _ ⟨rfl,rfl,?_⟩⟩))))))
  ·rw[List.length_map];rfl
  ·rw[SI a ys h hal] at k
   exact ⟨H0,x,dx,t,wd,z,n,pn, .ref ga,ys,may,_,rfl,s0,hn0,hP,hM,hb,k⟩
def Kd:Sp:=fun vs H Q _=> ∃n:Nat,vs= [.int n]∧Q (.int (Sound.unfold n)) H
theorem LO:aK ["folded"] ["folded"] (aB FD):=⟨rfl,rfl,rfl,by decide+kernel,rfl,by decide+kernel,by decide+kernel⟩
theorem Rr (T:Txt K mg A):az P w K mg base a9 1 A.qH A.qg ["folded"] Kd:=by
 refine T.CZ.ok LO (fun vs H Q E h=>?_) (fun cdv Ar outer s H vs Q E hr h=>?_)
 ·obtain ⟨n,rfl,_⟩:=h
  rfl
 ·obtain ⟨n,rfl,k⟩:=h
  refine ⟨_,ak (aX (lA (bc dA (au lj (pv 0) aq) aq (aZ _)) (au fk (pv 0) aq) (au du (fw fB (au fk (pv 0) aq)) aq))),?_⟩
  refine ⟨_,rfl,ag _ _ ⟨rfl,rfl,(by show (0:Int)<2;decide),rfl,_,rfl,?_⟩⟩
  have e1:((n:Nat):Int)/2^(1:Int).toNat=((n/2:Nat):Int):=by rw[show (2:Int)^(1:Int).toNat=2 by decide];lia
  unfold Sound.unfold at k
  refine bW (fun hc=>?_) fun hc=>?_
  ·have hc:=V.int.inj (of_decide_eq_true hc)
   rw[if_neg (by lia)] at k
   refine ⟨_,rfl,ag _ _ ⟨rfl,rfl,(by show (0:Int)≤1;decide),?_⟩⟩
   dsimp only
   rw[e1];exact k
  ·have hc: ¬((n:Nat):Int)%2=0:=fun z=>hc (decide_eq_true (show V.int (((n:Nat):Int)%2)=V.int 0 by rw[z]))
   rw[if_pos (by lia)] at k
   refine ⟨_,rfl,ag _ _ ⟨rfl,rfl,(by show (0:Int)≤1;decide),_,rfl,ag _ _ ⟨rfl,rfl,?_⟩⟩⟩
   dsimp only
   rw[e1]
   have e2: -((n/2:Nat):Int)-1= -(((n+1)/2:Nat):Int):=by lia
   rw[e2];exact k
def Cq (f:Nat→Nat→Nat):Sp:=fun vs H Q _=> ∃m d:Nat,vs= [.int m, .int d]∧Q (.int (f m d:Nat)) H
def km (m d:Nat):Nat:=if m=2 then d+1 else d
def jB (m d:Nat):Nat:=if m=1∨m=3 then d+1 else d
theorem PY:aK ["mode", "depth"] ["mode", "depth"] (aB BL):=⟨rfl,rfl,rfl,by decide+kernel,rfl,by decide+kernel,by decide+kernel⟩
theorem JL:aK ["mode", "depth"] ["mode", "depth"] (aB Ez):=⟨rfl,rfl,rfl,by decide+kernel,rfl,by decide+kernel,by decide+kernel⟩
theorem iZ (a b:Nat):decide (V.int ((a:Nat):Int)=V.int ((b:Nat):Int))=decide (a=b):=by
 by_cases h:a=b
 ·rw[h,decide_eq_true rfl,decide_eq_true rfl]
 ·rw[decide_eq_false h,decide_eq_false fun z=>h (by have:=V.int.inj z;lia)]
theorem O9 (T:Txt K mg A):az P w K mg base a9 1 A.rg A.pz ["mode", "depth"] (Cq km):=by
 refine T.Fp.ok PY (fun vs H Q E h=>?_) (fun cdv Ar outer s H vs Q E hr h=>?_)
 ·obtain ⟨m,d,rfl,_⟩:=h
  rfl
 ·obtain ⟨m,d,rfl,k⟩:=h
  refine ⟨_,ak (aX (lA (bc dA (pv 0) aq (aZ _)) (au bS (pv 1) aq) (pv 1))),?_⟩
  refine ⟨_,rfl,rfl,_,rfl,?_⟩
  unfold km at k
  have e:=iZ m 2
  refine bW (fun hc=>?_) fun hc=>?_
  ·have hc:m=2:=of_decide_eq_true (e.symm.trans hc)
   rw[if_pos hc] at k
   exact ⟨_,rfl,ag _ _ ⟨rfl,rfl,k⟩⟩
  ·rw[if_neg (fun z=>hc (e.trans (decide_eq_true z)))] at k
   exact ⟨_,rfl,k⟩
theorem QB (T:Txt K mg A):az P w K mg base a9 1 A.pU A.p7 ["mode", "depth"] (Cq jB):=by
 refine T.zT.ok JL (fun vs H Q E h=>?_) (fun cdv Ar outer s H vs Q E hr h=>?_)
 ·obtain ⟨m,d,rfl,_⟩:=h
  rfl
 ·obtain ⟨m,d,rfl,k⟩:=h
  refine ⟨_,ak (aX (lA (PW.pt (l9 (bc dA (pv 0) aq (aZ _)) (rl (bc dA (pv 0) aq (aZ _))))) (au bS (pv 1) aq) (pv 1))),?_⟩
  refine ⟨_,rfl,rfl,_,rfl,?_⟩
  unfold jB at k
  have e:=iZ m 1
  have e3:=iZ m 3
  refine bW (fun hc=>?_) fun hc=>?_
  ·have hc:m=1:=of_decide_eq_true (e.symm.trans hc)
   rw[if_pos (.inl hc)] at k
   exact bt ⟨_,rfl,ag _ _ ⟨rfl,rfl,k⟩⟩
  ·refine ⟨_,rfl,rfl,_,rfl,?_⟩
   have n1: ¬m=1:=fun z=>hc (e.trans (decide_eq_true z))
   refine bW (fun hc3=>?_) fun hc3=>?_
   ·have hc3:m=3:=of_decide_eq_true (e3.symm.trans hc3)
    rw[if_pos (.inr hc3)] at k
    exact ⟨_,rfl,ag _ _ ⟨rfl,rfl,k⟩⟩
   ·rw[if_neg (fun z=>z.elim n1 fun z=>hc3 (e3.trans (decide_eq_true z)))] at k
    exact ⟨_,rfl,k⟩
def Mz (K:PySem.W.Frag) (A:aW):Sp:=fun vs H Q E=> ∃(H0:Hp) (R:bH) (wd:Nat) (l:Sound.Bits),vs= [.ref R.r, .int wd]∧ae H0 H∧cI K H0 R∧bj A.aV H R l∧2≤wd∧
 bF A H0 R ((Sound.takeU 1 l).then_ fun (fl:Nat) (l:Sound.Bits)=>if fl=0 then Sound.Got.ok 0 l else (Sound.takeRun (wd-1) 0 l).then_ fun (q:Nat) (l:Sound.Bits)=> .ok (q+1) l) (fun x H'=>Q (.int (x:Nat)) H') E
theorem SR:aK ["reader", "width"] ["reader", "width"] (aB F2):=⟨rfl,rfl,rfl,by decide+kernel,rfl,by decide+kernel,by decide+kernel⟩
theorem MP (T:Txt K mg A):az P w K mg base (aY P w) 3 A.mZ A.qF ["reader", "width"] (Mz K A):=by
 refine T.BO.bO SR (fun vs H Q E h=>?_) (fun cdv Ar outer s H vs Q E hr h=>?_)
 ·obtain ⟨H0,R,wd,l,rfl,_⟩:=h
  rfl
 ·obtain ⟨H0,R,wd,l,rfl,s0,hI,hS,hw,k⟩:=h
  have hr1':aE 1 _:=hr.mono (by decide)
  refine ⟨_,ai (bg (bc dA (aU (pv 0) T.bR T.eA (eF T) hr1' T.eC .nil aN (aa aq af)) aq (aZ _)) (ak (aX aq)) br)
   (ak (aX (au bS (aU (pv 0) T.bR T.yQ (EM T) hr T.En .nil aN (aa (au du (pv 1) aq) af)) aq))),?_⟩
  obtain ⟨p,hx⟩:=hS.obj
  refine (aS rfl hx rfl (aA H0 R 1 l ⟨rfl,s0,hI,hS,by decide,k.seq fun fl l1 H1 _ s1 st1 k1=>?_⟩))
  refine ⟨rfl,_,rfl,?_⟩
  have e:=iZ fl 0
  refine bW (fun hc=>?_) fun hc=>?_
  ·have hc:fl=0:=of_decide_eq_true (e.symm.trans hc)
   rw[if_pos hc] at k1
   exact k1 H1 s1 st1
  ·rw[if_neg (fun z=>hc (e.trans (decide_eq_true z)))] at k1
   obtain ⟨p1,hx1⟩:=st1.obj
   refine (aS rfl hx1 rfl ⟨_,rfl,ag _ _ ⟨rfl,rfl,H0,R,wd-2,l1,?_,s1,hI,st1,?_⟩⟩)
   ·show [V.ref R.r,V.int (((wd:Nat):Int)-2)]=_
    rw[show ((wd:Nat):Int)-2=((wd-2:Nat):Int) by lia]
   ·rw[show wd-2+1=wd-1 by lia]
    refine k1.seq fun q l2 H2 _ s2 st2 k2=>?_
    refine (ag _ _ ⟨rfl,rfl,?_⟩)
    have k3:Q (.int ((q+1:Nat):Int)) H2:=k2 H2 s2 st2
    rw[show ((q+1:Nat):Int)=((q:Nat):Int)+1 by lia] at k3
    exact k3
theorem then_assoc {α β γ:Type} (g:Sound.Got α) (f:α→Sound.Bits→Sound.Got β) (k:β→Sound.Bits→Sound.Got γ):(g.then_ f).then_ k=g.then_ fun x l=>(f x l).then_ k:=by
 cases g<;>rfl
structure dD where
 x:Addr
 dx:Addr
 t:Addr
 wd:Nat
 z:Nat
 n:Nat
 pn:V
 may:Nat→Int→Bool
def fA (K:PySem.W.Frag) (A:aW) (H0:Hp) (p:dD):Prop:=(H0 p.x=none∧H0 p.t=none)∧jy K A H0 p.pn p.n p.may∧(1≤p.wd∧p.wd≤25∧p.z≤25∧p.n≤256)
abbrev bI (A:aW) (H:Hp) (p:dD) (g:V) (ys:List Int):Prop:=kf A.bL H p.x p.dx p.t p.wd p.z p.pn g ys
theorem qK {H:Hp} {R:bH} {l:Sound.Bits} {p:dD} {g:V} {ys:List Int} (h:bj A.aV H R l) (q:bI A H p g ys):R.r∉ [p.x,p.t]:=fun z=>by
 obtain ⟨i,hx⟩:=h.obj
 rcases List.mem_cons.mp z with z|z
 ·rw[z,q.1] at hx
  injection hx with hx
  injection hx with _ _ hx
  exact absurd (congrArg List.length hx) (by show¬5=2;decide)
 ·rcases List.mem_cons.mp z with z|z
  ·rw[z,q.2.1] at hx;cases hx
  ·cases z
theorem fA.aC {H0 H:Hp} {p:dD} (h:fA K A H0 p) (s:ae H0 H):ae H0 (Wg.aC [p.x,p.t] H)∧fA K A (Wg.aC [p.x,p.t] H) p:=by
 have s1:ae H0 (Wg.aC [p.x,p.t] H):=s.aC fun b hb=>by
  rcases List.mem_cons.mp hb with rfl|hb
  ·exact h.1.1
  ·rcases List.mem_cons.mp hb with rfl|hb
   ·exact h.1.2
   ·cases hb
 exact ⟨s1,⟨gz (by simp),gz (by simp)⟩,h.2.1.same s1,h.2.2⟩
theorem bj.aC {H H':Hp} {R:bH} {l:Sound.Bits} {p:dD} {g:V} {ys:List Int} (h:bj A.aV H R l) (q:bI A H p g ys) (s:ae (Wg.aC [p.x,p.t] H) H'):bj A.aV H' R l:=by
 have n:=qK h q
 obtain ⟨i,e,hi,hx⟩:=h
 exact ⟨i,e,hi,s _ _ (by rw[cU n];exact hx)⟩
def gL (x z:Nat) (may:Nat→Int→Bool) (acc:List Int) (l:Sound.Bits):Sound.Got Int:=(Sound.takeS x l).then_ fun (y:Int) (l:Sound.Bits)=>Sound.judged x z may acc.length y l
def ig (w z:Nat) (may:Nat→Int→Bool) (a:List Int) (h g v:Nat) (acc:List Int) (l:Sound.Bits):Sound.Got Int:=(Sound.takeRest g v l).then_ fun (e:Int) (l:Sound.Bits)=>Sound.judged w z may acc.length (Sound.guess a h acc+e) l
def iK (w z:Nat) (may:Nat→Int→Bool) (a:List Int) (h cnt:Nat) (ys:List Int) (l:Sound.Bits):Sound.Got (List Int):=(Sound.takeU 5 l).then_ fun (g:Nat) (l:Sound.Bits)=>
 if g=31 then (Sound.takeU 6 l).then_ fun (v:Nat) (l:Sound.Bits)=>if 40<v then .bad else Sound.takeMany (ig w z may a h g v) cnt ys l else Sound.takeMany (ig w z may a h g 0) cnt ys l
theorem lE {α:Type} (one:List α→Sound.Bits→Sound.Got α) (n:Nat) (acc:List α) (l:Sound.Bits):Sound.takeMany one (n+1) acc l=(one acc l).then_ fun (x:α) (r:Sound.Bits)=>Sound.takeMany one n (x::acc) r:=rfl
def nc (K:PySem.W.Frag) (A:aW) (H0:Hp) (R:bH) (p:dD) (gv:V) (m0 cnt:Nat) (one:List Int→Sound.Bits→Sound.Got Int) (Qf:List Int→Hp→Prop) (E:XK) (i:Nat) (H':Hp):Prop:= ∃(ys:List Int) (l:Sound.Bits),ae H0 H'∧bj A.aV H' R l∧bI A H' p gv ys∧ys.length=m0+i∧bF A H0 R (Sound.takeMany one (cnt-i) ys.reverse l) Qf E
theorem BH (w z:Nat) (may:Nat→Int→Bool) (n:Nat) (y:Int) (l:Sound.Bits) {β:Type} (k:Int→Sound.Bits→Sound.Got β):(Sound.judged w z may n y l).then_ k=if (Sound.fits w y&&may n (y*2^z))=true then k y l else .bad:=by
 unfold Sound.judged
 split<;>rfl
def Ia (K:PySem.W.Frag) (A:aW):Sp:=fun vs H Q E=> ∃(H0:Hp) (R:bH) (p:dD) (gv:V) (cnt:Nat) (ys:List Int) (l:Sound.Bits),vs= [.ref R.r, .int cnt, .ref p.x]∧ae H0 H∧cI K H0 R∧fA K A H0 p∧bj A.aV H R l∧bI A H p gv ys∧ys.length+cnt≤p.n∧
 bF A H0 R (Sound.takeMany (gL p.wd p.z p.may) cnt ys.reverse l) (fun acc H'=>bI A H' p gv acc.reverse→Q .aw H') E
theorem AR:aK ["reader", "count", "part", "place"] ["reader", "count", "part"] (aB zp):=⟨rfl,rfl,rfl,by decide+kernel,rfl,by decide+kernel,by decide+kernel⟩
theorem vz {H0 H':Hp} {R:bH} {p:dD} {gv:V} {m0 cnt:Nat} {one:List Int→Sound.Bits→Sound.Got Int} {Q:Hp→Prop} {E:XK} (h:nc K A H0 R p gv m0 cnt one (fun acc H'=>bI A H' p gv acc.reverse→Q H') E cnt H'):Q H':=by
 obtain ⟨ys,l,s1,st,hP,hl,k⟩:=h
 rw[Nat.sub_self] at k
 have k:bI A H' p gv ys.reverse.reverse→Q H':=k H' s1 st
 rw[List.reverse_reverse] at k
 exact k hP
theorem ED (T:Txt K mg A):az P w K mg base (aY P w) 4 A.mH A.mh ["reader", "count", "part"] (Ia K A):=by
 refine T.xE.bO AR (fun vs H Q E h=>?_) (fun cdv Ar outer s H vs Q E hr h=>?_)
 ·obtain ⟨H0,R,p,gv,cnt,ys,l,rfl,_⟩:=h
  rfl
 ·obtain ⟨H0,R,p,gv,cnt,ys,l,rfl,s0,hI,hp,hS,hP,hc,k⟩:=h
  have hr2':aE 2 _:=hr.mono (by decide)
  refine ⟨_,ak (cw PassesOwn.leaving rfl (fu rfl T.dU (aa (pv 1) af)) (bq (i:=3) AR.nd rfl (Or.inl rfl))
   (ak (ba (aU (pv 2) T.cy T.wR (vy T) hr T.xf .nil aN (aa (aU (pv 0) T.bR T.rK (so T) hr2' T.uA .nil aN (aa (ay (pv 2) rfl) af)) af))))),?_⟩
  have hnn:=hp.2.2
  have e62:(2:Int)^62=4611686018427387904:=by decide
  refine ⟨_,rfl,((cnt:Nat):Int),rfl,by lia,by lia,?_⟩
  rw[Int.toNat_natCast]
  refine fM (lo:=0) (n:=cnt) (fun i σ H'=>nc K A H0 R p gv ys.length cnt (gL p.wd p.z p.may) (fun acc H'=>bI A H' p gv acc.reverse→Q .aw H') E i H'∧ ∃v3:Option V,σ= [some (.ref R.r),some (.int (cnt:Nat)),some (.ref p.x),v3]) ⟨⟨ys,l,s0,hS,hP,rfl,k⟩,none,rfl⟩ ?_ ?_
  ·rintro i σ H1 hi ⟨⟨ys1,l1,s1,st1,hP1,hl1,k1⟩,v3,rfl⟩
   obtain ⟨px,hx⟩:=st1.obj
   rw[show cnt-i=(cnt-(i+1))+1 by lia,lE,gL,then_assoc] at k1
   refine (aS rfl hP1.1 rfl (aS rfl hx rfl (aD rfl hP1.1 T.cy T.sC rfl ⟨Wg.aC [R.r] H1,R,p.wd,l1,rfl,bT _ _,?_,st1,by lia,?_⟩)))
   ·exact hI.same (s1.aC fun b hb=>by rw[List.mem_singleton.mp hb];exact hI.2.1) (gz (by simp))
   have sh:ae H0 (Wg.aC [R.r] H1):=s1.aC fun b hb=>by rw[List.mem_singleton.mp hb];exact hI.2.1
   refine k1.cV sh fun y l2 H2 _ s2 st2 k2=>?_
   have n1:=qK st1 hP1
   have hP2:bI A H2 p gv ys1:=⟨s2 _ _ (by rw[cU (fun z=>n1 (by rw[←List.mem_singleton.mp z];simp))];exact hP1.1),s2 _ _ (by rw[cU (fun z=>n1 (by rw[←List.mem_singleton.mp z];simp))];exact hP1.2.1),hP1.2.2⟩
   have s02:=sh.trans s2
   obtain ⟨s3,hp3⟩:=hp.aC s02
   rw[BH] at k2
   refine ⟨Wg.aC [p.x,p.t] H2,p.x,p.dx,p.t,p.wd,p.z,p.n,p.pn,gv,ys1,p.may,y,rfl,bT _ _,hp3.1,hP2,hp3.2.1,⟨hnn.1,hnn.2.1,hnn.2.2.1,by lia,hnn.2.2.2⟩,?_⟩
   rw[List.length_reverse] at k2
   by_cases hj:(Sound.fits p.wd y&&p.may ys1.length (y*2^p.z))=true
   ·rw[if_pos hj] at k2⊢
    refine fun H3 s4 hP3=>⟨⟨ys1++ [y],l2,s3.trans s4,st2.aC hP2 s4,hP3,by rw[List.length_append,hl1];rfl,?_⟩,some (.int (0+(i:Nat))),rfl⟩
    rw[List.reverse_append]
    exact k2
   ·rw[if_neg hj] at k2⊢
    exact fun H3 s4=>k2 H3 (s3.trans s4)
  ·rintro σ H1 ⟨hm,v3,rfl⟩
   exact vz hm
theorem Pg (v:Nat) (l:Sound.Bits):Sound.takeRest 31 v l=Sound.takeS v l:=by
 unfold Sound.takeRest
 rw[if_pos rfl]
 by_cases h:v=0
 ·subst h
  rw[if_pos rfl]
  unfold Sound.takeS
  rw[if_neg (fun z=>by have:=(kc _ _).mp z;lia)]
  rfl
 ·rw[if_neg h]
theorem yU {H0 H2:Hp} {R:bH} {p:dD} {ga:Addr} {a ys1:List Int} {h m0 cnt i:Nat} {l2:Sound.Bits} {one:List Int→Sound.Bits→Sound.Got Int} {Qf:List Int→Hp→Prop} {Qn:Hp→Prop} {E:XK} {e:Int} (hp:fA K A H0 p) (hG:ia K A.cz H0 ga a h) (hbd:Bd 2048 a) (hal:a.length≤ys1.length)
  (s2:ae H0 H2) (st2:bj A.aV H2 R l2) (hP2:bI A H2 p (.ref ga) ys1) (hl1:ys1.length=m0+i) (hn:ys1.length<p.n) (k2:bF A H0 R ((Sound.judged p.wd p.z p.may ys1.reverse.length (Sound.guess a h ys1.reverse+e) l2).then_ fun (x:Int) (r:Sound.Bits)=>Sound.takeMany one (cnt-(i+1)) (x::ys1.reverse) r) Qf E)
  (fin: ∀H3,nc K A H0 R p (.ref ga) m0 cnt one Qf E (i+1) H3→Qn H3):BM K A [.ref p.x, .int e] H2 (fun v H3=>Qn H3) E:=by
 obtain ⟨s3,hp3⟩:=hp.aC s2
 have hnn:=hp.2.2
 rw[BH,List.length_reverse] at k2
 refine ⟨Wg.aC [p.x,p.t] H2,p.x,p.dx,p.t,ga,p.wd,p.z,p.n,h,p.pn,ys1,a,p.may,e,rfl,bT _ _,hp3.1,hP2,hG.same s3,⟨hal,hbd⟩,hp3.2.1,⟨hnn.1,hnn.2.1,hnn.2.2.1,hn,hnn.2.2.2⟩,?_⟩
 by_cases hj:(Sound.fits p.wd (Sound.guess a h ys1.reverse+e)&&p.may ys1.length ((Sound.guess a h ys1.reverse+e)*2^p.z))=true
 ·rw[if_pos hj] at k2⊢
  refine fun H3 s4 hP3=>fin H3 ⟨ys1++ [Sound.guess a h ys1.reverse+e],l2,s3.trans s4,st2.aC hP2 s4,hP3,by rw[List.length_append,hl1];rfl,?_⟩
  rw[List.reverse_append]
  exact k2
 ·rw[if_neg hj] at k2⊢
  exact fun H3 s4=>k2 H3 (s3.trans s4)
def yt (K:PySem.W.Frag) (A:aW) (H0:Hp) (ga:Addr) (a:List Int) (h:Nat) (m:Nat):Prop:=ia K A.cz H0 ga a h∧Bd 2048 a∧a.length≤m
def IB (K:PySem.W.Frag) (A:aW):Sp:=fun vs H Q E=> ∃(H0:Hp) (R:bH) (p:dD) (ga:Addr) (a:List Int) (h cnt:Nat) (ys:List Int) (l:Sound.Bits),vs= [.ref R.r, .int cnt, .ref p.x]∧ae H0 H∧cI K H0 R∧fA K A H0 p∧yt K A H0 ga a h ys.length∧bj A.aV H R l∧bI A H p (.ref ga) ys∧ys.length+cnt≤p.n∧
 bF A H0 R ((Sound.takeU 6 l).then_ fun (v:Nat) (l:Sound.Bits)=>if 40<v then .bad else Sound.takeMany (ig p.wd p.z p.may a h 31 v) cnt ys.reverse l) (fun acc H'=>bI A H' p (.ref ga) acc.reverse→Q .aw H') E
theorem xJ:aK ["reader", "count", "part", "v", "place"] ["reader", "count", "part"] (aB Bp):=⟨rfl,rfl,rfl,by decide+kernel,rfl,by decide+kernel,by decide+kernel⟩
theorem cI.aC {H0 H:Hp} {R:bH} (h:cI K H0 R) (s:ae H0 H):ae H0 (Wg.aC [R.r] H)∧cI K (Wg.aC [R.r] H) R:=by
 have s1:ae H0 (Wg.aC [R.r] H):=s.aC fun b hb=>by rw[List.mem_singleton.mp hb];exact h.2.1
 exact ⟨s1,h.same s1 (gz (by simp))⟩
theorem gP {H H':Hp} {R:bH} {l:Sound.Bits} {p:dD} {g:V} {ys:List Int} (st:bj A.aV H R l) (q:bI A H p g ys) (s:ae (Wg.aC [R.r] H) H'):bI A H' p g ys:=by
 have n1:=qK st q
 exact ⟨s _ _ (by rw[cU (fun z=>n1 (by rw[←List.mem_singleton.mp z];simp))];exact q.1),s _ _ (by rw[cU (fun z=>n1 (by rw[←List.mem_singleton.mp z];simp))];exact q.2.1),q.2.2⟩
theorem Nk (T:Txt K mg A):az P w K mg base (aY P w) 5 A.qf A.pw ["reader", "count", "part"] (IB K A):=by
 refine T.zI.bO xJ (fun vs H Q E h=>?_) (fun cdv Ar outer s H vs Q E hr h=>?_)
 ·obtain ⟨H0,R,p,ga,a,h,cnt,ys,l,rfl,_⟩:=h
  rfl
 ·obtain ⟨H0,R,p,ga,a,h,cnt,ys,l,rfl,s0,hI,hp,⟨hG,hbd,hal⟩,hS,hP,hc,k⟩:=h
  have hr1':aE 1 _:=hr.mono (by decide)
  have hr2':aE 2 _:=hr.mono (by decide)
  refine ⟨_,ai (aJ (i:=3) xJ.nd rfl (Or.inl rfl) (aU (pv 0) T.bR T.eA (eF T) hr1' T.eC .nil aN (aa aq af)))
   (ai (bg (bc dF (pv 3) (aR rfl T.Nb) (aZ _)) (ak (d8 rfl rfl T.fg T.eY.exc eE)) br)
   (ak (cw PassesOwn.leaving rfl (fu rfl T.dU (aa (pv 1) af)) (bq (i:=4) xJ.nd rfl (Or.inl rfl))
    (ak (ba (aU (pv 2) T.cy T.AQ (BG T) hr T.AE .nil aN (aa (aU (pv 0) T.bR T.rK (so T) hr2' T.uA .nil aN (aa (pv 3) af)) af))))))),?_⟩
  have hnn:=hp.2.2
  have e62:(2:Int)^62=4611686018427387904:=by decide
  obtain ⟨px,hx⟩:=hS.obj
  obtain ⟨sh,hIh⟩:=hI.aC s0
  refine (aS rfl hx rfl ⟨Wg.aC [R.r] H,bE R 6 l ⟨rfl,bT _ _,hIh,hS,by decide,k.cV sh fun v l1 H1 _ s1 st1 k1=>?_⟩⟩)
  have hP1:=gP hS hP s1
  have s01:=sh.trans s1
  refine ⟨_,rfl,ag _ _ ⟨rfl,rfl,_,rfl,?_⟩⟩
  refine bW (fun hc=>?_) fun hc40=>?_
  ·have hc:(40:Int)<((v:Nat):Int):=of_decide_eq_true hc
   rw[if_pos (by lia)] at k1
   exact k1 H1 s01
  ·have hc40: ¬(40:Int)<((v:Nat):Int):=fun z=>hc40 (decide_eq_true z)
   rw[if_neg (by lia)] at k1
   refine ⟨_,rfl,((cnt:Nat):Int),rfl,by lia,by lia,?_⟩
   rw[Int.toNat_natCast]
   refine fM (lo:=0) (n:=cnt) (fun i σ H'=>nc K A H0 R p (.ref ga) ys.length cnt (ig p.wd p.z p.may a h 31 v) (fun acc H'=>bI A H' p (.ref ga) acc.reverse→Q .aw H') E i H'∧ ∃v4:Option V,σ= [some (.ref R.r),some (.int (cnt:Nat)),some (.ref p.x),some (.int (v:Nat)),v4]) ⟨⟨ys,l1,s01,st1,hP1,rfl,k1⟩,none,rfl⟩ ?_ ?_
   ·rintro i σ H2 hi ⟨⟨ys1,l2,s2,st2,hP2,hl2,k2⟩,v4,rfl⟩
    obtain ⟨px2,hx2⟩:=st2.obj
    rw[show cnt-i=(cnt-(i+1))+1 by lia,lE,ig,then_assoc,Pg] at k2
    obtain ⟨sh2,hIh2⟩:=hI.aC s2
    refine (aS rfl hP2.1 rfl (aS rfl hx2 rfl ⟨_,rfl,Wg.aC [R.r] H2,bE R v l2 ⟨rfl,bT _ _,hIh2,st2,by lia,k2.cV sh2 fun e l3 H3 _ s3 st3 k3=>?_⟩⟩))
    exact yU hp hG hbd (by lia) (sh2.trans s3) st3 (gP st2 hP2 s3) hl2 (by lia) k3 fun H4 hm=>⟨hm,some (.int (0+(i:Nat))),rfl⟩
   ·rintro σ H2 ⟨hm,v4,rfl⟩
    exact vz hm
def LQ (K:PySem.W.Frag) (A:aW):Sp:=fun vs H Q E=> ∃(H0:Hp) (R:bH) (p:dD) (ga:Addr) (a:List Int) (h cnt:Nat) (ys:List Int) (l:Sound.Bits),vs= [.ref R.r, .int cnt, .ref p.x]∧ae H0 H∧cI K H0 R∧fA K A H0 p∧yt K A H0 ga a h ys.length∧bj A.aV H R l∧bI A H p (.ref ga) ys∧ys.length+cnt≤p.n∧
 bF A H0 R (iK p.wd p.z p.may a h cnt ys.reverse l) (fun acc H'=>bI A H' p (.ref ga) acc.reverse→Q .aw H') E
theorem tO:aK ["reader", "count", "part", "g", "place", "run"] ["reader", "count", "part"] (aB B6):=⟨rfl,rfl,rfl,by decide+kernel,rfl,by decide+kernel,by decide+kernel⟩
theorem kR {n:Nat} {l:Sound.Bits} {x:Nat} {r:Sound.Bits} (h:Sound.takeU n l= .ok x r):x<2^n:=by
 unfold Sound.takeU at h
 split at h
 ·cases h
 ·cases h
  have:=kz (l.take n)
  exact Nat.lt_of_lt_of_le this (Nat.pow_le_pow_right (by decide) (by rw[List.length_take];lia))
theorem ON {g:Nat} (h:g<31):1099511627775/2^g+1=Sound.GREAT/2^g:=by
 have: ∀g:Nat,g<31→1099511627775/2^g+1=Sound.GREAT/2^g:=by decide
 exact this g h
theorem yH {m:Nat}: ∀{l:Sound.Bits} {q x:Nat} {r:Sound.Bits},Sound.takeRun m q l= .ok x r→x≤q+l.length
 | [],q,x,r,h=>by unfold Sound.takeRun at h;cases h
 |true::l,q,x,r,h=>by unfold Sound.takeRun at h;cases h;lia
 |false::l,q,x,r,h=>by
  have e:Sound.takeRun m q (false::l)=if m≤q+1 then .bad else Sound.takeRun m (q+1) l:=rfl
  rw[e] at h
  split at h
  ·cases h
  ·have:=yH h
   rw[List.length_cons];lia
theorem bj.len {H:Hp} {R:bH} {l:Sound.Bits} (h:bj A.aV H R l) (hI:R.B.length≤4096):l.length≤32768:=by
 obtain ⟨i,rfl,_⟩:=h
 rw[List.length_drop,jH];lia
theorem MK (T:Txt K mg A):az P w K mg base (aY P w) 6 A.mR A.mm ["reader", "count", "part"] (LQ K A):=by
 refine T.CG.bO tO (fun vs H Q E h=>?_) (fun cdv Ar outer s H vs Q E hr h=>?_)
 ·obtain ⟨H0,R,p,ga,a,h,cnt,ys,l,rfl,_⟩:=h
  rfl
 ·obtain ⟨H0,R,p,ga,a,h,cnt,ys,l,rfl,s0,hI,hp,hGs,hS,hP,hc,k⟩:=h
  obtain ⟨hG,hbd,hal⟩:=id hGs
  have hr1':aE 1 _:=hr.mono (by decide)
  have hr2':aE 2 _:=hr.mono (by decide)
  have hr4':aE 4 _:=hr.mono (by decide)
  refine ⟨_,ai (aJ (i:=3) tO.nd rfl (Or.inl rfl) (aU (pv 0) T.bR T.eA (eF T) hr1' T.eC .nil aN (aa aq af)))
   (ai (bg (bc dA (pv 3) (aR rfl T.Og) (aZ _)) (ai (ba (aP (Nk T) hr rfl T.Kp T.zI.kp T.OB .nil aN (aa (pv 0) (aa (pv 1) (aa (pv 2) af))))) (ak QR)) br)
   (ak (cw PassesOwn.leaving rfl (fu rfl T.dU (aa (pv 1) af)) (bq (i:=4) tO.nd rfl (Or.inl rfl))
    (ai (aJ (i:=5) tO.nd rfl (Or.inl rfl) (aU (pv 0) T.bR T.yQ (EM T) hr2' T.En .nil aN (aa (au fk (aR rfl T.Mn) (pv 3)) af)))
    (ak (ba (aU (pv 2) T.cy T.AQ (BG T) hr4' T.AE .nil aN (aa (aP (Rr T) hr1' rfl T.LN T.CZ.kp T.Me .nil aQ
     (aa (au bS (au jY (pv 5) (pv 3)) (aU (pv 0) T.bR T.eA (eF T) hr1' T.eC .nil aN (aa (pv 3) af))) af)) af)))))))),?_⟩
  have hnn:=hp.2.2
  have e62:(2:Int)^62=4611686018427387904:=by decide
  obtain ⟨px,hx⟩:=hS.obj
  obtain ⟨sh,hIh⟩:=hI.aC s0
  unfold iK at k
  refine (aS rfl hx rfl ⟨Wg.aC [R.r] H,bE R 5 l ⟨rfl,bT _ _,hIh,hS,by decide,k.cV sh fun g l1 H1 eg s1 st1 k1=>?_⟩⟩)
  have hP1:=gP hS hP s1
  have s01:=sh.trans s1
  have hg32:g<32:=kR eg
  refine ⟨_,rfl,rfl,_,rfl,?_⟩
  have e31:=iZ g 31
  refine bW (fun hc=>?_) fun hc31=>?_
  ·have hc:g=31:=of_decide_eq_true (e31.symm.trans hc)
   subst hc
   rw[if_pos rfl] at k1
   exact ⟨_,rfl,_,rfl,_,rfl,wO H0 R p ga a h cnt ys l1 ⟨rfl,s01,hI,hp,hGs,st1,hP1,by lia,k1⟩⟩
  ·have hne:g≠31:=fun z=>hc31 (e31.trans (decide_eq_true z))
   rw[if_neg hne] at k1
   refine ⟨_,rfl,((cnt:Nat):Int),rfl,by lia,by lia,?_⟩
   rw[Int.toNat_natCast]
   refine fM (lo:=0) (n:=cnt) (fun i σ H'=>nc K A H0 R p (.ref ga) ys.length cnt (ig p.wd p.z p.may a h g 0) (fun acc H'=>bI A H' p (.ref ga) acc.reverse→Q .aw H') E i H'∧ ∃v4 v5:Option V,σ= [some (.ref R.r),some (.int (cnt:Nat)),some (.ref p.x),some (.int (g:Nat)),v4,v5]) ⟨⟨ys,l1,s01,st1,hP1,rfl,k1⟩,none,none,rfl⟩ ?_ ?_
   ·rintro i σ H2 hi ⟨⟨ys1,l2,s2,st2,hP2,hl2,k2⟩,v4,v5,rfl⟩
    obtain ⟨px2,hx2⟩:=st2.obj
    have er:Sound.takeRest g 0 l2=(Sound.takeRun (Sound.GREAT/2^g) 0 l2).then_ fun (q:Nat) (r:Sound.Bits)=>(Sound.takeU g r).then_ fun (x:Nat) (r:Sound.Bits)=> .ok (Sound.unfold (q*2^g+x)) r:=by
     unfold Sound.takeRest;rw[if_neg hne]
    rw[show cnt-i=(cnt-(i+1))+1 by lia,lE,ig,then_assoc,er,then_assoc] at k2
    obtain ⟨sh2,hIh2⟩:=hI.aC s2
    refine (aS rfl hx2 rfl ⟨_,rfl,ag _ _ ⟨rfl,rfl,(by lia),Wg.aC [R.r] H2,R,1099511627775/2^g,l2,?_,bT _ _,hIh2,st2,?_⟩⟩)
    ·show [V.ref R.r,V.int ((1099511627775:Int)/2^((g:Nat):Int).toNat)]=_
     rw[Int.toNat_natCast];rfl
    rw[ON (by lia)]
    refine k2.cV sh2 fun q l3 H3 eq s3 st3 k3=>?_
    have hql:=yH eq
    have hl2l:=st2.len hI.2.2
    rw[then_assoc] at k3
    have hP3:=gP st2 hP2 s3
    have s03:=sh2.trans s3
    obtain ⟨px3,hx3⟩:=st3.obj
    obtain ⟨sh3,hIh3⟩:=hI.aC s03
    have e64:(2:Nat)^64=18446744073709551616:=by decide
    refine (aS rfl hP3.1 rfl ⟨_,rfl,_,rfl,ag _ _ ⟨rfl,rfl,⟨by lia,by lia,by rw[Int.natAbs_natCast];lia⟩,aS rfl hx3 rfl ⟨_,rfl,Wg.aC [R.r] H3,bE R g l3 ⟨rfl,bT _ _,hIh3,st3,by lia,k3.cV sh3 fun x l4 H4 _ s4 st4 k4=>?_⟩⟩⟩⟩)
    refine (ag _ _ ⟨rfl,rfl,q*2^g+x,?_,?_⟩)
    ·show [V.int (((q:Nat):Int)*2^((g:Nat):Int).toNat+((x:Nat):Int))]=_
     rw[Int.toNat_natCast]
     simp
    ·exact yU hp hG hbd (by lia) (sh3.trans s4) st4 (gP st3 hP3 s4) hl2 (by lia) k4 fun H5 hm=>⟨hm,some (.int (0+(i:Nat))),some (.int (q:Nat)),rfl⟩
   ·rintro σ H2 ⟨hm,v4,v5,rfl⟩
    exact vz hm
theorem EX {J:It} {H1:Hp} {D:Addr} {σ:L2.St} {vs:List Nat} {g:TG} {te:TE} {Qf:Hp→Prop} (n:Nat) (hn:n≤sizeLine) (Pv:Nat→List V→Hp→Prop) (h0:Pv 0 [] (upd H1 D (.lst [])))
  (hgo: ∀i acc H,i<n→Pv i acc H→J.go i H) (hstop: ∀acc H,Pv n acc H→J.stop n H)
  (turn: ∀i acc H x H',i<n→Pv i acc H→H D=some (.lst acc)→acc.length=i→J.eI i H x H'→ ∀C:VK,(∀y H4,H4 D=some (.lst acc)→Pv (i+1) (acc++ [y]) (upd H4 D (.lst (acc++ [y])))→C y H4)→g x (wipe σ vs) H' fun σ2 H2=>wipe σ2 vs=wipe σ vs∧te σ2 H2 C)
  (fin: ∀acc H,Pv n acc H→H D=some (.lst acc)→acc.length=n→Qf H):
  ∃W:Nat→Nat→Hp→Prop,(∃m,W 0 m (upd H1 D (.lst [])))∧ ∀i m H,W i m H→
   (J.stop i H∧Qf H)∨(J.go i H∧ ∃Nx:Hp→Prop,(∀H',Nx H'→ ∃m',m'<m∧W (i+1) m' H')∧ ∀x H',J.eI i H x H'→g x (wipe σ vs) H' fun σ2 H2=>wipe σ2 vs=wipe σ vs∧mj σ2 H2 fun b H3=>
    if b=true then te σ2 H3 fun y H4=> ∃acc,H4 D=some (.lst acc)∧acc.length<sizeLine∧Nx (upd H4 D (.lst (acc++ [y]))) else Nx H3):=by
 refine ⟨fun i m H=>i+m=n∧ ∃acc,Pv i acc H∧H D=some (.lst acc)∧acc.length=i,⟨n,by lia, [],h0,aj,rfl⟩,?_⟩
 rintro i m H ⟨hm,acc,hp,hD,hl⟩
 by_cases hi:i=n
 ·subst hi
  exact .inl ⟨hstop acc H hp,fin acc H hp hD hl⟩
 ·refine .inr ⟨hgo i acc H (by lia) hp,fun H'=> ∃acc',Pv (i+1) acc' H'∧H' D=some (.lst acc')∧acc'.length=i+1,fun H' h=>⟨m-1,by lia,by lia,h⟩,fun x H' hy=>?_⟩
  refine turn i acc H x H' (by lia) hp hD hl hy _ fun y H4 hD4 hp4=>⟨acc,hD4,by lia,acc++ [y],hp4,aj,by rw[List.length_append,hl];rfl⟩
theorem gs {α:Type} {one:List α→Sound.Bits→Sound.Got α}: ∀{n:Nat} {acc xs:List α} {l r:Sound.Bits},Sound.takeMany one n acc l= .ok xs r→xs.length=acc.length+n
 |0,acc,xs,l,r,h=>by unfold Sound.takeMany at h;cases h;rfl
 |n+1,acc,xs,l,r,h=>by
  rw[lE] at h
  cases e:one acc l with
  |ok x l'=>
   rw[e] at h
   have:=gs (show Sound.takeMany one n (x::acc) l'= .ok xs r from h)
   rw[this,List.length_cons];lia
  |bad=>rw[e] at h;cases h
  |short=>rw[e] at h;cases h
theorem uf {w z:Nat} {may:Nat→Int→Bool} {a:List Int} {h cnt:Nat} {ys xs:List Int} {l r:Sound.Bits} (e:iK w z may a h cnt ys l= .ok xs r):xs.length=ys.length+cnt:=by
 unfold iK at e
 cases e1:Sound.takeU 5 l with
 |ok g l1=>
  rw[e1] at e
  have e:(if g=31 then (Sound.takeU 6 l1).then_ fun (v:Nat) (l:Sound.Bits)=>if 40<v then .bad else Sound.takeMany (ig w z may a h g v) cnt ys l else Sound.takeMany (ig w z may a h g 0) cnt ys l1)= .ok xs r:=e
  split at e
  ·cases e2:Sound.takeU 6 l1 with
   |ok v l2=>
    rw[e2] at e
    have e:(if 40<v then .bad else Sound.takeMany (ig w z may a h g v) cnt ys l2)= .ok xs r:=e
    split at e
    ·cases e
    ·exact gs e
   |bad=>rw[e2] at e;cases e
   |short=>rw[e2] at e;cases e
  ·exact gs e
 |bad=>rw[e1] at e;cases e
 |short=>rw[e1] at e;cases e
theorem rZ (w z n p r:Nat) (a:List Int) (h:Nat) (may:Nat→Int→Bool) (k i:Nat) (ys:List Int) (l:Sound.Bits):Sound.takeGroups w z n p r a h may (k+1) i ys l=(iK w z may a h (n/2^r-(if i=0 then p else 0)) ys l).then_ fun (ys:List Int) (l:Sound.Bits)=>Sound.takeGroups w z n p r a h may k (i+1) ys l:=by
 conv=>lhs;unfold Sound.takeGroups
 unfold iK
 rw[then_assoc]
 congr 1
 funext g l
 by_cases hg:g=31
 ·rw[if_pos hg,if_pos hg,then_assoc]
  congr 1
  funext v l
  by_cases hv:40<v
  ·rw[if_pos hv,if_pos hv];rfl
  ·rw[if_neg hv,if_neg hv];rfl
 ·rw[if_neg hg,if_neg hg];rfl
def eU (w z n:Nat) (may:Nat→Int→Bool) (p:Nat) (a:List Int) (h:Nat) (ys:List Int) (l:Sound.Bits):Sound.Got (List Int):=(Sound.takeU 3 l).then_ fun (r:Nat) (l:Sound.Bits)=>if 6<r∨Sound.mayCut n p r=false then (.bad:Sound.Got (List Int)) else Sound.takeGroups w z n p r a h may (2^r) 0 ys l
theorem BC (n p r:Nat):pd n p r=true↔ ¬(6<r∨Sound.mayCut n p r=false):=by
 unfold pd Sound.mayCut
 have e:n/2^r*2^r=n↔n%2^r=0:=by
  have:=Nat.div_add_mod n (2^r)
  rw[Nat.mul_comm] at this
  lia
 simp only [Bool.and_eq_true,decide_eq_true_eq,not_or,Nat.not_lt,Bool.not_eq_false,beq_iff_eq,e]
def Gd (K:PySem.W.Frag) (A:aW):Sp:=fun vs H Q E=> ∃(H0:Hp) (R:bH) (p:dD) (ga:Addr) (a:List Int) (h:Nat) (ys:List Int) (l:Sound.Bits),vs= [.ref R.r, .int p.n, .int (a.length:Nat), .ref p.x]∧ae H0 H∧cI K H0 R∧fA K A H0 p∧yt K A H0 ga a h ys.length∧bj A.aV H R l∧bI A H p (.ref ga) ys∧(ys.length=a.length∧a.length≤4)∧
 bF A H0 R (eU p.wd p.z p.n p.may a.length a h ys.reverse l) (fun acc H'=>bI A H' p (.ref ga) acc.reverse→Q .aw H') E
theorem kM:aK ["reader", "n", "order", "part", "r", "size", "count", "group"] ["reader", "n", "order", "part"] (aB BY):=⟨rfl,rfl,rfl,by decide+kernel,rfl,by decide+kernel,by decide+kernel⟩
theorem Ml (T:Txt K mg A):az P w K mg base (aY P w) 7 A.pB A.lM ["reader", "n", "order", "part"] (Gd K A):=by
 refine T.Ci.bO kM (fun vs H Q E h=>?_) (fun cdv Ar outer s H vs Q E hr h=>?_)
 ·obtain ⟨H0,R,p,ga,a,h,ys,l,rfl,_⟩:=h
  rfl
 ·obtain ⟨H0,R,p,ga,a,h,ys,l,rfl,s0,hI,hp,hGs,hS,hP,⟨hyl,ha4⟩,k⟩:=h
  have hr1':aE 1 _:=hr.mono (by decide)
  refine ⟨_,ai (aJ (i:=4) kM.nd rfl (Or.inl rfl) (aU (pv 0) T.bR T.eA (eF T) hr1' T.eC .nil aN (aa aq af)))
   (ai (bg (jh (iS (aP (Kn T) hr1' rfl T.MD T.Em.kp T.Ie .nil aQ (aa (pv 1) (aa (pv 2) (aa (pv 4) af)))))) (ak (d8 rfl rfl T.fg T.eY.exc eE)) br)
   (ai (aJ (i:=5) kM.nd rfl (Or.inl rfl) (au fk (pv 1) (pv 4)))
   (ai (aJ (i:=6) kM.nd rfl (Or.inl rfl) (au du (pv 5) (pv 2)))
   (ak (cw PassesOwn.leaving rfl (fu rfl T.dU (aa (au jY aq (pv 4)) af)) (bq (i:=7) kM.nd rfl (Or.inl rfl))
    (ai (ba (aP (MK T) hr rfl T.Nc T.CG.kp T.QD .nil aN (aa (pv 0) (aa (pv 6) (aa (pv 3) af)))))
    (ak (aJ (i:=6) kM.nd rfl (Or.inl rfl) (pv 5))))))))),?_⟩
  have hnn:=hp.2.2
  have e62:(2:Int)^62=4611686018427387904:=by decide
  obtain ⟨px,hx⟩:=hS.obj
  obtain ⟨sh,hIh⟩:=hI.aC s0
  unfold eU at k
  refine (aS rfl hx rfl ⟨Wg.aC [R.r] H,bE R 3 l ⟨rfl,bT _ _,hIh,hS,by decide,k.cV sh fun r l1 H1 er s1 st1 k1=>?_⟩⟩)
  have hP1:=gP hS hP s1
  have s01:=sh.trans s1
  have hr8:r<8:=kR er
  refine ⟨_,rfl,_,rfl,_,rfl,p.n,a.length,r,rfl,⟨by lia,by lia⟩,_,rfl,?_⟩
  cases hcs:pd p.n a.length r with
  |false=>
   rw[if_pos (Classical.byContradiction fun z=>by rw[(BC _ _ _).mpr z] at hcs;cases hcs)] at k1
   exact bt (k1 H1 s01)
  |true=>
   have hcs2:=(BC _ _ _).mp hcs
   rw[if_neg hcs2] at k1
   have h6:r≤6:=Nat.le_of_not_lt fun z=>hcs2 (.inl z)
   have hmc:p.n%2^r=0∧a.length≤p.n/2^r:=by
    have:Sound.mayCut p.n a.length r=true:=by
     cases q:Sound.mayCut p.n a.length r with
     |true=>rfl
     |false=>exact absurd (.inr q) hcs2
    unfold Sound.mayCut at this
    rw[Bool.and_eq_true,beq_iff_eq,decide_eq_true_eq] at this
    exact this
   have hdiv:p.n/2^r*2^r=p.n:=Nat.div_mul_cancel (Nat.dvd_of_mod_eq_zero hmc.1)
   have e64:(2:Nat)^64=18446744073709551616:=by decide
   refine bA ⟨_,rfl,_,rfl,ag _ _ ⟨rfl,rfl,(by lia),?_⟩⟩
   have e1:((p.n:Nat):Int)/2^((r:Nat):Int).toNat=((p.n/2^r:Nat):Int):=by rw[Int.toNat_natCast];simp
   dsimp only
   rw[e1]
   have h2r:2^r≤64:=Nat.le_trans (Nat.pow_le_pow_right (by decide) h6) (by decide)
   have h2p:0<2^r:=Nat.two_pow_pos r
   generalize hsz:p.n/2^r=sz at*
   refine ⟨_,rfl,_,rfl,ag _ _ ⟨rfl,rfl,?_⟩⟩
   dsimp only
   rw[show ((sz:Nat):Int)-((a.length:Nat):Int)=((sz-a.length:Nat):Int) by lia]
   have e2:(1:Int)*2^((r:Nat):Int).toNat=((2^r:Nat):Int):=by rw[Int.one_mul,Int.toNat_natCast];simp
   refine ⟨_,rfl,ag _ _ ⟨rfl,rfl,⟨by lia,by lia,by decide⟩,((2^r:Nat):Int),(by show [V.int ((1:Int)*2^((r:Nat):Int).toNat)]=_;rw[e2]),by lia,by lia,?_⟩⟩
   rw[Int.toNat_natCast]
   refine fM (lo:=0) (n:=2^r) (fun i σ H'=>(∃(ys1:List Int) (l2:Sound.Bits),ae H0 H'∧bj A.aV H' R l2∧bI A H' p (.ref ga) ys1∧ys1.length=(if i=0 then a.length else i*sz)∧bF A H0 R (Sound.takeGroups p.wd p.z p.n a.length r a h p.may (2^r-i) i ys1.reverse l2) (fun acc H'=>bI A H' p (.ref ga) acc.reverse→Q .aw H') E)∧
     ∃v7:Option V,σ= [some (.ref R.r),some (.int (p.n:Nat)),some (.int (a.length:Nat)),some (.ref p.x),some (.int (r:Nat)),some (.int (sz:Nat)),some (.int ((sz-(if i=0 then a.length else 0):Nat):Int)),v7]) ⟨⟨ys,l1,s01,st1,hP1,by rw[if_pos rfl];exact hyl,k1⟩,none,rfl⟩ ?_ ?_
   ·rintro i σ H2 hi ⟨⟨ys1,l2,s2,st2,hP2,hl2,k2⟩,v7,rfl⟩
    rw[show 2^r-i=(2^r-(i+1))+1 by lia,rZ,hsz] at k2
    have hroom:ys1.length+(sz-(if i=0 then a.length else 0))≤p.n∧a.length≤ys1.length∧ys1.length+(sz-(if i=0 then a.length else 0))=(i+1)*sz:=by
     have hm:(i+1)*sz≤2^r*sz:=Nat.mul_le_mul_right _ (by lia)
     have hc:2^r*sz=p.n:=by rw[Nat.mul_comm];exact hdiv
     by_cases h0:i=0
     ·subst h0
      rw[if_pos rfl] at hl2⊢
      rw[Nat.zero_add,Nat.one_mul] at hm⊢
      lia
     ·rw[if_neg h0] at hl2⊢
      have:(i+1)*sz=i*sz+sz:=by rw[Nat.add_mul,Nat.one_mul]
      have h1:sz≤i*sz:=Nat.le_mul_of_pos_left sz (by lia)
      lia
    refine ⟨_,rfl,_,rfl,_,rfl,wO H0 R p ga a h _ ys1 l2 ⟨rfl,s2,hI,hp,⟨hGs.1,hGs.2.1,hroom.2.1⟩,st2,hP2,hroom.1,k2.seq fun xs l3 H3 exs s3 st3 k3 hP3=>?_⟩⟩
    have hxl:=uf exs
    rw[List.length_reverse] at hxl
    refine ⟨_,rfl,⟨xs.reverse,l3,s3,st3,hP3,?_,?_⟩,some (.int (0+(i:Nat))),?_⟩
    ·rw[List.length_reverse,hxl,if_neg (show¬i+1=0 by lia)];exact hroom.2.2
    ·rw[List.reverse_reverse];exact k3
    ·rw[if_neg (show¬i+1=0 by lia),Nat.sub_zero];rfl
   ·rintro σ H2 ⟨⟨ys1,l2,s2,st2,hP2,hl2,k2⟩,v7,rfl⟩
    rw[Nat.sub_self] at k2
    have k3:bI A H2 p (.ref ga) ys1.reverse.reverse→Q .aw H2:=k2 H2 s2 st2
    rw[List.reverse_reverse] at k3
    exact k3 hP2
def iQ (x z n:Nat) (may:Nat→Int→Bool) (kind:Nat) (l:Sound.Bits):Sound.Got (List Int):=
 if kind≤6 then (if n<kind-2 then .bad else (Sound.takeMany (gL x z may) (kind-2) [] l).then_ fun (ys:List Int) (l:Sound.Bits)=>eU x z n may (kind-2) (Sound.FIXED.getD (kind-2) []) 0 ys l)
 else if n<kind-6 then .bad else (Sound.takeMany (gL x z may) (kind-6) [] l).then_ fun (ys:List Int) (l:Sound.Bits)=>(Sound.takeU 4 l).then_ fun (h:Nat) (l:Sound.Bits)=>(Sound.takeMany (fun (_:List Int) (l:Sound.Bits)=>Sound.takeS 12 l) (kind-6) [] l).then_ fun (a:List Int) (l:Sound.Bits)=>eU x z n may (kind-6) a.reverse h ys l
theorem Ip {p:Nat} (h:p≤4):(Sound.FIXED.getD p []).length=p∧Bd 2048 (Sound.FIXED.getD p []):=by
 have: ∀p:Nat,p≤4→(Sound.FIXED.getD p []).length=p∧ ∀x∈Sound.FIXED.getD p [],-2048≤x∧x≤2048:=by decide
 exact this p h
theorem zu {n:Nat} {l:Sound.Bits} {x:Int} {r:Sound.Bits} (h:Sound.takeS n l= .ok x r) (h1:1≤n):Sound.fits n x=true:=by
 unfold Sound.takeS at h
 split at h
 ·cases h
 ·rename_i hl
  have hlen:(l.take n).length=n:=by
   rw[List.length_take]
   have: ¬l.length<n:=fun z=>hl ((kc n l).mpr z)
   lia
  cases h
  generalize l.take n=m at*
  cases m with
  |nil=>simp at hlen;lia
  |cons b m=>
   have v:=kz m
   rw[List.length_cons] at hlen
   have hn:n-1=m.length:=by lia
   unfold Sound.fits Sound.svalue
   rw[hn,uz]
   have e2:(2:Int)^(m.length+1)=2*2^m.length:=by rw[Int.pow_succ,Int.mul_comm]
   have ec:((2^m.length:Nat):Int)=(2:Int)^m.length:=by simp
   cases b with
   |true=>
    simp only [List.head?_cons,if_true,List.length_cons,Nat.one_mul,e2]
    rw[Bool.and_eq_true,decide_eq_true_eq,decide_eq_true_eq,←ec]
    lia
   |false=>
    simp only [List.head?_cons,Option.some.injEq,Bool.false_eq_true,if_false,Nat.zero_mul,Nat.zero_add]
    rw[Bool.and_eq_true,decide_eq_true_eq,decide_eq_true_eq,←ec]
    lia
theorem Lk {l:Sound.Bits} {x:Int} {r:Sound.Bits} (h:Sound.takeS 12 l= .ok x r): -2048≤x∧x≤2048:=by
 have:=zu h (by decide)
 unfold Sound.fits at this
 rw[Bool.and_eq_true,decide_eq_true_eq,decide_eq_true_eq] at this
 have e:(2:Int)^(12-1)=2048:=by decide
 lia
theorem RF {H0 H:Hp} {R:bH} {p:dD} (hI:cI K H0 R) (hp:fA K A H0 p) (s:ae H0 H):ae H0 (Wg.aC [R.r,p.x,p.t] H)∧cI K (Wg.aC [R.r,p.x,p.t] H) R∧fA K A (Wg.aC [R.r,p.x,p.t] H) p:=by
 have s1:ae H0 (Wg.aC [R.r,p.x,p.t] H):=s.aC fun b hb=>by
  rcases List.mem_cons.mp hb with rfl|hb
  ·exact hI.2.1
  ·rcases List.mem_cons.mp hb with rfl|hb
   ·exact hp.1.1
   ·rcases List.mem_cons.mp hb with rfl|hb
    ·exact hp.1.2
    ·cases hb
 exact ⟨s1,hI.same s1 (gz (by simp)),⟨gz (by simp),gz (by simp)⟩,hp.2.1.same s1,hp.2.2⟩
theorem Ej (wd z pn g t g':V):bC "guess" g' (fT wd z pn g t)=fT wd z pn g' t:=rfl
def Kk (K:PySem.W.Frag) (A:aW):Sp:=fun vs H Q E=> ∃(H0:Hp) (R:bH) (p:dD) (kind:Nat) (l:Sound.Bits),vs= [.ref R.r, .int p.n, .int kind, .ref p.x]∧ae H0 H∧cI K H0 R∧fA K A H0 p∧bj A.aV H R l∧bI A H p .aw []∧(2≤kind∧kind≤10)∧
 bF A H0 R (iQ p.wd p.z p.n p.may kind l) (fun acc H'=>(∃g,bI A H' p g acc.reverse)→Q .aw H') E
theorem l0:aK ["reader", "n", "kind", "part", "order", "shift", "place"] ["reader", "n", "kind", "part"] (aB AL):=⟨rfl,rfl,rfl,by decide+kernel,rfl,by decide+kernel,by decide+kernel⟩
theorem JC {H1:Hp} {R:bH} {p:dD} {g:V} {ys:List Int} {l:Sound.Bits} {o:HO} (st:bj A.aV H1 R l) (hP:bI A H1 p g ys) (H2:Hp):ae (newOf H1 H2) (Wg.aC [R.r,p.x,p.t] (upd H2 p.x o)):=fun b u h=>by
 obtain ⟨h1,h2⟩:=kH h
 obtain ⟨i,hx⟩:=st.obj
 have n1:b≠R.r:=fun z=>by rw[z,hx] at h1;cases h1
 have n2:b≠p.x:=fun z=>by rw[z,hP.1] at h1;cases h1
 have n3:b≠p.t:=fun z=>by rw[z,hP.2.1] at h1;cases h1
 rw[cU (by simp [n1,n2,n3]),aL n2]
 exact h2
theorem Ae {H0 H:Hp} {R:bH} {p:dD} {ga:Addr} {a ys:List Int} {h:Nat} {l:Sound.Bits} {Qn:Hp→Prop} {E:XK} (hI:cI K H0 R) (hp:fA K A H0 p) (s:ae H0 H) (st:bj A.aV H R l) (hP:bI A H p (.ref ga) ys) (hG:ia K A.cz (Wg.aC [R.r,p.x,p.t] H) ga a h) (hb:Bd 2048 a) (ha:ys.length=a.length∧a.length≤4)
  (k:bF A H0 R (eU p.wd p.z p.n p.may a.length a h ys.reverse l) (fun acc H'=>(∃g,bI A H' p g acc.reverse)→Qn H') E):Gd K A [.ref R.r, .int p.n, .int (a.length:Nat), .ref p.x] H (fun v H'=>Qn H') E:=by
 obtain ⟨s1,hI1,hp1⟩:=RF hI hp s
 refine ⟨Wg.aC [R.r,p.x,p.t] H,ve R p ga a h ys l ⟨rfl,bT _ _,hI1,hp1,⟨hG,hb,by lia⟩,st,hP,ha,?_⟩⟩
 have k1:=k.low s1
 generalize eU p.wd p.z p.n p.may a.length a h ys.reverse l=g at*
 cases g with
 |ok x l=>exact fun H' s' st' hq=>k1 H' s' st' ⟨_,hq⟩
 |bad=>exact k1
 |short=>exact k1
theorem Jo (T:Txt K mg A):az P w K mg base (aY P w) 8 A.pV A.oQ ["reader", "n", "kind", "part"] (Kk K A):=by
 refine T.Af.bO l0 (fun vs H Q E h=>?_) (fun cdv Ar outer s H vs Q E hr h=>?_)
 ·obtain ⟨H0,R,p,kind,l,rfl,_⟩:=h
  rfl
 ·obtain ⟨H0,R,p,kind,l,rfl,s0,hI,hp,hS,hP,⟨hk1,hk2⟩,k⟩:=h
  have hr1':aE 1 _:=hr.mono (by decide)
  have hr2':aE 2 _:=hr.mono (by decide)
  have hr3':aE 3 _:=hr.mono (by decide)
  have hr4':aE 4 _:=hr.mono (by decide)
  refine ⟨_,ai (aJ (i:=4) l0.nd rfl (Or.inl rfl) (aP (Nd T) hr1' rfl T.OH T.Fb.kp T.RG .nil aQ (aa (pv 2) af)))
   (ai (bg (bc dF (pv 4) (pv 1) (aZ _)) (ak (d8 rfl rfl T.fg T.eY.exc eE)) br)
   (ai (ba (aP (ED T) hr4' rfl T.Bo T.xE.kp T.BK .nil aN (aa (pv 0) (aa (pv 4) (aa (pv 3) af)))))
   (ai (bg (bc pF (pv 2) (aR rfl T.yn) (aZ _)) (ak (bh (pv 3) (aP (O8 T) hr3' rfl T.Q9 T.zx.kp T.Jr .nil aQ (aa (pv 4) af)) rfl))
    (ai (aJ (i:=5) l0.nd rfl (Or.inl rfl) (aU (pv 0) T.bR T.eA (eF T) hr1' T.eC .nil aN (aa aq af)))
    (ak (bh (pv 3) (fW T.Ba (zL T) hr2' rfl T.CS T.DL .nil aQ (aa (KJ (own:= [("place",6)]) rfl rfl rfl jS rfl l0.nd (fu rfl T.dU (aa (pv 4) af)) (d5 (by kernel_rfl)) (fun _ _ _ _ _ _=>bq (i:=6) l0.nd rfl (Or.inl rfl)) (fun _ _ _ _ _ _=>d6)
     (fun _ _ _ _ _ _ hp=>aU (pv 0) T.bR T.rK (so T) hr2' T.uA .nil hp (aa (aR rfl T.RW) af))) (aa (pv 5) af))) rfl))))
   (ak (ba (aP (Ml T) hr rfl T.Sn T.Ci.kp T.QC .nil aN (aa (pv 0) (aa (pv 1) (aa (pv 4) (aa (pv 3) af)))))))))),?_⟩
  have hnn:=hp.2.2
  have e62:(2:Int)^62=4611686018427387904:=by decide
  refine ⟨_,rfl,kind,rfl,⟨hk1,hk2⟩,?_⟩
  generalize ho:(if kind≤6 then kind-2 else kind-6)=o at*
  have ho4:o≤4:=by rw[←ho];split<;>lia
  refine ⟨_,rfl,_,rfl,ag _ _ ⟨rfl,rfl,_,rfl,?_⟩⟩
  unfold iQ at k
  refine bW (fun hc=>?_) fun hc=>?_
  ·have hc:((p.n:Nat):Int)<((o:Nat):Int):=of_decide_eq_true hc
   by_cases h6:kind≤6
   ·rw[if_pos h6] at k ho
    rw[if_pos (by lia)] at k
    exact k H s0
   ·rw[if_neg h6] at k ho
    rw[if_pos (by lia)] at k
    exact k H s0
  ·have hc: ¬((p.n:Nat):Int)<((o:Nat):Int):=fun z=>hc (decide_eq_true z)
   by_cases h6:kind≤6
   ·rw[if_pos h6] at k ho
    rw[if_neg (by lia),ho] at k
    refine ⟨_,rfl,_,rfl,_,rfl,H0,R,p, .aw,o, [],l,rfl,s0,hI,hp,hS,hP,(by show 0+o≤_;lia),k.seq fun ys l1 H1 ey s1 st1 k1 hP1=>?_⟩
    have hyl:=gs ey
    have hyl:ys.length=o:=by rw[hyl];show 0+o=o;lia
    refine ⟨_,rfl,ag _ _ ⟨rfl,rfl,_,rfl,?_⟩⟩
    rw[decide_eq_true (show ((kind:Nat):Int)<7 by lia)]
    refine bt ⟨_,rfl,o,rfl,ho4,fun ga H2 hga s2 hG=>?_⟩
    have hx2:=s2 _ _ hP1.1
    refine ⟨_,rfl,p.x,A.bL,p.dx,_,rfl,hx2,T.cy,T.tu,(by show 5<1000;decide),?_⟩
    rw[Ej]
    have htx:=hP1.ne
    have hP3:bI A (upd H2 p.x (.ins A.bL p.dx (fT (.int p.wd) (.int p.z) p.pn (.ref ga) (.ref p.t)))) p (.ref ga) ys.reverse:=⟨aj,by rw[aL htx];exact s2 _ _ hP1.2.1,hP1.2.2⟩
    have s3:ae H0 (upd H2 p.x (.ins A.bL p.dx (fT (.int p.wd) (.int p.z) p.pn (.ref ga) (.ref p.t)))):=fh (s1.trans s2) hp.1.1
    have st3:bj A.aV (upd H2 p.x (.ins A.bL p.dx (fT (.int p.wd) (.int p.z) p.pn (.ref ga) (.ref p.t)))) R l1:=by
     have n1:=qK st1 hP1
     obtain ⟨i,ei,hi,hxr⟩:=st1
     exact ⟨i,ei,hi,by rw[aL (fun z=>n1 (by rw[z];simp))];exact s2 _ _ hxr⟩
    have hG3:=hG.same (JC (o:= .ins A.bL p.dx (fT (.int p.wd) (.int p.z) p.pn (.ref ga) (.ref p.t))) st1 hP1 H2)
    obtain ⟨fl,fb⟩:=Ip ho4
    have:=Ae (Qn:=fun H'=>Q .aw H') hI hp s3 st3 hP3 hG3 fb ⟨by rw[List.length_reverse,fl,hyl],by lia⟩ (by rw[List.reverse_reverse,fl];exact k1)
    rw[fl] at this
    exact ⟨_,rfl,_,rfl,_,rfl,_,rfl,this⟩
   ·rw[if_neg h6] at k ho
    rw[if_neg (by lia),ho] at k
    refine ⟨_,rfl,_,rfl,_,rfl,H0,R,p, .aw,o, [],l,rfl,s0,hI,hp,hS,hP,(by show 0+o≤_;lia),k.seq fun ys l1 H1 ey s1 st1 k1 hP1=>?_⟩
    have hyl:=gs ey
    have hyl:ys.length=o:=by rw[hyl];show 0+o=o;lia
    refine ⟨_,rfl,ag _ _ ⟨rfl,rfl,_,rfl,?_⟩⟩
    rw[decide_eq_false (show¬((kind:Nat):Int)<7 by lia)]
    obtain ⟨px,hx⟩:=st1.obj
    obtain ⟨sh,hIh⟩:=hI.aC s1
    refine bA (aS rfl hx rfl ⟨Wg.aC [R.r] H1,bE R 4 l1 ⟨rfl,bT _ _,hIh,st1,by decide,k1.cV sh fun hh l2 H2 _ s2 st2 k2=>?_⟩⟩)
    have hP2:=gP st1 hP1 s2
    have s02:=sh.trans s2
    refine ⟨_,rfl,((o:Nat):Int),rfl,by lia,by lia,fun D hD=>?_⟩
    rw[Int.toNat_natCast]
    have hD0:H0 D=none:=s02.none hD
    refine EX o (by rw[sizeLine_eq];lia) (fun i acc H'=> ∃(as:List Int) (l':Sound.Bits),acc=as.reverse.map V.int∧ae (Wg.aC [R.r] H2) H'∧bj A.aV H' R l'∧as.length=i∧Bd 2048 as∧bF A H0 R ((Sound.takeMany (fun (_:List Int) (l:Sound.Bits)=>Sound.takeS 12 l) (o-i) as l').then_ fun (a:List Int) (l:Sound.Bits)=>eU p.wd p.z p.n p.may o a.reverse hh ys l) (fun acc H'=>(∃g,bI A H' p g acc.reverse)→Q .aw H') E) ?_ ?_ ?_ ?_ ?_
    ·refine ⟨[],l2,rfl,fun b u e=>?_,?_,rfl,(fun x hx=>by cases hx),k2⟩
     ·have:=bT _ _ b u e
      rw[aL (cH this hD)];exact this
     ·obtain ⟨i,ei,hi,hxr⟩:=st2
      exact ⟨i,ei,hi,by rw[aL (cH hxr hD)];exact hxr⟩
    ·exact fun i acc H' hi _=>hi
    ·exact fun acc H' _=>Nat.le_refl _
    ·rintro i acc H3 x H3' hi ⟨as,l3,rfl,s3,st3,hl3,hb3,k3⟩ hDx hal ⟨hH3,rfl⟩ C hC
     rw[hH3]
     obtain ⟨px3,hx3⟩:=st3.obj
     rw[show o-i=(o-(i+1))+1 by lia,lE,then_assoc] at k3
     obtain ⟨sh2,_⟩:=hI.aC s02
     obtain ⟨sh3,hIh3⟩:=hI.aC (sh2.trans s3)
     refine ⟨rfl,aS rfl hx3 rfl ⟨Wg.aC [R.r] H3,bE R 12 l3 ⟨rfl,bT _ _,hIh3,st3,by decide,k3.cV sh3 fun y l4 H4 ey4 s4 st4 k4=>?_⟩⟩⟩
     have nDr:D≠R.r:=fun z=>by rw[z,hx3] at hDx;cases hDx
     refine hC _ H4 (s4 _ _ (by rw[cU (by simpa using nDr)];exact hDx)) ⟨y::as,l4,by simp,?_,?_,by rw[List.length_cons,hl3],?_,k4⟩
     ·intro b u e
      have e3:=s3 b u e
      by_cases hb:b=D
      ·subst hb
       have:=bT _ _ _ u e
       rw[hD] at this;cases this
      ·rw[aL hb]
       refine s4 _ _ ?_
       rw[cU (fun z=>by
        rw[List.mem_singleton.mp z,gz (by simp)] at e;cases e)]
       exact e3
     ·obtain ⟨j,ej,hj,hxr⟩:=st4
      exact ⟨j,ej,hj,by rw[aL (Ne.symm nDr)];exact hxr⟩
     ·intro z hz
      rcases List.mem_cons.mp hz with rfl|hz
      ·exact Lk ey4
      ·exact hb3 z hz
    ·rintro acc H3 ⟨as,l3,rfl,s3,st3,hl3,hb3,k3⟩ hDx hal
     rw[Nat.sub_self] at k3
     have k3:bF A H0 R (eU p.wd p.z p.n p.may o as.reverse hh ys l3) (fun acc H'=>(∃g,bI A H' p g acc.reverse)→Q .aw H') E:=k3
     obtain ⟨sh2,_⟩:=hI.aC s02
     have s03:=sh2.trans s3
     have hP3:=gP st2 hP2 s3
     refine ⟨_,rfl,fun ga dga hga hdga hne=>(aA ga dga _ _ ⟨rfl,aj,rfl,?_⟩)⟩
     rw[gN]
     have s4:ae H3 (upd (upd H3 dga (.own ga)) ga (.ins A.cz dga (gf (.ref D) (.int (hh:Nat))))):=d4 hga hdga
     have hG4:upd (upd H3 dga (.own ga)) ga (.ins A.cz dga (gf (.ref D) (.int (hh:Nat)))) ga=some (.ins A.cz dga (gf (.ref D) (.int (hh:Nat)))):=aj
     have hD4:=s4 _ _ hDx
     generalize upd (upd H3 dga (.own ga)) ga (.ins A.cz dga (gf (.ref D) (.int (hh:Nat))))=H4 at*
     have hx4:=s4 _ _ hP3.1
     refine ⟨_,rfl,p.x,A.bL,p.dx,_,rfl,hx4,T.cy,T.tu,(by show 5<1000;decide),?_⟩
     rw[Ej]
     have htx:=hP3.ne
     have n1:=qK st3 hP3
     obtain ⟨jr,ejr,hjr,hxr⟩:=id st3
     have gx:ga≠p.x:=fun z=>by rw[z,hP3.1] at hga;cases hga
     have gt:ga≠p.t:=fun z=>by rw[z,hP3.2.1] at hga;cases hga
     have gr:ga≠R.r:=fun z=>by rw[z,hxr] at hga;cases hga
     have Dx:D≠p.x:=fun z=>by rw[z,hP3.1] at hDx;cases hDx
     have Dr:D≠R.r:=fun z=>by rw[z,hxr] at hDx;cases hDx
     have Dt:D≠p.t:=fun z=>by
      have:=hP2.2.1
      rw[←z,hD] at this;cases this
     have hP5:bI A (upd H4 p.x (.ins A.bL p.dx (fT (.int p.wd) (.int p.z) p.pn (.ref ga) (.ref p.t)))) p (.ref ga) ys.reverse:=⟨aj,by rw[aL htx];exact s4 _ _ hP3.2.1,hP3.2.2⟩
     have s5:ae H0 (upd H4 p.x (.ins A.bL p.dx (fT (.int p.wd) (.int p.z) p.pn (.ref ga) (.ref p.t)))):=fh (s03.trans s4) hp.1.1
     have st5:bj A.aV (upd H4 p.x (.ins A.bL p.dx (fT (.int p.wd) (.int p.z) p.pn (.ref ga) (.ref p.t)))) R l3:=⟨jr,ejr,hjr,by rw[aL (fun z=>n1 (by rw[z];simp))];exact s4 _ _ hxr⟩
     have hG5:ia K A.cz (Wg.aC [R.r,p.x,p.t] (upd H4 p.x (.ins A.bL p.dx (fT (.int p.wd) (.int p.z) p.pn (.ref ga) (.ref p.t))))) ga as.reverse hh:=by
      refine ⟨dga,D,?_,ah.of ?_⟩
      ·rw[cU (by simp [gr,gx,gt]),aL gx];exact hG4
      ·rw[cU (by simp [Dr,Dx,Dt]),aL Dx];exact hD4
     have hal2:as.reverse.length=o:=by rw[List.length_reverse,hl3]
     have:=Ae (Qn:=fun H'=>Q .aw H') hI hp s5 st5 hP5 hG5 (fun z hz=>hb3 z (List.mem_reverse.mp hz)) ⟨by rw[List.length_reverse,hal2,hyl],by lia⟩ (by rw[List.reverse_reverse,hal2];exact k3)
     rw[hal2] at this
     exact ⟨_,rfl,_,rfl,_,rfl,_,rfl,this⟩
def rL (w:Nat) (l:Sound.Bits):Sound.Got Nat:=(Sound.takeU 1 l).then_ fun (fl:Nat) (l:Sound.Bits)=>if fl=0 then Sound.Got.ok 0 l else (Sound.takeRun (w-1) 0 l).then_ fun (q:Nat) (l:Sound.Bits)=> .ok (q+1) l
def kindS (x n:Nat) (may:Nat→Int→Bool) (z kind:Nat) (l:Sound.Bits):Sound.Got (List Int):=
 if kind=0 then (Sound.takeS x l).then_ fun (y:Int) (l:Sound.Bits)=>if ((List.range n).all fun (i:Nat)=>may i (y*2^z))=true then .ok (List.replicate n y) l else .bad
 else if kind=1 then Sound.takeMany (gL x z may) n [] l else if 10<kind then .bad else iQ x z n may kind l
theorem Eo (w n:Nat) (may:Nat→Int→Bool) (l:Sound.Bits):Sound.takePart w n may l=(rL w l).then_ fun (z:Nat) (l:Sound.Bits)=>(Sound.takeU 4 l).then_ fun (kind:Nat) (l:Sound.Bits)=>(kindS (w-z) n may z kind l).then_ fun (ys:List Int) (l:Sound.Bits)=> .ok (ys.reverse.map fun (y:Int)=>y*2^z) l:=by
 unfold Sound.takePart rL
 rw[then_assoc]
 congr 1
 funext fl l
 congr 1
 funext z l
 congr 1
 funext kind l
 unfold kindS
 by_cases h0:kind=0
 ·rw[if_pos h0,if_pos h0]
 ·rw[if_neg h0,if_neg h0]
  by_cases h1:kind=1
  ·rw[if_pos h1,if_pos h1];rfl
  ·rw[if_neg h1,if_neg h1]
   by_cases h6:kind≤6
   ·rw[if_pos h6,if_neg (show¬10<kind by lia)]
    unfold iQ
    rw[if_pos h6]
    by_cases hn:n<kind-2
    ·rw[if_pos hn,if_pos hn];rfl
    ·rw[if_neg hn,if_neg hn];rfl
   ·rw[if_neg h6]
    by_cases h10:10<kind
    ·rw[if_pos (.inl h10),if_pos h10];rfl
    ·rw[if_neg h10]
     unfold iQ
     rw[if_neg h6]
     by_cases hn:n<kind-6
     ·rw[if_pos (.inr hn),if_pos hn];rfl
     ·rw[if_neg (fun z=>z.elim h10 hn),if_neg hn];rfl
theorem EN {m:Nat}: ∀{l:Sound.Bits} {q x:Nat} {r:Sound.Bits},Sound.takeRun m q l= .ok x r→q<m→x<m
 | [],q,x,r,h,hq=>by unfold Sound.takeRun at h;cases h
 |true::l,q,x,r,h,hq=>by unfold Sound.takeRun at h;cases h;exact hq
 |false::l,q,x,r,h,hq=>by
  have e:Sound.takeRun m q (false::l)=if m≤q+1 then .bad else Sound.takeRun m (q+1) l:=rfl
  rw[e] at h
  split at h
  ·cases h
  ·exact EN h (by lia)
theorem KU {w:Nat} {l:Sound.Bits} {z:Nat} {r:Sound.Bits} (h:rL w l= .ok z r) (hw:2≤w):z<w:=by
 unfold rL at h
 cases e1:Sound.takeU 1 l with
 |ok fl l1=>
  rw[e1] at h
  have h:(if fl=0 then Sound.Got.ok 0 l1 else (Sound.takeRun (w-1) 0 l1).then_ fun (q:Nat) (l:Sound.Bits)=> .ok (q+1) l)= .ok z r:=h
  split at h
  ·cases h;lia
  ·cases e2:Sound.takeRun (w-1) 0 l1 with
   |ok q l2=>
    rw[e2] at h
    cases h
    have:=EN e2 (by lia)
    lia
   |bad=>rw[e2] at h;cases h
   |short=>rw[e2] at h;cases h
 |bad=>rw[e1] at h;cases h
 |short=>rw[e1] at h;cases h
theorem Ca {w z n p r:Nat} {a:List Int} {h:Nat} {may:Nat→Int→Bool}: ∀{k i:Nat} {ys xs:List Int} {l l':Sound.Bits},Sound.takeGroups w z n p r a h may k i ys l= .ok xs l'→xs.length≤ys.length+k*n
 |0,i,ys,xs,l,l',e=>by unfold Sound.takeGroups at e;cases e;lia
 |k+1,i,ys,xs,l,l',e=>by
  rw[rZ] at e
  cases e1:iK w z may a h (n/2^r-(if i=0 then p else 0)) ys l with
  |ok ys1 l1=>
   rw[e1] at e
   have h1:=uf e1
   have h2:=Ca (show Sound.takeGroups w z n p r a h may k (i+1) ys1 l1= .ok xs l' from e)
   have h3:n/2^r≤n:=Nat.div_le_self _ _
   rw[Nat.add_mul,Nat.one_mul]
   lia
  |bad=>rw[e1] at e;cases e
  |short=>rw[e1] at e;cases e
theorem z9 {w z n:Nat} {may:Nat→Int→Bool} {p:Nat} {a:List Int} {h:Nat} {ys xs:List Int} {l l':Sound.Bits} (e:eU w z n may p a h ys l= .ok xs l'):xs.length≤ys.length+64*n:=by
 unfold eU at e
 cases e1:Sound.takeU 3 l with
 |ok r l1=>
  rw[e1] at e
  have e:(if 6<r∨Sound.mayCut n p r=false then (.bad:Sound.Got (List Int)) else Sound.takeGroups w z n p r a h may (2^r) 0 ys l1)= .ok xs l':=e
  split at e
  ·cases e
  ·rename_i hr
   have h1:=Ca e
   have h2:2^r≤64:=Nat.le_trans (Nat.pow_le_pow_right (by decide) (show r≤6 from Nat.le_of_not_lt fun z=>hr (.inl z))) (by decide)
   have h3:=Nat.mul_le_mul_right n h2
   lia
 |bad=>rw[e1] at e;cases e
 |short=>rw[e1] at e;cases e
theorem P7 {x z n:Nat} {may:Nat→Int→Bool} {kind:Nat} {l l':Sound.Bits} {xs:List Int} (e:iQ x z n may kind l= .ok xs l') (hn:n≤256):xs.length≤100000:=by
 have go: ∀{o:Nat} {f:List Int→Sound.Bits→Sound.Got (List Int)},(∀ys l,f ys l= .ok xs l'→xs.length≤ys.length+64*n)→o≤n→(Sound.takeMany (gL x z may) o [] l).then_ f= .ok xs l'→xs.length≤100000:=fun {o f} hf ho e=>by
  cases e1:Sound.takeMany (gL x z may) o [] l with
  |ok ys l1=>
   rw[e1] at e
   have h1:=gs e1
   have h2:=hf ys l1 e
   have h1:ys.length=0+o:=h1
   lia
  |bad=>rw[e1] at e;cases e
  |short=>rw[e1] at e;cases e
 unfold iQ at e
 split at e
 ·split at e
  ·cases e
  ·rename_i h
   exact go (fun ys l h=>z9 h) (by lia) e
 ·split at e
  ·cases e
  ·rename_i h
   refine go (fun ys l h=>?_) (by lia) e
   cases e1:Sound.takeU 4 l with
   |ok hh l1=>
    rw[e1] at h
    have h:((Sound.takeMany (fun (_:List Int) (l:Sound.Bits)=>Sound.takeS 12 l) (kind-6) [] l1).then_ fun (a:List Int) (l:Sound.Bits)=>eU x z n may (kind-6) a.reverse hh ys l)= .ok xs l':=h
    cases e2:Sound.takeMany (fun (_:List Int) (l:Sound.Bits)=>Sound.takeS 12 l) (kind-6) [] l1 with
    |ok a l2=>
     rw[e2] at h
     exact z9 h
    |bad=>rw[e2] at h;cases h
    |short=>rw[e2] at h;cases h
   |bad=>rw[e1] at h;cases h
   |short=>rw[e1] at h;cases h
def SQ (K:PySem.W.Frag) (A:aW):Sp:=fun vs H Q E=> ∃(H0:Hp) (R:bH) (wd n:Nat) (pn:V) (may:Nat→Int→Bool) (l:Sound.Bits),vs= [.ref R.r, .int n, .int wd,pn]∧ae H0 H∧cI K H0 R∧jy K A H0 pn n may∧bj A.aV H R l∧(2≤wd∧wd≤25∧n≤256)∧
 bF A H0 R (Sound.takePart wd n may l) (fun ys H'=> ∀D,H0 D=none→H' D=some (.lst (ys.map V.int))→Q (.ref D) H') E
theorem jV:aK ["reader", "n", "width", "partner", "part", "kind", "number", "place"] ["reader", "n", "width", "partner"] (aB Cr):=⟨rfl,rfl,rfl,by decide+kernel,rfl,by decide+kernel,by decide+kernel⟩
theorem C5 {n:Nat} {f:Nat→Bool}:((List.range n).all f)=true↔ ∀i,i<n→f i=true:=by
 rw[List.all_eq_true]
 exact ⟨fun h i hi=>h i (List.mem_range.mpr hi),fun h i hi=>h i (List.mem_range.mp hi)⟩
theorem xY (T:Txt K mg A):az P w K mg base (aY P w) 9 A.ny A.m7 ["reader", "n", "width", "partner"] (SQ K A):=by
 refine T.rN.bO jV (fun vs H Q E h=>?_) (fun cdv Ar outer s H vs Q E hr h=>?_)
 ·obtain ⟨H0,R,wd,n,pn,may,l,rfl,_⟩:=h
  rfl
 ·obtain ⟨H0,R,wd,n,pn,may,l,rfl,s0,hI,hM,hS,⟨hw1,hw2,hn⟩,k⟩:=h
  have hr1':aE 1 _:=hr.mono (by decide)
  have hr2':aE 2 _:=hr.mono (by decide)
  have hr3':aE 3 _:=hr.mono (by decide)
  have hr4':aE 4 _:=hr.mono (by decide)
  refine ⟨_,ai (aJ (i:=4) jV.nd rfl (Or.inr rfl) (fW T.RM (QH T) hr2' rfl T.OK T.K0 .nil aQ (aa (pv 2) (aa (aP (MP T) hr3' rfl T.KA T.BO.kp T.Jn .nil aN (aa (pv 0) (aa (pv 2) af))) (aa (pv 3) af)))))
   (ai (aJ (i:=5) jV.nd rfl (Or.inl rfl) (aU (pv 0) T.bR T.eA (eF T) hr1' T.eC .nil aN (aa aq af)))
   (ai (bg (bc dF (pv 5) (aR rfl T.Pt) (aZ _)) (ak (d8 rfl rfl T.fg T.eY.exc eE)) br)
   (ai (bg (bc dA (pv 5) (aR rfl T.P6) (aZ _))
    (ai (aJ (i:=6) jV.nd rfl (Or.inl rfl) (aU (pv 0) T.bR T.rK (so T) hr2' T.uA .nil aN (aa (ay (pv 4) rfl) af)))
    (ak (cw PassesOwn.leaving rfl (fu rfl T.dU (aa (pv 1) af)) (bq (i:=7) jV.nd rfl (Or.inl rfl)) (ak (ba (aU (pv 4) T.cy T.wR (vy T) hr3' T.xf .nil aN (aa (pv 6) af)))))))
    (ak (bg (bc dA (pv 5) (aR rfl T.Mh) (aZ _)) (ak (ba (aP (ED T) hr4' rfl T.Bo T.xE.kp T.BK .nil aN (aa (pv 0) (aa (pv 1) (aa (pv 4) af))))))
     (ak (ba (aP (Jo T) hr rfl T.Qy T.Af.kp T.KQ .nil aN (aa (pv 0) (aa (pv 1) (aa (pv 5) (aa (pv 4) af))))))))))
   (ak (aX (fz (own:= [("number",6)]) rfl jV.nd (dn (ay (pv 4) rfl)) (d5 (by kernel_rfl)) (fun _ _ _ _ _=>bq (i:=6) jV.nd rfl (Or.inl rfl)) (fun _ _ _ _ _=>d6) (fun _ _ _ _ _=>au jY (pv 6) (xW (K:=K) rfl (pv 4) rfl)))))))),?_⟩
  have e62:(2:Int)^62=4611686018427387904:=by decide
  rw[Eo] at k
  refine ⟨_,rfl,_,rfl,_,rfl,aA H0 R wd l ⟨rfl,s0,hI,hS,hw1,k.seq fun z l1 H1 ez s1 st1 k1=>⟨_,rfl,fun x dx hx hdx hne=>?_⟩⟩⟩
  have hzw:=KU ez hw1
  refine (tS x dx _ _ _ ⟨rfl,aj,fun t H2 ht hk hx2 ht2=>⟨rfl,?_⟩⟩)
  have sm:=d4 (o:= .own x) (u:= .ins A.bL dx []) hx hdx
  have s12:ae H1 H2:=fun b o e=>hk b o (sm b o e) (cH e hx)
  have s2:=s1.trans s12
  have ht1:H1 t=none:=sm.none ht
  rw[show ((wd:Nat):Int)-((z:Nat):Int)=((wd-z:Nat):Int) by lia] at hx2
  obtain ⟨p,hpx,hpd,hpt,hpw,hpz,hpn,hpp,hpm⟩: ∃p:dD,p.x=x∧p.dx=dx∧p.t=t∧p.wd=wd-z∧p.z=z∧p.n=n∧p.pn=pn∧p.may=may:=⟨⟨x,dx,t,wd-z,z,n,pn,may⟩,rfl,rfl,rfl,rfl,rfl,rfl,rfl,rfl⟩
  have hP2:bI A H2 p .aw []:=⟨by rw[hpx,hpd,hpw,hpz,hpp,hpt];exact hx2,by rw[hpt];exact ht2,fun y hy=>by cases hy⟩
  have hp:fA K A H0 p:=⟨⟨by rw[hpx];exact s1.none hx,by rw[hpt];exact s1.none ht1⟩,by rw[hpp,hpn,hpm];exact hM,by lia⟩
  have st2:bj A.aV H2 R l1:=by
   obtain ⟨i,ei,hi,hxr⟩:=st1
   exact ⟨i,ei,hi,s12 _ _ hxr⟩
  clear hx2 ht2 hk sm
  subst hpx hpd hpt hpz hpn hpp hpm
  rw[←hpw] at k1
  obtain ⟨px,hxr⟩:=st2.obj
  obtain ⟨sh,hIh⟩:=hI.aC s2
  refine (aS rfl hxr rfl ⟨Wg.aC [R.r] H2,bE R 4 l1 ⟨rfl,bT _ _,hIh,st2,by decide,k1.cV sh fun kind l2 H3 _ s3 st3 k3=>?_⟩⟩)
  have hP3:=gP st2 hP2 s3
  have s03:=sh.trans s3
  have fin: ∀(v6 v7:Option V) (H':Hp) (acc:List Int) (g:V) (l':Sound.Bits),ae H0 H'→bj A.aV H' R l'→bI A H' p g acc.reverse→acc.length≤100000→bF A H0 R (.ok (acc.reverse.map fun (y:Int)=>y*2^p.z) l':Sound.Got (List Int)) (fun ys H'=> ∀D,H0 D=none→H' D=some (.lst (ys.map V.int))→Q (.ref D) H') E→
    Bz (iH (uU K (oG K (gJ 4) "taken")) (jK 6) mj (iC (rI xp fun i j=> .int (i*2^j.toNat)) (gJ 6) (oG K (gJ 4) "z")) [6]) {nx:=fun x H'=>Q V.aw H',rt:=Q} [some (.ref R.r),some (.int (p.n:Nat)),some (.int (wd:Nat)),some p.pn,some (.ref p.x),some (.int (kind:Nat)),v6,v7] H':=fun v6 v7 H' acc g l' sF stF hPF hal kF=>by
   refine (aD rfl hPF.1 T.cy T.lK rfl ⟨p.t,rfl,⟨_,ah.of hPF.2.1⟩,fun D hD=>?_⟩)
   refine fq (J:=eM K p.t) hD acc.reverse.length (by rw[List.length_reverse,sizeLine_eq];lia) (fun i=> .int (acc.reverse.getD i 0*2^p.z)) (fun i Hh hi t1=>⟨_,_,t1.seq (ah.of hPF.2.1),lp hi⟩) (fun Hh t1=>⟨_,t1.seq (ah.of hPF.2.1),by rw[List.length_map];exact Nat.le_refl _⟩) ?_ ?_
   ·rintro i Hh y H5 hi t1 ⟨rfl,hy⟩ C hC
    obtain ⟨rfl,_⟩:=uC (hy _ (t1.seq (ah.of hPF.2.1)))
    have hyf:=hPF.2.2 (acc.reverse.getD i 0) (by rw[List.getD_eq_getElem?_getD,List.getElem?_eq_getElem hi];exact List.getElem_mem hi)
    have hpb:=hp.2.2
    exact ⟨rfl,_,rfl,aD rfl (t1 _ _ hPF.1) T.cy T.vL rfl (ag _ _ ⟨rfl,rfl,⟨by lia,by lia,Cu hyf hpb.2.1⟩,hC _ (ae.refl _)⟩)⟩
   ·intro H5 s5 hx5
    have st5:bj A.aV H5 R l':=by
     obtain ⟨i,ei,hi,hxr⟩:=stF
     exact ⟨i,ei,hi,s5 _ _ hxr⟩
    refine kF H5 (sF.trans s5) st5 D (sF.none hD) (hx5.trans ?_)
    congr 2
    rw[List.map_map]
    refine List.ext_getElem (by simp) fun i h1 h2=>?_
    simp at h2
    simp [List.getD_eq_getElem?_getD,List.getElem?_eq_getElem (show i<acc.reverse.length by rw[List.length_reverse];exact h2)]
  refine ⟨_,rfl,ag _ _ ⟨rfl,rfl,_,rfl,?_⟩⟩
  unfold kindS at k3
  have hpb:=hp.2.2
  refine bW (fun hc=>?_) fun hc10=>?_
  ·have hc:(10:Int)<((kind:Nat):Int):=of_decide_eq_true hc
   rw[if_neg (by lia),if_neg (by lia),if_pos (by lia)] at k3
   exact k3 H3 s03
  ·have hc10: ¬(10:Int)<((kind:Nat):Int):=fun z=>hc10 (decide_eq_true z)
   refine ⟨_,rfl,rfl,_,rfl,?_⟩
   have e0:=iZ kind 0
   refine bW (fun hc0=>?_) fun hc0=>?_
   ·have hc0:kind=0:=of_decide_eq_true (e0.symm.trans hc0)
    rw[if_pos hc0,then_assoc] at k3
    obtain ⟨px3,hx3⟩:=st3.obj
    obtain ⟨sh3,hIh3⟩:=hI.aC s03
    refine (aS rfl hx3 rfl (aD rfl hP3.1 T.cy T.sC rfl ⟨Wg.aC [R.r] H3,R,p.wd,l2,rfl,bT _ _,hIh3,st3,by lia,k3.cV sh3 fun y l4 H4 ey s4 st4 k4=>?_⟩))
    have hP4:=gP st3 hP3 s4
    have s04:=sh3.trans s4
    have hfy:=zu ey hpb.1
    refine ⟨_,rfl,((p.n:Nat):Int),rfl,by lia,by lia,?_⟩
    rw[Int.toNat_natCast]
    refine fM (lo:=0) (n:=p.n) (fun i σ H'=>(ae H0 H'∧bj A.aV H' R l4∧bI A H' p .aw (List.replicate i y)∧ ∀j,j<i→p.may j (y*2^p.z)=true)∧ ∃v7:Option V,σ= [some (.ref R.r),some (.int (p.n:Nat)),some (.int (wd:Nat)),some p.pn,some (.ref p.x),some (.int (kind:Nat)),some (.int y),v7]) ⟨⟨s04,st4,hP4,fun j hj=>by lia⟩,none,rfl⟩ ?_ ?_
    ·rintro i σ H5 hi ⟨⟨s5,st5,hP5,hall⟩,v7,rfl⟩
     obtain ⟨s6,hp6⟩:=hp.aC s5
     refine (aS rfl hP5.1 rfl ⟨_,rfl,Wg.aC [p.x,p.t] H5,p.x,p.dx,p.t,p.wd,p.z,p.n,p.pn, .aw,List.replicate i y,p.may,y,rfl,bT _ _,hp6.1,hP5,hp6.2.1,⟨hpb.1,hpb.2.1,hpb.2.2.1,by rw[List.length_replicate];exact hi,hpb.2.2.2⟩,?_⟩)
     rw[hfy,Bool.true_and,List.length_replicate]
     by_cases hm:p.may i (y*2^p.z)=true
     ·rw[if_pos hm]
      refine fun H6 s7 hP6=>⟨⟨s6.trans s7,st5.aC hP5 s7,?_,fun j hj=>?_⟩,some (.int (0+(i:Nat))),rfl⟩
      ·rw[List.replicate_succ'];exact hP6
      ·rcases (by lia:j<i∨j=i) with q|rfl
       ·exact hall j q
       ·exact hm
     ·rw[if_neg hm]
      rw[if_neg (fun z=>hm (C5.mp z i hi))] at k4
      exact fun H6 s7=>k4 H6 (s6.trans s7)
    ·rintro σ H5 ⟨⟨s5,st5,hP5,hall⟩,v7,rfl⟩
     rw[if_pos (C5.mpr hall)] at k4
     exact fin _ _ H5 (List.replicate p.n y) .aw l4 s5 st5 (by rw[List.reverse_replicate];exact hP5) (by rw[List.length_replicate];lia) k4
   ·have n0: ¬kind=0:=fun z=>hc0 (e0.trans (decide_eq_true z))
    rw[if_neg n0] at k3
    refine ⟨_,rfl,rfl,_,rfl,?_⟩
    have e1:=iZ kind 1
    refine bW (fun hc1=>?_) fun hc1=>?_
    ·have hc1:kind=1:=of_decide_eq_true (e1.symm.trans hc1)
     rw[if_pos hc1] at k3
     refine ⟨_,rfl,_,rfl,_,rfl,H0,R,p, .aw,p.n, [],l2,rfl,s03,hI,hp,st3,hP3,(by show 0+p.n≤_;lia),k3.seq fun ys l4 H4 ey s4 st4 k4 hP4=>?_⟩
     have hyl:=gs ey
     exact fin _ _ H4 ys .aw l4 s4 st4 hP4 (by rw[hyl];show 0+p.n≤_;lia) k4
    ·have n1: ¬kind=1:=fun z=>hc1 (e1.trans (decide_eq_true z))
     rw[if_neg n1,if_neg (by lia)] at k3
     refine ⟨_,rfl,_,rfl,_,rfl,_,rfl,H0,R,p,kind,l2,rfl,s03,hI,hp,st3,hP3,⟨by lia,by lia⟩,k3.seq fun ys l4 H4 ey s4 st4 k4 ⟨g,hP4⟩=>?_⟩
     exact fin _ _ H4 ys g l4 s4 st4 hP4 (P7 ey hn) k4
theorem Ep {w z n p r:Nat} {a:List Int} {h:Nat} {may:Nat→Int→Bool}: ∀{k i:Nat} {ys xs:List Int} {l l':Sound.Bits},Sound.takeGroups w z n p r a h may k (i+1) ys l= .ok xs l'→xs.length=ys.length+k*(n/2^r)
 |0,i,ys,xs,l,l',e=>by unfold Sound.takeGroups at e;cases e;lia
 |k+1,i,ys,xs,l,l',e=>by
  rw[rZ,if_neg (by lia),Nat.sub_zero] at e
  cases e1:iK w z may a h (n/2^r) ys l with
  |ok ys1 l1=>
   rw[e1] at e
   have h1:=uf e1
   have h2:=Ep (show Sound.takeGroups w z n p r a h may k (i+1+1) ys1 l1= .ok xs l' from e)
   rw[Nat.add_mul,Nat.one_mul]
   lia
  |bad=>rw[e1] at e;cases e
  |short=>rw[e1] at e;cases e
theorem Er {w z n:Nat} {may:Nat→Int→Bool} {p:Nat} {a:List Int} {h:Nat} {ys xs:List Int} {l l':Sound.Bits} (e:eU w z n may p a h ys l= .ok xs l') (hy:ys.length=p):xs.length=n:=by
 unfold eU at e
 cases e1:Sound.takeU 3 l with
 |ok r l1=>
  rw[e1] at e
  have e:(if 6<r∨Sound.mayCut n p r=false then (.bad:Sound.Got (List Int)) else Sound.takeGroups w z n p r a h may (2^r) 0 ys l1)= .ok xs l':=e
  split at e
  ·cases e
  ·rename_i hr
   have hmc:n%2^r=0∧p≤n/2^r:=by
    have:Sound.mayCut n p r=true:=by
     cases q:Sound.mayCut n p r with
     |true=>rfl
     |false=>exact absurd (.inr q) hr
    unfold Sound.mayCut at this
    rw[Bool.and_eq_true,beq_iff_eq,decide_eq_true_eq] at this
    exact this
   have hdiv:n/2^r*2^r=n:=Nat.div_mul_cancel (Nat.dvd_of_mod_eq_zero hmc.1)
   have h2p:0<2^r:=Nat.two_pow_pos r
   obtain ⟨m,hm⟩: ∃m,2^r=m+1:=⟨2^r-1,by lia⟩
   rw[hm,rZ,if_pos rfl] at e
   cases e2:iK w z may a h (n/2^r-p) ys l1 with
   |ok ys1 l2=>
    rw[e2] at e
    have h1:=uf e2
    have h2:=Ep (show Sound.takeGroups w z n p r a h may m (0+1) ys1 l2= .ok xs l' from e)
    have hdiv2:(m+1)*(n/2^r)=n:=by rw[←hm,Nat.mul_comm];exact hdiv
    rw[Nat.add_mul,Nat.one_mul] at hdiv2
    have hp:=hmc.2
    generalize n/2^r=sz at*
    lia
   |bad=>rw[e2] at e;cases e
   |short=>rw[e2] at e;cases e
 |bad=>rw[e1] at e;cases e
 |short=>rw[e1] at e;cases e
theorem Mp {x z n:Nat} {may:Nat→Int→Bool} {kind:Nat} {l l':Sound.Bits} {xs:List Int} (e:iQ x z n may kind l= .ok xs l'):xs.length=n:=by
 have go: ∀{o:Nat} {f:List Int→Sound.Bits→Sound.Got (List Int)},(∀ys l,ys.length=o→f ys l= .ok xs l'→xs.length=n)→(Sound.takeMany (gL x z may) o [] l).then_ f= .ok xs l'→xs.length=n:=fun {o f} hf e=>by
  cases e1:Sound.takeMany (gL x z may) o [] l with
  |ok ys l1=>
   rw[e1] at e
   have h1:=gs e1
   exact hf ys l1 (by rw[h1];show 0+o=o;lia) e
  |bad=>rw[e1] at e;cases e
  |short=>rw[e1] at e;cases e
 unfold iQ at e
 split at e
 ·split at e
  ·cases e
  ·exact go (fun ys l hy h=>Er h hy) e
 ·split at e
  ·cases e
  ·refine go (fun ys l hy h=>?_) e
   cases e1:Sound.takeU 4 l with
   |ok hh l1=>
    rw[e1] at h
    have h:((Sound.takeMany (fun (_:List Int) (l:Sound.Bits)=>Sound.takeS 12 l) (kind-6) [] l1).then_ fun (a:List Int) (l:Sound.Bits)=>eU x z n may (kind-6) a.reverse hh ys l)= .ok xs l':=h
    cases e2:Sound.takeMany (fun (_:List Int) (l:Sound.Bits)=>Sound.takeS 12 l) (kind-6) [] l1 with
    |ok a l2=>
     rw[e2] at h
     exact Er h hy
    |bad=>rw[e2] at h;cases h
    |short=>rw[e2] at h;cases h
   |bad=>rw[e1] at h;cases h
   |short=>rw[e1] at h;cases h
theorem cf {α β:Type} {g:Sound.Got α} {f:α→Sound.Bits→Sound.Got β} {y:β} {r:Sound.Bits} (h:g.then_ f= .ok y r): ∃x l,g= .ok x l∧f x l= .ok y r:=by
 cases g with
 |ok x l=>exact (ag x l ⟨rfl,h⟩)
 |bad=>cases h
 |short=>cases h
theorem pM {w n:Nat} {may:Nat→Int→Bool} {l l':Sound.Bits} {ys:List Int} (e:Sound.takePart w n may l= .ok ys l'):ys.length=n:=by
 rw[Eo] at e
 obtain ⟨z,l1,_,e⟩:=cf e
 obtain ⟨kind,l2,_,e⟩:=cf e
 obtain ⟨xs,l3,e3,e⟩:=cf e
 cases e
 rw[List.length_map,List.length_reverse]
 unfold kindS at e3
 split at e3
 ·obtain ⟨y,l4,_,e4⟩:=cf e3
  split at e4
  ·cases e4;rw[List.length_replicate]
  ·cases e4
 ·split at e3
  ·have:=gs e3
   rw[this];show 0+n=n;lia
  ·split at e3
   ·cases e3
   ·exact Mp e3
def lG (d n m:Nat) (l:Sound.Bits):Sound.Got (List (Int×Int)):=(Sound.takePart (km m d) n (fun _ _=>true) l).then_ fun (a:List Int) (l:Sound.Bits)=>(Sound.takePart (jB m d) n (kC m d a) l).then_ fun (b:List Int) (l:Sound.Bits)=> .ok (List.zipWith (Sound.unpair m) a b) l
def Qq (K:PySem.W.Frag) (A:aW):Sp:=fun vs H Q E=> ∃(H0:Hp) (R:bH) (d n m:Nat) (l:Sound.Bits),vs= [.int d, .int n, .int m, .ref R.r]∧ae H0 H∧cI K H0 R∧bj A.aV H R l∧(4≤d∧d≤24∧m<4∧n≤256)∧
 bF A H0 R (lG d n m l) (fun ps H'=> ∀D a b,(H0 D=none∧H0 a=none∧H0 b=none)→H' D=some (.lst [.ref a, .ref b])→H' a=some (.lst ((ps.map fun x=>x.1).map V.int))→H' b=some (.lst ((ps.map fun x=>x.2).map V.int))→Q (.ref D) H') E
theorem f9:aK ["depth", "n", "mode", "reader", "first", "partner", "second", "pairs", "x", "y", "pair"] ["depth", "n", "mode", "reader"] (aB AB):=⟨rfl,rfl,rfl,by decide+kernel,rfl,by decide+kernel,by decide+kernel⟩
theorem bj.same {H H':Hp} {R:bH} {l:Sound.Bits} (h:bj A.aV H R l) (s:ae H H'):bj A.aV H' R l:=by
 obtain ⟨i,ei,hi,hxr⟩:=h
 exact ⟨i,ei,hi,s _ _ hxr⟩
theorem GI (T:Txt K mg A):az P w K mg base (aY P w) 10 A.ou A.oV ["depth", "n", "mode", "reader"] (Qq K A):=by
 refine T.Gr.bO f9 (fun vs H Q E h=>?_) (fun cdv Ar outer s H vs Q E hr h=>?_)
 ·obtain ⟨H0,R,d,n,m,l,rfl,_⟩:=h
  rfl
 ·obtain ⟨H0,R,d,n,m,l,rfl,s0,hI,hS,⟨hd1,hd2,hm,hn⟩,k⟩:=h
  have hr1':aE 1 _:=hr.mono (by decide)
  have hr2':aE 2 _:=hr.mono (by decide)
  refine ⟨_,ai (aJ (i:=4) f9.nd rfl (Or.inl rfl) (aP (xY T) hr rfl T.xu T.rN.kp T.wU .nil aN (aa (pv 3) (aa (pv 1) (aa (aP (O9 T) hr1' rfl T.OV T.Fp.kp T.Pu .nil aQ (aa (pv 2) (aa (pv 0) af))) (aa jA af))))))
   (ai (aJ (i:=5) f9.nd rfl (Or.inl rfl) (fW T.G7 (G2 T) hr2' rfl T.Oy T.OC .nil aQ (aa (pv 2) (aa (pv 0) (aa (pv 4) af)))))
   (ai (aJ (i:=6) f9.nd rfl (Or.inl rfl) (aP (xY T) hr rfl T.xu T.rN.kp T.wU .nil aN (aa (pv 3) (aa (pv 1) (aa (aP (QB T) hr1' rfl T.K9 T.zT.kp T.Oj .nil aQ (aa (pv 2) (aa (pv 0) af))) (aa (pv 5) af))))))
   (ai (IX (i:=7) (own:= [("x",8),("y",9)]) rfl f9.nd rfl rfl rfl (CP rfl T.we (aa (pv 4) (aa (pv 6) af))) (d5 (by kernel_rfl))
    (fun _ _ _ _ _=>nu (K:=K) (n:=2) rfl rfl (gX (bq (i:=8) f9.nd rfl (Or.inl rfl)) (gX (bq (i:=9) f9.nd rfl (Or.inl rfl)) mY))) (fun _ _ _ _ _=>d6)
    (fun _ _ _ _ _=>aP (Ap T) hr1' rfl T.AV T.xQ.kp T.CJ .nil aQ (aa (pv 2) (aa (pv 8) (aa (pv 9) af)))))
   (ak (aX (bZ (aa (fz (own:= [("pair",10)]) rfl f9.nd (dn (pv 7)) (d5 (by kernel_rfl)) (fun _ _ _ _ _=>bq (i:=10) f9.nd rfl (Or.inl rfl)) (fun _ _ _ _ _=>d6) (fun _ _ _ _ _=>cJ (tT (K:=K) rfl) (pv 10) aq (fun _ _=>rfl)))
    (aa (fz (own:= [("pair",10)]) rfl f9.nd (dn (pv 7)) (d5 (by kernel_rfl)) (fun _ _ _ _ _=>bq (i:=10) f9.nd rfl (Or.inl rfl)) (fun _ _ _ _ _=>d6) (fun _ _ _ _ _=>cJ (tT (K:=K) rfl) (pv 10) aq (fun _ _=>rfl))) af)))))))),?_⟩
  have hw1:2≤km m d∧km m d≤25:=by unfold km;split<;>lia
  have hw2:2≤jB m d∧jB m d≤25:=by unfold jB;split<;>lia
  unfold lG at k
  refine ⟨_,rfl,_,rfl,_,rfl,_,rfl,ag m d ⟨rfl,H0,R,km m d,aA n .aw _ l ⟨rfl,s0,hI, .inl ⟨rfl,rfl⟩,hS,⟨hw1.1,hw1.2,hn⟩,k.seq fun a l1 H1 ea s1 st1 k1 D1 hD1 hx1=>?_⟩⟩⟩
  have hal:=pM ea
  refine ⟨_,rfl,_,rfl,_,rfl,fun pa dpa hpa hdpa hne=>(tS pa dpa _ _ _ ⟨rfl,aj,rfl,?_⟩)⟩
  rw[gN]
  have s2:ae H1 (upd (upd H1 dpa (.own pa)) pa (.ins A.dm dpa (lu (.int (m:Nat)) (.int (d:Nat)) (.ref D1)))):=d4 hpa hdpa
  have hpa2:upd (upd H1 dpa (.own pa)) pa (.ins A.dm dpa (lu (.int (m:Nat)) (.int (d:Nat)) (.ref D1))) pa=some (.ins A.dm dpa (lu (.int (m:Nat)) (.int (d:Nat)) (.ref D1))):=aj
  generalize upd (upd H1 dpa (.own pa)) pa (.ins A.dm dpa (lu (.int (m:Nat)) (.int (d:Nat)) (.ref D1)))=H2 at*
  have s02:=s1.trans s2
  have st2:=st1.same s2
  obtain ⟨sh,hIh⟩:=hI.aC s02
  obtain ⟨ir,hxr⟩:=st2.obj
  have hD12:=s2 _ _ hx1
  have nD:D1≠R.r:=fun z=>by rw[z,hxr] at hD12;cases hD12
  have nP:pa≠R.r:=fun z=>by rw[z,(st1.obj).choose_spec] at hpa;cases hpa
  have hM:jy K A (Wg.aC [R.r] H2) (.ref pa) n (kC m d a):= .inr ⟨pa,m,d,a,rfl,⟨dpa,D1,by rw[cU (by simpa using nP)];exact hpa2,ah.of (by rw[cU (by simpa using nD)];exact hD12)⟩,⟨hm,hd1,hd2,hal⟩,rfl⟩
  refine ⟨_,rfl,_,rfl,_,rfl,_,rfl,ag m d ⟨rfl,_,rfl,Wg.aC [R.r] H2,R,jB m d,aA n (.ref pa) _ l1 ⟨rfl,bT _ _,hIh,hM,st2,⟨hw2.1,hw2.2,hn⟩,k1.cV sh fun b l2 H3 eb s3 st3 k3 D2 hD2 hx3=>?_⟩⟩⟩
  have hbl:=pM eb
  have hD13:H3 D1=some (.lst (a.map V.int)):=s3 _ _ (by rw[cU (by simpa using nD)];exact hD12)
  have s03:=sh.trans s3
  have q1:ah K H3 D1 (a.map V.int):=ah.of hD13
  have q2:ah K H3 D2 (b.map V.int):=ah.of hx3
  refine ⟨_,rfl,_,rfl,aA D1 D2 _ _ ⟨rfl,q1,q2,fun D hD=>?_⟩⟩
  refine zA (J:=uJ K D1 D2) hD n (by rw[sizeLine_eq];lia) (fun i v H'=> ∃t,v= .ref t∧H' t=some (.tup [.int (Sound.unpair m (a.getD i 0) (b.getD i 0)).1, .int (Sound.unpair m (a.getD i 0) (b.getD i 0)).2])) (fun i v H' H'' _ s ⟨t,e,h⟩=>⟨t,e,s _ _ h⟩)
   (fun i Hh hi t1=>⟨_,_,_,_,t1.seq q1,t1.seq q2,lp (by lia),lp (by lia)⟩) (fun Hh t1=>⟨_,_,t1.seq q1,t1.seq q2, .inl (by rw[List.length_map];lia)⟩) ?_ ?_
  ·rintro i Hh z H' hi t1 ⟨lst,hlst⟩ ⟨t,x1,y1,rfl,ht,rfl,hxx,hyy⟩ C hC
   obtain ⟨rfl,_⟩:=uC (hxx _ (t1.seq q1))
   obtain ⟨rfl,_⟩:=uC (hyy _ (t1.seq q2))
   have st:ae Hh (upd Hh t (.tup [V.int (a.getD i 0),V.int (b.getD i 0)])):=aF ht
   refine (ag t _ ⟨rfl,a8.of aj,rfl,ag _ _ ⟨rfl,ag _ _ ⟨rfl,rfl,rfl,_,rfl,_,rfl,_,rfl,bE m _ _ ⟨rfl,hm,fun D5 H5 hD5 s5 hx5=>?_⟩⟩⟩⟩)
   refine hC _ H5 (st.trans s5) ⟨D5,rfl,?_⟩
   have n5:D5≠D:=fun z=>by
    have:=st _ _ hlst
    rw[←z,hD5] at this;cases this
   rw[hide_ne n5];exact hx5
  intro H4 xs s4 hxl hxp hDx
  have st4:=st3.same s4
  have s04:=s03.trans s4
  have hD4:ah K H4 D xs:=ah.of hDx
  have zl:(List.zipWith (Sound.unpair m) a b).length=n:=by rw[List.length_zipWith];lia
  have zg: ∀i,i<n→(List.zipWith (Sound.unpair m) a b)[i]?=some (Sound.unpair m (a.getD i 0) (b.getD i 0)):=fun i hi=>by
   rw[List.getElem?_zipWith,List.getElem?_eq_getElem (show i<a.length by lia),List.getElem?_eq_getElem (show i<b.length by lia),List.getD_eq_getElem?_getD,List.getD_eq_getElem?_getD,List.getElem?_eq_getElem (show i<a.length by lia),List.getElem?_eq_getElem (show i<b.length by lia)];rfl
  have item: ∀i,i<n→ ∃t,xs[i]?=some (.ref t)∧H4 t=some (.tup [.int (Sound.unpair m (a.getD i 0) (b.getD i 0)).1, .int (Sound.unpair m (a.getD i 0) (b.getD i 0)).2]):=fun i hi=>by
   have e:=List.getElem?_eq_getElem (l:=xs) (i:=i) (by lia)
   obtain ⟨t,et,ht⟩:=hxp i _ e
   exact ⟨t,by rw[e,et],ht⟩
  have vals: ∀(f:Int×Int→Int),(List.range n).map (fun i=>V.int (f (Sound.unpair m (a.getD i 0) (b.getD i 0))))=((List.zipWith (Sound.unpair m) a b).map f).map V.int:=fun f=>by
   refine List.ext_getElem? fun i=>?_
   by_cases hi:i<n
   ·rw[List.getElem?_map,List.getElem?_range hi,List.getElem?_map,List.getElem?_map,zg i hi];rfl
   ·rw[List.getElem?_eq_none (by rw[List.length_map,List.length_range];lia),List.getElem?_eq_none (by rw[List.length_map,List.length_map,zl];lia)]
  refine ⟨_,rfl,D,rfl,⟨_,hD4⟩,fun E1 hE1=>?_⟩
  refine fq (J:=eM K D) hE1 n (by rw[sizeLine_eq];lia) (fun i=> .int (Sound.unpair m (a.getD i 0) (b.getD i 0)).1) (fun i Hh hi t1=>by
   obtain ⟨t,e,_⟩:=item i hi
   exact ⟨_,_,t1.seq hD4,e⟩) (fun Hh t1=>⟨_,t1.seq hD4,by lia⟩) ?_ ?_
  ·rintro i Hh z H' hi t1 ⟨rfl,hz⟩ C hC
   obtain ⟨t,e,ht⟩:=item i hi
   have ez:=hz _ (t1.seq hD4)
   rw[e] at ez;cases ez
   exact ⟨rfl,_,rfl,aA t _ _ _ ⟨rfl,rfl,a8.of (t1 _ _ ht),cv (j:=0) rfl,hC _ (ae.refl _)⟩⟩
  intro H5 s5 hE1x
  rw[vals (fun x=>x.1)] at hE1x
  refine ⟨_,rfl,D,rfl,⟨_,s5.seq hD4⟩,fun E2 hE2=>?_⟩
  refine fq (J:=eM K D) hE2 n (by rw[sizeLine_eq];lia) (fun i=> .int (Sound.unpair m (a.getD i 0) (b.getD i 0)).2) (fun i Hh hi t1=>by
   obtain ⟨t,e,_⟩:=item i hi
   exact ⟨_,_,(s5.trans t1).seq hD4,e⟩) (fun Hh t1=>⟨_,(s5.trans t1).seq hD4,by lia⟩) ?_ ?_
  ·rintro i Hh z H' hi t1 ⟨rfl,hz⟩ C hC
   obtain ⟨t,e,ht⟩:=item i hi
   have ez:=hz _ ((s5.trans t1).seq hD4)
   rw[e] at ez;cases ez
   exact ⟨rfl,_,rfl,aA t _ _ _ ⟨rfl,rfl,a8.of ((s5.trans t1) _ _ ht),cv (j:=1) rfl,hC _ (ae.refl _)⟩⟩
  intro H6 s6 hE2x
  rw[vals (fun x=>x.2)] at hE2x
  refine ⟨by rw[sizeLine_eq];show 2≤_;lia,fun D7 hD7=>?_⟩
  have s7:=aF (o:= .lst [V.ref E1,V.ref E2]) hD7
  have s06:=s04.trans (s5.trans s6)
  exact k3 _ (s06.trans s7) ((st4.same (s5.trans s6)).same s7) D7 E1 E2 ⟨s06.none hD7,s04.none hE1,(s04.trans s5).none hE2⟩ aj (s7 _ _ (s6 _ _ hE1x)) (s7 _ _ hE2x)
def oJ (c d b o g s:V):List (Str×V):= [("channels",c),("depth",d),("block",b),("order",o),("group",g),("spare",s)]
def gk (C:Addr) (H:Hp) (f:Addr) (F:Sound.Form):Prop:= ∃dx,H f=some (.ins C dx (oJ (.int F.channels) (.int F.depth) (.int F.block) (.int F.order) (.int F.group) (.int F.spare)))
theorem gk.same {C:Addr} {H H':Hp} {f:Addr} {F:Sound.Form} (h:gk C H f F) (s:ae H H'):gk C H' f F:=by
 obtain ⟨dx,h⟩:=h
 exact ⟨dx,s _ _ h⟩
def MF (K:PySem.W.Frag) (C:Addr):Sp:=fun vs H Q _=> ∃(p dx q:Addr) (c d b o g s:Int),vs= [.ref p, .ref q]∧H p=some (.ins C dx [])∧ah K H q [.int c, .int d, .int b, .int o, .int g, .int s]∧Q .aw (upd H p (.ins C dx (oJ (.int c) (.int d) (.int b) (.int o) (.int g) (.int s))))
theorem PR:aK ["self", "form"] ["self", "form"] (aB DY):=⟨rfl,rfl,rfl,by decide+kernel,rfl,by decide+kernel,by decide+kernel⟩
theorem Tt (T:Txt K mg A):az P w K mg base a9 1 A.mL A.qQ ["self", "form"] (MF K A.bM):=by
 refine T.Qe.ok PR (fun vs H Q E h=>?_) (fun cdv Ar outer s H vs Q E hr h=>?_)
 ·obtain ⟨p,dx,q,c,d,b,o,g,s,rfl,_⟩:=h
  rfl
 ·obtain ⟨p,dx,q,c,d,b,o,g,s,rfl,hp,hq,k⟩:=h
  refine ⟨_,ai (bh (pv 0) (cJ d9 (pv 1) aq (fun _ _=>rfl)) rfl) (ai (bh (pv 0) (cJ d9 (pv 1) aq (fun _ _=>rfl)) rfl) (ai (bh (pv 0) (cJ d9 (pv 1) aq (fun _ _=>rfl)) rfl)
   (ai (bh (pv 0) (cJ d9 (pv 1) aq (fun _ _=>rfl)) rfl) (ai (bh (pv 0) (cJ d9 (pv 1) aq (fun _ _=>rfl)) rfl) (ak (bh (pv 0) (cJ d9 (pv 1) aq (fun _ _=>rfl)) rfl)))))),?_⟩
  have sq: ∀fs,ah K (upd H p (.ins A.bM dx fs)) q [.int c, .int d, .int b, .int o, .int g, .int s]:=fun fs=>by
   rcases hq with (h|⟨ob,h⟩)|h
   ·exact .inl (.inl (by rw[aL (tf h hp (by intro e;cases e))];exact h))
   ·exact .inl (.inr ⟨ob,by rw[aL (tf h hp (by intro e;cases e))];exact h⟩)
   ·exact .inr h
  refine ⟨_,rfl,aA q _ _ _ ⟨rfl,rfl,hq,cv (j:=0) rfl,_,rfl,p,A.bM,dx, [],rfl,hp,T.b8,T.rO,(by show 0<1000;decide),?_⟩⟩
  refine ⟨_,rfl,aA q _ _ _ ⟨rfl,rfl,sq _,cv (j:=1) rfl,_,rfl,aA p A.bM dx _ ⟨rfl,aj,T.b8,T.nN,(by show 1<1000;decide),?_⟩⟩⟩
  rw[cB]
  refine ⟨_,rfl,aA q _ _ _ ⟨rfl,rfl,sq _,cv (j:=2) rfl,_,rfl,aA p A.bM dx _ ⟨rfl,aj,T.b8,T.jF,(by show 2<1000;decide),?_⟩⟩⟩
  rw[cB]
  refine ⟨_,rfl,aA q _ _ _ ⟨rfl,rfl,sq _,cv (j:=3) rfl,_,rfl,aA p A.bM dx _ ⟨rfl,aj,T.b8,T.JE,(by show 3<1000;decide),?_⟩⟩⟩
  rw[cB]
  refine ⟨_,rfl,aA q _ _ _ ⟨rfl,rfl,sq _,cv (j:=4) rfl,_,rfl,aA p A.bM dx _ ⟨rfl,aj,T.b8,T.rH,(by show 4<1000;decide),?_⟩⟩⟩
  rw[cB]
  refine ⟨_,rfl,aA q _ _ _ ⟨rfl,rfl,sq _,cv (j:=5) rfl,_,rfl,aA p A.bM dx _ ⟨rfl,aj,T.b8,T.vn,(by show 5<1000;decide),?_⟩⟩⟩
  rw[cB]
  exact k
theorem Az (F:Sound.Form) (n m:Nat) (ms:List Nat) (acc:List (List Int)) (l:Sound.Bits):Sound.takeChannels F n (m::ms) acc l=(lG F.depth n m l).then_ fun (ps:List (Int×Int)) (l:Sound.Bits)=>Sound.takeChannels F n ms (acc++ [ps.map fun (x:Int×Int)=>x.1,ps.map fun (x:Int×Int)=>x.2]) l:=by
 unfold lG
 rw[then_assoc]
 conv=>lhs;unfold Sound.takeChannels
 congr 1
 funext a l
 rw[then_assoc]
 rfl
def dY (H:Hp) (D:Addr) (cs:List (List Int)):Prop:= ∃as:List Addr,H D=some (.lst (as.map V.ref))∧as.length=cs.length∧ ∀(k:Nat) (a:Addr),as[k]?=some a→a≠D∧H a=some (.lst ((cs.getD k []).map V.int))
theorem dY.same {H H':Hp} {D:Addr} {cs:List (List Int)} (h:dY H D cs) (s:ae H H'):dY H' D cs:=by
 obtain ⟨as,h1,h2,h3⟩:=h
 exact ⟨as,s _ _ h1,h2,fun k a e=>⟨(h3 k a e).1,s _ _ (h3 k a e).2⟩⟩
theorem dY.add {H:Hp} {D:Addr} {cs:List (List Int)} {bs:List Addr} {ds:List (List Int)} (h:dY H D cs) (hl:bs.length=ds.length) (hb: ∀(k:Nat) (a:Addr),bs[k]?=some a→a≠D∧H a=some (.lst ((ds.getD k []).map V.int))): ∃as:List Addr,H D=some (.lst (as.map V.ref))∧dY (upd H D (.lst (as.map V.ref++bs.map V.ref))) D (cs++ds):=by
 obtain ⟨as,h1,h2,h3⟩:=h
 refine ⟨as,h1,as++bs,by rw[aj,List.map_append],by rw[List.length_append,List.length_append,h2,hl],fun k a e=>?_⟩
 by_cases hk:k<as.length
 ·rw[List.getElem?_append_left hk] at e
  obtain ⟨z1,z2⟩:=h3 k a e
  refine ⟨z1,?_⟩
  rw[aL z1,z2,List.getD_eq_getElem?_getD,List.getD_eq_getElem?_getD,List.getElem?_append_left (by lia)]
 ·rw[List.getElem?_append_right (by lia)] at e
  obtain ⟨z1,z2⟩:=hb _ a e
  refine ⟨z1,?_⟩
  rw[aL z1,z2,List.getD_eq_getElem?_getD,List.getD_eq_getElem?_getD,List.getElem?_append_right (by lia),h2]
theorem dY.aC {H H':Hp} {D:Addr} {cs:List (List Int)} {R:bH} {l:Sound.Bits} (h:dY H D cs) (st:bj A.aV H R l) (s:ae (Wg.aC [R.r] H) H'):dY H' D cs:=by
 obtain ⟨as,h1,h2,h3⟩:=h
 obtain ⟨i,hx⟩:=st.obj
 have keep: ∀b xs,H b=some (.lst xs)→H' b=some (.lst xs):=fun b xs e=>s _ _ (by rw[cU (fun z=>by rw[List.mem_singleton.mp z,hx] at e;cases e)];exact e)
 exact ⟨as,keep _ _ h1,h2,fun k a e=>⟨(h3 k a e).1,keep _ _ (h3 k a e).2⟩⟩
def Ku (K:PySem.W.Frag) (A:aW):Sp:=fun vs H Q E=> ∃(H0:Hp) (R:bH) (f:Addr) (F:Sound.Form) (n:Nat) (l:Sound.Bits),vs= [.ref f, .int n, .ref R.r]∧ae H0 H∧cI K H0 R∧gk A.bM H0 f F∧bj A.aV H R l∧(F.ok=true∧n≤256)∧
 bF A H0 R ((Sound.takeMany (fun (_:List Nat) (l:Sound.Bits)=>Sound.takeU 2 l) (Sound.pairs F) [] l).then_ fun (ms:List Nat) (l:Sound.Bits)=>Sound.takeChannels F n ms.reverse [] l) (fun cs H'=> ∀D,H0 D=none→dY H' D cs→Q (.ref D) H') E
theorem mq:aK ["form", "n", "reader", "modes", "channels", "mode", "pair"] ["form", "n", "reader"] (aB BR):=⟨rfl,rfl,rfl,by decide+kernel,rfl,by decide+kernel,by decide+kernel⟩
theorem g9 {F:Sound.Form} (h:F.ok=true):(1≤F.channels∧F.channels≤4)∧(4≤F.depth∧F.depth≤24)∧(16≤F.block∧F.block≤256)∧F.order≤4∧(1≤F.group∧F.group≤8)∧F.spare≤4:=by
 unfold Sound.Form.ok at h
 simp only [Bool.and_eq_true,decide_eq_true_eq] at h
 lia
theorem Lg (T:Txt K mg A):az P w K mg base (aY P w) 11 A.p8 A.pY ["form", "n", "reader"] (Ku K A):=by
 refine T.Dg.bO mq (fun vs H Q E h=>?_) (fun cdv Ar outer s H vs Q E hr h=>?_)
 ·obtain ⟨H0,R,f,F,n,l,rfl,_⟩:=h
  rfl
 ·obtain ⟨H0,R,f,F,n,l,rfl,s0,hI,hF,hS,⟨ao,hn⟩,k⟩:=h
  have hr1':aE 1 _:=hr.mono (by decide)
  have hr9':aE 9 _:=hr.mono (by decide)
  refine ⟨_,ai (RL (i:=3) (own:= [("pair",6)]) rfl rfl rfl jS rfl mq.nd rfl rfl rfl (fu rfl T.dU (aa (au jG (ay (pv 0) rfl) aq) af)) (d5 (by kernel_rfl)) (fun _ _ _ _ _ _=>bq (i:=6) mq.nd rfl (Or.inl rfl)) (fun _ _ _ _ _ _=>d6)
    (fun _ _ _ _ _ _ hp=>aU (pv 2) T.bR T.eA (eF T) hr1' T.eC .nil hp (aa aq af)))
   (ai (aJ (i:=4) mq.nd rfl (Or.inl rfl) (bZ af))
   (ai (cw PassesOwn.leaving rfl (dn (pv 3)) (bq (i:=5) mq.nd rfl (Or.inl rfl))
    (ak (ba (gS PySem.F.plainAttrs_list PySem.F.slot_list_extend PySem.F.type_list_extend tw (pv 4) (aa (aP (GI T) hr rfl T.N9 T.Gr.kp T.ME .nil aN (aa (ay (pv 0) rfl) (aa (pv 1) (aa (pv 5) (aa (pv 2) af))))) af)))))
   (ai (bg (bc dA (au lj (ay (pv 0) rfl) aq) aq (aZ _)) (ak (ba (gS PySem.F.plainAttrs_list PySem.F.slot_list_append PySem.F.type_list_append qP (pv 4) (aa (aP (xY T) hr9' rfl T.xu T.rN.kp T.wU .nil aN (aa (pv 2) (aa (pv 1) (aa (ay (pv 0) rfl) (aa jA af))))) af)))) br)
   (ak (aX (pv 4)))))),?_⟩
  obtain ⟨⟨hc1,hc2⟩,⟨hd1,hd2⟩,_⟩:=g9 ao
  have e62:(2:Int)^62=4611686018427387904:=by decide
  obtain ⟨df,hf⟩:=hF
  have hfH:=s0 _ _ hf
  refine (aD rfl hfH T.b8 T.rO rfl (ag _ _ ⟨rfl,rfl,⟨by decide,by decide⟩,((F.channels/2:Nat):Int),(by show [V.int (((F.channels:Nat):Int)/2)]=_;congr 2),by lia,by lia,fun D hD=>?_⟩))
  rw[Int.toNat_natCast]
  have hD0:H0 D=none:=s0.none hD
  have hpr:Sound.pairs F=F.channels/2:=rfl
  rw[hpr] at k
  refine EX (F.channels/2) (by rw[sizeLine_eq];lia) (fun i acc H'=> ∃(ms:List Nat) (l':Sound.Bits),acc=vN ms.reverse∧ae (Wg.aC [R.r] H) H'∧bj A.aV H' R l'∧ms.length=i∧(∀m∈ms,m<4)∧bF A H0 R ((Sound.takeMany (fun (_:List Nat) (l:Sound.Bits)=>Sound.takeU 2 l) (F.channels/2-i) ms l').then_ fun (ms:List Nat) (l:Sound.Bits)=>Sound.takeChannels F n ms.reverse [] l) (fun cs H'=> ∀D,H0 D=none→dY H' D cs→Q (.ref D) H') E) ?_ ?_ ?_ ?_ ?_
  ·refine ⟨[],l,rfl,fun b u e=>?_,?_,rfl,(fun m hm=>by cases hm),k⟩
   ·have:=bT _ _ b u e
    rw[aL (cH this hD)];exact this
   ·obtain ⟨i,ei,hi,hxr⟩:=hS
    exact ⟨i,ei,hi,by rw[aL (cH hxr hD)];exact hxr⟩
  ·exact fun i acc H' hi _=>hi
  ·exact fun acc H' _=>Nat.le_refl _
  ·rintro i acc H3 x H3' hi ⟨ms,l3,rfl,s3,st3,hl3,hm3,k3⟩ hDx hal ⟨hH3,rfl⟩ C hC
   rw[hH3]
   obtain ⟨px3,hx3⟩:=st3.obj
   rw[show F.channels/2-i=(F.channels/2-(i+1))+1 by lia,lE,then_assoc] at k3
   obtain ⟨sh2,_⟩:=hI.aC s0
   obtain ⟨sh3,hIh3⟩:=hI.aC (sh2.trans s3)
   refine ⟨rfl,aS rfl hx3 rfl ⟨Wg.aC [R.r] H3,bE R 2 l3 ⟨rfl,bT _ _,hIh3,st3,by decide,k3.cV sh3 fun y l4 H4 ey4 s4 st4 k4=>?_⟩⟩⟩
   have nDr:D≠R.r:=fun z=>by rw[z,hx3] at hDx;cases hDx
   refine hC _ H4 (s4 _ _ (by rw[cU (by simpa using nDr)];exact hDx)) ⟨y::ms,l4,?_,?_,?_,by rw[List.length_cons,hl3],?_,k4⟩
   ·rw[List.reverse_cons,dB];rfl
   ·intro b u e
    have e3:=s3 b u e
    by_cases hb:b=D
    ·subst hb
     have:=bT _ _ _ u e
     rw[hD] at this;cases this
    ·rw[aL hb]
     refine s4 _ _ ?_
     rw[cU (fun z=>by
      rw[List.mem_singleton.mp z,gz (by simp)] at e;cases e)]
     exact e3
   ·obtain ⟨j,ej,hj,hxr⟩:=st4
    exact ⟨j,ej,hj,by rw[aL (Ne.symm nDr)];exact hxr⟩
   ·intro z hz
    rcases List.mem_cons.mp hz with rfl|hz
    ·exact kR ey4
    ·exact hm3 z hz
  ·rintro acc H3 ⟨ms,l3,rfl,s3,st3,hl3,hm3,k3⟩ hDx hal
   rw[Nat.sub_self] at k3
   have k3:bF A H0 R (Sound.takeChannels F n ms.reverse [] l3) (fun cs H'=> ∀D,H0 D=none→dY H' D cs→Q (.ref D) H') E:=k3
   obtain ⟨sh2,_⟩:=hI.aC s0
   have s03:=sh2.trans s3
   have hml:ms.reverse.length≤2:=by rw[List.length_reverse,hl3];lia
   have hm4: ∀m∈ms.reverse,m<4:=fun m hm=>hm3 m (List.mem_reverse.mp hm)
   generalize ms.reverse=mr at*
   refine ⟨by rw[sizeLine_eq];show 0≤_;lia,fun D2 hD2=>?_⟩
   have s4:=aF (o:= .lst []) hD2
   have hD20:H0 D2=none:=s03.none hD2
   have hDx4:upd H3 D2 (.lst []) D=some (.lst (vN mr)):=s4 _ _ hDx
   have hCh:dY (upd H3 D2 (.lst [])) D2 []:=⟨[],aj,rfl,fun k a e=>by simp at e⟩
   have st4:=st3.same s4
   have s04:=s03.trans s4
   have nD2:D≠D2:=fun z=>by rw[←z,hDx] at hD2;cases hD2
   generalize upd H3 D2 (.lst [])=H4 at*
   refine ⟨_,rfl,D,rfl,⟨_,ah.of hDx4⟩,?_⟩
   refine ie (K:=K) (a:=D) (xs:=vN mr) (fun i σ H'=>(ae H0 H'∧H' D=some (.lst (vN mr))∧ ∃(l':Sound.Bits) (cs:List (List Int)),bj A.aV H' R l'∧dY H' D2 cs∧cs.length=2*i∧bF A H0 R (Sound.takeChannels F n (mr.drop i) cs l') (fun cs H'=> ∀D,H0 D=none→dY H' D cs→Q (.ref D) H') E)∧ ∃v5 v6:Option V,σ= [some (.ref f),some (.int (n:Nat)),some (.ref R.r),some (.ref D),some (.ref D2),v5,v6])
    ⟨⟨s04,hDx4,l3, [],st4,hCh,rfl,k3⟩,none,none,rfl⟩ (fun i σ H' _ ⟨⟨_,e,_⟩,_⟩=>ah.of e) ?_ ?_
   ·rintro i x σ H5 hi ⟨⟨s5,hDx5,l5,cs,st5,hC5,hcl,k5⟩,v5,v6,rfl⟩
    obtain ⟨rfl,hil⟩:=eT hi
    have hmi:mr.getD i 0<4:=tH hm4 hil
    have ed:mr.drop i=mr.getD i 0::mr.drop (i+1):=by
     rw[List.drop_eq_getElem_cons hil,getD_at hil]
    rw[ed,Az] at k5
    obtain ⟨as,has,_⟩:=id hC5
    obtain ⟨sh5,hIh5⟩:=hI.aC s5
    obtain ⟨ir,hxr⟩:=st5.obj
    have hf5:=s5 _ _ hf
    refine ⟨_,rfl, .inl ⟨rfl,_,ah.of has⟩,aD rfl hf5 T.b8 T.nN rfl ⟨_,rfl,_,rfl,_,rfl,Wg.aC [R.r] H5,R,F.depth,n,mr.getD i 0,l5,rfl,bT _ _,hIh5,st5,⟨hd1,hd2,hmi,hn⟩,k5.cV sh5 fun ps l6 H6 _ s6 st6 k6 E1 a b ⟨hE1,ha,hb⟩ hxE hxa hxb=>?_⟩⟩
    have hC6:=hC5.aC st5 s6
    have nr: ∀c xs,H5 c=some (.lst xs)→H6 c=some (.lst xs):=fun c xs e=>s6 _ _ (by rw[cU (fun z=>by rw[List.mem_singleton.mp z,hxr] at e;cases e)];exact e)
    have na:a≠D2:=fun z=>by
     have:Wg.aC [R.r] H5 D2=some (.lst (as.map V.ref)):=by rw[cU (fun z=>by rw[List.mem_singleton.mp z,hxr] at has;cases has)];exact has
     rw[←z,ha] at this;cases this
    have nb:b≠D2:=fun z=>by
     have:Wg.aC [R.r] H5 D2=some (.lst (as.map V.ref)):=by rw[cU (fun z=>by rw[List.mem_singleton.mp z,hxr] at has;cases has)];exact has
     rw[←z,hb] at this;cases this
    obtain ⟨as2,h2,hC7⟩:=hC6.add (bs:= [a,b]) (ds:= [ps.map fun x=>x.1,ps.map fun x=>x.2]) rfl (fun k c e=>by
     match k,e with
     |0,e=>cases e;exact ⟨na,hxa⟩
     |1,e=>cases e;exact ⟨nb,hxb⟩)
    have hal2:as2.length=cs.length:=by
     obtain ⟨as3,h3,h4,_⟩:=hC6
     rw[h2] at h3
     injection h3 with h3
     injection h3 with h3
     have:=congrArg List.length h3
     rw[List.length_map,List.length_map] at this
     lia
    have hil2:i<2:=by lia
    refine (aA D2 E1 _ _ ⟨rfl,rfl,h2,hxE,(by rw[List.length_map,hal2,hcl,sizeLine_eq];show _+2≤_;lia),⟨⟨fh (sh5.trans s6) hD20,?_,l6,cs++ [ps.map fun x=>x.1,ps.map fun x=>x.2],?_,hC7,by rw[List.length_append,hcl];show 2*i+2=_;lia,k6⟩,some (.int (mr.getD i 0:Nat)),v6,rfl⟩⟩)
    ·rw[aL nD2];exact nr _ _ hDx5
    ·obtain ⟨j,ej,hj,hxr6⟩:=st6
     exact ⟨j,ej,hj,by rw[aL (fun z=>by rw[←z,hxr6] at h2;cases h2)];exact hxr6⟩
   ·rintro σ H5 ⟨⟨s5,hDx5,l5,cs,st5,hC5,hcl,k5⟩,v5,v6,rfl⟩
    rw[aO,List.drop_length] at k5
    rw[aO] at hcl
    have hf5:=s5 _ _ hf
    refine (aD rfl hf5 T.b8 T.rO rfl (ag _ _ ⟨rfl,rfl,(by show (0:Int)<2;decide),rfl,_,rfl,?_⟩))
    unfold Sound.takeChannels at k5
    refine bW (fun hc=>?_) fun hc=>?_
    ·have hc:=V.int.inj (of_decide_eq_true hc)
     rw[if_pos (by lia)] at k5
     obtain ⟨as,has,_⟩:=id hC5
     obtain ⟨sh5,hIh5⟩:=hI.aC s5
     obtain ⟨ir,hxr⟩:=st5.obj
     refine ⟨_,rfl, .inl ⟨rfl,_,ah.of has⟩,_,rfl,_,rfl,aD rfl hf5 T.b8 T.nN rfl ⟨Wg.aC [R.r] H5,oA R F.depth n .aw _ l5 ⟨rfl,bT _ _,hIh5, .inl ⟨rfl,rfl⟩,st5,⟨by lia,by lia,hn⟩,k5.cV sh5 fun ys l6 H6 _ s6 st6 k6 E1 hE1 hxE=>?_⟩⟩⟩
     have hC6:=hC5.aC st5 s6
     have na:E1≠D2:=fun z=>by
      have:Wg.aC [R.r] H5 D2=some (.lst (as.map V.ref)):=by rw[cU (fun z=>by rw[List.mem_singleton.mp z,hxr] at has;cases has)];exact has
      rw[←z,hE1] at this;cases this
     obtain ⟨as2,h2,hC7⟩:=hC6.add (bs:= [E1]) (ds:= [ys]) rfl (fun k c e=>by
      match k,e with
      |0,e=>cases e;exact ⟨na,hxE⟩)
     have hal2:as2.length=cs.length:=by
      obtain ⟨as3,h3,h4,_⟩:=hC6
      rw[h2] at h3
      injection h3 with h3
      injection h3 with h3
      have:=congrArg List.length h3
      rw[List.length_map,List.length_map] at this
      lia
     refine (bE D2 _ _ ⟨rfl,rfl,h2,(by rw[List.length_map,hal2,hcl,sizeLine_eq];lia),_,rfl,?_⟩)
     refine k6 _ (fh (sh5.trans s6) hD20) ?_ D2 hD20 hC7
     obtain ⟨j,ej,hj,hxr6⟩:=st6
     exact ⟨j,ej,hj,by rw[aL (fun z=>by rw[←z,hxr6] at h2;cases h2)];exact hxr6⟩
    ·have hc: ¬((F.channels:Nat):Int)%2=1:=fun z=>hc (decide_eq_true (show V.int (((F.channels:Nat):Int)%2)=V.int 1 by rw[z]))
     rw[if_neg (by lia)] at k5
     exact ⟨_,rfl,k5 H5 s5 st5 D2 hD20 hC5⟩
theorem xa {a b:Nat} (h:(!decide (V.int ((a:Nat):Int)=V.int ((b:Nat):Int)))=true):a≠b:=fun q=>by
 rw[q,decide_eq_true rfl] at h;cases h
theorem wV {a b:Nat} (h: ¬(!decide (V.int ((a:Nat):Int)=V.int ((b:Nat):Int)))=true):a=b:=Classical.byContradiction fun q=>h (by rw[iZ,decide_eq_false q];rfl)
def lq (B:Sound.Bytes) (l:Sound.Bits):Sound.Got Nat:=(Sound.takeU (l.length%8) l).then_ fun (z:Nat) (l:Sound.Bits)=>if z≠0 then .bad else (Sound.takeU 16 l).then_ fun (c:Nat) (l':Sound.Bits)=>if c≠Sound.crc16 (B.take (B.length-l.length/8)) then .bad else .ok (B.length-l.length/8+2) l'
def Kc (K:PySem.W.Frag) (A:aW):Sp:=fun vs H Q E=> ∃(H0:Hp) (R:bH) (l:Sound.Bits),vs= [.ref R.r]∧ae H0 H∧cI K H0 R∧bj A.aV H R l∧bF A H0 R (lq R.B l) (fun z H'=>H' R.r=some (.ins A.aV R.dr (fP (.ref R.q) (.int ((8*z:Nat):Int))))→Q .aw H') E
theorem Fy:aK ["reader", "check"] ["reader"] (aB Bc):=⟨rfl,rfl,rfl,by decide+kernel,rfl,by decide+kernel,by decide+kernel⟩
theorem sM {n:Nat} {l:Sound.Bits} {x:Nat} {r:Sound.Bits} (h:Sound.takeU n l= .ok x r):r=l.drop n∧n≤l.length:=by
 unfold Sound.takeU at h
 split at h
 ·cases h
 ·rename_i hc
  cases h
  exact ⟨rfl,Nat.le_of_not_lt fun z=>hc ((kc _ _).mpr z)⟩
theorem uX {H:Hp} {R:bH} {l:Sound.Bits} (h:bj A.aV H R l):l.length≤8*R.B.length∧H R.r=some (.ins A.aV R.dr (fP (.ref R.q) (.int ((8*R.B.length-l.length:Nat):Int)))):=by
 obtain ⟨i,rfl,hi,hx⟩:=h
 rw[List.length_drop,jH]
 exact ⟨by lia,by rw[hx];congr 6;lia⟩
theorem IG (T:Txt K mg A):az P w K mg base (aY P w) 2 A.nG A.nS ["reader"] (Kc K A):=by
 refine T.E3.bO Fy (fun vs H Q E h=>?_) (fun cdv Ar outer s H vs Q E hr h=>?_)
 ·obtain ⟨H0,R,l,rfl,_⟩:=h
  rfl
 ·obtain ⟨H0,R,l,rfl,s0,hI,hS,k⟩:=h
  refine ⟨_,ai (bg (bc fE (aU (pv 0) T.bR T.eA (eF T) hr T.eC .nil aN (aa (au lj (fw fB (ay (pv 0) rfl)) aq) af)) aq (aZ _)) (ak (d8 rfl rfl T.fg T.eY.exc eE)) br)
   (ai (aJ (i:=1) Fy.nd rfl (Or.inl rfl) (aP (Pe T) hr rfl T.Q7 T.Fh.kp T.Ta .nil aQ (aa (eH eJ (ay (pv 0) rfl) kq (cD (au jG (ay (pv 0) rfl) aq))) af)))
   (ak (bg (bc fE (aU (pv 0) T.bR T.eA (eF T) hr T.eC .nil aN (aa aq af)) (pv 1) (aZ _)) (ak (d8 rfl rfl T.fg T.eY.exc eE)) br))),?_⟩
  obtain ⟨hle,hx⟩:=uX hS
  obtain ⟨sh,hIh⟩:=hI.aC s0
  unfold lq at k
  refine (aS rfl hx rfl (aD rfl hx T.bR T.jE rfl ⟨_,rfl,ag _ _ ⟨rfl,rfl,(by show (0:Int)<8;decide),Wg.aC [R.r] H,R,l.length%8,l,?_,bT _ _,hIh,hS,by lia,?_⟩⟩))
  ·show [V.ref R.r,V.int ((-((8*R.B.length-l.length:Nat):Int))%8)]=_
   congr 3;lia
  refine k.cV sh fun z l1 H1 ez s1 st1 k1=>?_
  obtain ⟨rfl,hz8⟩:=sM ez
  refine ⟨rfl,_,rfl,?_⟩
  have s01:=sh.trans s1
  refine bW (fun hc=>?_) fun hc=>?_
  ·have hc: ¬z=0:=xa hc
   rw[if_pos hc] at k1
   exact k1 H1 s01
  ·have hc:z=0:=wV hc
   rw[if_neg (fun q=>q hc)] at k1
   obtain ⟨hle1,hx1⟩:=uX st1
   generalize hl1:l.drop (l.length%8)=l1 at*
   have hl18:l1.length%8=0:=by rw[←hl1,List.length_drop];lia
   have hq1:=s01.seq hI.1
   refine (aD rfl hx1 T.bR T.sO rfl (aD rfl hx1 T.bR T.jE rfl (ag _ _ ⟨rfl,rfl,⟨by decide,by decide⟩,_,rfl,ag R.q _ ⟨rfl,hq1,fun p hp=>?_⟩⟩)))
   have e1:((8*R.B.length-l1.length:Nat):Int)/8=((R.B.length-l1.length/8:Nat):Int):=by lia
   have e2:cW (vN (bn R.B)) none (some (((8*R.B.length-l1.length:Nat):Int)/8))=vN (bn (R.B.take (R.B.length-l1.length/8))):=by rw[e1,ur,fH]
   rw[e2]
   have s2:=aF (o:= .lst (vN (bn (R.B.take (R.B.length-l1.length/8))))) hp
   refine (ag p _ ⟨rfl,ah.of aj,eX _,?_⟩)
   have ec:ui (bn (R.B.take (R.B.length-l1.length/8)))=Sound.crc16 (R.B.take (R.B.length-l1.length/8)):=Sf _
   rw[ec]
   have st2:=st1.same s2
   have s02:=s01.trans s2
   obtain ⟨sh2,hIh2⟩:=hI.aC s02
   obtain ⟨i2,hx2⟩:=st2.obj
   generalize upd H1 p (.lst (vN (bn (R.B.take (R.B.length-l1.length/8)))))=H2 at*
   refine (aS rfl hx2 rfl ⟨Wg.aC [R.r] H2,bE R 16 l1 ⟨rfl,bT _ _,hIh2,st2,by decide,k1.cV sh2 fun c l3 H3 e3 s3 st3 k3=>?_⟩⟩)
   obtain ⟨rfl,hl16⟩:=sM e3
   obtain ⟨hle3,hx3⟩:=uX st3
   have s03:=sh2.trans s3
   refine ⟨_,rfl,rfl,_,rfl,?_⟩
   refine bW (fun hc2=>?_) fun hc2=>?_
   ·have hc2:c≠Sound.crc16 (R.B.take (R.B.length-l1.length/8)):=xa hc2
    rw[if_pos hc2] at k3
    exact k3 H3 s03
   ·have hc2:c=Sound.crc16 (R.B.take (R.B.length-l1.length/8)):=wV hc2
    rw[if_neg (fun q=>q hc2)] at k3
    refine k3 H3 s03 st3 ?_
    rw[hx3,List.length_drop]
    congr 6;lia
def u5 (s k n d:V):List (Str×V):= [("size",s),("k",k),("n",n),("numbers",d)]
def AS (C:Addr) (H:Hp) (o:Addr) (x:Sound.Frame):Prop:= ∃dx D,H o=some (.ins C dx (u5 (.int x.size) (.int x.k) (.int x.n) (.ref D)))∧H D=some (.lst (x.s.map V.int))
def M9 (C:Addr):Sp:=fun vs H Q _=> ∃(p dx:Addr) (a b c d:V),vs= [.ref p,a,b,c,d]∧H p=some (.ins C dx [])∧Q .aw (upd H p (.ins C dx (u5 a b c d)))
theorem Rp:aK ["self", "size", "k", "n", "numbers"] ["self", "size", "k", "n", "numbers"] (aB DV):=⟨rfl,rfl,rfl,by decide+kernel,rfl,by decide+kernel,by decide+kernel⟩
theorem J7 (T:Txt K mg A):az P w K mg base a9 1 A.mf A.pK ["self", "size", "k", "n", "numbers"] (M9 A.dI):=by
 refine T.Jq.ok Rp (fun vs H Q E h=>?_) (fun cdv Ar outer s H vs Q E hr h=>?_)
 ·obtain ⟨p,dx,a,b,c,d,rfl,_⟩:=h
  rfl
 ·obtain ⟨p,dx,a,b,c,d,rfl,hp,k⟩:=h
  refine ⟨_,ai (bh (pv 0) (pv 1) rfl) (ai (bh (pv 0) (pv 2) rfl) (ai (bh (pv 0) (pv 3) rfl) (ak (bh (pv 0) (pv 4) rfl)))),?_⟩
  refine ⟨_,rfl,_,rfl,p,A.dI,dx, [],rfl,hp,T.jb,T.Fu,(by show 0<1000;decide),?_⟩
  refine ⟨_,rfl,_,rfl,aA p A.dI dx _ ⟨rfl,aj,T.jb,T.CF,(by show 1<1000;decide),?_⟩⟩
  refine ⟨_,rfl,_,rfl,aA p A.dI dx _ ⟨rfl,aj,T.jb,T.yR,(by show 2<1000;decide),?_⟩⟩
  refine ⟨_,rfl,_,rfl,aA p A.dI dx _ ⟨rfl,aj,T.jb,T.Ge,(by show 3<1000;decide),?_⟩⟩
  rw[cB,cB,cB]
  exact k
theorem Sx {d n m:Nat} {l l':Sound.Bits} {ps:List (Int×Int)} (h:lG d n m l= .ok ps l'):ps.length=n:=by
 unfold lG at h
 obtain ⟨a,l1,e1,h⟩:=cf h
 obtain ⟨b,l2,e2,h⟩:=cf h
 cases h
 rw[List.length_zipWith,pM e1,pM e2];lia
theorem vA {F:Sound.Form} {n:Nat}: ∀{ms:List Nat} {acc cs:List (List Int)} {l l':Sound.Bits},Sound.takeChannels F n ms acc l= .ok cs l'→(∀c∈acc,c.length=n)→(∀c∈cs,c.length=n)∧cs.length≤acc.length+2*ms.length+1
 | [],acc,cs,l,l',h,ha=>by
  unfold Sound.takeChannels at h
  split at h
  ·obtain ⟨y,l1,e1,h⟩:=cf h
   cases h
   refine ⟨fun c hc=>?_,by rw[List.length_append];show _+1≤_;lia⟩
   rcases List.mem_append.mp hc with hc|hc
   ·exact ha c hc
   ·rw[List.mem_singleton.mp hc];exact pM e1
  ·cases h
   exact ⟨ha,by lia⟩
 |m::ms,acc,cs,l,l',h,ha=>by
  rw[Az] at h
  obtain ⟨ps,l1,e1,h⟩:=cf h
  have hp:=Sx e1
  obtain ⟨h1,h2⟩:=vA h (fun c hc=>by
   rcases List.mem_append.mp hc with hc|hc
   ·exact ha c hc
   ·rcases List.mem_cons.mp hc with rfl|hc
    ·rw[List.length_map];exact hp
    ·rw[List.mem_singleton.mp hc,List.length_map];exact hp)
  refine ⟨h1,?_⟩
  rw[List.length_append] at h2
  have h2:cs.length≤acc.length+2+2*ms.length+1:=h2
  rw[List.length_cons];lia
theorem sI: ∀(n:Nat) (cs:List (List Int)),Sound.woven n cs=(List.range n).flatMap fun t=>cs.map fun (c:List Int)=>c.getD t 0
 |0,cs=>rfl
 |n+1,cs=>by
  unfold Sound.woven
  rw[sI n,List.range_succ_eq_map,List.flatMap_cons,List.flatMap_map]
  congr 1
  ·refine List.map_congr_left fun c _=>?_
   cases c<;>rfl
  ·congr 1
   funext t
   rw[List.map_map]
   refine List.map_congr_left fun c _=>?_
   cases c<;>simp
theorem Cj (cs:List (List Int)) (t:Nat):((List.range (t+1)).flatMap fun t=>cs.map fun (c:List Int)=>c.getD t 0)=((List.range t).flatMap fun t=>cs.map fun (c:List Int)=>c.getD t 0)++cs.map fun (c:List Int)=>c.getD t 0:=by
 rw[List.range_succ,List.flatMap_append]
 congr 1
 rw[List.flatMap_cons,List.flatMap_nil,List.append_nil]
theorem x9 (cs:List (List Int)): ∀n,(Sound.woven n cs).length=n*cs.length
 |0=>by rw[Nat.zero_mul];rfl
 |n+1=>by
  have h:=x9 cs n
  rw[sI] at h⊢
  rw[Cj,List.length_append,h,List.length_map,Nat.add_mul,Nat.one_mul]
theorem tm (F:Sound.Form) (B:Sound.Bytes):Sound.takeFrame F B=(Sound.takeU 16 (Sound.bitsOf B)).then_ fun (x:Nat) (l:Sound.Bits)=>if x≠0x4B57 then .bad else
  (Sound.takeU 20 l).then_ fun (k:Nat) (l:Sound.Bits)=>(Sound.takeU 8 l).then_ fun (n:Nat) (l:Sound.Bits)=>if F.block<n+1 then .bad else
  ((Sound.takeMany (fun (_:List Nat) (l:Sound.Bits)=>Sound.takeU 2 l) (Sound.pairs F) [] l).then_ fun (ms:List Nat) (l:Sound.Bits)=>Sound.takeChannels F (n+1) ms.reverse [] l).then_ fun (cs:List (List Int)) (l:Sound.Bits)=>(lq B l).then_ fun (z:Nat) (l:Sound.Bits)=> .ok ⟨k,n+1,Sound.woven (n+1) cs,z⟩ l:=by
 unfold Sound.takeFrame
 congr 1
 funext x l
 split
 ·rfl
 ·congr 1
  funext k l
  congr 1
  funext n l
  split
  ·rfl
  ·rw[then_assoc]
   congr 1
   funext ms l
   congr 1
   funext cs l
   unfold lq
   rw[then_assoc]
   congr 1
   funext z l
   split
   ·rfl
   ·show ((Sound.takeU 16 l).then_ fun (c:Nat) (l':Sound.Bits)=>if c≠Sound.crc16 (B.take (B.length-l.length/8)) then (.bad:Sound.Got Sound.Frame) else .ok (⟨k,n+1,Sound.woven (n+1) cs,B.length-l.length/8+2⟩:Sound.Frame) l')=_
    rw[then_assoc]
    congr 1
    funext c l'
    split<;>rfl
def QX (K:PySem.W.Frag) (A:aW):Sp:=fun vs H Q E=> ∃(H0:Hp) (R:bH) (f:Addr) (F:Sound.Form),vs= [.ref f, .ref R.r]∧ae H0 H∧cI K H0 R∧gk A.bM H0 f F∧bj A.aV H R (Sound.bitsOf R.B)∧F.ok=true∧
 bF A H0 R (Sound.takeFrame F R.B) (fun x H'=> ∀o,H0 o=none→AS A.dI H' o x→Q (.ref o) H') E
theorem jx:aK ["form", "reader", "k", "n", "channels", "numbers", "t", "channel"] ["form", "reader"] (aB DN):=⟨rfl,rfl,rfl,by decide+kernel,rfl,by decide+kernel,by decide+kernel⟩
theorem Sb (T:Txt K mg A):az P w K mg base (aY P w) 12 A.oS A.nj ["form", "reader"] (QX K A):=by
 refine T.FL.bO jx (fun vs H Q E h=>?_) (fun cdv Ar outer s H vs Q E hr h=>?_)
 ·obtain ⟨H0,R,f,F,rfl,_⟩:=h
  rfl
 ·obtain ⟨H0,R,f,F,rfl,s0,hI,hF,hS,ao,k⟩:=h
  have hr1':aE 1 _:=hr.mono (by decide)
  have hr2':aE 2 _:=hr.mono (by decide)
  refine ⟨_,ai (bg (bc fE (aU (pv 1) T.bR T.eA (eF T) hr1' T.eC .nil aN (aa aq af)) (aR rfl T.SG) (aZ _)) (ak (d8 rfl rfl T.fg T.eY.exc eE)) br)
   (ai (aJ (i:=2) jx.nd rfl (Or.inl rfl) (aU (pv 1) T.bR T.eA (eF T) hr1' T.eC .nil aN (aa aq af)))
   (ai (aJ (i:=3) jx.nd rfl (Or.inl rfl) (au bS (aU (pv 1) T.bR T.eA (eF T) hr1' T.eC .nil aN (aa aq af)) aq))
   (ai (bg (bc dF (pv 3) (ay (pv 0) rfl) (aZ _)) (ak (d8 rfl rfl T.fg T.eY.exc eE)) br)
   (ai (aJ (i:=4) jx.nd rfl (Or.inl rfl) (aP (Lg T) hr rfl T.Qi T.Dg.kp T.To .nil aN (aa (pv 0) (aa (pv 3) (aa (pv 1) af)))))
   (ai (ba (aP (IG T) hr2' rfl T.Ji T.E3.kp T.NL .nil aN (aa (pv 1) af)))
   (ai (aJ (i:=5) jx.nd rfl (Or.inl rfl) (bZ af))
   (ai (cw PassesOwn.leaving rfl (fu rfl T.dU (aa (pv 3) af)) (bq (i:=6) jx.nd rfl (Or.inr rfl))
    (ak (ba (gS PySem.F.plainAttrs_list PySem.F.slot_list_extend PySem.F.type_list_extend tw (pv 5) (aa (fz (own:= [("channel",7)]) rfl jx.nd (dn (pv 4)) (d5 (by kernel_rfl)) (fun _ _ _ _ _=>bq (i:=7) jx.nd rfl (Or.inl rfl)) (fun _ _ _ _ _=>d6) (fun _ _ _ _ _=>cJ (z7 (K:=K) rfl) (pv 7) (pv 6) (fun _ _=>rfl))) af)))))
   (ak (aX (fW T.Ov (J7 T) hr2' rfl T.NV T.Ti .nil aQ (aa (au jG (ay (pv 1) rfl) aq) (aa (pv 2) (aa (pv 3) (aa (pv 5) af)))))))))))))),?_⟩
  obtain ⟨⟨hc1,hc2⟩,_,⟨hb1,hb2⟩,_⟩:=g9 ao
  have e62:(2:Int)^62=4611686018427387904:=by decide
  obtain ⟨df,hf⟩:=id hF
  obtain ⟨i0,hx⟩:=hS.obj
  obtain ⟨sh,hIh⟩:=hI.aC s0
  rw[tm] at k
  refine (aS rfl hx rfl ⟨Wg.aC [R.r] H,bE R 16 _ ⟨rfl,bT _ _,hIh,hS,by decide,k.cV sh fun x l1 H1 _ s1 st1 k1=>?_⟩⟩)
  have s01:=sh.trans s1
  refine ⟨rfl,_,rfl,?_⟩
  refine bW (fun hc=>?_) fun hc=>?_
  ·have hc:x≠0x4B57:=xa hc
   rw[if_pos hc] at k1
   exact k1 H1 s01
  have hc:x=0x4B57:=wV hc
  rw[if_neg (fun q=>q hc)] at k1
  obtain ⟨i1,hx1⟩:=st1.obj
  obtain ⟨sh1,hIh1⟩:=hI.aC s01
  refine (aS rfl hx1 rfl ⟨Wg.aC [R.r] H1,bE R 20 _ ⟨rfl,bT _ _,hIh1,st1,by decide,k1.cV sh1 fun kk l2 H2 _ s2 st2 k2=>?_⟩⟩)
  have s02:=sh1.trans s2
  obtain ⟨i2,hx2⟩:=st2.obj
  obtain ⟨sh2,hIh2⟩:=hI.aC s02
  refine (aS rfl hx2 rfl ⟨Wg.aC [R.r] H2,bE R 8 _ ⟨rfl,bT _ _,hIh2,st2,by decide,k2.cV sh2 fun n l3 H3 e3 s3 st3 k3=>?_⟩⟩)
  have s03:=sh2.trans s3
  have hn8:n<256:=kR e3
  refine (ag _ _ ⟨rfl,rfl,?_⟩)
  dsimp only
  rw[show ((n:Nat):Int)+1=((n+1:Nat):Int) by lia]
  have hf3:=s03 _ _ hf
  refine ⟨_,rfl,aD rfl hf3 T.b8 T.jF rfl (ag _ _ ⟨rfl,rfl,_,rfl,?_⟩)⟩
  refine bW (fun hcb=>?_) fun hcb=>?_
  ·have hcb:((F.block:Nat):Int)<((n+1:Nat):Int):=of_decide_eq_true hcb
   rw[if_pos (by lia)] at k3
   exact k3 H3 s03
  have hcb: ¬((F.block:Nat):Int)<((n+1:Nat):Int):=fun q=>hcb (decide_eq_true q)
  rw[if_neg (by lia)] at k3
  refine ⟨_,rfl,_,rfl,_,rfl,oA H0 R f F (n+1) l3 ⟨rfl,s03,hI,hF,st3,⟨ao,by lia⟩,k3.seq fun cs l4 H4 e4 s4 st4 k4 C4 hC40 hCh=>?_⟩⟩
  have hcs:(∀c∈cs,c.length=n+1)∧cs.length≤10:=by
   obtain ⟨ms,l5,e5,e6⟩:=cf e4
   have h1:=gs e5
   obtain ⟨h2,h3⟩:=vA e6 (fun c hc=>by cases hc)
   rw[List.length_reverse,h1] at h3
   unfold Sound.pairs at h3
   have h3:cs.length≤0+2*(0+F.channels/2)+1:=h3
   exact ⟨h2,by lia⟩
  obtain ⟨sh4,hIh4⟩:=hI.aC s4
  refine ⟨_,rfl,Wg.aC [R.r] H4,ag R l4 ⟨rfl,bT _ _,hIh4,st4,k4.cV sh4 fun z l5 H5 _ s5 st5 k5 hx5=>?_⟩⟩
  have hCh5:=hCh.aC st4 s5
  have s05:=sh4.trans s5
  refine ⟨by rw[sizeLine_eq];show 0≤_;lia,fun D hD=>?_⟩
  have s6:=aF (o:= .lst []) hD
  have hD0:H0 D=none:=s05.none hD
  refine ⟨_,rfl,((n+1:Nat):Int),rfl,by lia,by lia,?_⟩
  rw[Int.toNat_natCast]
  have hx6:=s6 _ _ hx5
  have hCh6:=hCh5.same s6
  have st6:=st5.same s6
  have s06:=s05.trans s6
  have nDC:C4≠D:=fun q=>by
   obtain ⟨as,h1,_⟩:=hCh5
   rw[q,hD] at h1;cases h1
  have nAs: ∀as:List Addr,H5 C4=some (.lst (as.map V.ref))→True:=fun _ _=>trivial
  refine fM (lo:=0) (n:=n+1) (fun t σ H'=>(ae H0 H'∧bj A.aV H' R l5∧H' R.r=some (.ins A.aV R.dr (fP (.ref R.q) (.int ((8*z:Nat):Int))))∧ae H5 (Wg.aC [D] H')∧H' D=some (.lst ((Sound.woven t cs).map V.int)))∧ ∃v6 v7:Option V,σ= [some (.ref f),some (.ref R.r),some (.int (kk:Nat)),some (.int ((n+1:Nat):Int)),some (.ref C4),some (.ref D),v6,v7])
   ⟨⟨s06,st6,hx6,s6.aC (fun b hb=>by rw[List.mem_singleton.mp hb];exact hD),aj⟩,none,none,rfl⟩ ?_ ?_
  ·rintro t σ H7 ht ⟨⟨s7,st7,hx7,sh7,hD7⟩,v6,v7,rfl⟩
   have hCh7:dY H7 C4 cs:=(hCh5.same sh7).same (bT _ _)
   obtain ⟨as,ha1,ha2,ha3⟩:=id hCh7
   have hwl:=x9 cs t
   have hwl2:t*cs.length≤256*10:=Nat.mul_le_mul (by lia) hcs.2
   refine ⟨_,rfl, .inl ⟨rfl,_,ah.of hD7⟩,_,rfl,C4,rfl,⟨_,ah.of ha1⟩,fun D2 hD2=>?_⟩
   refine fq (J:=eM K C4) hD2 cs.length (by rw[sizeLine_eq];lia) (fun i=> .int ((cs.getD i []).getD t 0)) (fun i Hh hi t1=>?_) (fun Hh t1=>⟨_,t1.seq (ah.of ha1),by rw[List.length_map];lia⟩) ?_ ?_
   ·obtain ⟨a,h1,_⟩:=tR (as:=as) (i:=i) (by lia)
    exact ⟨_,_,t1.seq (ah.of ha1),h1⟩
   ·rintro i Hh y H8 hi t1 ⟨rfl,hy⟩ C hC
    obtain ⟨a,rfl,hai⟩:=uc (hy _ (t1.seq (ah.of ha1)))
    have hci:(cs.getD i []).length=n+1:=hcs.1 _ (by rw[List.getD_eq_getElem?_getD,List.getElem?_eq_getElem hi];exact List.getElem_mem hi)
    refine ⟨rfl,_,rfl,_,rfl,aA a _ _ _ ⟨rfl,rfl,ah.of (t1 _ _ (ha3 i a hai).2),?_,hC _ (ae.refl _)⟩⟩
    rw[Int.zero_add]
    exact cv (lp (by lia))
   ·intro H8 s8 hx8
    have e8:(List.range cs.length).map (fun i=>V.int ((cs.getD i []).getD t 0))=(cs.map fun c=>c.getD t 0).map V.int:=by
     rw[List.map_map]
     refine List.ext_getElem (by simp) fun i h1 h2=>?_
     simp at h2
     simp [List.getD_eq_getElem?_getD,List.getElem?_eq_getElem h2]
    rw[e8] at hx8
    have hD8:=s8 _ _ hD7
    refine (aA D D2 _ _ ⟨rfl,rfl,hD8,hx8,(by rw[List.length_map,List.length_map,List.length_map,hwl,sizeLine_eq];lia),⟨⟨fh (s7.trans s8) hD0,?_,?_,?_,?_⟩,some (.int (0+(t:Nat))),v7,rfl⟩⟩)
    ·obtain ⟨j,ej,hj,hxr⟩:=st7
     exact ⟨j,ej,hj,by rw[aL (fun q=>by rw[q,hD7] at hxr;cases hxr)];exact s8 _ _ hxr⟩
    ·rw[aL (fun q=>by rw[q,hD7] at hx7;cases hx7)];exact s8 _ _ hx7
    ·intro b o e
     have e7:=sh7 b o e
     have nb:b≠D:=fun q=>by rw[q,gz (by simp)] at e7;cases e7
     rw[cU (by simpa using nb),aL nb]
     exact s8 _ _ (bT _ _ _ _ e7)
    ·rw[aj,sI,sI,Cj,List.map_append]
  ·rintro σ H7 ⟨⟨s7,st7,hx7,sh7,hD7⟩,v6,v7,rfl⟩
   refine (aD rfl hx7 T.bR T.jE rfl (ag _ _ ⟨rfl,rfl,⟨by decide,by decide⟩,_,rfl,_,rfl,_,rfl,fun o dx ho hdx hne=>(oA o dx _ _ _ _ ⟨rfl,aj,rfl,?_⟩)⟩))
   rw[gN]
   have s8:ae H7 (upd (upd H7 dx (.own o)) o (.ins A.dI dx (u5 (.int (((8*z:Nat):Int)/8)) (.int (kk:Nat)) (.int ((n+1:Nat):Int)) (.ref D)))):=d4 ho hdx
   refine k5 _ (s7.trans s8) (st7.same s8) o (s7.none ho) ⟨dx,D,?_,s8 _ _ hD7⟩
   rw[aj]
   congr 5
   show ((8*z:Nat):Int)/8=((z:Nat):Int)
   lia
theorem Bh {X:Cx} {K:PySem.W.Frag} (h:X.K=K):vY X (zr K):=by subst h;exact eJ
theorem JY {F:Sound.Form} {B:Sound.Bytes} {x:Sound.Frame} {l:Sound.Bits} (ao:F.ok=true) (h:Sound.takeFrame F B= .ok x l):x.s.length≤2560:=by
 rw[tm] at h
 obtain ⟨m,l1,_,h⟩:=cf h
 split at h
 ·cases h
 obtain ⟨k,l2,_,h⟩:=cf h
 obtain ⟨n,l3,e3,h⟩:=cf h
 have hn8:n<256:=kR e3
 split at h
 ·cases h
 obtain ⟨cs,l4,e4,h⟩:=cf h
 obtain ⟨z,l5,_,h⟩:=cf h
 cases h
 obtain ⟨ms,l6,e5,e6⟩:=cf e4
 have h1:=gs e5
 obtain ⟨h2,h3⟩:=vA e6 (fun c hc=>by cases hc)
 rw[List.length_reverse,h1] at h3
 unfold Sound.pairs at h3
 have h3:cs.length≤0+2*(0+F.channels/2)+1:=h3
 obtain ⟨⟨hc1,hc2⟩,_⟩:=g9 ao
 show (Sound.woven (n+1) cs).length≤_
 rw[x9]
 exact Nat.mul_le_mul (n₁:=n+1) (n₂:=256) (m₁:=cs.length) (m₂:=10) (by lia) (by lia)
theorem vc {F:Sound.Form} {B:Sound.Bytes} {x:Sound.Frame} (ao:F.ok=true) (h:Sound.unframe F B= .frame x):x.s.length≤2560:=by
 unfold Sound.unframe at h
 split at h
 ·rename_i e;cases h;exact JY ao e
 ·cases h
 ·split at h<;>cases h
def AF (A:aW) (H:Hp) (r:Sound.Read) (Q:VK) (E:XK):Prop:=match r with
 | .frame x=> ∀o H',H o=none→ae H H'→AS A.dI H' o x→Q (.ref o) H'
 | .bad=> ∀H',ae H H'→E (.ref A.fR) none H'
 | .short=> ∀H',ae H H'→E (.ref A.iR) none H'
def IV (K:PySem.W.Frag) (A:aW):Sp:=fun vs H Q E=> ∃(f q:Addr) (F:Sound.Form) (B:Sound.Bytes),vs= [.ref f, .ref q]∧gk A.bM H f F∧ah K H q (vN (bn B))∧F.ok=true∧AF A H (Sound.unframe F B) Q E
theorem Oq:aK ["form", "data"] ["form", "data"] (aB zo):=⟨rfl,rfl,rfl,by decide+kernel,rfl,by decide+kernel,by decide+kernel⟩
theorem Jb (T:Txt K mg A):az P w K mg base (aY P w) 13 A.lX A.o3 ["form", "data"] (IV K A):=by
 refine T.Fc.bO Oq (fun vs H Q E h=>?_) (fun cdv Ar outer s H vs Q E hr h=>?_)
 ·obtain ⟨f,q,F,B,rfl,_⟩:=h
  rfl
 ·obtain ⟨f,q,F,B,rfl,hF,hq,ao,k⟩:=h
  have hr2':aE 2 _:=hr.mono (by decide)
  refine ⟨_,ak (sR rfl rfl rfl (fun E pn xe hp ho=>ak (aX (yC (Sb T) hr rfl T.JX T.FL.kp T.Gz .nil hp (aa (pv 0) (aa (fW T.IM (KH T) hr2' rfl T.L9 T.Ni .nil aQ (aa (eH (Bh (K:=K) rfl) (pv 1) kq (cD (aR rfl T.xX))) af)) af)))))
   (RI rfl jS T.uq rfl T.sx (fun x ps n hpc=>ai (bg (bc AY (bX (Eg (K:=K) rfl) (by rfl) T.cj PySem.boot_len (aa (pv 1) af)) (aR rfl T.xX) (aZ _)) (ak (CI (tD hpc) rfl T.fg T.eY.exc (CY hr.hd rfl rfl rfl jS))) br)
    (ak (CI (tD hpc) rfl T.sx T.uq.exc (CY hr.hd rfl rfl rfl jS)))))),?_⟩
  refine ⟨_,rfl,_,rfl,_,rfl,ag q _ ⟨rfl,hq,fun p hp=>?_⟩⟩
  have e0:cW (vN (bn B)) none (some 4096)=vN (bn (B.take 4096)):=by
   rw[show (4096:Int)=((4096:Nat):Int) from rfl,ur,fH]
  rw[e0]
  have s1:=aF (o:= .lst (vN (bn (B.take 4096)))) hp
  have hx1:upd H p (.lst (vN (bn (B.take 4096)))) p=some (.lst (vN (bn (B.take 4096)))):=aj
  generalize upd H p (.lst (vN (bn (B.take 4096))))=H1 at*
  intro o dx ho hdx hne
  refine ⟨o,dx,_,rfl,aj,rfl,?_⟩
  rw[gN]
  have s2:ae H1 (upd (upd H1 dx (.own o)) o (.ins A.aV dx (fP (.ref p) (.int 0)))):=d4 ho hdx
  refine ⟨H1,⟨o,dx,p,B.take 4096⟩,ag f F ⟨rfl,s2,⟨ah.of hx1,ho,by rw[List.length_take];lia⟩,hF.same s1,⟨0,rfl,by lia,aj⟩,ao,?_⟩⟩
  unfold Sound.unframe at k
  show bF A H1 _ (Sound.takeFrame F (B.take Sound.LONGEST)) _ _
  cases e:Sound.takeFrame F (B.take Sound.LONGEST) with
  |ok x l=>
   rw[e] at k
   exact fun H' s3 _ o' ho' hI=>k o' H' (s1.none ho') (s1.trans s3) hI
  |bad=>
   rw[e] at k
   exact fun H' s3=> .inr ⟨⟨_,rfl,T.eY⟩,fun z=>T.zU.symm (by injection z),k H' (s1.trans s3)⟩
  |short=>
   rw[e] at k
   dsimp only at k
   refine fun H' s3=> .inl ⟨rfl,?_⟩
   have hq':=(s1.trans s3).seq hq
   refine ⟨_,rfl,ag q _ ⟨rfl, .inl hq',ag _ _ ⟨rfl,rfl,_,rfl,?_⟩⟩⟩
   rw[aO,bx]
   refine bW (fun hc=>?_) fun hc=>?_
   ·have hc:(4096:Int)≤((B.length:Nat):Int):=of_decide_eq_true hc
    rw[if_pos (show Sound.LONGEST≤B.length by show 4096≤_;lia)] at k
    exact k H' (s1.trans s3)
   ·have hc: ¬(4096:Int)≤((B.length:Nat):Int):=fun q=>hc (decide_eq_true q)
    rw[if_neg (show¬Sound.LONGEST≤B.length by show¬4096≤_;lia)] at k
    exact k H' (s1.trans s3)
def cR (l:List Int):Sound.Bytes:=SoNeutral.bytes l
theorem BB {l:List Int} (h: ∀x∈l,0≤x∧x≤255):l.map V.int=vN (bn (cR l)):=by
 unfold vN bn cR SoNeutral.bytes
 rw[List.map_map,List.map_map]
 refine List.map_congr_left fun x hx=>?_
 obtain ⟨h1,h2⟩:=h x hx
 show V.int x=V.int (((UInt8.ofNat x.toNat).toNat:Nat):Int)
 rw[UInt8.toNat_ofNat',Nat.mod_eq_of_lt (by lia)]
 congr 1;lia
theorem xB (l:List Int):(cR l).length=l.length:=by unfold cR SoNeutral.bytes;rw[List.length_map]
theorem Tf {l:List Int} (hl:l.length≤16384):Sound.tooLong (cR l)=false:=by
 unfold Sound.tooLong Sound.FILE
 rw[xB];exact decide_eq_false (by lia)
structure Rg where
 r:Addr
 dr:Addr
 q:Addr
 B:Sound.Bytes
def bw (d p f o:V):List (Str×V):= [("data",d),("place",p),("fault",f),("fault_place",o)]
theorem Rc (d p f o p':V):bC "place" p' (bw d p f o)=bw d p' f o:=by
 have n1: ¬("data" :Str)= "place" :=by decide
 simp only [bw,bC,if_neg n1];rfl
theorem zt (d p f o f':V):bC "fault" f' (bw d p f o)=bw d p f' o:=by
 have n1: ¬("data" :Str)= "fault" :=by decide
 have n2: ¬("place" :Str)= "fault" :=by decide
 simp only [bw,bC,if_neg n1,if_neg n2];rfl
theorem CC (d p f o o':V):bC "fault_place" o' (bw d p f o)=bw d p f o':=by
 have n1: ¬("data" :Str)= "fault_place" :=by decide
 have n2: ¬("place" :Str)= "fault_place" :=by decide
 have n3: ¬("fault" :Str)= "fault_place" :=by decide
 simp only [bw,bC,if_neg n1,if_neg n2,if_neg n3];rfl
def aG (C:Addr) (H:Hp) (R:Rg) (pl:Nat):Prop:=H R.r=some (.ins C R.dr (bw (.ref R.q) (.int (pl:Nat)) (.int 0) (.int (R.B.length:Nat))))
def dv (C:Addr) (H:Hp) (R:Rg) (k p:Nat):Prop:= ∃pl:V,H R.r=some (.ins C R.dr (bw (.ref R.q) pl (.int (k:Nat)) (.int (p:Nat))))
def dj (K:PySem.W.Frag) (H:Hp) (R:Rg):Prop:=ah K (hide R.r H) R.q (vN (bn R.B))∧R.B.length≤16384
theorem tj {r:Addr} {H H':Hp} (s:ae (hide r H) H'):ae (hide r H) (hide r H'):=fun b o e=>by
 rw[hide_ne (cq e).2];exact s b o e
theorem bp {r:Addr} {H H' H'':Hp} (s:ae (hide r H) H') (s':ae (hide r H') H''):ae (hide r H) H'':=(tj s).trans s'
theorem jW {r:Addr} {H H':Hp} (s:ae H H'):ae (hide r H) H':=(dZ r H).trans s
theorem cO {r:Addr} {H:Hp} {o:HO}:ae (hide r H) (upd H r o):=fun b u e=>by
 obtain ⟨e1,e2⟩:=cq e
 rw[aL e2];exact e1
theorem dj.go {H H':Hp} {R:Rg} (h:dj K H R) (s:ae (hide R.r H) H'):dj K H' R:=⟨(tj s).seq h.1,h.2⟩
theorem dj.sq {H:Hp} {R:Rg} (h:dj K H R):ah K H R.q (vN (bn R.B)):=(dZ _ _).seq h.1
def cP (A:aW) (H:Hp) (R:Rg) {α:Type} (o:Except (Nat×Nat) (α×Nat)) (Q:α→Hp→Prop) (E:XK):Prop:=match o with
 | .ok (a,pl)=> ∀H',ae (hide R.r H) H'→aG A.ax H' R pl→Q a H'
 | .error (k,p)=> ∀H',ae (hide R.r H) H'→dv A.ax H' R k p→E (.ref A.bV) none H'
def dO (B:Sound.Bytes) (pl n:Nat):Except (Nat×Nat) (Sound.Bytes×Nat):=if B.length<pl+n then .error (1,B.length) else .ok ((B.drop pl).take n,pl+n)
def nH (B:Sound.Bytes) (begin_ pl f:Nat):Except (Nat×Nat) (Unit×Nat):=if B.length<pl+4 then .error (1,B.length) else if Sound.fromHigh ((B.drop pl).take 4)≠Sound.crc32 ((B.drop begin_).take (pl-begin_)) then .error (f,pl) else .ok ((),pl+4)
def G9 (K:PySem.W.Frag) (C:Addr):Sp:=fun vs H Q _=> ∃(p dx q:Addr) (xs:List V),vs= [.ref p, .ref q]∧H p=some (.ins C dx [])∧ah K H q xs∧Q .aw (upd H p (.ins C dx (bw (.ref q) (.int 0) (.int 0) (.int (xs.length:Nat)))))
theorem Ii:aK ["self", "data"] ["self", "data"] (aB C7):=⟨rfl,rfl,rfl,by decide+kernel,rfl,by decide+kernel,by decide+kernel⟩
theorem An {H:Hp} {p q C dx:Addr} {fs fs':List (Str×V)} {xs:List V} (hp:H p=some (.ins C dx fs)) (hq:ah K H q xs):ah K (upd H p (.ins C dx fs')) q xs:=by
 rcases hq with (h|⟨ob,h⟩)|h
 ·exact .inl (.inl (by rw[aL (tf h hp (by intro e;cases e))];exact h))
 ·exact .inl (.inr ⟨ob,by rw[aL (tf h hp (by intro e;cases e))];exact h⟩)
 ·exact .inr h
theorem AJ (T:Txt K mg A):az P w K mg base a9 1 A.pb A.mX ["self", "data"] (G9 K A.ax):=by
 refine T.O6.ok Ii (fun vs H Q E h=>?_) (fun cdv Ar outer s H vs Q E hr h=>?_)
 ·obtain ⟨p,dx,q,xs,rfl,_⟩:=h
  rfl
 ·obtain ⟨p,dx,q,xs,rfl,hp,hq,k⟩:=h
  refine ⟨_,ai (bh (pv 0) (pv 1) rfl) (ai (bh (pv 0) aq rfl) (ai (bh (pv 0) aq rfl) (ak (bh (pv 0) (bX cx (by rfl) T.cj PySem.boot_len (aa (pv 1) af)) rfl)))),?_⟩
  refine ⟨_,rfl,_,rfl,p,A.ax,dx, [],rfl,hp,T.aM,T.gb,(by show 0<1000;decide),?_⟩
  refine ⟨_,rfl,aA p A.ax dx _ ⟨rfl,aj,T.aM,T.cC,(by show 1<1000;decide),?_⟩⟩
  rw[cB]
  refine ⟨_,rfl,aA p A.ax dx _ ⟨rfl,aj,T.aM,T.kT,(by show 2<1000;decide),?_⟩⟩
  rw[cB]
  refine ⟨_,rfl,ag q xs ⟨rfl, .inl (An hp hq),_,rfl,aA p A.ax dx _ ⟨rfl,aj,T.aM,T.wq,(by show 3<1000;decide),?_⟩⟩⟩
  rw[cB]
  exact k
def Dd (A:aW):Sp:=fun vs H _ E=> ∃(p dx:Addr) (d pl f0 o0:V) (k q:Nat),vs= [.ref p, .int (k:Nat), .int (q:Nat)]∧H p=some (.ins A.ax dx (bw d pl f0 o0))∧E (.ref A.bV) none (upd H p (.ins A.ax dx (bw d pl (.int (k:Nat)) (.int (q:Nat)))))
theorem yL:aK ["self", "fault", "place"] ["self", "fault", "place"] (aB El):=⟨rfl,rfl,rfl,by decide+kernel,rfl,by decide+kernel,by decide+kernel⟩
theorem dS (T:Txt K mg A):az P w K mg base (aY P w) 1 A.lr A.lg ["self", "fault", "place"] (Dd A):=by
 refine T.yM.bO yL (fun vs H Q E h=>?_) (fun cdv Ar outer s H vs Q E hr h=>?_)
 ·obtain ⟨p,dx,d,pl,f0,o0,k,q,rfl,_⟩:=h
  rfl
 ·obtain ⟨p,dx,d,pl,f0,o0,k,q,rfl,hp,e⟩:=h
  refine ⟨_,ai (bh (pv 0) (pv 1) rfl) (ai (bh (pv 0) (pv 2) rfl) (ak (d8 rfl rfl T.kQ T.ly.exc eE))),?_⟩
  refine ⟨_,rfl,_,rfl,aA p A.ax dx _ ⟨rfl,hp,T.aM,T.kT,(by show 4<1000;decide),?_⟩⟩
  rw[zt]
  refine ⟨_,rfl,_,rfl,aA p A.ax dx _ ⟨rfl,aj,T.aM,T.wq,(by show 4<1000;decide),?_⟩⟩
  rw[cB,CC]
  exact e
def Bm (K:PySem.W.Frag) (A:aW):Sp:=fun vs H _ E=> ∃(p dx q:Addr) (pl f0 o0:V) (xs:List V),vs= [.ref p]∧H p=some (.ins A.ax dx (bw (.ref q) pl f0 o0))∧ah K H q xs∧E (.ref A.bV) none (upd H p (.ins A.ax dx (bw (.ref q) pl (.int ((1:Nat):Int)) (.int (xs.length:Nat)))))
theorem yP:aK ["self"] ["self"] (aB A2):=⟨rfl,rfl,rfl,by decide+kernel,rfl,by decide+kernel,by decide+kernel⟩
theorem Kg (T:Txt K mg A):az P w K mg base (aY P w) 2 A.kL A.kI ["self"] (Bm K A):=by
 refine T.EJ.bO yP (fun vs H Q E h=>?_) (fun cdv Ar outer s H vs Q E hr h=>?_)
 ·obtain ⟨p,dx,q,pl,f0,o0,xs,rfl,_⟩:=h
  rfl
 ·obtain ⟨p,dx,q,pl,f0,o0,xs,rfl,hp,hq,e⟩:=h
  refine ⟨_,ak (ba (aU (pv 0) T.aM T.dC (dS T) hr T.dz .nil aN (aa (aR rfl T.DB) (aa (bX cx (by rfl) T.cj PySem.boot_len (aa (ay (pv 0) rfl) af)) af)))),?_⟩
  exact (aS rfl hp rfl (aD rfl hp T.aM T.gb rfl (ag q xs ⟨rfl, .inl hq,p,dx,_,_,_,_,1,xs.length,rfl,hp,e⟩)))
def L3 (K:PySem.W.Frag) (A:aW):Sp:=fun vs H Q E=> ∃(R:Rg) (pl n:Nat),vs= [.ref R.r, .int (n:Nat)]∧dj K H R∧aG A.ax H R pl∧cP A H R (dO R.B pl n) (fun b H'=> ∀D,H D=none→H' D=some (.lst (vN (bn b)))→Q (.ref D) H') E
theorem zq:aK ["self", "count", "begin"] ["self", "count"] (aB zF):=⟨rfl,rfl,rfl,by decide+kernel,rfl,by decide+kernel,by decide+kernel⟩
theorem iX (T:Txt K mg A):az P w K mg base (aY P w) 3 A.lL A.qB ["self", "count"] (L3 K A):=by
 refine T.GS.bO zq (fun vs H Q E h=>?_) (fun cdv Ar outer s H vs Q E hr h=>?_)
 ·obtain ⟨R,pl,n,rfl,_⟩:=h
  rfl
 ·obtain ⟨R,pl,n,rfl,hI,hx,k⟩:=h
  refine ⟨_,ai (aJ (i:=2) zq.nd rfl (Or.inl rfl) (ay (pv 0) rfl))
   (ai (bg (bc dF (au bS (pv 2) (pv 1)) (bX cx (by rfl) T.cj PySem.boot_len (aa (ay (pv 0) rfl) af)) (aZ _)) (ak (ba (LR (pv 0) T.aM T.Bw (Kg T) hr T.By .nil aN))) br)
   (ai (bh (pv 0) (au bS (pv 2) (pv 1)) rfl)
   (ak (aX (eH eJ (ay (pv 0) rfl) (cD (pv 2)) (cD (ay (pv 0) rfl))))))),?_⟩
  have hq:=hI.sq
  unfold aG at hx
  refine (aD rfl hx T.aM T.cC rfl ?_)
  refine ⟨_,rfl,_,rfl,ag _ _ ⟨rfl,rfl,aD rfl hx T.aM T.gb rfl (ag R.q _ ⟨rfl, .inl hq,ag _ _ ⟨rfl,rfl,_,rfl,?_⟩⟩)⟩⟩
  rw[aO,bx]
  dsimp only
  rw[show ((pl:Nat):Int)+((n:Nat):Int)=((pl+n:Nat):Int) by lia]
  unfold dO cP at k
  refine bW (fun c=>?_) fun c=>?_
  ·have c:((R.B.length:Nat):Int)<((pl+n:Nat):Int):=of_decide_eq_true c
   rw[if_pos (by lia)] at k
   refine (aS rfl hx rfl (ve R.r R.dr R.q _ _ _ _ ⟨rfl,hx,hq,k _ cO ⟨.int (pl:Nat),?_⟩⟩))
   rw[aj,aO,bx]
  ·have c: ¬((R.B.length:Nat):Int)<((pl+n:Nat):Int):=fun z=>c (decide_eq_true z)
   rw[if_neg (by lia)] at k
   refine ⟨_,rfl,_,rfl,ag _ _ ⟨rfl,rfl,_,rfl,aA R.r A.ax R.dr _ ⟨rfl,hx,T.aM,T.cC,(by show 4<1000;decide),?_⟩⟩⟩
   dsimp only
   rw[Rc,show ((pl:Nat):Int)+((n:Nat):Int)=((pl+n:Nat):Int) by lia]
   refine (aD rfl aj T.aM T.gb rfl ⟨_,rfl,_,rfl,aD rfl aj T.aM T.cC rfl ⟨_,rfl,ag R.q _ ⟨rfl,An hx hq,fun D hD=>?_⟩⟩⟩)
   have hDr:D≠R.r:=fun z=>by rw[z,aj] at hD;cases hD
   have hD0:H D=none:=by rw[aL hDr] at hD;exact hD
   have s1:ae (hide R.r H) (upd (upd H R.r (.ins A.ax R.dr (bw (.ref R.q) (.int ((pl+n:Nat):Int)) (.int 0) (.int (R.B.length:Nat))))) D (.lst (cW (vN (bn R.B)) (some ((pl:Nat):Int)) (some ((pl+n:Nat):Int))))):=cO.trans (aF hD)
   refine k _ s1 ?_ D hD0 ?_
   ·unfold aG
    rw[aL (Ne.symm hDr),aj]
   ·rw[aj,kb,show pl+n-pl=n by lia,gO,fH]
def So (K:PySem.W.Frag) (A:aW):Sp:=fun vs H Q E=> ∃(R:Rg) (pl n:Nat),vs= [.ref R.r, .int (n:Nat)]∧dj K H R∧aG A.ax H R pl∧n≤1000∧cP A H R (dO R.B pl n) (fun b H'=>Q (.int (Sound.fromHigh b:Nat)) H') E
theorem Jz:aK ["self", "count"] ["self", "count"] (aB FG):=⟨rfl,rfl,rfl,by decide+kernel,rfl,by decide+kernel,by decide+kernel⟩
theorem kW (T:Txt K mg A):az P w K mg base (aY P w) 4 A.qR A.mF ["self", "count"] (So K A):=by
 refine T.JT.bO Jz (fun vs H Q E h=>?_) (fun cdv Ar outer s H vs Q E hr h=>?_)
 ·obtain ⟨R,pl,n,rfl,_⟩:=h
  rfl
 ·obtain ⟨R,pl,n,rfl,hI,hx,hn,k⟩:=h
  have hr1':aE 1 _:=hr.mono (by decide)
  refine ⟨_,ak (aX (aP (sJ T) hr1' rfl T.su T.nL.kp T.rQ .nil aQ (aa (aU (pv 0) T.aM T.i9 (iX T) hr T.iV .nil aN (aa (pv 1) af)) af))),?_⟩
  refine (aS rfl hx rfl ⟨_,rfl,bE R pl n ⟨rfl,hI,hx,?_⟩⟩)
  unfold cP dO at k⊢
  by_cases c:R.B.length<pl+n
  ·rw[if_pos c] at k⊢
   exact k
  ·rw[if_neg c] at k⊢
   dsimp only at k⊢
   intro H' s' hS D hD hxD
   refine (ag D _ ⟨rfl,ah.of hxD,(by rw[bx,List.length_take];lia),eX _,?_⟩)
   have e:bN (bn ((R.B.drop pl).take n))=Sound.fromHigh ((R.B.drop pl).take n):=(mi _).symm
   rw[e]
   exact k H' s' hS
def RD (K:PySem.W.Frag) (A:aW):Sp:=fun vs H Q E=> ∃(R:Rg) (pl b f:Nat),vs= [.ref R.r, .int (b:Nat), .int (f:Nat)]∧dj K H R∧aG A.ax H R pl∧cP A H R (nH R.B b pl f) (fun _ H'=>Q .aw H') E
theorem Eu:aK ["self", "begin", "fault", "place"] ["self", "begin", "fault"] (aB Ad):=⟨rfl,rfl,rfl,by decide+kernel,rfl,by decide+kernel,by decide+kernel⟩
theorem uZ (T:Txt K mg A):az P w K mg base (aY P w) 5 A.pR A.qu ["self", "begin", "fault"] (RD K A):=by
 refine T.MS.bO Eu (fun vs H Q E h=>?_) (fun cdv Ar outer s H vs Q E hr h=>?_)
 ·obtain ⟨R,pl,b,f,rfl,_⟩:=h
  rfl
 ·obtain ⟨R,pl,b,f,rfl,hI,hx,k⟩:=h
  have hr1':aE 1 _:=hr.mono (by decide)
  refine ⟨_,ai (aJ (i:=3) Eu.nd rfl (Or.inl rfl) (ay (pv 0) rfl))
   (ak (bg (bc fE (aU (pv 0) T.aM T.lh (kW T) hr T.kZ .nil aN (aa (aR rfl T.kg) af)) (aP (xC T) hr1' rfl T.wI T.sU.kp T.w6 .nil aQ (aa (eH eJ (ay (pv 0) rfl) (cD (pv 1)) (cD (pv 3))) af)) (aZ _))
    (ak (ba (aU (pv 0) T.aM T.dC (dS T) hr1' T.dz .nil aN (aa (pv 2) (aa (pv 3) af))))) br)),?_⟩
  have hx':=hx
  unfold aG at hx'
  refine (aD rfl hx' T.aM T.cC rfl ?_)
  refine (aS rfl hx' rfl (bE R pl 4 ⟨rfl,hI,hx,by decide,?_⟩))
  unfold cP nH at k
  unfold cP dO
  by_cases c:R.B.length<pl+4
  ·rw[if_pos c] at k⊢
   exact k
  ·rw[if_neg c] at k⊢
   dsimp only
   intro H1 s1 hS
   have hS':=hS
   unfold aG at hS'
   refine (aD rfl hS' T.aM T.gb rfl ⟨_,rfl,_,rfl,_,rfl,_,rfl,ag R.q _ ⟨rfl,(hI.go s1).sq,fun p hp=>?_⟩⟩)
   rw[kb,gO,fH]
   have s2:=aF (o:= .lst (vN (bn ((R.B.drop b).take (pl-b))))) hp
   have hS2:=s2 _ _ hS'
   refine (ag p _ ⟨rfl,ah.of aj,eX _,rfl,_,rfl,?_⟩)
   have ec:kd (bn ((R.B.drop b).take (pl-b)))=Sound.crc32 ((R.B.drop b).take (pl-b)):=xg _
   rw[ec]
   generalize upd H1 p (.lst (vN (bn ((R.B.drop b).take (pl-b)))))=H2 at*
   by_cases c2:Sound.fromHigh ((R.B.drop pl).take 4)=Sound.crc32 ((R.B.drop b).take (pl-b))
   ·rw[decide_eq_true (by rw[c2])]
    rw[if_neg (fun z=>z c2)] at k
    exact bA (k H2 (s1.trans s2) hS2)
   ·rw[decide_eq_false (fun z=>c2 (by have:=V.int.inj z;lia))]
    rw[if_pos c2] at k
    refine bt (aS rfl hS2 rfl ⟨_,rfl,_,rfl,dH R.r R.dr _ _ _ _ f pl ⟨rfl,hS2,k _ (bp (s1.trans s2) cO) ⟨_,aj⟩⟩⟩)
def ky (a b:V):List (Str×V):= [("key",a),("value",b)]
def MN (C:Addr):Sp:=fun vs H Q _=> ∃(p dx:Addr) (a b:V),vs= [.ref p,a,b]∧H p=some (.ins C dx [])∧Q .aw (upd H p (.ins C dx (ky a b)))
theorem KY:aK ["self", "key", "value"] ["self", "key", "value"] (aB DI):=⟨rfl,rfl,rfl,by decide+kernel,rfl,by decide+kernel,by decide+kernel⟩
theorem IP (T:Txt K mg A):az P w K mg base a9 1 A.oq A.nZ ["self", "key", "value"] (MN A.b4):=by
 refine T.KN.ok KY (fun vs H Q E h=>?_) (fun cdv Ar outer s H vs Q E hr h=>?_)
 ·obtain ⟨p,dx,a,b,rfl,_⟩:=h
  rfl
 ·obtain ⟨p,dx,a,b,rfl,hp,k⟩:=h
  refine ⟨_,ai (bh (pv 0) (pv 1) rfl) (ak (bh (pv 0) (pv 2) rfl)),?_⟩
  refine ⟨_,rfl,_,rfl,p,A.b4,dx, [],rfl,hp,T.wX,T.Cw,(by show 0<1000;decide),?_⟩
  refine ⟨_,rfl,_,rfl,aA p A.b4 dx _ ⟨rfl,aj,T.wX,T.S4,(by show 1<1000;decide),?_⟩⟩
  rw[cB]
  exact k
def kB (n:Nat):Bool:=decide (33≤n)&&(decide (n≤126)&&n !=61)
theorem KR (b:Sound.Bytes):Sound.mayKey b=(bn b).all kB:=by
 unfold Sound.mayKey bn
 rw[List.all_map]
 congr 1
 funext c
 unfold kB
 show _=(decide (33≤c.toNat)&&(decide (c.toNat≤126)&&c.toNat !=61))
 congr 2
 by_cases h:c=61
 ·subst h;rfl
 ·have h2: ¬c.toNat=61:=fun z=>h (UInt8.toNat_inj.mp z)
  rw[show (c !=61)=true from bne_iff_ne.mpr h,show (c.toNat !=61)=true from bne_iff_ne.mpr h2]
def Ny (K:PySem.W.Frag):Sp:=fun vs H Q _=> ∃(q:Addr) (b:Sound.Bytes),vs= [.ref q]∧ah K H q (vN (bn b))∧b.length≤1000∧ ∀H',ae H H'→Q (.bl (Sound.mayKey b)) H'
theorem wb:aK ["key", "byte"] ["key"] (aB AA):=⟨rfl,rfl,rfl,by decide+kernel,rfl,by decide+kernel,by decide+kernel⟩
theorem Jj (T:Txt K mg A):az P w K mg base a9 1 A.oN A.qy ["key"] (Ny K):=by
 refine T.Aj.ok wb (fun vs H Q E h=>?_) (fun cdv Ar outer s H vs Q E hr h=>?_)
 ·obtain ⟨q,b,rfl,_⟩:=h
  rfl
 ·obtain ⟨q,b,rfl,hq,hl,k⟩:=h
  refine ⟨_,ak (aX (bX (Cm rfl) rfl T.E8 (by decide+kernel:bootBuiltins "all" =some (.builtin "all")) (aa (fz (own:= [("byte",1)]) rfl wb.nd (dn (pv 0)) (d5 (by kernel_rfl)) (fun _ _ _ _ _=>bq (i:=1) wb.nd rfl (Or.inl rfl)) (fun _ _ _ _ _=>d6)
   (fun _ _ _ _ _=>xP (wW ib ib aq (pv 1) aq) (wA (iu fE (pv 1) (aR rfl T.RO) (aZ _))))) af))),?_⟩
  refine ⟨_,rfl,q,rfl,⟨_,hq⟩,fun D hD=>?_⟩
  refine fq (J:=eM K q) hD (bn b).length (by rw[bx,sizeLine_eq];lia) (fun i=> .bl (kB ((bn b).getD i 0))) (fun i Hh hi t1=>⟨_,_,t1.seq hq,fF hi⟩) (fun Hh t1=>⟨_,t1.seq hq,by rw[aO];exact Nat.le_refl _⟩) ?_ ?_
  ·rintro i Hh z H' hi t1 ⟨rfl,hz⟩ C hC
   obtain ⟨rfl,_⟩:=eT (hz _ (t1.seq hq))
   have hC:=hC _ (ae.refl _)
   generalize (bn b).getD i 0=c at*
   refine ⟨rfl,_,rfl,ag _ _ ⟨rfl,rfl,_,rfl,?_⟩⟩
   unfold kB at hC
   by_cases c1:33≤c
   ·rw[decide_eq_true c1,Bool.true_and] at hC
    rw[decide_eq_true (show (33:Int)≤((c:Nat):Int) by lia)]
    refine bt (ag _ _ ⟨rfl,rfl,_,rfl,?_⟩)
    by_cases c2:c≤126
    ·rw[decide_eq_true c2,Bool.true_and] at hC
     rw[decide_eq_true (show ((c:Nat):Int)≤126 by lia)]
     refine bt ⟨_,rfl,rfl,?_⟩
     have e:(!decide (V.int ((c:Nat):Int)=V.int 61))=(c !=61):=by
      by_cases c3:c=61
      ·subst c3;rfl
      ·rw[decide_eq_false (fun z=>c3 (by have:=V.int.inj z;lia)),show (c !=61)=true from bne_iff_ne.mpr c3];rfl
     rw[e]
     exact hC
    ·rw[decide_eq_false c2,Bool.false_and] at hC
     rw[decide_eq_false (show¬((c:Nat):Int)≤126 by lia)]
     exact bA hC
   ·rw[decide_eq_false c1,Bool.false_and] at hC
    rw[decide_eq_false (show¬(33:Int)≤((c:Nat):Int) by lia)]
    exact bA ⟨_,rfl,bA hC⟩
  ·intro H2 s2 hx2
   have e:(List.range (bn b).length).map (fun i=>V.bl (kB ((bn b).getD i 0)))=((bn b).map kB).map V.bl:=by
    rw[List.map_map]
    refine List.ext_getElem (by simp) fun i h1 h2=>?_
    simp at h1
    simp [List.getD_eq_getElem?_getD,List.getElem?_eq_getElem h1]
   rw[e] at hx2
   refine (ag D _ ⟨rfl,ah.of hx2,?_⟩)
   have e2:((bn b).map kB).all id=Sound.mayKey b:=by rw[KR,List.all_map];rfl
   rw[e2]
   exact k H2 s2
def valOf (t:Sound.Bytes):Sound.Bytes:=t.drop ((Sound.keyOf t).length+3)
def k9 (C:Addr) (H:Hp) (x:Addr) (t:Sound.Bytes):Prop:= ∃dx a b,H x=some (.ins C dx (ky (.ref a) (.ref b)))∧H a=some (.lst (vN (bn (Sound.keyOf t))))∧H b=some (.lst (vN (bn (valOf t))))
theorem k9.same {C:Addr} {H H':Hp} {x:Addr} {t:Sound.Bytes} (h:k9 C H x t) (s:ae H H'):k9 C H' x t:=by
 obtain ⟨dx,a,b,h1,h2,h3⟩:=h
 exact ⟨dx,a,b,s _ _ h1,s _ _ h2,s _ _ h3⟩
theorem zY {Z H H':Hp} (s:ae H H'):ae (newOf Z H) (newOf Z H'):=fun b o e=>by
 obtain ⟨e1,e2⟩:=kH e
 rw[iq e1];exact s b o e2
def dG (C:Addr) (Z H:Hp) (r D:Addr) (l:List Sound.Bytes):Prop:= ∃as:List Addr,hide r H D=some (.lst (as.map V.ref))∧as.length=l.length∧(∀(k:Nat) (a:Addr),as[k]?=some a→k9 C (newOf Z (hide D (hide r H))) a (l.getD k []))∧ ∀b,H b=none→b≠D→b≠r→Z b=none
theorem dG.go {C:Addr} {Z H H':Hp} {r D:Addr} {l:List Sound.Bytes} (h:dG C Z H r D l) (s:ae (hide r H) H'):dG C Z H' r D l:=by
 obtain ⟨as,h1,h2,h3,h4⟩:=h
 refine ⟨as,tj s _ _ h1,h2,fun k a e=>(h3 k a e).same (zY (rb (tj s))),fun b hb hD hr=>h4 b ?_ hD hr⟩
 cases e:H b with
 |none=>rfl
 |some o=>rw[s b o (by rw[hide_ne hr];exact e)] at hb;cases hb
def cK (at_ n:Nat) (seen:List Sound.Bytes) (b:Sound.Bytes):Sound.Stand⊕Nat:=
 if n=0 then .inl (.fault 5 at_) else if b.length<1 then .inl .more else
 let m:=Sound.fromHigh (b.take 1)
 if m=0∨32<m∨n<m+3 then .inl (.fault 5 at_)
 else if b.length<1+m then .inl .more
 else if (Sound.mayKey ((b.drop 1).take m)&&!(seen.any fun (x:Sound.Bytes)=>Sound.keyOf x==(b.drop 1).take m))=false then .inl (.fault 5 at_)
 else if b.length<m+3 then .inl .more
 else
  let v:=Sound.fromHigh ((b.drop (1+m)).take 2)
  if n<m+3+v then .inl (.fault 5 at_) else if b.length<m+3+v then .inl .more else .inr (m+3+v)
theorem qi (c:UInt8) (r:Sound.Bytes):Sound.fromHigh ((c::r).take 1)=c.toNat:=by
 rw[mi]
 show 256*0+c.toNat=_
 lia
theorem tW (k at_ n:Nat) (seen:List Sound.Bytes) (b:Sound.Bytes):Sound.tagItems (k+1) at_ n seen b=match cK at_ n seen b with
  | .inl s=>(seen, .inl s)
  | .inr z=>Sound.tagItems k (at_+z) (n-z) (seen++ [b.take z]) (b.drop z):=by
 conv=>lhs;unfold Sound.tagItems
 unfold cK
 by_cases h0:n=0
 ·rw[if_pos h0,if_pos h0]
 ·rw[if_neg h0,if_neg h0]
  cases b with
  |nil=>rfl
  |cons c r=>
   rw[if_neg (by simp)]
   simp only [qi]
   split
   ·rfl
   ·split
    ·rfl
    ·split
     ·rfl
     ·split
      ·rfl
      ·split
       ·rfl
       ·split
        ·rfl
        ·simp only [Nat.add_assoc]
def dM (len:Nat):Sound.Stand→Nat×Nat
 | .more=>(1,len)
 | .whole=>(0,len)
 | .fault k p=>(k,p)
theorem rG {B:Sound.Bytes} {pl N i j:Nat} (h:i+j≤N):(((B.drop pl).take N).drop i).take j=(B.drop (pl+i)).take j:=by
 rw[List.drop_take,List.take_take,List.drop_drop,Nat.min_eq_left (by lia)]
theorem ud {B:Sound.Bytes} {pl N j:Nat} (h:j≤N) (hp:pl≤B.length):((B.drop pl).take N).length<j↔B.length<pl+j:=by
 rw[List.length_take,List.length_drop]
 lia
def tJ (A:aW) (H:Hp) (R:Rg) (Z:Hp) (D:Addr) (pl:Nat) (seen:List Sound.Bytes) (b:Sound.Bytes) (o:Sound.Stand⊕Nat) (Q:VK) (E:XK):Prop:=match o with
 | .inl st=> ∀H',ae (hide D (hide R.r H)) H'→dv A.ax H' R (dM R.B.length st).1 (dM R.B.length st).2→dG A.b4 Z H' R.r D seen→E (.ref A.bV) none H'
 | .inr z=> ∀H',ae (hide D (hide R.r H)) H'→aG A.ax H' R (pl+z)→dG A.b4 Z H' R.r D (seen++ [b.take z])→Q .aw H'
def LL (K:PySem.W.Frag) (A:aW):Sp:=fun vs H Q E=> ∃(R:Rg) (Z:Hp) (D:Addr) (pl n:Nat) (seen:List Sound.Bytes),vs= [.ref R.r, .int ((pl+n:Nat):Int), .ref D]∧dj K H R∧aG A.ax H R pl∧dG A.b4 Z H R.r D seen∧(pl≤R.B.length∧seen.length≤100000)∧
 tJ A H R Z D pl seen ((R.B.drop pl).take (n+4)) (cK pl n seen ((R.B.drop pl).take (n+4))) Q E
theorem j8:aK ["reading", "end", "tags", "begin", "key_size", "key", "value_size", "tag"] ["reading", "end", "tags"] (aB DK):=⟨rfl,rfl,rfl,by decide+kernel,rfl,by decide+kernel,by decide+kernel⟩
theorem PU {a c:Sound.Bytes} (z:bn a=bn c):a=c:=by
 unfold bn at z
 exact (List.map_inj_right fun _ _=>UInt8.toNat_inj.mp).mp z
theorem jg {a c:Sound.Bytes}:((bn a).map (fun (n:Nat)=>(n:Int))=(bn c).map fun (n:Nat)=>(n:Int))↔a=c:=by
 constructor
 ·intro z
  exact PU ((List.map_inj_right fun _ _ h=>Int.ofNat.inj h).mp z)
 ·rintro rfl;rfl
theorem Cg (T:Txt K mg A):az P w K mg base (aY P w) 6 A.oK A.ng ["reading", "end", "tags"] (LL K A):=by
 refine T.xD.bO j8 (fun vs H Q E h=>?_) (fun cdv Ar outer s H vs Q E hr h=>?_)
 ·obtain ⟨R,Z,D,pl,n,seen,rfl,_⟩:=h
  rfl
 ·obtain ⟨R,Z,D,pl,n,seen,rfl,hI,hx,ht,⟨hplB,hseen⟩,k⟩:=h
  have hr1':aE 1 _:=hr.mono (by decide)
  have hr2':aE 2 _:=hr.mono (by decide)
  have hr3':aE 3 _:=hr.mono (by decide)
  have hr4':aE 4 _:=hr.mono (by decide)
  refine ⟨_,ai (aJ (i:=3) j8.nd rfl (Or.inl rfl) (ay (pv 0) rfl))
   (ai (bg (bc dA (pv 3) (pv 1) (aZ _)) (ak (ba (aU (pv 0) T.aM T.dC (dS T) hr1' T.dz .nil aN (aa (aR rfl T.lx) (aa (pv 3) af))))) br)
   (ai (aJ (i:=4) j8.nd rfl (Or.inl rfl) (aU (pv 0) T.aM T.lh (kW T) hr4' T.kZ .nil aN (aa aq af)))
   (ai (bg (PW.pt (l9 (jh (zK ib ib aq (pv 4) (aR rfl T.RC))) (rl (bc dF (au bS (au bS (ay (pv 0) rfl) (pv 4)) (aR rfl T.zE)) (pv 1) (aZ _))))) (ak (ba (aU (pv 0) T.aM T.dC (dS T) hr1' T.dz .nil aN (aa (aR rfl T.lx) (aa (pv 3) af))))) br)
   (ai (aJ (i:=5) j8.nd rfl (Or.inr rfl) (aU (pv 0) T.aM T.i9 (iX T) hr3' T.iV .nil aN (aa (pv 4) af)))
   (ai (bg (PW.pt (l9 (jh (iS (aP (Jj T) hr1' rfl T.JN T.Aj.kp T.K4 .nil aQ (aa (pv 5) af)))) (rl (iS (bX (S6 rfl) rfl T.QG (by decide+kernel:bootBuiltins "any" =some (.builtin "any")) (aa (fz (own:= [("tag",7)]) rfl j8.nd (dn (pv 2)) (d5 (by kernel_rfl)) (fun _ _ _ _ _=>bq (i:=7) j8.nd rfl (Or.inl rfl)) (fun _ _ _ _ _=>d6)
     (fun _ _ _ _ _=>iu (SA (K:=K) rfl hr.units) (xW (K:=K) rfl (pv 7) rfl) (pv 5) (aZ _))) af)))))) (ak (ba (aU (pv 0) T.aM T.dC (dS T) hr1' T.dz .nil aN (aa (aR rfl T.lx) (aa (pv 3) af))))) br)
   (ai (aJ (i:=6) j8.nd rfl (Or.inl rfl) (aU (pv 0) T.aM T.lh (kW T) hr4' T.kZ .nil aN (aa (aR rfl T.zE) af)))
   (ai (bg (bc dF (au bS (ay (pv 0) rfl) (pv 6)) (pv 1) (aZ _)) (ak (ba (aU (pv 0) T.aM T.dC (dS T) hr1' T.dz .nil aN (aa (aR rfl T.lx) (aa (pv 3) af))))) br)
   (ak (ba (gS PySem.F.plainAttrs_list PySem.F.slot_list_append PySem.F.type_list_append qP (pv 2) (aa (fW T.JA (IP T) hr2' rfl T.Nm T.Kb .nil aQ (aa (pv 5) (aa (aU (pv 0) T.aM T.i9 (iX T) hr3' T.iV .nil aN (aa (pv 6) af)) af))) af))))))))))),?_⟩
  generalize hb:(R.B.drop pl).take (n+4)=b at*
  have hblen: ∀j,j≤n+4→(b.length<j↔R.B.length<pl+j):=fun j hj=>by rw[←hb];exact ud hj hplB
  have hcut: ∀i j,i+j≤n+4→(b.drop i).take j=(R.B.drop (pl+i)).take j:=fun i j hj=>by rw[←hb];exact rG hj
  unfold cK at k
  have stop: ∀(H1:Hp) (p1:Nat),ae (hide R.r H) H1→aG A.ax H1 R p1→(∀H',ae (hide D (hide R.r H)) H'→dv A.ax H' R 5 pl→dG A.b4 Z H' R.r D seen→E (.ref A.bV) none H')→
    E (.ref A.bV) none (upd H1 R.r (.ins A.ax R.dr (bw (.ref R.q) (.int (p1:Nat)) (.int ((5:Nat):Int)) (.int (pl:Nat))))):=fun H1 p1 s1 h1 kk=>by
   have s2:ae (hide R.r H) (upd H1 R.r (.ins A.ax R.dr (bw (.ref R.q) (.int (p1:Nat)) (.int ((5:Nat):Int)) (.int (pl:Nat))))):=bp s1 cO
   exact kk _ ((dZ D _).trans s2) ⟨_,aj⟩ (ht.go s2)
  have hx':=hx
  unfold aG at hx'
  refine (aD rfl hx' T.aM T.cC rfl ?_)
  refine ⟨_,rfl,_,rfl,rfl,_,rfl,?_⟩
  by_cases c0:n=0
  ·rw[decide_eq_true (by rw[c0];rfl)]
   rw[if_pos c0] at k
   exact bt (aS rfl hx' rfl ⟨_,rfl,dH R.r R.dr _ _ _ _ 5 pl ⟨rfl,hx',stop H pl (jW (ae.refl _)) hx k⟩⟩)
  rw[decide_eq_false (fun z=>c0 (by have:=V.int.inj z;lia)),if_neg c0] at*
  refine bA (aS rfl hx' rfl (bE R pl 1 ⟨rfl,hI,hx,by decide,?_⟩))
  unfold cP dO
  by_cases c1:R.B.length<pl+1
  ·rw[if_pos c1]
   rw[if_pos ((hblen 1 (by lia)).mpr c1)] at k
   exact fun H' s' hF=>k H' ((dZ D _).trans s') hF (ht.go s')
  rw[if_neg c1]
  rw[if_neg (fun z=>c1 ((hblen 1 (by lia)).mp z))] at k
  dsimp only at k⊢
  intro H1 s1 hS1
  have e1:(R.B.drop pl).take 1=b.take 1:=by
   have:=hcut 0 1 (by lia)
   rw[List.drop_zero,Nat.add_zero] at this
   exact this.symm
  rw[e1]
  have hm256:Sound.fromHigh (b.take 1)<256:=by
   rw[mi]
   have h1:=sr (l:=(b.take 1).map UInt8.toNat) (fun x hx=>eX (b.take 1) x hx)
   have h2:256^((b.take 1).map UInt8.toNat).length≤256^1:=Nat.pow_le_pow_right (by decide) (by rw[List.length_map,List.length_take];lia)
   lia
  generalize hm:Sound.fromHigh (b.take 1)=m at*
  have hS1':=hS1
  unfold aG at hS1'
  have I1:=hI.go s1
  refine ⟨_,rfl,ag _ _ ⟨rfl,rfl,_,rfl,?_⟩⟩
  have bad1:(m=0∨32<m∨n<m+3)→ ∀H',ae (hide D (hide R.r H)) H'→dv A.ax H' R 5 pl→dG A.b4 Z H' R.r D seen→E (.ref A.bV) none H':=fun c=>by
   rw[if_pos c] at k
   exact k
  by_cases c2:(1:Int)≤((m:Nat):Int)
  case neg=>
   rw[decide_eq_false c2]
   exact bA ⟨_,rfl,bt (bt (aS rfl hS1' rfl ⟨_,rfl,dH R.r R.dr _ _ _ _ 5 pl ⟨rfl,hS1',stop H1 _ s1 hS1 (bad1 (.inl (by lia)))⟩⟩))⟩
  rw[decide_eq_true c2]
  refine bt (ag _ _ ⟨rfl,rfl,_,rfl,?_⟩)
  by_cases c3:((m:Nat):Int)≤32
  case neg=>
   rw[decide_eq_false c3]
   exact bt (bt (aS rfl hS1' rfl ⟨_,rfl,dH R.r R.dr _ _ _ _ 5 pl ⟨rfl,hS1',stop H1 _ s1 hS1 (bad1 (.inr (.inl (by lia))))⟩⟩))
  rw[decide_eq_true c3]
  refine bA (aD rfl hS1' T.aM T.cC rfl ⟨_,rfl,ag _ _ ⟨rfl,rfl,ag _ _ ⟨rfl,rfl,_,rfl,ag _ _ ⟨rfl,rfl,_,rfl,?_⟩⟩⟩⟩)
  dsimp only
  refine bW (fun c4=>?_) fun c4=>?_
  ·have c4:((pl+n:Nat):Int)<((pl+1:Nat):Int)+((m:Nat):Int)+2:=of_decide_eq_true c4
   exact (aS rfl hS1' rfl ⟨_,rfl,dH R.r R.dr _ _ _ _ 5 pl ⟨rfl,hS1',stop H1 _ s1 hS1 (bad1 (.inr (.inr (by lia))))⟩⟩)
  have c4: ¬((pl+n:Nat):Int)<((pl+1:Nat):Int)+((m:Nat):Int)+2:=fun z=>c4 (decide_eq_true z)
  rw[if_neg (by rintro (z|z|z)<;>lia)] at k
  refine (aS rfl hS1' rfl ⟨_,rfl,bE R (pl+1) m ⟨rfl,I1,hS1,?_⟩⟩)
  unfold cP dO
  by_cases c5:R.B.length<pl+1+m
  ·rw[if_pos c5]
   rw[if_pos ((hblen (1+m) (by lia)).mpr (by lia))] at k
   exact fun H' s' hF=>k H' ((dZ D _).trans (bp s1 s')) hF (ht.go (bp s1 s'))
  rw[if_neg c5]
  rw[if_neg (fun z=>c5 (by have:=(hblen (1+m) (by lia)).mp z;lia))] at k
  dsimp only
  intro H2 s2 hS2 Dk hDk hDkx
  rw[←hcut 1 m (by lia)] at hDkx
  have s12:=bp s1 s2
  have hDkr:Dk≠R.r:=fun z=>by rw[z,hS1'] at hDk;cases hDk
  generalize hkey:(b.drop 1).take m=key at*
  have hkl:key.length=m:=by
   rw[←hkey,List.length_take,List.length_drop]
   have:=(hblen (1+m) (by lia))
   lia
  refine ⟨_,rfl,ag Dk key ⟨rfl,ah.of hDkx,by lia,fun H3 s3=>⟨_,rfl,?_⟩⟩⟩
  have hS3:aG A.ax H3 R (pl+1+m):=s3 _ _ hS2
  have hS3':=hS3
  unfold aG at hS3'
  have s13:ae (hide R.r H) H3:=s12.trans s3
  have hDk3:=s3 _ _ hDkx
  have bad2:(Sound.mayKey key&&!(seen.any fun (x:Sound.Bytes)=>Sound.keyOf x==key))=false→ ∀H',ae (hide D (hide R.r H)) H'→dv A.ax H' R 5 pl→dG A.b4 Z H' R.r D seen→E (.ref A.bV) none H':=fun c=>by
   rw[if_pos c] at k
   exact k
  cases c6:Sound.mayKey key with
  |false=>
   exact bt (bt (aS rfl hS3' rfl ⟨_,rfl,dH R.r R.dr _ _ _ _ 5 pl ⟨rfl,hS3',stop H3 _ s13 hS3 (bad2 (by rw[c6];rfl))⟩⟩))
  |true=>
  refine bA ?_
  obtain ⟨as,ht1,ht2,ht3,_⟩:=ht.go s13
  have hD3:H3 D=some (.lst (as.map V.ref)):=(cq ht1).1
  have hDr:D≠R.r:=(cq ht1).2
  refine ⟨_,rfl,D,rfl,⟨_,ah.of hD3⟩,fun D4 hD4=>?_⟩
  refine fq (J:=eM K D) hD4 seen.length (by rw[sizeLine_eq];lia) (fun i=> .bl (Sound.keyOf (seen.getD i [])==key)) (fun i Hh hi t1=>?_) (fun Hh t1=>⟨_,t1.seq (ah.of hD3),by rw[List.length_map];lia⟩) ?_ ?_
  ·obtain ⟨a,ha1,_⟩:=tR (as:=as) (i:=i) (by lia)
   exact ⟨_,_,t1.seq (ah.of hD3),ha1⟩
  ·rintro i Hh z H' hi t1 ⟨rfl,hz⟩ C hC
   obtain ⟨a,rfl,ha⟩:=uc (hz _ (t1.seq (ah.of hD3)))
   obtain ⟨da,ka,va,hq1,hq2,hq3⟩:=((ht3 i a ha).same (((K2 _ _).trans (dZ _ _)).trans (dZ _ _))).same t1
   refine ⟨rfl,aD rfl hq1 T.wX T.Cw rfl ⟨_,rfl,ka,Dk,(bn (Sound.keyOf (seen.getD i []))).map (fun (n:Nat)=>(n:Int)),(bn key).map (fun (n:Nat)=>(n:Int)),rfl,rfl,(by rw[←ja];exact ah.of hq2),(by rw[←ja];exact ah.of (t1 _ _ hDk3)),?_⟩⟩
   have e:decide ((bn (Sound.keyOf (seen.getD i []))).map (fun (n:Nat)=>(n:Int))=(bn key).map fun (n:Nat)=>(n:Int))=(Sound.keyOf (seen.getD i [])==key):=by
    by_cases c:Sound.keyOf (seen.getD i [])=key
    ·rw[decide_eq_true (jg.mpr c),beq_iff_eq.mpr c]
    ·rw[decide_eq_false (fun z=>c (jg.mp z)),beq_eq_false_iff_ne.mpr c]
   rw[e]
   exact hC _ (ae.refl _)
  ·intro H4 s4 hx4
   have ebs:(List.range seen.length).map (fun i=>V.bl (Sound.keyOf (seen.getD i [])==key))=(seen.map fun x=>Sound.keyOf x==key).map V.bl:=by
    rw[List.map_map]
    refine List.ext_getElem (by simp) fun i h1 h2=>?_
    simp at h1
    simp [List.getD_eq_getElem?_getD,List.getElem?_eq_getElem h1]
   rw[ebs] at hx4
   refine (ag D4 _ ⟨rfl,ah.of hx4,_,rfl,?_⟩)
   have eany:(seen.map fun x=>Sound.keyOf x==key).any id=seen.any fun x=>Sound.keyOf x==key:=by rw[List.any_map];rfl
   rw[eany]
   have s14:ae (hide R.r H) H4:=s13.trans s4
   have hS4:aG A.ax H4 R (pl+1+m):=s4 _ _ hS3
   have hS4':=hS4
   unfold aG at hS4'
   cases c7:seen.any fun x=>Sound.keyOf x==key with
   |true=>
    exact bt (aS rfl hS4' rfl ⟨_,rfl,dH R.r R.dr _ _ _ _ 5 pl ⟨rfl,hS4',stop H4 _ s14 hS4 (bad2 (by rw[c6,c7];rfl))⟩⟩)
   |false=>
    refine bA ?_
    rw[if_neg (by rw[c6,c7];decide)] at k
    refine (aS rfl hS4' rfl (bE R (pl+1+m) 2 ⟨rfl,hI.go s14,hS4,by decide,?_⟩))
    unfold cP dO
    by_cases c8:R.B.length<pl+1+m+2
    ·rw[if_pos c8]
     rw[if_pos ((hblen (m+3) (by lia)).mpr (by lia))] at k
     exact fun H' s' hF=>k H' ((dZ D _).trans (bp s14 s')) hF (ht.go (bp s14 s'))
    rw[if_neg c8]
    rw[if_neg (fun z=>c8 (by have:=(hblen (m+3) (by lia)).mp z;lia))] at k
    dsimp only at k⊢
    intro H5 s5 hS5
    have e5:(R.B.drop (pl+1+m)).take 2=(b.drop (1+m)).take 2:=by rw[hcut (1+m) 2 (by lia),Nat.add_assoc]
    rw[e5]
    generalize Sound.fromHigh ((b.drop (1+m)).take 2)=v at*
    have s15:=bp s14 s5
    have hS5':=hS5
    unfold aG at hS5'
    refine (aD rfl hS5' T.aM T.cC rfl ⟨_,rfl,ag _ _ ⟨rfl,rfl,_,rfl,ag _ _ ⟨rfl,rfl,_,rfl,?_⟩⟩⟩)
    dsimp only
    refine bW (fun c9=>?_) fun c9=>?_
    ·have c9:((pl+n:Nat):Int)<((pl+1+m+2:Nat):Int)+((v:Nat):Int):=of_decide_eq_true c9
     rw[if_pos (by lia)] at k
     exact (aS rfl hS5' rfl ⟨_,rfl,dH R.r R.dr _ _ _ _ 5 pl ⟨rfl,hS5',stop H5 _ s15 hS5 k⟩⟩)
    have c9: ¬((pl+n:Nat):Int)<((pl+1+m+2:Nat):Int)+((v:Nat):Int):=fun z=>c9 (decide_eq_true z)
    rw[if_neg (by lia)] at k
    have ht5:=ht.go s15
    obtain ⟨as5,hu1,hu2,hu3,hu4⟩:=id ht5
    refine ⟨_,rfl, .inl ⟨rfl,_,ah.of (cq hu1).1⟩,_,rfl,aS rfl hS5' rfl ⟨_,rfl,bE R (pl+1+m+2) v ⟨rfl,hI.go s15,hS5,?_⟩⟩⟩
    unfold cP dO
    by_cases cA:R.B.length<pl+1+m+2+v
    ·rw[if_pos cA]
     rw[if_pos ((hblen (m+3+v) (by lia)).mpr (by lia))] at k
     exact fun H' s' hF=>k H' ((dZ D _).trans (bp s15 s')) hF (ht.go (bp s15 s'))
    rw[if_neg cA]
    rw[if_neg (fun z=>cA (by have:=(hblen (m+3+v) (by lia)).mp z;lia))] at k
    dsimp only at k⊢
    intro H6 s6 hS6 Dv hDv hDvx
    have eV:(R.B.drop (pl+1+m+2)).take v=(b.drop (m+3)).take v:=by rw[hcut (m+3) v (by lia),show pl+1+m+2=pl+(m+3) by lia]
    rw[eV] at hDvx
    have s16:=bp s15 s6
    obtain ⟨as6,hw1,hw2,hw3,hw4⟩:=ht.go s16
    have hD6:H6 D=some (.lst (as6.map V.ref)):=(cq hw1).1
    have hDk5:H5 Dk=some (.lst (vN (bn key))):=s5 _ _ (by rw[hide_ne hDkr];exact s4 _ _ hDk3)
    have hDk6:H6 Dk=some (.lst (vN (bn key))):=s6 _ _ (by rw[hide_ne hDkr];exact hDk5)
    have hDkD:Dk≠D:=fun z=>by
     have:H1 D=some _:=(cq (ht.go s1).choose_spec.1).1
     rw[z,this] at hDk;cases hDk
    have hDvr:Dv≠R.r:=fun z=>by rw[z,hS5'] at hDv;cases hDv
    have hDvD:Dv≠D:=fun z=>by rw[z,(cq hu1).1] at hDv;cases hDv
    intro x dx hx0 hdx hne
    refine (aA x dx _ _ ⟨rfl,aj,rfl,?_⟩)
    rw[gN]
    have s7:ae H6 (upd (upd H6 dx (.own x)) x (.ins A.b4 dx (ky (.ref Dk) (.ref Dv)))):=d4 hx0 hdx
    have hx7:upd (upd H6 dx (.own x)) x (.ins A.b4 dx (ky (.ref Dk) (.ref Dv))) x=some (.ins A.b4 dx (ky (.ref Dk) (.ref Dv))):=aj
    have hxr:x≠R.r:=fun z=>by rw[z] at hx0;unfold aG at hS6;rw[hS6] at hx0;cases hx0
    have hxD:x≠D:=fun z=>by rw[z,hD6] at hx0;cases hx0
    generalize upd (upd H6 dx (.own x)) x (.ins A.b4 dx (ky (.ref Dk) (.ref Dv)))=H7 at*
    refine (bE D _ _ ⟨rfl,rfl,s7 _ _ hD6,(by rw[List.length_map,sizeLine_eq];lia),?_⟩)
    have s17:ae (hide R.r H) H7:=s16.trans s7
    have hup: ∀o,hide D (hide R.r (upd H7 D o))=hide D (hide R.r H7):=fun o=>by
     funext y
     by_cases hy:y=D
     ·rw[hy];unfold hide;rw[if_pos rfl,if_pos rfl]
     ·rw[hide_ne hy,hide_ne hy]
      by_cases hy2:y=R.r
      ·rw[hy2];unfold hide;rw[if_pos rfl,if_pos rfl]
      ·rw[hide_ne hy2,hide_ne hy2,aL hy]
    refine k _ ?_ ?_ ⟨as6++ [x],?_,?_,fun kk a e=>?_,fun y hy hyD hyr=>hw4 y (s7.none (by rw[aL hyD] at hy;exact hy)) hyD hyr⟩
    ·intro y o ey
     obtain ⟨e1,e2⟩:=cq ey
     rw[aL e2]
     exact s17 _ _ e1
    ·have e:pl+(m+3+v)=pl+1+m+2+v:=by lia
     rw[e]
     unfold aG
     rw[aL (Ne.symm hDr)]
     exact s7 _ _ hS6
    ·rw[hide_ne hDr,aj];simp
    ·rw[List.length_append,List.length_append,hw2];rfl
    ·rw[hup]
     by_cases hk:kk<as6.length
     ·rw[List.getElem?_append_left hk] at e
      rw[List.getD_eq_getElem?_getD,List.getElem?_append_left (by lia),←List.getD_eq_getElem?_getD]
      exact (hw3 kk a e).same (zY (rb (rb s7)))
     ·rw[List.getElem?_append_right (by lia)] at e
      have hk0:kk-as6.length=0:=by
       have:=(List.getElem?_eq_some_iff.mp e).1
       simp at this;lia
      rw[hk0] at e
      obtain rfl:x=a:=Option.some.inj e
      rw[List.getD_eq_getElem?_getD,List.getElem?_append_right (by lia),show kk-seen.length=0 by lia]
      show k9 _ _ x (b.take (m+3+v))
      have hb1:1≤b.length:=by
       have:=hblen (1+m) (by lia)
       lia
      have hbl2:m+3+v≤b.length:=by
       have:=hblen (m+3+v) (by lia)
       lia
      have hkey2:Sound.keyOf (b.take (m+3+v))=key:=by
       have hh:((b.take (m+3+v)).headD 0).toNat=m:=by
        rw[←hm]
        obtain ⟨c,r,hcr⟩:=List.exists_cons_of_ne_nil (List.length_pos_iff.mp (show 0<b.length by lia))
        rw[hcr,qi]
        obtain ⟨q,hq⟩: ∃q,Sound.fromHigh ((c::r).take 1)+3+v=q+1:=⟨Sound.fromHigh ((c::r).take 1)+2+v,by lia⟩
        rw[qi] at hq
        rw[hq]
        rfl
       unfold Sound.keyOf
       rw[hh,List.drop_take,List.take_take,Nat.min_eq_left (by lia)]
       exact hkey
      have hval2:valOf (b.take (m+3+v))=(b.drop (m+3)).take v:=by
       unfold valOf
       rw[hkey2,hkl,List.drop_take,show m+3+v-(m+3)=v by lia]
      refine ⟨dx,Dk,Dv,?_,?_,?_⟩
      ·rw[iq (hw4 x hx0 hxD hxr),hide_ne hxD,hide_ne hxr];exact hx7
      ·rw[hkey2,iq ((ht.go s1).choose_spec.2.2.2 Dk hDk hDkD hDkr),hide_ne hDkD,hide_ne hDkr];exact s7 _ _ hDk6
      ·rw[hval2,iq (hu4 Dv hDv hDvD hDvr),hide_ne hDvD,hide_ne hDvr];exact s7 _ _ hDvx
theorem qh (at_ n:Nat) (seen:List Sound.Bytes) (b:Sound.Bytes):cK at_ n seen b= .inl (.fault 5 at_)∨(cK at_ n seen b= .inl .more∧b.length<n)∨ ∃z,cK at_ n seen b= .inr z∧1≤z∧z≤n∧z≤b.length:=by
 unfold cK
 dsimp only
 split
 ·exact .inl rfl
 ·split
  ·exact .inr (.inl ⟨rfl,by lia⟩)
  ·split
   ·exact .inl rfl
   ·rename_i hc
    have hc: ¬n<Sound.fromHigh (b.take 1)+3:=fun z=>hc (.inr (.inr z))
    split
    ·exact .inr (.inl ⟨rfl,by lia⟩)
    ·split
     ·exact .inl rfl
     ·split
      ·exact .inr (.inl ⟨rfl,by lia⟩)
      ·split
       ·exact .inl rfl
       ·split
        ·exact .inr (.inl ⟨rfl,by lia⟩)
        ·exact .inr (.inr ⟨_,rfl,by lia,by lia,by lia⟩)
theorem vM {at_ n:Nat} {seen:List Sound.Bytes} {b:Sound.Bytes} {z:Nat} (h:cK at_ n seen b= .inr z):z≤n∧z≤b.length:=by
 rcases qh at_ n seen b with e|⟨e,_⟩|⟨y,e,h1,h2⟩
 ·rw[e] at h;cases h
 ·rw[e] at h;cases h
 ·rw[e] at h;cases h;exact h2
theorem ze {at_ n:Nat} {seen:List Sound.Bytes} {b:Sound.Bytes} (h:cK at_ n seen b= .inl .whole):False:=by
 rcases qh at_ n seen b with e|⟨e,_⟩|⟨y,e,h1,h2⟩
 ·rw[e] at h;cases h
 ·rw[e] at h;cases h
 ·rw[e] at h;cases h
def uk (A:aW) (H:Hp) (R:Rg) (Z:Hp) (D:Addr) (pl:Nat) (o:List Sound.Bytes×Sound.Stand) (Q:VK) (E:XK):Prop:=match o with
 |(l, .whole)=> ∀H',ae (hide D (hide R.r H)) H'→aG A.ax H' R pl→dG A.b4 Z H' R.r D l→Q .aw H'
 |(l, .more)=> ∀H',ae (hide D (hide R.r H)) H'→dv A.ax H' R 1 R.B.length→dG A.b4 Z H' R.r D l→E (.ref A.bV) none H'
 |(l, .fault k p)=> ∀H',ae (hide D (hide R.r H)) H'→dv A.ax H' R k p→dG A.b4 Z H' R.r D l→E (.ref A.bV) none H'
def S8 (K:PySem.W.Frag) (A:aW):Sp:=fun vs H Q E=> ∃(R:Rg) (Z:Hp) (D:Addr) (t:Nat),vs= [.ref R.r, .int (t:Nat), .ref D]∧dj K H R∧aG A.ax H R 26∧dG A.b4 Z H R.r D []∧(6≤t∧t≤1024∧26≤R.B.length∧ah K (hide D (hide R.r H)) R.q (vN (bn R.B)))∧
 uk A H R Z D (26+t) (Sound.areaOf t ((R.B.drop 26).take t)) Q E
theorem kn:aK ["reading", "size", "tags", "begin", "end", "count", "step", "place"] ["reading", "size", "tags"] (aB CU):=⟨rfl,rfl,rfl,by decide+kernel,rfl,by decide+kernel,by decide+kernel⟩
theorem jq {D r:Addr} {H H' H'':Hp} (s:ae (hide D (hide r H)) H') (s':ae (hide D (hide r H')) H''):ae (hide D (hide r H)) H'':=fun b o e=>by
 obtain ⟨e1,e2⟩:=cq e
 obtain ⟨e3,e4⟩:=cq e1
 refine s' b o ?_
 rw[hide_ne e2,hide_ne e4]
 exact s b o e
theorem jl {D r:Addr} {H H':Hp} (s:ae (hide r H) H'):ae (hide D (hide r H)) H':=(dZ D _).trans s
theorem Ao {B:Sound.Bytes} {pl:Nat} (h:pl<B.length):Sound.fromHigh ((B.drop pl).take 1)=(B[pl]).toNat:=by
 rw[List.drop_eq_getElem_cons h,qi]
theorem dj.of2 {H H':Hp} {R:Rg} {D:Addr} (h:ah K (hide D (hide R.r H)) R.q (vN (bn R.B))) (hl:R.B.length≤16384) (s:ae (hide D (hide R.r H)) H'):dj K H' R:=by
 refine ⟨?_,hl⟩
 have s2:ae (hide D (hide R.r H)) (hide R.r H'):=fun b o e=>by
  obtain ⟨e1,e2⟩:=cq e
  rw[hide_ne (cq e1).2];exact s b o e
 exact s2.seq h
theorem LH (T:Txt K mg A):az P w K mg base (aY P w) 7 A.pH A.qV ["reading", "size", "tags"] (S8 K A):=by
 refine T.Ed.bO kn (fun vs H Q E h=>?_) (fun cdv Ar outer s H vs Q E hr h=>?_)
 ·obtain ⟨R,Z,D,t,rfl,_⟩:=h
  rfl
 ·obtain ⟨R,Z,D,t,rfl,hI,hx,ht,⟨ht6,ht10,hB26,hqD⟩,k⟩:=h
  have hr1':aE 1 _:=hr.mono (by decide)
  have hr4':aE 4 _:=hr.mono (by decide)
  have hr5':aE 5 _:=hr.mono (by decide)
  refine ⟨_,ai (aJ (i:=3) kn.nd rfl (Or.inl rfl) (ay (pv 0) rfl))
   (ai (aJ (i:=4) kn.nd rfl (Or.inl rfl) (au du (au bS (pv 3) (pv 1)) (aR rfl T.kg)))
   (ai (aJ (i:=5) kn.nd rfl (Or.inl rfl) (aU (pv 0) T.aM T.lh (kW T) hr4' T.kZ .nil aN (aa (aR rfl T.x8) af)))
   (ai (bg (bc dF (pv 5) (aR rfl T.F8) (aZ _)) (ak (ba (aU (pv 0) T.aM T.dC (dS T) hr1' T.dz .nil aN (aa (aR rfl T.lx) (aa (pv 3) af))))) br)
   (ai (cw PassesOwn.leaving rfl (fu rfl T.dU (aa (pv 5) af)) (bq (i:=6) kn.nd rfl (Or.inl rfl))
    (ak (ba (aP (Cg T) hr rfl T.AO T.xD.kp T.CA .nil aN (aa (pv 0) (aa (pv 4) (aa (pv 2) af)))))))
   (ai (cw PassesOwn.leaving rfl (Sg rfl T.dU (aa (ay (pv 0) rfl) (aa (pv 4) af))) (bq (i:=7) kn.nd rfl (Or.inl rfl))
    (ak (bg (bc fE (aU (pv 0) T.aM T.lh (kW T) hr4' T.kZ .nil aN (aa aq af)) aq (aZ _)) (ak (ba (aU (pv 0) T.aM T.dC (dS T) hr1' T.dz .nil aN (aa (aR rfl T.lx) (aa (pv 7) af))))) br)))
   (ak (ba (aU (pv 0) T.aM T.wc (uZ T) hr5' T.vC .nil aN (aa (pv 3) (aa (aR rfl T.QS) af)))))))))),?_⟩
  have hx':=hx
  unfold aG at hx'
  generalize hb:(R.B.drop 26).take t=b at*
  have hblen: ∀j,j≤t→(b.length<j↔R.B.length<26+j):=fun j hj=>by rw[←hb];exact ud hj hB26
  have hcut: ∀i j,i+j≤t→(b.drop i).take j=(R.B.drop (26+i)).take j:=fun i j hj=>by rw[←hb];exact rG hj
  obtain ⟨as0,ha1,ha2,ha3,ha4⟩:=id ht
  have has0:as0= []:=List.length_eq_zero_iff.mp ha2
  subst has0
  have hDr:D≠R.r:=(cq ha1).2
  refine (aD rfl hx' T.aM T.cC rfl ?_)
  refine ⟨_,rfl,_,rfl,ag _ _ ⟨rfl,rfl,ag _ _ ⟨rfl,rfl,?_⟩⟩⟩
  dsimp only
  rw[show ((26:Nat):Int)+((t:Nat):Int)-4=((26+t-4:Nat):Int) by lia]
  refine (aS rfl hx' rfl (bE R 26 2 ⟨rfl,hI,hx,by decide,?_⟩))
  unfold uk Sound.areaOf Sound.TAGS Sound.HEAD at k
  unfold cP dO
  by_cases c1:R.B.length<26+2
  ·rw[if_pos c1]
   rw[if_pos ((hblen 2 (by lia)).mpr c1)] at k
   exact fun H' s' hF=>k H' (jl s') hF (ht.go s')
  rw[if_neg c1]
  rw[if_neg (fun z=>c1 ((hblen 2 (by lia)).mp z))] at k
  dsimp only
  intro H1 s1 hS1
  have e1:(R.B.drop 26).take 2=b.take 2:=by
   have:=hcut 0 2 (by lia)
   rw[List.drop_zero,Nat.add_zero] at this
   exact this.symm
  rw[e1]
  generalize Sound.fromHigh (b.take 2)=cnt at*
  have hS1':=hS1
  unfold aG at hS1'
  refine ⟨_,rfl,ag _ _ ⟨rfl,rfl,_,rfl,?_⟩⟩
  refine bW (fun c2=>?_) fun c2=>?_
  ·have c2:(16:Int)<((cnt:Nat):Int):=of_decide_eq_true c2
   rw[if_pos (show 16<cnt by lia)] at k
   refine (aS rfl hS1' rfl ⟨_,rfl,dH R.r R.dr _ _ _ _ 5 26 ⟨rfl,hS1',?_⟩⟩)
   have s2:=bp s1 (cO (r:=R.r) (H:=H1) (o:= .ins A.ax R.dr (bw (.ref R.q) (.int ((26+2:Nat):Int)) (.int ((5:Nat):Int)) (.int ((26:Nat):Int)))))
   exact k _ (jl s2) ⟨_,aj⟩ (ht.go s2)
  have c2: ¬(16:Int)<((cnt:Nat):Int):=fun z=>c2 (decide_eq_true z)
  rw[if_neg (show¬16<cnt by lia)] at k
  refine ⟨_,rfl,_,rfl,by lia,by lia,?_⟩
  have eb2:b.drop 2=(R.B.drop 28).take (t-6+4):=by
   rw[←hb,List.drop_take,List.drop_drop,show t-2=t-6+4 by lia]
  rw[eb2] at k
  refine fM (lo:=0) (n:=((cnt:Nat):Int).toNat) (fun i σ H'=> ∃(pl n:Nat) (seen:List Sound.Bytes) (v6 v7:Option V),Sound.tagItems cnt (26+2) (t-6) [] ((R.B.drop 28).take (t-6+4))=Sound.tagItems (cnt-i) pl n seen ((R.B.drop pl).take (n+4))∧pl+n=26+t-4∧pl≤R.B.length∧seen.length=i∧
    ae (hide D (hide R.r H)) H'∧dj K H' R∧aG A.ax H' R pl∧dG A.b4 Z H' R.r D seen∧σ= [some (.ref R.r),some (.int (t:Nat)),some (.ref D),some (.int ((26:Nat):Int)),some (.int ((26+t-4:Nat):Int)),some (.int (cnt:Nat)),v6,v7])
   ⟨28,t-6, [],none,none,rfl,by lia,by lia,rfl,jl s1,hI.go s1,hS1,ht.go s1,rfl⟩ ?_ ?_
  ·rintro i σ H2 hi ⟨pl,n,seen,v6,v7,heq,hpn,hpB,hsl,s2,hI2,hS2,ht2,rfl⟩
   rw[Int.toNat_natCast] at hi
   obtain ⟨j,hj⟩: ∃j,cnt-i=j+1:=⟨cnt-i-1,by lia⟩
   rw[hj,tW] at heq
   refine ⟨_,rfl,_,rfl,_,rfl,R,Z,D,pl,n,seen,(by rw[hpn];rfl),hI2,hS2,ht2,⟨hpB,by lia⟩,?_⟩
   unfold tJ
   cases eo:cK pl n seen ((R.B.drop pl).take (n+4)) with
   |inl st=>
    rw[eo] at heq
    rw[heq] at k
    dsimp only at k⊢
    intro H3 s3 hF ht3
    have s23:=jq s2 s3
    cases st with
    |more=>exact k H3 s23 hF ht3
    |whole=>exact (ze eo).elim
    |fault kk p=>exact k H3 s23 hF ht3
   |inr z=>
    rw[eo] at heq
    dsimp only at heq⊢
    obtain ⟨hzn,hzb⟩:=vM eo
    rw[List.length_take,List.length_drop] at hzb
    intro H3 s3 hS3 ht3
    refine ⟨pl+z,n-z,_,_,_,?_,by lia,by lia,by rw[List.length_append,hsl];rfl,jq s2 s3,?_,hS3,ht3,rfl⟩
    ·rw[heq,show cnt-(i+1)=j by lia,List.drop_take,List.drop_drop,show n+4-z=n-z+4 by lia]
    ·exact dj.of2 hqD hI.2 (jq s2 s3)
  ·rintro σ H2 ⟨pl,n,seen,v6,v7,heq,hpn,hpB,hsl,s2,hI2,hS2,ht2,rfl⟩
   rw[Int.toNat_natCast,Nat.sub_self] at heq
   have h0:Sound.tagItems 0 pl n seen ((R.B.drop pl).take (n+4))=(seen, .inr (pl,n,(R.B.drop pl).take (n+4))):=by unfold Sound.tagItems;rfl
   rw[h0] at heq
   rw[heq] at k
   dsimp only at k
   generalize hr4:(R.B.drop pl).take (n+4)=r4 at*
   have hrlen: ∀j,j≤n+4→(r4.length<j↔R.B.length<pl+j):=fun j hj=>by rw[←hr4];exact ud hj hpB
   have hrget: ∀i,i<r4.length→ ∃h:pl+i<R.B.length,r4[i]?=some (R.B[pl+i]):=fun i hi=>by
    rw[←hr4,List.length_take,List.length_drop] at hi
    refine ⟨by lia,?_⟩
    rw[←hr4,List.getElem?_take,if_pos (by lia),List.getElem?_drop,List.getElem?_eq_getElem (by lia)]
   have hS2':=hS2
   unfold aG at hS2'
   refine (aD rfl hS2' T.aM T.cC rfl ⟨_,rfl,ag _ _ ⟨rfl,⟨by lia,by lia,by lia,by lia⟩,?_⟩⟩)
   refine fM (lo:=((pl:Nat):Int)) (n:=(((26+t-4:Nat):Int)-((pl:Nat):Int)).toNat) (fun j σ H'=> ∃(v7:Option V),(∀i,i<j→r4[i]?=some 0)∧ae (hide R.r H2) H'∧aG A.ax H' R (pl+j)∧σ= [some (.ref R.r),some (.int (t:Nat)),some (.ref D),some (.int ((26:Nat):Int)),some (.int ((26+t-4:Nat):Int)),some (.int (cnt:Nat)),v6,v7])
    ⟨v7,fun i hi=>by lia,jW (ae.refl _),hS2,rfl⟩ ?_ ?_
   ·rintro j σ H3 hj ⟨v7,hz,s3,hS3,rfl⟩
    have hjn:j<n:=by lia
    have hS3':=hS3
    unfold aG at hS3'
    refine (aS rfl hS3' rfl (bE R (pl+j) 1 ⟨rfl,hI2.go s3,hS3,by decide,?_⟩))
    unfold cP dO
    by_cases c3:R.B.length<pl+j+1
    ·rw[if_pos c3]
     have hlt:r4.length<j+1:=(hrlen (j+1) (by lia)).mpr (by lia)
     have hnone:(r4.take n).findIdx? (fun (x:UInt8)=>x !=0)=none:=by
      rw[List.findIdx?_eq_none_iff]
      intro x hx
      obtain ⟨i,hi,rfl⟩:=List.getElem_of_mem (List.mem_of_mem_take hx)
      have:=hz i (by lia)
      rw[List.getElem?_eq_getElem hi] at this
      rw[Option.some.inj this];rfl
     rw[hnone] at k
     dsimp only at k
     rw[if_pos ((hblen t (by lia)).mpr (by lia))] at k
     exact fun H' s' hF=>k H' (jq s2 (jl (bp s3 s'))) hF (ht2.go (bp s3 s'))
    rw[if_neg c3]
    dsimp only
    intro H4 s4 hS4
    have s24:=bp s3 s4
    have hS4':=hS4
    unfold aG at hS4'
    rw[Ao (by lia)]
    have hjr:j<r4.length:=by
     have:=hrlen (j+1) (by lia)
     lia
    obtain ⟨hh,hgj⟩:=hrget j hjr
    refine ⟨rfl,_,rfl,?_⟩
    by_cases c4:R.B[pl+j]=0
    ·rw[decide_eq_true (by rw[c4];rfl)]
     refine bA ⟨_,fun i hi=>?_,s24,hS4,rfl⟩
     by_cases hij:i=j
     ·rw[hij,hgj,c4]
     ·exact hz i (by lia)
    ·have c4': ¬(R.B[pl+j]).toNat=0:=fun z=>c4 (UInt8.toNat_inj.mp z)
     rw[decide_eq_false (fun z=>c4' (by have:=V.int.inj z;lia))]
     have hsome:(r4.take n).findIdx? (fun (x:UInt8)=>x !=0)=some j:=by
      rw[List.findIdx?_eq_some_iff_getElem]
      have hjl:j<(r4.take n).length:=by rw[List.length_take];lia
      refine ⟨hjl,?_,fun i hi=>?_⟩
      ·rw[List.getElem_take]
       have:=hgj
       rw[List.getElem?_eq_getElem hjr] at this
       rw[Option.some.inj this]
       simpa using c4
      ·rw[List.getElem_take]
       have:=hz i hi
       rw[List.getElem?_eq_getElem (by lia)] at this
       rw[Option.some.inj this]
       decide
     rw[hsome] at k
     dsimp only at k
     refine bt (aS rfl hS4' rfl ⟨_,rfl,R.r,R.dr,_,_,_,_,5,pl+j,?_,hS4',?_⟩)
     ·show [V.ref R.r,V.int 5,V.int (((pl:Nat):Int)+((j:Nat):Int))]=_
      rw[show ((pl:Nat):Int)+((j:Nat):Int)=((pl+j:Nat):Int) by lia];rfl
     ·have s5:=bp s24 (cO (r:=R.r) (H:=H4) (o:= .ins A.ax R.dr (bw (.ref R.q) (.int ((pl+j+1:Nat):Int)) (.int ((5:Nat):Int)) (.int ((pl+j:Nat):Int)))))
      exact k _ (jq s2 (jl s5)) ⟨_,aj⟩ (ht2.go s5)
   ·rintro σ H3 ⟨v7,hz,s3,hS3,rfl⟩
    have hnn:(((26+t-4:Nat):Int)-((pl:Nat):Int)).toNat=n:=by lia
    rw[hnn] at hz hS3
    have hS3':=hS3
    unfold aG at hS3'
    have hnone:(r4.take n).findIdx? (fun (x:UInt8)=>x !=0)=none:=by
     rw[List.findIdx?_eq_none_iff]
     intro x hx
     obtain ⟨i,hi,rfl⟩:=List.getElem_of_mem hx
     rw[List.length_take] at hi
     rw[List.getElem_take]
     have:=hz i (by lia)
     rw[List.getElem?_eq_getElem (by lia)] at this
     rw[Option.some.inj this];rfl
    rw[hnone] at k
    dsimp only at k
    refine (aS rfl hS3' rfl ⟨_,rfl,aA R (pl+n) 26 6 ⟨rfl,hI2.go s3,hS3,?_⟩⟩)
    unfold cP nH
    rw[hpn]
    by_cases c5:R.B.length<26+t-4+4
    ·rw[if_pos c5]
     rw[if_pos ((hblen t (by lia)).mpr (by lia))] at k
     exact fun H' s' hF=>k H' (jq s2 (jl (bp s3 s'))) hF (ht2.go (bp s3 s'))
    rw[if_neg c5]
    rw[if_neg (fun z=>c5 (by have:=(hblen t (by lia)).mp z;lia))] at k
    have ec1:(b.drop (t-4)).take 4=(R.B.drop (26+t-4)).take 4:=by rw[hcut (t-4) 4 (by lia),show 26+(t-4)=26+t-4 by lia]
    have ec2:b.take (t-4)=(R.B.drop 26).take (26+t-4-26):=by
     have:=hcut 0 (t-4) (by lia)
     rw[List.drop_zero,Nat.add_zero] at this
     rw[this,show 26+t-4-26=t-4 by lia]
    rw[ec1,ec2] at k
    by_cases c6:Sound.fromHigh ((R.B.drop (26+t-4)).take 4)=Sound.crc32 ((R.B.drop 26).take (26+t-4-26))
    ·rw[if_neg (fun z=>z c6)]
     rw[if_pos c6] at k
     dsimp only at k⊢
     intro H' s' hS'
     rw[show 26+t-4+4=26+t by lia] at hS'
     exact k H' (jq s2 (jl (bp s3 s'))) hS' (ht2.go (bp s3 s'))
    ·rw[if_pos c6]
     rw[if_neg c6] at k
     dsimp only at k⊢
     exact fun H' s' hF=>k H' (jq s2 (jl (bp s3 s'))) hF (ht2.go (bp s3 s'))
def kv (f n t:V):List (Str×V):= [("form",f),("samples",n),("tags_size",t)]
def jk (A:aW) (H:Hp) (x:Addr) (h:Sound.Head):Prop:= ∃dx f,H x=some (.ins A.eS dx (kv (.ref f) (.int (h.n:Nat)) (.int (h.t:Nat))))∧gk A.bM H f (Sound.eager h.form)
theorem jk.same {H H':Hp} {x:Addr} {h:Sound.Head} (i:jk A H x h) (s:ae H H'):jk A H' x h:=by
 obtain ⟨dx,f,h1,h2⟩:=i
 exact ⟨dx,f,s _ _ h1,h2.same s⟩
def J4 (C:Addr):Sp:=fun vs H Q _=> ∃(p dx:Addr) (a b c:V),vs= [.ref p,a,b,c]∧H p=some (.ins C dx [])∧Q .aw (upd H p (.ins C dx (kv a b c)))
theorem Se:aK ["self", "form", "samples", "tags_size"] ["self", "form", "samples", "tags_size"] (aB A0):=⟨rfl,rfl,rfl,by decide+kernel,rfl,by decide+kernel,by decide+kernel⟩
theorem Nt (T:Txt K mg A):az P w K mg base a9 1 A.qX A.qE ["self", "form", "samples", "tags_size"] (J4 A.eS):=by
 refine T.G1.ok Se (fun vs H Q E h=>?_) (fun cdv Ar outer s H vs Q E hr h=>?_)
 ·obtain ⟨p,dx,a,b,c,rfl,_⟩:=h
  rfl
 ·obtain ⟨p,dx,a,b,c,rfl,hp,k⟩:=h
  refine ⟨_,ai (bh (pv 0) (pv 1) rfl) (ai (bh (pv 0) (pv 2) rfl) (ak (bh (pv 0) (pv 3) rfl))),?_⟩
  refine ⟨_,rfl,_,rfl,p,A.eS,dx, [],rfl,hp,T.fi,T.kN,(by show 0<1000;decide),?_⟩
  refine ⟨_,rfl,_,rfl,aA p A.eS dx _ ⟨rfl,aj,T.fi,T.r6,(by show 1<1000;decide),?_⟩⟩
  refine ⟨_,rfl,_,rfl,aA p A.eS dx _ ⟨rfl,aj,T.fi,T.vR,(by show 2<1000;decide),?_⟩⟩
  rw[cB,cB]
  exact k
def qd (d:Sound.Bytes):Sound.Head:=⟨⟨Sound.fromHigh (d.take 1),Sound.fromHigh ((d.drop 1).take 1),Sound.fromHigh ((d.drop 2).take 2),0,Sound.fromHigh ((d.drop 4).take 1),Sound.fromHigh ((d.drop 5).take 1)⟩,Sound.fromHigh ((d.drop 6).take 4),Sound.fromHigh ((d.drop 10).take 4)⟩
theorem OF (B:Sound.Bytes):Sound.fields B=qd ((B.drop 8).take 14):=by
 unfold Sound.fields qd
 have c: ∀i j,i+j≤14→(((B.drop 8).take 14).drop i).take j=(B.drop (8+i)).take j:=fun i j h=>rG h
 have c0:((B.drop 8).take 14).take 1=(B.drop 8).take 1:=by rw[List.take_take];rfl
 rw[c0,c 1 1 (by decide),c 2 2 (by decide),c 4 1 (by decide),c 5 1 (by decide),c 6 4 (by decide),c 10 4 (by decide)]
theorem Q4 (F:Sound.Form) (h:F.order=0):(Sound.eager F).ok=F.ok:=by
 unfold Sound.eager Sound.Form.ok
 rw[h];rfl
theorem BN {l:Sound.Bytes} {k:Nat} (h:l.length≤k):Sound.fromHigh l<256^k:=by
 rw[mi]
 have h1:=sr (l:=l.map UInt8.toNat) (fun x hx=>eX l x hx)
 have h2:256^(l.map UInt8.toNat).length≤256^k:=Nat.pow_le_pow_right (by decide) (by rw[List.length_map];exact h)
 lia
theorem rT {d:Sound.Bytes} {i:Nat} (h:i<d.length):(vN (bn d))[i]?=some (.int (Sound.fromHigh ((d.drop i).take 1):Nat)):=by
 rw[fF (by rw[bx];exact h),Ao h]
 unfold bn
 rw[List.getD_eq_getElem?_getD,List.getElem?_map,List.getElem?_eq_getElem h]
 rfl
def QN (K:PySem.W.Frag) (A:aW):Sp:=fun vs H Q _=> ∃(q:Addr) (d:Sound.Bytes),vs= [.ref q]∧ah K H q (vN (bn d))∧d.length=14∧(if Sound.mayHead (qd d)=true then∀x H',ae H H'→jk A (newOf H H') x (qd d)→Q (.ref x) H' else∀H',ae H H'→Q .aw H')
theorem ub:aK ["data", "form", "samples", "tags_size"] ["data"] (aB Ex):=⟨rfl,rfl,rfl,by decide+kernel,rfl,by decide+kernel,by decide+kernel⟩
theorem K1 (T:Txt K mg A):az P w K mg base a9 3 A.qk A.lY ["data"] (QN K A):=by
 refine T.CH.ok ub (fun vs H Q E h=>?_) (fun cdv Ar outer s H vs Q E hr h=>?_)
 ·obtain ⟨q,d,rfl,_⟩:=h
  rfl
 ·obtain ⟨q,d,rfl,hq,hd,k⟩:=h
  have hr1':aE 1 _:=hr.mono (by decide)
  have hr2':aE 2 _:=hr.mono (by decide)
  refine ⟨_,ai (aJ (i:=1) ub.nd rfl (Or.inl rfl) (bZ (aa (cJ d9 (pv 0) aq (fun _ _=>rfl)) (aa (cJ d9 (pv 0) aq (fun _ _=>rfl)) (aa (aP (sJ T) hr1' rfl T.su T.nL.kp T.rQ .nil aQ (aa (eH eJ (pv 0) (cD aq) (cD aq)) af))
    (aa (aR rfl T.Pb) (aa (cJ d9 (pv 0) aq (fun _ _=>rfl)) (aa (cJ d9 (pv 0) aq (fun _ _=>rfl)) af))))))))
   (ai (aJ (i:=2) ub.nd rfl (Or.inl rfl) (aP (sJ T) hr1' rfl T.su T.nL.kp T.rQ .nil aQ (aa (eH eJ (pv 0) (cD aq) (cD aq)) af)))
   (ai (aJ (i:=3) ub.nd rfl (Or.inl rfl) (aP (sJ T) hr1' rfl T.su T.nL.kp T.rQ .nil aQ (aa (eH eJ (pv 0) (cD aq) kq) af)))
   (ai (bg (PW.pt (l9 (jh (iS (aP (Je T) hr1' rfl T.QW T.De.kp T.GA .nil aQ (aa (pv 1) af)))) (rl (bc dF (au ko (pv 2) (cJ d9 (pv 1) aq (fun _ _=>rfl))) (aR rfl T.Mc) (aZ _))))) (ak (aX jA)) br)
   (ai (bg (jh (zK ib ib (aR rfl T.ML) (pv 3) (aR rfl T.F9))) (ak (aX jA)) br)
   (ak (aX (fW T.Jv (Nt T) hr2' rfl T.L8 T.Pd .nil aQ (aa (fW T.QA (Tt T) hr2' rfl T.N0 T.Kj .nil aQ (aa (pv 1) af)) (aa (pv 2) (aa (pv 3) af)))))))))),?_⟩
  have fr: ∀l:Sound.Bytes,bN (bn l)=Sound.fromHigh l:=fun l=>(mi l).symm
  have c2: ∀(a b:Nat),cW (vN (bn d)) (some (a:Int)) (some (b:Int))=vN (bn ((d.drop a).take (b-a))):=fun a b=>by rw[kb,gO,fH]
  have h0:(vN (bn d))[0]?=some (.int (Sound.fromHigh (d.take 1):Nat)):=by
   have:=rT (d:=d) (i:=0) (by lia)
   rwa [List.drop_zero] at this
  refine ⟨_,rfl,aA q _ _ _ ⟨rfl,rfl,hq,cv (j:=0) h0,_,rfl,aA q _ _ _ ⟨rfl,rfl,hq,cv (j:=1) (rT (by lia)),_,rfl,_,rfl,_,rfl,ag q _ ⟨rfl,hq,fun p1 hp1=>?_⟩⟩⟩⟩
  have e1:cW (vN (bn d)) (some (2:Int)) (some (4:Int))=vN (bn ((d.drop 2).take 2)):=c2 2 4
  rw[e1]
  have s1:=aF (o:= .lst (vN (bn ((d.drop 2).take 2)))) hp1
  refine ⟨p1,bn ((d.drop 2).take 2),rfl,ah.of aj,(by rw[bx,List.length_take];lia),eX _,?_⟩
  rw[fr]
  generalize upd H p1 (.lst (vN (bn ((d.drop 2).take 2))))=H1 at*
  refine ⟨_,rfl,aA q _ _ _ ⟨rfl,rfl,s1.seq hq,cv (j:=4) (rT (by lia)),_,rfl,aA q _ _ _ ⟨rfl,rfl,s1.seq hq,cv (j:=5) (rT (by lia)),by rw[sizeLine_eq];show 6≤_;lia,fun F hF=>?_⟩⟩⟩
  have efm:([V.int (Sound.fromHigh (d.take 1):Nat),V.int (Sound.fromHigh ((d.drop 1).take 1):Nat),V.int (Sound.fromHigh ((d.drop 2).take 2):Nat),V.int 4,V.int (Sound.fromHigh ((d.drop 4).take 1):Nat),V.int (Sound.fromHigh ((d.drop 5).take 1):Nat)]:List V)=
   vN [Sound.fromHigh (d.take 1),Sound.fromHigh ((d.drop 1).take 1),Sound.fromHigh ((d.drop 2).take 2),4,Sound.fromHigh ((d.drop 4).take 1),Sound.fromHigh ((d.drop 5).take 1)]:=rfl
  rw[efm]
  have s2:=s1.trans (aF (o:= .lst (vN [Sound.fromHigh (d.take 1),Sound.fromHigh ((d.drop 1).take 1),Sound.fromHigh ((d.drop 2).take 2),4,Sound.fromHigh ((d.drop 4).take 1),Sound.fromHigh ((d.drop 5).take 1)])) hF)
  have hFx:upd H1 F (.lst (vN [Sound.fromHigh (d.take 1),Sound.fromHigh ((d.drop 1).take 1),Sound.fromHigh ((d.drop 2).take 2),4,Sound.fromHigh ((d.drop 4).take 1),Sound.fromHigh ((d.drop 5).take 1)])) F=some (.lst (vN [Sound.fromHigh (d.take 1),Sound.fromHigh ((d.drop 1).take 1),Sound.fromHigh ((d.drop 2).take 2),4,Sound.fromHigh ((d.drop 4).take 1),Sound.fromHigh ((d.drop 5).take 1)])):=aj
  have nF:H F=none:=s1.none hF
  generalize upd H1 F (.lst (vN [Sound.fromHigh (d.take 1),Sound.fromHigh ((d.drop 1).take 1),Sound.fromHigh ((d.drop 2).take 2),4,Sound.fromHigh ((d.drop 4).take 1),Sound.fromHigh ((d.drop 5).take 1)]))=H2 at*
  refine ⟨_,rfl,_,rfl,_,rfl,ag q _ ⟨rfl,s2.seq hq,fun p3 hp3=>?_⟩⟩
  have e3:cW (vN (bn d)) (some (6:Int)) (some (10:Int))=vN (bn ((d.drop 6).take 4)):=c2 6 10
  rw[e3]
  have s3:=aF (o:= .lst (vN (bn ((d.drop 6).take 4)))) hp3
  refine ⟨p3,bn ((d.drop 6).take 4),rfl,ah.of aj,(by rw[bx,List.length_take];lia),eX _,?_⟩
  rw[fr]
  have s03:=s2.trans s3
  have hF3:=s3 _ _ hFx
  generalize upd H2 p3 (.lst (vN (bn ((d.drop 6).take 4))))=H3 at*
  refine ⟨_,rfl,_,rfl,ag q _ ⟨rfl,s03.seq hq,fun p4 hp4=>?_⟩⟩
  have e4:cW (vN (bn d)) (some (10:Int)) none=vN (bn ((d.drop 10).take 4)):=by
   rw[show (some (10:Int))=some ((10:Nat):Int) from rfl,Lr,gO,List.take_of_length_le (by rw[List.length_drop];lia)]
  rw[e4]
  have s4:=aF (o:= .lst (vN (bn ((d.drop 10).take 4)))) hp4
  refine ⟨p4,bn ((d.drop 10).take 4),rfl,ah.of aj,(by rw[bx,List.length_take];lia),eX _,?_⟩
  rw[fr]
  have s04:=s03.trans s4
  have hF4:=s4 _ _ hF3
  generalize upd H3 p4 (.lst (vN (bn ((d.drop 10).take 4))))=H4 at*
  have hn32:Sound.fromHigh ((d.drop 6).take 4)<256^4:=BN (by rw[List.length_take];lia)
  have hc8:Sound.fromHigh (d.take 1)<256^1:=BN (by rw[List.length_take];lia)
  have ehd:qd d=⟨⟨Sound.fromHigh (d.take 1),Sound.fromHigh ((d.drop 1).take 1),Sound.fromHigh ((d.drop 2).take 2),0,Sound.fromHigh ((d.drop 4).take 1),Sound.fromHigh ((d.drop 5).take 1)⟩,Sound.fromHigh ((d.drop 6).take 4),Sound.fromHigh ((d.drop 10).take 4)⟩:=rfl
  rw[ehd] at k
  generalize Sound.fromHigh (d.take 1)=c at*
  generalize Sound.fromHigh ((d.drop 1).take 1)=de at*
  generalize Sound.fromHigh ((d.drop 2).take 2)=bl at*
  generalize Sound.fromHigh ((d.drop 4).take 1)=gr at*
  generalize Sound.fromHigh ((d.drop 5).take 1)=sp at*
  generalize Sound.fromHigh ((d.drop 6).take 4)=n at*
  generalize Sound.fromHigh ((d.drop 10).take 4)=t at*
  have ao:(Sound.formOf [c,de,bl,4,gr,sp]).isSome=(⟨c,de,bl,0,gr,sp⟩:Sound.Form).ok:=by
   rw[←Q4 ⟨c,de,bl,0,gr,sp⟩ rfl]
   unfold Sound.formOf Sound.eager
   simp only
   cases (⟨c,de,bl,4,gr,sp⟩:Sound.Form).ok<;>rfl
  have hmay:Sound.mayHead ⟨⟨c,de,bl,0,gr,sp⟩,n,t⟩=((⟨c,de,bl,0,gr,sp⟩:Sound.Form).ok&&(decide (n*c≤2048)&&(decide (6≤t)&&decide (t≤1024)))):=rfl
  rw[hmay] at k
  refine ⟨_,rfl,ag F _ ⟨rfl,ah.of hF4,fun H5 s5=>⟨_,rfl,?_⟩⟩⟩
  rw[ao]
  have s05:=s04.trans s5
  have hF5:=s5 _ _ hF4
  cases hk:(⟨c,de,bl,0,gr,sp⟩:Sound.Form).ok with
  |false=>
   rw[hk,if_neg (by simp)] at k
   exact bt (bt (k _ s05))
  |true=>
   rw[hk,Bool.true_and] at k
   refine bA ⟨_,rfl,_,rfl,aA F _ _ _ ⟨rfl,rfl,ah.of hF5,cv (j:=0) rfl,ag _ _ ⟨rfl,rfl, .inl ⟨by lia,by lia⟩,ag _ _ ⟨rfl,rfl,_,rfl,?_⟩⟩⟩⟩
   have emul:((n:Nat):Int)*((c:Nat):Int)=((n*c:Nat):Int):=by simp
   dsimp only
   rw[emul]
   refine bW (fun c1=>?_) fun c1=>?_
   ·have c1:(2048:Int)<((n*c:Nat):Int):=of_decide_eq_true c1
    rw[decide_eq_false (show¬n*c≤2048 by lia),if_neg (by simp)] at k
    exact k _ s05
   have c1: ¬(2048:Int)<((n*c:Nat):Int):=fun z=>c1 (decide_eq_true z)
   rw[decide_eq_true (show n*c≤2048 by lia),Bool.true_and] at k
   refine ⟨_,rfl,ag _ _ ⟨rfl,rfl,_,rfl,?_⟩⟩
   by_cases c3:(6:Int)≤((t:Nat):Int)
   ·rw[decide_eq_true c3]
    refine bt (ag _ _ ⟨rfl,rfl,_,rfl,?_⟩)
    by_cases c4:((t:Nat):Int)≤1024
    ·rw[decide_eq_true c4]
     rw[decide_eq_true (show 6≤t by lia),decide_eq_true (show t≤1024 by lia),if_pos (by rfl)] at k
     refine bA ⟨_,rfl,fun x dx hx hdx hne=>?_⟩
     have sm:ae H5 (upd (upd H5 dx (.own x)) x (.ins A.bM dx [])):=d4 hx hdx
     refine (wO x dx F _ _ _ _ _ _ ⟨rfl,aj,sm.seq (ah.of hF5),rfl,_,rfl,_,rfl,?_⟩)
     rw[gN]
     have s6:ae H5 (upd (upd H5 dx (.own x)) x (.ins A.bM dx (oJ (.int (c:Nat)) (.int (de:Nat)) (.int (bl:Nat)) (.int ((4:Nat):Int)) (.int (gr:Nat)) (.int (sp:Nat))))):=d4 hx hdx
     have hx6:upd (upd H5 dx (.own x)) x (.ins A.bM dx (oJ (.int (c:Nat)) (.int (de:Nat)) (.int (bl:Nat)) (.int ((4:Nat):Int)) (.int (gr:Nat)) (.int (sp:Nat)))) x=some (.ins A.bM dx (oJ (.int (c:Nat)) (.int (de:Nat)) (.int (bl:Nat)) (.int ((4:Nat):Int)) (.int (gr:Nat)) (.int (sp:Nat)))):=aj
     have nx:H x=none:=s05.none hx
     show∀y dy,_
     intro y dy hy hdy hney
     refine (tS y dy _ _ _ ⟨rfl,aj,rfl,?_⟩)
     rw[gN]
     have s06:=s05.trans s6
     have s7:=d4 (o:= .own y) (u:= .ins A.eS dy (kv (.ref x) (.int (n:Nat)) (.int (t:Nat)))) hy hdy
     refine k y _ (s06.trans s7) ⟨dy,x,?_,⟨dx,?_⟩⟩
     ·rw[iq (s06.none hy),aj]
     ·rw[iq nx]
      exact s7 _ _ hx6
    ·rw[decide_eq_false c4]
     rw[decide_eq_false (show¬t≤1024 by lia),Bool.and_false,if_neg (by simp)] at k
     exact bt (k _ s05)
   ·rw[decide_eq_false c3]
    rw[decide_eq_false (show¬6≤t by lia),Bool.false_and,if_neg (by simp)] at k
    exact bA ⟨_,rfl,bt (k _ s05)⟩
def cu (B:Sound.Bytes):Except (Nat×Nat) Sound.Head:=if B.length<8 then .error (1,B.length) else if B.take 8≠Sound.MAGIC then .error (2,0) else if B.length<22 then .error (1,B.length) else if Sound.mayHead (Sound.fields B)=false then .error (3,8)
 else if B.length<26 then .error (1,B.length) else if Sound.fromHigh ((B.drop 22).take 4)≠Sound.crc32 (B.take 22) then .error (4,22) else .ok (Sound.fields B)
def rS (A:aW) (H:Hp) (R:Rg) (o:Except (Nat×Nat) Sound.Head) (Q:Sound.Head→Addr→Hp→Prop) (E:XK):Prop:=match o with
 | .ok h=> ∀x H',ae (hide R.r H) H'→aG A.ax H' R 26→jk A (newOf H H') x h→Q h x H'
 | .error (k,p)=> ∀H',ae (hide R.r H) H'→dv A.ax H' R k p→E (.ref A.bV) none H'
def NM (K:PySem.W.Frag) (A:aW):Sp:=fun vs H Q E=> ∃(R:Rg),vs= [.ref R.r]∧dj K H R∧aG A.ax H R 0∧rS A H R (cu R.B) (fun _ x H'=>Q (.ref x) H') E
theorem vG:aK ["reading", "place", "head"] ["reading"] (aB AK):=⟨rfl,rfl,rfl,by decide+kernel,rfl,by decide+kernel,by decide+kernel⟩
theorem Lw (T:Txt K mg A):az P w K mg base (aY P w) 6 A.oI A.nO ["reading"] (NM K A):=by
 refine T.DO.bO vG (fun vs H Q E h=>?_) (fun cdv Ar outer s H vs Q E hr h=>?_)
 ·obtain ⟨R,rfl,_⟩:=h
  rfl
 ·obtain ⟨R,rfl,hI,hx,k⟩:=h
  have hr1':aE 1 _:=hr.mono (by decide)
  have hr3':aE 3 _:=hr.mono (by decide)
  refine ⟨_,ai (bg (bc (u9 hr.units) (aU (pv 0) T.aM T.i9 (iX T) hr3' T.iV .nil aN (aa (bX cx (by rfl) T.cj PySem.boot_len (aa (dR rfl T.yg) af)) af)) (tI tK rfl T.tV (by decide+kernel:bootBuiltins "list" =some (.type "list")) (aa (dR rfl T.yg) af)) (aZ _))
    (ak (ba (aU (pv 0) T.aM T.dC (dS T) hr1' T.dz .nil aN (aa (aR rfl T.Sw) (aa aq af))))) br)
   (ai (aJ (i:=1) vG.nd rfl (Or.inl rfl) (ay (pv 0) rfl))
   (ai (aJ (i:=2) vG.nd rfl (Or.inl rfl) (aP (K1 T) hr3' rfl T.QP T.CH.kp T.MY .nil aQ (aa (aU (pv 0) T.aM T.i9 (iX T) hr3' T.iV .nil aN (aa aq af)) af)))
   (ai (bg (bc Oo (pv 2) jA (aZ _)) (ak (ba (aU (pv 0) T.aM T.dC (dS T) hr1' T.dz .nil aN (aa (aR rfl T.Pk) (aa (pv 1) af))))) br)
   (ai (ba (aU (pv 0) T.aM T.wc (uZ T) hr T.vC .nil aN (aa aq (aa (aR rfl T.R9) af))))
   (ak (aX (pv 2))))))),?_⟩
  have hx':=hx
  unfold aG at hx'
  unfold cu at k
  refine (aS rfl hx' rfl (ag A.jM _ ⟨rfl, .inr (T.vj _),bE R 0 8 ⟨rfl,hI,hx,?_⟩⟩))
  unfold cP dO
  rw[Nat.zero_add]
  by_cases c1:R.B.length<8
  ·rw[if_pos c1] at k⊢
   exact k
  rw[if_neg c1] at k⊢
  dsimp only
  intro H1 s1 hS1 D1 hD1 hx1
  rw[List.drop_zero] at hx1
  refine (ag A.jM _ ⟨rfl, .inr (T.vj _),fun L hL=>?_⟩)
  have s2:=aF (o:= .lst [V.int (83),V.int (75),V.int (69),V.int (69),V.int (80),V.int (1),V.int (13),V.int (10)]) hL
  refine ⟨D1,L,(bn (R.B.take 8)).map (fun (n:Nat)=>(n:Int)),(bn Sound.MAGIC).map (fun (n:Nat)=>(n:Int)),rfl,rfl,(by rw[←ja];exact s2.seq (ah.of hx1)),ah.of aj,_,rfl,?_⟩
  have hS2:aG A.ax _ R 8:=s2 _ _ hS1
  have s12:=s1.trans s2
  generalize upd H1 L (.lst [V.int (83),V.int (75),V.int (69),V.int (69),V.int (80),V.int (1),V.int (13),V.int (10)])=H2 at*
  have hS2':=hS2
  unfold aG at hS2'
  by_cases c2:R.B.take 8=Sound.MAGIC
  case neg=>
   rw[if_pos c2] at k
   rw[decide_eq_false (fun z=>c2 (jg.mp z))]
   exact bt (aS rfl hS2' rfl (dH R.r R.dr _ _ _ _ 2 0 ⟨rfl,hS2',k _ (bp s12 cO) ⟨_,aj⟩⟩))
  rw[if_neg (fun z=>z c2)] at k
  rw[decide_eq_true (jg.mpr c2)]
  refine bA (aD rfl hS2' T.aM T.cC rfl ?_)
  refine (aS rfl hS2' rfl (bE R 8 14 ⟨rfl,hI.go s12,hS2,?_⟩))
  unfold cP dO
  by_cases c3:R.B.length<8+14
  ·rw[if_pos c3]
   rw[if_pos (show R.B.length<22 by lia)] at k
   exact fun H' s' hF=>k H' (bp s12 s') hF
  rw[if_neg c3]
  rw[if_neg (show¬R.B.length<22 by lia)] at k
  dsimp only
  intro H3 s3 hS3 D3 hD3 hx3
  have s13:=bp s12 s3
  refine ⟨D3,(R.B.drop 8).take 14,rfl,ah.of hx3,(by rw[List.length_take,List.length_drop];lia),?_⟩
  rw[←OF]
  have sealed: ∀(x:V) (H4:Hp) (HQ:Hp→Prop),ae (hide R.r H) H4→aG A.ax H4 R 22→(∀kk p,cu R.B= .error (kk,p)→ ∀H',ae (hide R.r H) H'→dv A.ax H' R kk p→E (.ref A.bV) none H')→True:=fun _ _ _ _ _ _=>trivial
  cases hm:Sound.mayHead (Sound.fields R.B) with
  |false=>
   rw[if_neg (by decide)]
   rw[if_pos hm] at k
   intro H4 s4
   have hS4:=s4 _ _ hS3
   refine ⟨_,rfl,rfl,_,rfl,bt (aS rfl hS4 rfl ⟨_,rfl,dH R.r R.dr _ _ _ _ 3 8 ⟨rfl,hS4,k _ (bp (s13.trans s4) cO) ⟨_,aj⟩⟩⟩)⟩
  |true=>
   rw[if_pos rfl]
   rw[if_neg (by rw[hm];decide)] at k
   intro x H4 s4 hH
   have hS4:aG A.ax H4 R 22:=s4 _ _ hS3
   have hS4':=hS4
   unfold aG at hS4'
   have s14:=s13.trans s4
   refine ⟨_,rfl,rfl,_,rfl,bA (aS rfl hS4' rfl (aA R 22 0 4 ⟨rfl,hI.go s14,hS4,?_⟩))⟩
   unfold cP nH
   by_cases c4:R.B.length<22+4
   ·rw[if_pos c4]
    rw[if_pos (show R.B.length<26 by lia)] at k
    exact fun H' s' hF=>k H' (bp s14 s') hF
   rw[if_neg c4]
   rw[if_neg (show¬R.B.length<26 by lia)] at k
   rw[List.drop_zero,Nat.sub_zero]
   by_cases c5:Sound.fromHigh ((R.B.drop 22).take 4)=Sound.crc32 (R.B.take 22)
   ·rw[if_neg (fun z=>z c5)] at k⊢
    dsimp only at k⊢
    intro H5 s5 hS5
    refine ⟨_,rfl,k x H5 (bp s14 s5) hS5 (hH.same fun b o e=>?_)⟩
    obtain ⟨e1,e2⟩:=kH e
    have hbr:b≠R.r:=fun z=>by
     unfold aG at hS3
     rw[z,hS3] at e1;cases e1
    have h0:H b=none:=by
     cases q:H b with
     |none=>rfl
     |some u=>rw[s13 b u (by rw[hide_ne hbr];exact q)] at e1;cases e1
    rw[iq h0]
    exact s5 _ _ (by rw[hide_ne hbr];exact e2)
   ·rw[if_pos c5] at k⊢
    exact fun H' s' hF=>k H' (bp s14 s') hF
def b5 (l:List Addr) (H:Hp):Hp:=fun b=>if b∈l then none else H b
theorem dW {l:List Addr} {H:Hp} {b:Addr} (h:b∉l):b5 l H b=H b:=by unfold b5;rw[if_neg h]
theorem cG {l:List Addr} {H:Hp} {b:Addr} {o:HO} (h:b5 l H b=some o):H b=some o∧b∉l:=by
 unfold b5 at h
 by_cases e:b∈l
 ·rw[if_pos e] at h;cases h
 ·rw[if_neg e] at h;exact ⟨h,e⟩
theorem gF {l:List Addr} {b r:Addr} (h:r∈l) (e:b∉l):b≠r:=fun z=>by rw[z] at e;exact e h
theorem kG (l:List Addr) (H:Hp):ae (b5 l H) H:=fun b o h=>(cG h).1
theorem f7 {l:List Addr} {H H':Hp} (s:ae (b5 l H) H'):ae (b5 l H) (b5 l H'):=fun b o e=>by
 rw[dW (cG e).2];exact s b o e
theorem cc {l:List Addr} {H H' H'':Hp} (s:ae (b5 l H) H') (s':ae (b5 l H') H''):ae (b5 l H) H'':=(f7 s).trans s'
theorem kr {l:List Addr} {H H':Hp} (s:ae H H'):ae (b5 l H) H':=(kG l H).trans s
theorem jo {l:List Addr} {H:Hp} {r:Addr} {o:HO} (h:r∈l):ae (b5 l H) (upd H r o):=fun b u e=>by
 obtain ⟨e1,e2⟩:=cG e
 rw[aL (gF h e2)];exact e1
theorem cN {l:List Addr} {H H':Hp} {r:Addr} (h:r∈l) (s:ae (hide r H) H'):ae (b5 l H) H':=fun b u e=>by
 obtain ⟨e1,e2⟩:=cG e
 exact s b u (by rw[hide_ne (gF h e2)];exact e1)
theorem tq {l:List Addr} {H H':Hp} {r t:Addr} (hr:r∈l) (ht:t∈l) (s:ae (hide t (hide r H)) H'):ae (b5 l H) H':=fun b u e=>by
 obtain ⟨e1,e2⟩:=cG e
 exact s b u (by rw[hide_ne (gF ht e2),hide_ne (gF hr e2)];exact e1)
theorem SX {l:List Addr} {H H':Hp} (h: ∀x∈l,H x=none) (s:ae H H'):ae H (b5 l H'):=fun b o e=>by
 rw[dW (fun z=>by rw[h b z] at e;cases e)];exact s b o e
def cM (r h t s i f n:V):List (Str×V):= [("reading",r),("head",h),("tags",t),("starts",s),("index_bytes",i),("frames_taken",f),("numbers",n)]
theorem OQ (r h t s i f n h':V):bC "head" h' (cM r h t s i f n)=cM r h' t s i f n:=by
 have n1: ¬("reading" :Str)= "head" :=by decide
 simp only [cM,bC,if_neg n1];rfl
structure Hg where
 p:Addr
 dp:Addr
 t:Addr
 s:V
 i:V
 f:V
 n:V
def kl (A:aW) (H:Hp) (G:Hg) (R:Rg) (h:V):Prop:=H G.p=some (.ins A.bu G.dp (cM (.ref R.r) h (.ref G.t) G.s G.i G.f G.n))
def IC (K:PySem.W.Frag) (A:aW):Sp:=fun vs H Q _=> ∃(p dp q:Addr) (B:Sound.Bytes),vs= [.ref p, .ref q]∧H p=some (.ins A.bu dp [])∧ah K H q (vN (bn B))∧
 ∀H' r dr t a b c,ae (hide p H) H'→(H r=none∧H t=none∧H a=none∧H b=none∧H c=none)→ [p,r,t,a,c].Nodup→kl A H' ⟨p,dp,t, .ref a, .ref b, .int 0, .ref c⟩ ⟨r,dr,q,B⟩ .aw→aG A.ax H' ⟨r,dr,q,B⟩ 0→(H' t=some (.lst [])∧H' a=some (.lst [])∧b5 [p,r,t,a,c] H' b=some (.lst [])∧H' c=some (.lst []))→Q .aw H'
theorem Tr:aK ["self", "data"] ["self", "data"] (aB zJ):=⟨rfl,rfl,rfl,by decide+kernel,rfl,by decide+kernel,by decide+kernel⟩
theorem bK {H:Hp} {p b:Addr} {o u:HO} (hb:b≠p) (h:H b=some u):upd H p o b=some u:=by rw[aL hb];exact h
theorem Oh (T:Txt K mg A):az P w K mg base a9 3 A.lT A.qb ["self", "data"] (IC K A):=by
 refine T.Td.ok Tr (fun vs H Q E h=>?_) (fun cdv Ar outer s H vs Q E hr h=>?_)
 ·obtain ⟨p,dp,q,B,rfl,_⟩:=h
  rfl
 ·obtain ⟨p,dp,q,B,rfl,hp,hq,k⟩:=h
  refine ⟨_,ai (bh (pv 0) (fW T.EO (AJ T) hr rfl T.FX T.zj .nil aQ (aa (pv 1) af)) rfl) (ai (bh (pv 0) jA rfl) (ai (bh (pv 0) (bZ af) rfl) (ai (bh (pv 0) (bZ af) rfl) (ai (bh (pv 0) (bZ af) rfl) (ai (bh (pv 0) aq rfl) (ak (bh (pv 0) (bZ af) rfl))))))),?_⟩
  have z0:([]:List V).length≤sizeLine:=by rw[sizeLine_eq];exact Nat.zero_le _
  refine ⟨_,rfl,fun r dr hr0 hdr hne=>?_⟩
  have sm:ae H (upd (upd H dr (.own r)) r (.ins A.ax dr [])):=d4 hr0 hdr
  refine (aA r dr q _ ⟨rfl,aj,sm.seq hq,rfl,?_⟩)
  rw[gN]
  have s1:ae H (upd (upd H dr (.own r)) r (.ins A.ax dr (bw (.ref q) (.int 0) (.int 0) (.int ((vN (bn B)).length:Nat))))):=d4 hr0 hdr
  have hr1:upd (upd H dr (.own r)) r (.ins A.ax dr (bw (.ref q) (.int 0) (.int 0) (.int ((vN (bn B)).length:Nat)))) r=some (.ins A.ax dr (bw (.ref q) (.int 0) (.int 0) (.int ((vN (bn B)).length:Nat)))):=aj
  generalize upd (upd H dr (.own r)) r (.ins A.ax dr (bw (.ref q) (.int 0) (.int 0) (.int ((vN (bn B)).length:Nat))))=H1 at*
  have hrp:r≠p:=fun z=>by rw[z,hp] at hr0;cases hr0
  refine ⟨_,rfl,p,A.bu,dp, [],rfl,s1 _ _ hp,T.bJ,T.gI,(by show 0<1000;decide),?_⟩
  generalize hH1b:upd H1 p _=H1b
  have s1b:ae (hide p H) H1b:=by rw[←hH1b];exact bp (jW s1) cO
  have hp1b:H1b p=some (.ins A.bu dp [("reading", .ref r)]):=by rw[←hH1b];exact aj
  have hr1b:H1b r=some (.ins A.ax dr (bw (.ref q) (.int 0) (.int 0) (.int ((vN (bn B)).length:Nat)))):=by rw[←hH1b];exact bK hrp hr1
  refine ⟨_,rfl,aA p A.bu dp _ ⟨rfl,hp1b,T.bJ,T.gM,(by show 1<1000;decide),?_⟩⟩
  generalize hH2:upd H1b p _=H2
  have hp2:H2 p=some (.ins A.bu dp [("reading", .ref r),("head", .aw)]):=by rw[←hH2];exact aj
  have hr2:H2 r=some (.ins A.ax dr (bw (.ref q) (.int 0) (.int 0) (.int ((vN (bn B)).length:Nat)))):=by rw[←hH2];exact bK hrp hr1b
  have s2:ae (hide p H) H2:=by rw[←hH2];exact bp s1b cO
  have fresh: ∀(Hx:Hp) (y:Addr) (fs:List (Str×V)),Hx p=some (.ins A.bu dp fs)→ae (hide p H) Hx→Hx y=none→y≠p∧H y=none:=fun Hx y fs h1 h2 h3=>by
   have e1:y≠p:=fun z=>by rw[z,h1] at h3;cases h3
   refine ⟨e1,?_⟩
   cases e:H y with
   |none=>rfl
   |some u=>rw[h2 _ _ (by rw[hide_ne e1];exact e)] at h3;cases h3
  have apart: ∀(Hx:Hp) (y z:Addr) (o:HO),Hx y=none→Hx z=some o→z≠y:=fun Hx y z o h1 h2 e=>by rw[e,h1] at h2;cases h2
  refine ⟨z0,fun t ht=>⟨_,rfl,aA p A.bu dp _ ⟨rfl,aF ht _ _ hp2,T.bJ,T.F4,(by show 2<1000;decide),?_⟩⟩⟩
  obtain ⟨htp,ht0⟩:=fresh H2 t _ hp2 s2 ht
  have hrt:=apart H2 t r _ ht hr2
  generalize hH3:upd (upd H2 t (.lst [])) p _=H3
  have hp3:H3 p=some (.ins A.bu dp [("reading", .ref r),("head", .aw),("tags", .ref t)]):=by rw[←hH3];exact aj
  have hr3:H3 r=some (.ins A.ax dr (bw (.ref q) (.int 0) (.int 0) (.int ((vN (bn B)).length:Nat)))):=by rw[←hH3];exact bK hrp (aF ht _ _ hr2)
  have ht3:H3 t=some (.lst []):=by rw[←hH3];exact bK htp aj
  have s3:ae (hide p H) H3:=by rw[←hH3];exact bp (s2.trans (aF ht)) cO
  refine ⟨z0,fun a ha=>⟨_,rfl,aA p A.bu dp _ ⟨rfl,aF ha _ _ hp3,T.bJ,T.oB,(by show 3<1000;decide),?_⟩⟩⟩
  obtain ⟨hap,ha0⟩:=fresh H3 a _ hp3 s3 ha
  have hra:=apart H3 a r _ ha hr3
  have hta:=apart H3 a t _ ha ht3
  generalize hH4:upd (upd H3 a (.lst [])) p _=H4
  have hp4:H4 p=some (.ins A.bu dp [("reading", .ref r),("head", .aw),("tags", .ref t),("starts", .ref a)]):=by rw[←hH4];exact aj
  have hr4:H4 r=some (.ins A.ax dr (bw (.ref q) (.int 0) (.int 0) (.int ((vN (bn B)).length:Nat)))):=by rw[←hH4];exact bK hrp (aF ha _ _ hr3)
  have ht4:H4 t=some (.lst []):=by rw[←hH4];exact bK htp (aF ha _ _ ht3)
  have ha4:H4 a=some (.lst []):=by rw[←hH4];exact bK hap aj
  have s4:ae (hide p H) H4:=by rw[←hH4];exact bp (s3.trans (aF ha)) cO
  refine ⟨z0,fun b hb=>⟨_,rfl,aA p A.bu dp _ ⟨rfl,aF hb _ _ hp4,T.bJ,T.wB,(by show 4<1000;decide),?_⟩⟩⟩
  obtain ⟨hbp,hb0⟩:=fresh H4 b _ hp4 s4 hb
  have hrb:=apart H4 b r _ hb hr4
  have htb:=apart H4 b t _ hb ht4
  have hab:=apart H4 b a _ hb ha4
  generalize hH5:upd (upd H4 b (.lst [])) p _=H5
  have hp5:H5 p=some (.ins A.bu dp [("reading", .ref r),("head", .aw),("tags", .ref t),("starts", .ref a),("index_bytes", .ref b)]):=by rw[←hH5];exact aj
  have hr5:H5 r=some (.ins A.ax dr (bw (.ref q) (.int 0) (.int 0) (.int ((vN (bn B)).length:Nat)))):=by rw[←hH5];exact bK hrp (aF hb _ _ hr4)
  have ht5:H5 t=some (.lst []):=by rw[←hH5];exact bK htp (aF hb _ _ ht4)
  have ha5:H5 a=some (.lst []):=by rw[←hH5];exact bK hap (aF hb _ _ ha4)
  have hb5:H5 b=some (.lst []):=by rw[←hH5];exact bK hbp aj
  have s5:ae (hide p H) H5:=by rw[←hH5];exact bp (s4.trans (aF hb)) cO
  refine ⟨_,rfl,aA p A.bu dp _ ⟨rfl,hp5,T.bJ,T.Aw,(by show 5<1000;decide),?_⟩⟩
  generalize hH6:upd H5 p _=H6
  have hp6:H6 p=some (.ins A.bu dp [("reading", .ref r),("head", .aw),("tags", .ref t),("starts", .ref a),("index_bytes", .ref b),("frames_taken", .int 0)]):=by rw[←hH6];exact aj
  have hr6:H6 r=some (.ins A.ax dr (bw (.ref q) (.int 0) (.int 0) (.int ((vN (bn B)).length:Nat)))):=by rw[←hH6];exact bK hrp hr5
  have ht6:H6 t=some (.lst []):=by rw[←hH6];exact bK htp ht5
  have ha6:H6 a=some (.lst []):=by rw[←hH6];exact bK hap ha5
  have hb6:H6 b=some (.lst []):=by rw[←hH6];exact bK hbp hb5
  have s6:ae (hide p H) H6:=by rw[←hH6];exact bp s5 cO
  refine ⟨z0,fun c hc=>⟨_,rfl,aA p A.bu dp _ ⟨rfl,aF hc _ _ hp6,T.bJ,T.xS,(by show 6<1000;decide),?_⟩⟩⟩
  obtain ⟨hcp,hc0⟩:=fresh H6 c _ hp6 s6 hc
  have hrc:=apart H6 c r _ hc hr6
  have htc:=apart H6 c t _ hc ht6
  have hac:=apart H6 c a _ hc ha6
  have hbc:=apart H6 c b _ hc hb6
  refine k _ r dr t a b c (bp (s6.trans (aF hc)) cO) ⟨hr0,ht0,ha0,hb0,hc0⟩ ?_ ?_ ?_ ⟨bK htp (aF hc _ _ ht6),bK hap (aF hc _ _ ha6),?_,bK hcp aj⟩
  ·simp only [List.nodup_cons,List.mem_cons,List.not_mem_nil,or_false,not_or,not_false_eq_true,List.nodup_nil,and_true]
   exact ⟨⟨hrp.symm,htp.symm,hap.symm,hcp.symm⟩,⟨hrt,hra,hrc⟩,⟨hta,htc⟩,hac⟩
  ·unfold kl
   rw[aj]
   rfl
  ·unfold aG
   have:=bK (o:= .ins A.bu dp (cM (.ref r) .aw (.ref t) (.ref a) (.ref b) (.int 0) (.ref c))) hrp (aF (o:= .lst []) hc _ _ hr6)
   rw[aO,bx] at this
   exact this
  ·rw[dW (by simp only [List.mem_cons,List.not_mem_nil,or_false,not_or];exact ⟨hbp,hrb.symm,htb.symm,hab.symm,hbc⟩)]
   exact bK hbp (aF hc _ _ hb6)
def P4 (K:PySem.W.Frag) (A:aW):Sp:=fun vs H Q E=> ∃(G:Hg) (R:Rg) (h0:V),vs= [.ref G.p]∧kl A H G R h0∧dj K H R∧aG A.ax H R 0∧
 rS A H R (cu R.B) (fun h x H'=> ∀H'',ae (hide G.p H') H''→kl A H'' G R (.ref x)→Q .aw H'') E
theorem Lp:aK ["hearing"] ["hearing"] (aB Gn):=⟨rfl,rfl,rfl,by decide+kernel,rfl,by decide+kernel,by decide+kernel⟩
theorem Pn (T:Txt K mg A):az P w K mg base (aY P w) 8 A.gZ A.ll ["hearing"] (P4 K A):=by
 refine T.uN.bO Lp (fun vs H Q E h=>?_) (fun cdv Ar outer s H vs Q E hr h=>?_)
 ·obtain ⟨G,R,h0,rfl,_⟩:=h
  rfl
 ·obtain ⟨G,R,h0,rfl,hG,hI,hx,k⟩:=h
  have hr6':aE 6 _:=hr.mono (by decide)
  refine ⟨_,ak (bh (pv 0) (aP (Lw T) hr6' rfl T.GP T.DO.kp T.MW .nil aN (aa (ay (pv 0) rfl) af)) rfl),?_⟩
  have hG':=hG
  unfold kl at hG'
  refine (aD rfl hG' T.bJ T.gI rfl ⟨R,rfl,hI,hx,?_⟩)
  unfold rS at k⊢
  cases e:cu R.B with
  |error z=>rw[e] at k;exact k
  |ok h=>
   rw[e] at k
   dsimp only at k⊢
   intro x H1 s1 hS1 hH1
   have hpr:G.p≠R.r:=fun z=>by
    unfold aG at hx
    rw[z,hx] at hG'
    have e:=congrArg List.length (HO.ins.inj (Option.some.inj hG')).2.2
    simp [bw,cM] at e
   have hG1:H1 G.p=some (.ins A.bu G.dp (cM (.ref R.r) h0 (.ref G.t) G.s G.i G.f G.n)):=s1 _ _ (by rw[hide_ne hpr];exact hG')
   refine ⟨_,rfl,aA G.p A.bu G.dp _ ⟨rfl,hG1,T.bJ,T.gM,(by show 7<1000;decide),?_⟩⟩
   rw[OQ]
   exact k x H1 s1 hS1 hH1 _ cO aj
def NR (K:PySem.W.Frag) (A:aW):Sp:=fun vs H Q E=> ∃(G:Hg) (R:Rg) (Z:Hp) (x:Addr) (h:Sound.Head),vs= [.ref G.p]∧kl A H G R (.ref x)∧jk A H x h∧dj K H R∧aG A.ax H R 26∧dG A.b4 Z H R.r G.t []∧(6≤h.t∧h.t≤1024∧26≤R.B.length∧ah K (hide G.t (hide R.r H)) R.q (vN (bn R.B)))∧
 uk A H R Z G.t (26+h.t) (Sound.areaOf h.t ((R.B.drop 26).take h.t)) Q E
theorem Iv:aK ["hearing"] ["hearing"] (aB Ai):=⟨rfl,rfl,rfl,by decide+kernel,rfl,by decide+kernel,by decide+kernel⟩
theorem Sy (T:Txt K mg A):az P w K mg base (aY P w) 8 A.gE A.kK ["hearing"] (NR K A):=by
 refine T.xI.bO Iv (fun vs H Q E h=>?_) (fun cdv Ar outer s H vs Q E hr h=>?_)
 ·obtain ⟨G,R,Z,x,h,rfl,_⟩:=h
  rfl
 ·obtain ⟨G,R,Z,x,h,rfl,hG,⟨dx,f,hh1,hh2⟩,hI,hx,ht,hb,k⟩:=h
  refine ⟨_,ak (ba (aP (LH T) hr rfl T.NN T.Ed.kp T.Mu .nil aN (aa (ay (pv 0) rfl) (aa (ay (ay (pv 0) rfl) rfl) (aa (ay (pv 0) rfl) af))))),?_⟩
  unfold kl at hG
  exact (aD rfl hG T.bJ T.gI rfl (aD rfl hG T.bJ T.gM rfl (fI hh1 T.fi T.vR rfl (aD rfl hG T.bJ T.F4 rfl (aA R Z G.t h.t ⟨rfl,hI,hx,ht,hb,k⟩)))))
theorem OT {at_ n:Nat} {seen:List Sound.Bytes} {b:Sound.Bytes} (hb:b.length=n+4):cK at_ n seen b≠ .inl .more:=by
 intro h
 rcases qh at_ n seen b with e|⟨e,hl⟩|⟨y,e,h1,h2⟩
 ·rw[e] at h;cases h
 ·lia
 ·rw[e] at h;cases h
theorem Cc: ∀(k at_ n:Nat) (seen:List Sound.Bytes) (b:Sound.Bytes),b.length=n+4→(∀l,Sound.tagItems k at_ n seen b≠(l, .inl .more))∧ ∀l a m r,Sound.tagItems k at_ n seen b=(l, .inr (a,m,r))→r.length=m+4
 |0,at_,n,seen,b,hb=>by
  unfold Sound.tagItems
  refine ⟨fun l z=>(by cases z),fun l a m r z=>?_⟩
  cases z;exact hb
 |k+1,at_,n,seen,b,hb=>by
  rw[tW]
  cases e:cK at_ n seen b with
  |inl st=>
   dsimp only
   refine ⟨fun l z=>?_,fun l a m r z=>by cases z⟩
   cases z
   exact OT hb e
  |inr z=>
   dsimp only
   obtain ⟨h1,h2⟩:=vM e
   exact Cc k _ _ _ _ (by rw[List.length_drop];lia)
theorem OE {t:Nat} {b:Sound.Bytes} (ht:6≤t) (hb:b.length=t):(Sound.areaOf t b).2≠ .more:=by
 unfold Sound.areaOf
 rw[if_neg (by lia)]
 split
 ·intro z;cases z
 ·have hi:=Cc (Sound.fromHigh (b.take 2)) (Sound.HEAD+2) (t-6) [] (b.drop 2) (by rw[List.length_drop];lia)
  split
  ·rename_i l a e
   intro z
   dsimp only at z
   subst z
   exact hi.1 l e
  ·split
   ·intro z;cases z
   ·rw[if_neg (by lia)]
    split<;>(intro z;cases z)
theorem B4 {t:Nat} {b l:_} (h:Sound.areaOf t b=(l, .whole)):t≤b.length:=by
 unfold Sound.areaOf at h
 split at h
 ·cases h
 ·split at h
  ·cases h
  ·split at h
   ·rename_i l' a e
    cases h
    exfalso
    revert e
    generalize Sound.fromHigh (b.take 2)=k
    generalize Sound.HEAD+2=a0
    generalize t-6=n0
    generalize ([]:List Sound.Bytes)=s0
    generalize b.drop 2=b0
    induction k generalizing a0 n0 s0 b0 with
    |zero=>unfold Sound.tagItems;intro e;cases e
    |succ k ih=>
     rw[tW]
     cases e1:cK a0 n0 s0 b0 with
     |inl st=>
      intro e
      cases e
      exact ze e1
     |inr z=>exact ih _ _ _ _
   ·split at h
    ·cases h
    ·split at h
     ·cases h
     ·lia
def fZ (B:Sound.Bytes):Option (Sound.Head×List Sound.Bytes):=match cu B with
 | .error _=>none
 | .ok h=>match Sound.areaOf h.t ((B.drop 26).take h.t) with
  |(l, .whole)=>some (h,l)
  |_=>none
theorem iJ {B:Sound.Bytes} {N i j:Nat} (h:i+j≤N):((B.take N).drop i).take j=(B.drop i).take j:=by
 rw[List.drop_take,List.take_take,Nat.min_eq_left (by lia)]
theorem RY (B:Sound.Bytes) (N:Nat) (h:22≤N):Sound.fields (B.take N)=Sound.fields B:=by
 unfold Sound.fields
 rw[iJ (by lia),iJ (by lia),iJ (by lia),iJ (by lia),iJ (by lia),iJ (by lia),iJ (by lia)]
theorem xF {B:Sound.Bytes} {N k:Nat} (h:k≤N):(B.take N).length<k↔B.length<k:=by
 rw[List.length_take];lia
theorem front_eq (B:Sound.Bytes):Sound.front B=(fZ B).map fun x=>⟨some x.1,x.2, [],0⟩:=by
 unfold Sound.front fZ cu Sound.judge
 have hT:(B.take (Sound.HEAD+(Sound.fields B).t)).take 8=B.take 8:=by rw[List.take_take,Nat.min_eq_left (by unfold Sound.HEAD;lia)]
 have h22:(B.take (Sound.HEAD+(Sound.fields B).t)).take 22=B.take 22:=by rw[List.take_take,Nat.min_eq_left (by unfold Sound.HEAD;lia)]
 have hf:=RY B (Sound.HEAD+(Sound.fields B).t) (by unfold Sound.HEAD;lia)
 have h4:((B.take (Sound.HEAD+(Sound.fields B).t)).drop 22).take 4=(B.drop 22).take 4:=iJ (by unfold Sound.HEAD;lia)
 have ha:((B.take (Sound.HEAD+(Sound.fields B).t)).drop Sound.HEAD).take (Sound.fields B).t=(B.drop 26).take (Sound.fields B).t:=iJ (by lia)
 have l8:=xF (B:=B) (N:=Sound.HEAD+(Sound.fields B).t) (k:=8) (by unfold Sound.HEAD;lia)
 have l22:=xF (B:=B) (N:=Sound.HEAD+(Sound.fields B).t) (k:=22) (by unfold Sound.HEAD;lia)
 have l26:=xF (B:=B) (N:=Sound.HEAD+(Sound.fields B).t) (k:=Sound.HEAD) (by lia)
 simp only [hT,h22,hf,h4,ha]
 by_cases c1:B.length<8
 ·rw[if_pos (l8.mpr c1),if_pos c1];rfl
 rw[if_neg (fun z=>c1 (l8.mp z)),if_neg c1]
 by_cases c2:B.take 8=Sound.MAGIC
 case neg=>
  have n2:B.take 8≠Sound.MAGIC:=c2
  rw[if_pos n2,if_pos n2];rfl
 have n2: ¬B.take 8≠Sound.MAGIC:=fun z=>z c2
 rw[if_neg n2,if_neg n2]
 by_cases c3:B.length<22
 ·rw[if_pos (l22.mpr c3),if_pos c3];rfl
 rw[if_neg (fun z=>c3 (l22.mp z)),if_neg c3]
 cases hm:Sound.mayHead (Sound.fields B) with
 |false=>
  have n3:false=false:=rfl
  rw[if_pos n3,if_pos n3];rfl
 |true=>
 have n3: ¬true=false:=by decide
 rw[if_neg n3,if_neg n3]
 by_cases c4:B.length<26
 ·rw[if_pos (l26.mpr c4),if_pos c4];rfl
 rw[if_neg (fun z=>c4 (l26.mp z)),if_neg c4]
 by_cases c5:Sound.fromHigh ((B.drop 22).take 4)=Sound.crc32 (B.take 22)
 case neg=>
  have n5:Sound.fromHigh ((B.drop 22).take 4)≠Sound.crc32 (B.take 22):=c5
  rw[if_pos n5,if_pos n5];rfl
 have n5: ¬Sound.fromHigh ((B.drop 22).take 4)≠Sound.crc32 (B.take 22):=fun z=>z c5
 rw[if_neg n5,if_neg n5]
 have hmay:6≤(Sound.fields B).t∧(Sound.fields B).t≤1024:=by
  unfold Sound.mayHead at hm
  simp only [Bool.and_eq_true,decide_eq_true_eq] at hm
  exact ⟨hm.2.2.1,hm.2.2.2⟩
 dsimp only
 cases e:Sound.areaOf (Sound.fields B).t ((B.drop 26).take (Sound.fields B).t) with
 |mk l st=>
  cases st with
  |fault k p=>rfl
  |more=>
   have: ¬26+(Sound.fields B).t≤B.length:=fun z=>by
    have:=OE (t:=(Sound.fields B).t) (b:=(B.drop 26).take (Sound.fields B).t) hmay.1 (by rw[List.length_take,List.length_drop];lia)
    rw[e] at this
    exact this rfl
   dsimp only
   rw[if_neg (fun z=>this z.1)]
   rfl
  |whole=>
   have hl:=B4 e
   rw[List.length_take,List.length_drop] at hl
   have hx:((B.take (Sound.HEAD+(Sound.fields B).t)).drop (Sound.HEAD+(Sound.fields B).t))= []:=by
    rw[List.drop_eq_nil_iff,List.length_take];lia
   dsimp only
   rw[hx,List.take_nil]
   have hi:Sound.indexFault (Sound.framesOf (Sound.fields B).form (Sound.fields B).n) []=none:=by
    unfold Sound.indexFault
    rw[show ([]:Sound.Bytes).length/3=0 from rfl,Nat.min_zero];rfl
   rw[hi]
   dsimp only
   rw[if_pos (by rw[List.length_take];lia)]
   dsimp only
   rw[if_pos ⟨by unfold Sound.HEAD;lia,hmay.2⟩]
   rfl
structure Hs where
 w:Sound.Told
 starts:List Nat
 idx:Sound.Bytes
 pl:Nat
structure Hx where
 p:Addr
 dp:Addr
 r:Addr
 dr:Addr
 q:Addr
 t:Addr
 a:Addr
 c:Addr
 B:Sound.Bytes
def Hx.R (X:Hx):Rg:=⟨X.r,X.dr,X.q,X.B⟩
def Hx.l (X:Hx):List Addr:= [X.p,X.r,X.t,X.a,X.c]
def Hx.f (X:Hx) (H:Hp):Hp:=b5 X.l H
theorem Hx.mp (X:Hx):X.p∈X.l:= .head _
theorem Hx.mr (X:Hx):X.r∈X.l:= .tail _ (.head _)
theorem Hx.mt (X:Hx):X.t∈X.l:= .tail _ (.tail _ (.head _))
theorem Hx.ma (X:Hx):X.a∈X.l:= .tail _ (.tail _ (.tail _ (.head _)))
theorem Hx.mc (X:Hx):X.c∈X.l:= .tail _ (.tail _ (.tail _ (.tail _ (.head _))))
theorem fY {p r t a c:Addr} (h: [p,r,t,a,c].Nodup):(p≠r∧p≠t∧p≠a∧p≠c)∧(r≠t∧r≠a∧r≠c)∧(t≠a∧t≠c)∧a≠c:=by
 simp only [List.nodup_cons,List.mem_cons,List.not_mem_nil,or_false,not_or,not_false_eq_true,List.nodup_nil,and_true] at h
 exact h
def sS (A:aW) (F:Hp) (o:Option Sound.Head) (hv:V):Prop:=match o with
 |none=>hv= .aw
 |some h=> ∃x,hv= .ref x∧jk A F x h
def sv (A:aW) (H F:Hp) (t:Addr) (l:List Sound.Bytes):Prop:= ∃as:List Addr,H t=some (.lst (as.map V.ref))∧as.length=l.length∧ ∀(k:Nat) (a:Addr),as[k]?=some a→k9 A.b4 F a (l.getD k [])
structure HI (K:PySem.W.Frag) (A:aW) (H:Hp) (X:Hx) (S:Hs) (hv:V) (b:Addr):Prop where
 nd:X.l.Nodup
 hp:H X.p=some (.ins A.bu X.dp (cM (.ref X.r) hv (.ref X.t) (.ref X.a) (.ref b) (.int (S.w.frames:Nat)) (.ref X.c)))
 hh:sS A (X.f H) S.w.head hv
 ht:sv A H (X.f H) X.t S.w.tags
 ha:H X.a=some (.lst (vN S.starts))
 hc:H X.c=some (.lst (S.w.s.map V.int))
 hb:X.f H b=some (.lst (vN (bn S.idx)))
 hq:ah K (X.f H) X.q (vN (bn X.B))
 hl:X.B.length≤16384
theorem sS.same {F F':Hp} {o:Option Sound.Head} {hv:V} (h:sS A F o hv) (s:ae F F'):sS A F' o hv:=by
 cases o with
 |none=>exact h
 |some x=>
  obtain ⟨y,h1,h2⟩:=h
  exact ⟨y,h1,h2.same s⟩
theorem sv.same {H H' F F':Hp} {t:Addr} {l:List Sound.Bytes} (h:sv A H F t l) (e:H' t=H t) (s:ae F F'):sv A H' F' t l:=by
 obtain ⟨as,h1,h2,h3⟩:=h
 exact ⟨as,by rw[e];exact h1,h2,fun k a q=>(h3 k a q).same s⟩
theorem HI.go {H H':Hp} {X:Hx} {S:Hs} {hv:V} {b:Addr} (h:HI K A H X S hv b) (s:ae (hide X.r H) H'):HI K A H' X S hv b:=by
 obtain ⟨⟨n1,n2,n3,n4⟩,⟨n5,n6,n7⟩,⟨n8,n9⟩,n10⟩:=fY h.nd
 have sf:ae (X.f H) (X.f H'):=f7 (cN X.mr s)
 have keep: ∀y o,y≠X.r→H y=some o→H' y=some o:=fun y o hy e=>s y o (by rw[hide_ne hy];exact e)
 obtain ⟨as,t1,t2,t3⟩:=h.ht
 exact ⟨h.nd,keep _ _ n1 h.hp,h.hh.same sf,⟨as,keep _ _ n5.symm t1,t2,fun k a q=>(t3 k a q).same sf⟩,keep _ _ n6.symm h.ha,keep _ _ n7.symm h.hc,sf _ _ h.hb,sf.seq h.hq,h.hl⟩
theorem HI.fD {H:Hp} {X:Hx} {S:Hs} {hv:V} {b:Addr} (h:HI K A H X S hv b):dj K H X.R:=by
 refine ⟨?_,h.hl⟩
 have s:ae (X.f H) (hide X.r H):=fun y o e=>by
  obtain ⟨e1,e2⟩:=cG e
  rw[hide_ne (gF X.mr e2)];exact e1
 exact s.seq h.hq
theorem HI.off {H:Hp} {X:Hx} {S:Hs} {hv:V} {b:Addr} {y:Addr} {pl:Nat} (h:HI K A H X S hv b) (hS:H X.r≠none) (hy:H y=none):y∉X.l:=by
 intro z
 obtain ⟨as,t1,_⟩:=h.ht
 simp only [Hx.l,List.mem_cons,List.not_mem_nil,or_false] at z
 rcases z with z|z|z|z|z
 ·rw[z,h.hp] at hy;cases hy
 ·rw[z] at hy;exact hS hy
 ·rw[z,t1] at hy;cases hy
 ·rw[z,h.ha] at hy;cases hy
 ·rw[z,h.hc] at hy;cases hy
structure dQ where
 pre:Sound.Bytes→Hs→Prop
 f:Sound.Bytes→Hs→Except (Sound.Told×Nat×Nat) Hs
def iL (K:PySem.W.Frag) (A:aW) (H:Hp) (X:Hx) (o:Except (Sound.Told×Nat×Nat) Hs) (Q:VK) (E:XK):Prop:=match o with
 | .ok S=> ∀H' hv b,ae (X.f H) H'→HI K A H' X S hv b→aG A.ax H' X.R S.pl→Q .aw H'
 | .error (w,k,p)=> ∀H' S hv b,ae (X.f H) H'→HI K A H' X S hv b→S.w=w→dv A.ax H' X.R k p→E (.ref A.bV) none H'
def iI (K:PySem.W.Frag) (A:aW) (s:dQ):Sp:=fun vs H Q E=> ∃(X:Hx) (S:Hs) (hv:V) (b:Addr),vs= [.ref X.p]∧HI K A H X S hv b∧aG A.ax H X.R S.pl∧s.pre X.B S∧iL K A H X (s.f X.B S) Q E
def gw:dQ:=⟨fun _ S=>S.pl=0,fun B S=>match cu B with
 | .error (k,p)=> .error (S.w,k,p)
 | .ok h=> .ok ⟨⟨some h,S.w.tags,S.w.s,S.w.frames⟩,S.starts,S.idx,26⟩⟩
def xr (X:Hx) (S:Hs) (b:Addr):Hg:=⟨X.p,X.dp,X.t, .ref X.a, .ref b, .int (S.w.frames:Nat), .ref X.c⟩
theorem DU (T:Txt K mg A):az P w K mg base (aY P w) 8 A.gZ A.ll ["hearing"] (iI K A gw):=by
 refine (Pn T).imp fun vs H Q E h=>?_
 obtain ⟨X,S,hv,b,rfl,hi,hS,hp0,k⟩:=h
 have hp0:S.pl=0:=hp0
 obtain ⟨⟨n1,n2,n3,n4⟩,⟨n5,n6,n7⟩,⟨n8,n9⟩,n10⟩:=fY hi.nd
 refine ⟨xr X S b,X.R,hv,rfl,hi.hp,hi.fD,by rw[←hp0];exact hS,?_⟩
 unfold iL gw at k
 dsimp only at k
 unfold rS
 show match cu X.B with
  | .ok h=>_
  | .error (k,p)=>_
 cases e:cu X.B with
 |error z=>
  obtain ⟨kk,pp⟩:=z
  rw[e] at k
  exact fun H' s' hF=>k H' S hv b (cN X.mr s') (hi.go s') rfl hF
 |ok h=>
  rw[e] at k
  dsimp only at k⊢
  intro x H1 s1 hS1 hH1 H2 s2 hG2
  have i1:=hi.go s1
  have keep: ∀y o,y≠X.p→H1 y=some o→H2 y=some o:=fun y o hy e=>s2 y o (by rw[show (xr X S b).p=X.p from rfl,hide_ne hy];exact e)
  have sf:ae (X.f H1) (X.f H2):=f7 (cN X.mp s2)
  obtain ⟨as,t1,t2,t3⟩:=i1.ht
  refine k H2 (.ref x) b (cc (cN X.mr s1) (cN X.mp s2)) ⟨hi.nd,hG2,⟨x,rfl,hH1.same fun y o e=>?_⟩,⟨as,keep _ _ n2.symm t1,t2,fun k a q=>(t3 k a q).same sf⟩,keep _ _ n3.symm i1.ha,keep _ _ n4.symm i1.hc,sf _ _ i1.hb,sf.seq i1.hq,hi.hl⟩ (keep _ _ n1.symm hS1)
  obtain ⟨e1,e2⟩:=kH e
  have ho:=hi.off (pl:=0) (by unfold aG at hS;rw[show X.r=X.R.r from rfl,hS];exact fun z=>by cases z) e1
  rw[show X.f H2 y=H2 y from dW ho]
  exact keep _ _ (gF X.mp ho) e2
def fO:dQ:=⟨fun B S=>S.pl=26∧S.w.tags= []∧ ∃h,S.w.head=some h∧6≤h.t∧h.t≤1024∧26≤B.length,fun B S=>match S.w.head with
 |none=> .ok S
 |some h=>match Sound.areaOf h.t ((B.drop 26).take h.t) with
  |(l, .whole)=> .ok ⟨⟨some h,l,S.w.s,S.w.frames⟩,S.starts,S.idx,26+h.t⟩
  |(l, .more)=> .error (⟨some h,l,S.w.s,S.w.frames⟩,1,B.length)
  |(l, .fault k p)=> .error (⟨some h,l,S.w.s,S.w.frames⟩,k,p)⟩
theorem B1 (T:Txt K mg A):az P w K mg base (aY P w) 8 A.gE A.kK ["hearing"] (iI K A fO):=by
 refine (Sy T).imp fun vs H Q E h=>?_
 obtain ⟨X,S,hv,b,rfl,hi,hS,⟨hp0,hts,h,eh,hh⟩,k⟩:=h
 obtain ⟨⟨n1,n2,n3,n4⟩,⟨n5,n6,n7⟩,⟨n8,n9⟩,n10⟩:=fY hi.nd
 have hx:=hi.hh
 rw[eh] at hx
 obtain ⟨x,rfl,hx⟩:=hx
 obtain ⟨as,t1,t2,t3⟩:=hi.ht
 rw[hts] at t2
 have has:as= []:=List.length_eq_zero_iff.mp t2
 subst has
 have sff:ae (X.f H) (hide X.t (hide X.r H)):=fun y o e=>by
  obtain ⟨e1,e2⟩:=cG e
  rw[hide_ne (gF X.mt e2),hide_ne (gF X.mr e2)];exact e1
 refine ⟨xr X S b,aA X.R H x h ⟨rfl,hi.hp,hx.same (kG _ _),hi.fD,by rw[←hp0];exact hS,⟨[],by show hide X.r H X.t=_;rw[hide_ne n5.symm];exact t1,rfl,fun k a e=>by simp at e,fun y hy _ _=>hy⟩,⟨hh.1,hh.2.1,hh.2.2,sff.seq hi.hq⟩,?_⟩⟩
 unfold iL fO at k
 dsimp only at k
 rw[eh] at k
 dsimp only at k
 have fin: ∀(l:List Sound.Bytes) (H':Hp) (pl':Nat),ae (hide X.t (hide X.r H)) H'→dG A.b4 H H' X.r X.t l→HI K A H' X ⟨⟨some h,l,S.w.s,S.w.frames⟩,S.starts,S.idx,pl'⟩ (.ref x) b:=fun l H' pl' s' ht'=>by
  have keep: ∀y o,y≠X.r→y≠X.t→H y=some o→H' y=some o:=fun y o hy hy2 e=>s' y o (by rw[hide_ne hy2,hide_ne hy];exact e)
  have sf:ae (X.f H) (X.f H'):=f7 (tq X.mr X.mt s')
  obtain ⟨as',u1,u2,u3,_⟩:=ht'
  refine ⟨hi.nd,keep _ _ n1 n2 hi.hp,⟨x,rfl,hx.same sf⟩,⟨as',(cq u1).1,u2,fun k a e=>(u3 k a e).same fun y o e=>?_⟩,keep _ _ n6.symm n8.symm hi.ha,keep _ _ n7.symm n9.symm hi.hc,sf _ _ hi.hb,sf.seq hi.hq,hi.hl⟩
  obtain ⟨e1,e2⟩:=kH e
  have ho:=hi.off (pl:=0) (by unfold aG at hS;rw[show X.r=X.R.r from rfl,hS];exact fun z=>by cases z) e1
  rw[show X.f H' y=H' y from dW ho]
  exact (cq (cq e2).1).1
 unfold uk
 show match Sound.areaOf h.t ((X.B.drop 26).take h.t) with
  |(l, .whole)=>_
  |(l, .more)=>_
  |(l, .fault k p)=>_
 cases ea:Sound.areaOf h.t ((X.B.drop 26).take h.t) with
 |mk l st=>
  rw[ea] at k
  cases st with
  |whole=>exact fun H' s' hS' ht'=>k H' (.ref x) b (tq X.mr X.mt s') (fin l H' _ s' ht') hS'
  |more=>exact fun H' s' hF ht'=>k H' _ (.ref x) b (tq X.mr X.mt s') (fin l H' 0 s' ht') rfl hF
  |fault kk pp=>exact fun H' s' hF ht'=>k H' _ (.ref x) b (tq X.mr X.mt s') (fin l H' 0 s' ht') rfl hF
theorem ite_val {c:Prop} [Decidable c] {ta tb:TE} {σ:L2.St} {H:Hp} {Q:VK} (v:V) (H1:Hp) (hA:c→ ∀Q:VK,Q v H1→ta σ H Q) (hB: ¬c→ ∀Q:VK,Q v H1→tb σ H Q) (r:Q v H1):if c then ta σ H Q else tb σ H Q:=by
 by_cases h:c
 ·rw[if_pos h];exact hA h Q r
 ·rw[if_neg h];exact hB h Q r
theorem Ly {F:Sound.Form} (n:Nat) (hb:1≤F.block):Sound.framesOf F n≤n:=by
 unfold Sound.framesOf
 rcases Nat.eq_zero_or_pos n with h|h
 ·rw[h,Nat.div_eq_of_lt (by lia)];exact Nat.le_refl _
 ·refine Nat.div_le_of_le_mul ?_
  have:=Nat.mul_le_mul (show 1≤F.block from hb) (show 1≤n from h)
  obtain ⟨b,hb'⟩: ∃b,F.block=b+1:=⟨F.block-1,by lia⟩
  obtain ⟨m,hm⟩: ∃m,n=m+1:=⟨n-1,by lia⟩
  rw[hb',hm,Nat.add_mul,Nat.mul_add]
  lia
def OI (C:Addr):Sp:=fun vs H Q _=> ∃(f:Addr) (F:Sound.Form) (n:Nat),vs= [.ref f, .int (n:Nat)]∧gk C H f F∧(1≤F.block∧F.block≤256)∧Q (.int (Sound.framesOf F n:Nat)) H
theorem JH:aK ["self", "samples"] ["self", "samples"] (aB zm):=⟨rfl,rfl,rfl,by decide+kernel,rfl,by decide+kernel,by decide+kernel⟩
theorem GJ (T:Txt K mg A):az P w K mg base a9 1 A.mP A.pq ["self", "samples"] (OI A.bM):=by
 refine T.LD.ok JH (fun vs H Q E h=>?_) (fun cdv Ar outer s H vs Q E hr h=>?_)
 ·obtain ⟨f,F,n,rfl,_⟩:=h
  rfl
 ·obtain ⟨f,F,n,rfl,⟨df,hf⟩,hb,k⟩:=h
  refine ⟨_,ak (aX (au jG (au du (au bS (pv 1) (ay (pv 0) rfl)) aq) (ay (pv 0) rfl))),?_⟩
  refine ⟨_,rfl,aD rfl hf T.b8 T.jF rfl (ag _ _ ⟨rfl,rfl,ag _ _ ⟨rfl,rfl,aD rfl hf T.b8 T.jF rfl (ag _ _ ⟨rfl,rfl,⟨by lia,by lia⟩,?_⟩)⟩⟩)⟩
  have e:((n:Nat):Int)+((F.block:Nat):Int)-1=((n+F.block-1:Nat):Int):=by lia
  dsimp only
  rw[e,←Int.natCast_ediv]
  exact k
def fL (x:Sound.Bytes) (k:Nat):Bool:=if k=0 then Sound.entry x 0 !=0 else decide (Sound.entry x k≤Sound.entry x (k-1))
theorem P9 {n k:Nat} {x:Sound.Bytes} (h:k<n) (hx:3*k+3≤x.length) (h1:fL x k=true) (h2: ∀j,j<k→fL x j=false):Sound.indexFault n x=some k:=by
 unfold Sound.indexFault
 refine List.find?_range_eq_some.mpr ⟨h1,List.mem_range.mpr (by lia),fun j hj=>?_⟩
 have:=h2 j hj
 unfold fL at this
 rw[this];rfl
theorem ET {n:Nat} {x:Sound.Bytes} (h2: ∀j,j<n→3*j+3≤x.length→fL x j=false):Sound.indexFault n x=none:=by
 unfold Sound.indexFault
 refine List.find?_range_eq_none.mpr fun j hj=>?_
 have:=h2 j (by lia) (by lia)
 unfold fL at this
 rw[this];rfl
def dE (B:Sound.Bytes) (at_ n:Nat):Except (Nat×Nat) Unit:=match Sound.indexFault n ((B.drop at_).take (3*n)) with
 |some k=> .error (7,at_+3*k)
 |none=>if B.length<at_+3*n+4 then .error (1,B.length) else if Sound.fromHigh ((B.drop (at_+3*n)).take 4)≠Sound.crc32 ((B.drop at_).take (3*n)) then .error (8,at_+3*n) else .ok ()
def entries (B:Sound.Bytes) (at_ n:Nat):List Nat:=(List.range n).map (Sound.entry ((B.drop at_).take (3*n)))
def i6:dQ:=⟨fun B S=>S.starts= []∧S.pl≤B.length∧ ∃h,S.w.head=some h∧Sound.mayHead h=true∧S.pl=26+h.t,fun B S=>match S.w.head with
 |none=> .ok S
 |some h=>match dE B (26+h.t) (Sound.framesOf h.form h.n) with
  | .error (k,p)=> .error (S.w,k,p)
  | .ok _=> .ok ⟨S.w,entries B (26+h.t) (Sound.framesOf h.form h.n),(B.drop (26+h.t)).take (3*Sound.framesOf h.form h.n+4),26+h.t+3*Sound.framesOf h.form h.n+4⟩⟩
theorem gy {h:Sound.Head} (e:Sound.mayHead h=true):h.form.ok=true∧h.n*h.form.channels≤2048∧6≤h.t∧h.t≤1024:=by
 unfold Sound.mayHead at e
 simp only [Bool.and_eq_true,decide_eq_true_eq] at e
 exact ⟨e.1,e.2.1,e.2.2.1,e.2.2.2⟩
theorem yY {h:Sound.Head} (e:Sound.mayHead h=true):h.n≤2048:=by
 obtain ⟨e1,e2,_⟩:=gy e
 have hc:=(g9 e1).1.1
 exact Nat.le_trans (Nat.le_mul_of_pos_right _ hc) e2
theorem M7 (r h t s i f n i':V):bC "index_bytes" i' (cM r h t s i f n)=cM r h t s i' f n:=by
 have n1: ¬("reading" :Str)= "index_bytes" :=by decide
 have n2: ¬("head" :Str)= "index_bytes" :=by decide
 have n3: ¬("tags" :Str)= "index_bytes" :=by decide
 have n4: ¬("starts" :Str)= "index_bytes" :=by decide
 simp only [cM,bC,if_neg n1,if_neg n2,if_neg n3,if_neg n4];rfl
theorem HI.starts {H:Hp} {X:Hx} {S:Hs} {hv:V} {b:Addr} (h:HI K A H X S hv b) (l:List Nat) (pl:Nat):HI K A (upd H X.a (.lst (vN l))) X ⟨S.w,l,S.idx,pl⟩ hv b:=by
 obtain ⟨⟨n1,n2,n3,n4⟩,⟨n5,n6,n7⟩,⟨n8,n9⟩,n10⟩:=fY h.nd
 have sf:ae (X.f H) (X.f (upd H X.a (.lst (vN l)))):=f7 (jo X.ma)
 exact ⟨h.nd,bK n3 h.hp,h.hh.same sf,h.ht.same (aL n8) sf,aj,bK n10.symm h.hc,sf _ _ h.hb,sf.seq h.hq,h.hl⟩
theorem HI.sW {H:Hp} {X:Hx} {S:Hs} {hv:V} {b:Addr} (h:HI K A H X S hv b) (pl:Nat):HI K A H X ⟨S.w,S.starts,S.idx,pl⟩ hv b:=⟨h.nd,h.hp,h.hh,h.ht,h.ha,h.hc,h.hb,h.hq,h.hl⟩
theorem HI.IH {H:Hp} {X:Hx} {S:Hs} {hv:V} {b D:Addr} (h:HI K A H X S hv b) (hD:H D=none) (ho:D∉X.l) (l:Sound.Bytes) (pl:Nat):HI K A (upd (upd H D (.lst (vN (bn l)))) X.p (.ins A.bu X.dp (cM (.ref X.r) hv (.ref X.t) (.ref X.a) (.ref D) (.int (S.w.frames:Nat)) (.ref X.c)))) X ⟨S.w,S.starts,l,pl⟩ hv D:=by
 obtain ⟨⟨n1,n2,n3,n4⟩,⟨n5,n6,n7⟩,⟨n8,n9⟩,n10⟩:=fY h.nd
 generalize hG:HO.ins A.bu X.dp (cM (.ref X.r) hv (.ref X.t) (.ref X.a) (.ref D) (.int (S.w.frames:Nat)) (.ref X.c))=o
 have sf:ae (X.f H) (X.f (upd (upd H D (.lst (vN (bn l)))) X.p o)):=f7 (cc (kr (aF hD)) (jo X.mp))
 have keep: ∀y u,y≠X.p→H y=some u→upd (upd H D (.lst (vN (bn l)))) X.p o y=some u:=fun y u hy e=>bK hy (aF hD _ _ e)
 obtain ⟨as,t1,t2,t3⟩:=h.ht
 refine ⟨h.nd,by rw[aj,←hG],h.hh.same sf,⟨as,keep _ _ n2.symm t1,t2,fun k a q=>(t3 k a q).same sf⟩,keep _ _ n3.symm h.ha,keep _ _ n4.symm h.hc,?_,sf.seq h.hq,h.hl⟩
 rw[show X.f (upd (upd H D (.lst (vN (bn l)))) X.p o) D=_ from dW ho]
 exact bK (gF X.mp ho) aj
theorem jL:aK ["hearing", "reading", "begin", "k", "place", "start", "right"] ["hearing"] (aB FZ):=⟨rfl,rfl,rfl,by decide+kernel,rfl,by decide+kernel,by decide+kernel⟩
theorem zC (l:List Nat) (n:Nat):vN l++ [V.int (n:Nat)]=vN (l++ [n]):=by unfold vN;simp
theorem entry_at {B:Sound.Bytes} {at_ n i:Nat} (h:i<n):Sound.entry ((B.drop at_).take (3*n)) i=Sound.fromHigh ((B.drop (at_+3*i)).take 3):=by
 unfold Sound.entry
 rw[rG (by lia)]
theorem Pc (T:Txt K mg A):az P w K mg base (aY P w) 6 A.jP A.my ["hearing"] (iI K A i6):=by
 refine T.CN.bO jL (fun vs H Q E h=>?_) (fun cdv Ar outer s H vs Q E hr h=>?_)
 ·obtain ⟨X,S,hv,b,rfl,_⟩:=h
  rfl
 ·obtain ⟨X,S,hv,b,rfl,hi,hS,⟨hs0,hplB,h,eh,hm,hpl⟩,k⟩:=h
  have hr1':aE 1 _:=hr.mono (by decide)
  have hr4':aE 4 _:=hr.mono (by decide)
  have hr5':aE 5 _:=hr.mono (by decide)
  refine ⟨_,ai (aJ (i:=1) jL.nd rfl (Or.inl rfl) (ay (pv 0) rfl))
   (ai (aJ (i:=2) jL.nd rfl (Or.inl rfl) (ay (pv 1) rfl))
   (ai (cw PassesOwn.leaving rfl (fu rfl T.dU (aa (aU (ay (ay (pv 0) rfl) rfl) T.b8 T.RB (GJ T) hr1' T.Ss .nil aQ (aa (ay (ay (pv 0) rfl) rfl) af)) af)) (bq (i:=3) jL.nd rfl (Or.inl rfl))
    (ai (aJ (i:=4) jL.nd rfl (Or.inl rfl) (ay (pv 1) rfl))
    (ai (aJ (i:=5) jL.nd rfl (Or.inl rfl) (aU (pv 1) T.aM T.lh (kW T) hr4' T.kZ .nil aN (aa (aR rfl T.MO) af)))
    (ai (aJ (i:=6) jL.nd rfl (Or.inl rfl) (lA (bc dF (pv 3) aq (aZ _)) (iu dF (pv 5) (cJ d9 (ay (pv 0) rfl) (fw fB aq) (fun _ _=>rfl)) (aZ _)) (iu dA (pv 5) aq (aZ _))))
    (ai (bg (jh (iS (pv 6))) (ak (ba (aU (pv 1) T.aM T.dC (dS T) hr1' T.dz .nil aN (aa (aR rfl T.Lv) (aa (pv 4) af))))) br)
    (ak (ba (gS PySem.F.plainAttrs_list PySem.F.slot_list_append PySem.F.type_list_append qP (ay (pv 0) rfl) (aa (pv 5) af)))))))))
   (ai (ba (aU (pv 1) T.aM T.wc (uZ T) hr5' T.vC .nil aN (aa (pv 2) (aa (aR rfl T.PK) af))))
   (ak (bh (pv 0) (eH eJ (ay (pv 1) rfl) (cD (pv 2)) (cD (ay (pv 1) rfl))) rfl))))),?_⟩
  obtain ⟨⟨n1,n2,n3,n4⟩,⟨n5,n6,n7⟩,⟨n8,n9⟩,n10⟩:=fY hi.nd
  have hx:=hi.hh
  rw[eh] at hx
  obtain ⟨x,rfl,dx,f,hx1,df,hf⟩:=hx
  have hx1':=(cG hx1).1
  have hf':=(cG hf).1
  have ao:=(gy hm).1
  have hn:=yY hm
  obtain ⟨_,_,⟨hb1,hb2⟩,_⟩:=g9 ao
  have e62:(2:Int)^62=4611686018427387904:=by decide
  have hSr:=hS
  unfold aG at hSr
  refine (aD rfl hi.hp T.bJ T.gI rfl ?_)
  refine (aD rfl hSr T.aM T.cC rfl ?_)
  refine (aD rfl hi.hp T.bJ T.gM rfl (fI hx1' T.fi T.kN rfl (mJ hf' rfl (aD rfl hi.hp T.bJ T.gM rfl (fI hx1' T.fi T.r6 rfl (bE f (Sound.eager h.form) h.n ⟨rfl,⟨df,hf'⟩,⟨by show 1≤h.form.block;lia,by show h.form.block≤256;lia⟩,?_⟩))))))
  have eN:Sound.framesOf (Sound.eager h.form) h.n=Sound.framesOf h.form h.n:=rfl
  rw[eN]
  have hNn:=Ly h.n (F:=h.form) (by lia)
  unfold iL i6 at k
  dsimp only at k
  rw[eh] at k
  dsimp only at k
  generalize hN:Sound.framesOf h.form h.n=N at*
  refine ⟨_,rfl,by lia,by lia,?_⟩
  rw[←hpl] at k
  generalize hat:S.pl=at_ at*
  clear hpl
  generalize hxb:(X.B.drop at_).take (3*N)=xb at*
  have hxl: ∀j,j≤3*N→(xb.length<j↔X.B.length<at_+j):=fun j hj=>by rw[←hxb];exact ud hj hplB
  have hxe: ∀i,i<N→Sound.entry xb i=Sound.fromHigh ((X.B.drop (at_+3*i)).take 3):=fun i hi=>by rw[←hxb];exact entry_at hi
  refine fM (lo:=0) (n:=((N:Nat):Int).toNat) (fun i σ H'=> ∃v3 v4 v5 v6:Option V,σ= [some (.ref X.p),some (.ref X.r),some (.int (at_:Nat)),v3,v4,v5,v6]∧ae (X.f H) H'∧HI K A H' X ⟨S.w,(List.range i).map (Sound.entry xb),S.idx,at_+3*i⟩ (.ref x) b∧aG A.ax H' X.R (at_+3*i)∧(∀j,j<i→fL xb j=false)∧at_+3*i≤X.B.length)
   ⟨none,none,none,none,rfl,kG _ _,by have:=hi.sW at_;rw[hs0] at this;exact this,hS,fun j hj=>by lia,hplB⟩ ?_ ?_
  ·rintro i σ H1 aT ⟨v3,v4,v5,v6,rfl,s1,i1,hS1,hg1,hB1⟩
   rw[Int.toNat_natCast] at aT
   have hS1r:=hS1
   unfold aG at hS1r
   refine (aD rfl hS1r T.aM T.cC rfl ?_)
   refine (aS rfl hS1r rfl ⟨X.R,at_+3*i,3,rfl,i1.fD,hS1,by decide,?_⟩)
   unfold cP dO
   by_cases c1:X.R.B.length<at_+3*i+3
   ·rw[if_pos c1]
    have c1:X.B.length<at_+3*i+3:=c1
    have e1:Sound.indexFault N xb=none:=ET fun j hj hl=>hg1 j (by have:=hxl (3*i+3) (by lia);lia)
    have e2:dE X.B at_ N= .error (1,X.B.length):=by
     unfold dE
     rw[hxb,e1]
     dsimp only
     rw[if_pos (by lia)]
    rw[e2] at k
    exact fun H' s' hF=>k H' _ _ _ (cc s1 (cN X.mr s')) (i1.go s') rfl hF
   rw[if_neg c1]
   have c1: ¬X.B.length<at_+3*i+3:=c1
   dsimp only
   intro H2 s2 hS2
   have i2:=i1.go s2
   have s12:=cc s1 (cN X.mr s2)
   have hS2r:=hS2
   unfold aG at hS2r
   rw[show X.R.B=X.B from rfl,←hxe i aT]
   have hlx: ¬xb.length<3*i+3:=fun z=>c1 (by have:=(hxl (3*i+3) (by lia)).mp z;lia)
   refine ⟨_,rfl,ag _ _ ⟨rfl,rfl,_,rfl,?_⟩⟩
   refine ite_val (.bl (!fL xb i)) H2 (fun c Q' r=>?A) (fun c Q' r=>?B) ?C
   case A=>
    have c:(0:Int)<0+((i:Nat):Int):=of_decide_eq_true c
    obtain ⟨j,rfl⟩: ∃j,i=j+1:=⟨i-1,by lia⟩
    refine ⟨_,rfl,_,rfl,X.p,A.bu,X.dp,_,_,rfl,i2.hp,T.bJ,T.oB,rfl,_,rfl,X.a,_,_,_,rfl,rfl,ah.of i2.ha,(by
     show gp (vN ((List.range (j+1)).map (Sound.entry xb))) (-1)=some (V.int ((Sound.entry xb j:Nat):Int))
     rw[List.range_succ,List.map_append,List.map_cons,List.map_nil,←zC]
     exact R8 _ _),_,_,rfl,rfl,?_⟩
    have e:decide (((Sound.entry xb j:Nat):Int)<((Sound.entry xb (j+1):Nat):Int))=!fL xb (j+1):=by
     unfold fL
     rw[if_neg (by lia),Nat.add_sub_cancel]
     by_cases q:Sound.entry xb (j+1)≤Sound.entry xb j
     ·rw[decide_eq_true q,decide_eq_false (by lia)];rfl
     ·rw[decide_eq_false q,decide_eq_true (by lia)];rfl
    dsimp only
    rw[e]
    exact r
   case B=>
    have c: ¬(0:Int)<0+((i:Nat):Int):=fun z=>c (decide_eq_true z)
    obtain rfl:i=0:=by lia
    refine ⟨_,rfl,rfl,?_⟩
    have e:decide (V.int ((Sound.entry xb 0:Nat):Int)=V.int 0)=!fL xb 0:=by
     unfold fL
     rw[if_pos rfl]
     by_cases q:Sound.entry xb 0=0
     ·rw[q];rfl
     ·rw[decide_eq_false (fun z=>q (by have:=V.int.inj z;lia)),bne_iff_ne.mpr q];rfl
    rw[e]
    exact r
   case C=>
    refine ⟨_,rfl,_,rfl,?_⟩
    cases hbad:fL xb i with
    |true=>
     have e2:dE X.B at_ N= .error (7,at_+3*i):=by
      unfold dE
      rw[hxb,P9 aT (by lia) hbad hg1]
     rw[e2] at k
     refine bt (aS rfl hS2r rfl ⟨_,rfl,X.r,X.dr,_,_,_,_,7,at_+3*i,rfl,hS2r,?_⟩)
     have s3:=cO (r:=X.r) (H:=H2) (o:= .ins A.ax X.dr (bw (.ref X.R.q) (.int ((at_+3*i+3:Nat):Int)) (.int ((7:Nat):Int)) (.int ((at_+3*i:Nat):Int))))
     exact k _ _ _ _ (cc s12 (cN X.mr s3)) (i2.go s3) rfl ⟨_,aj⟩
    |false=>
     refine bA (aD rfl i2.hp T.bJ T.oB rfl ⟨.inl ⟨rfl,_,ah.of i2.ha⟩,_,rfl,bE X.a _ _ ⟨rfl,rfl,i2.ha,(by rw[aO,List.length_map,List.length_range,sizeLine_eq];lia),?_⟩⟩)
     rw[zC,show (List.range i).map (Sound.entry xb)++ [Sound.entry xb i]=(List.range (i+1)).map (Sound.entry xb) by rw[List.range_succ,List.map_append];rfl]
     refine (aA _ _ _ _ ⟨rfl,cc s12 (jo X.ma),i2.starts _ _,?_,fun j hj=>?_,by lia⟩)
     ·unfold aG
      rw[show X.R.r=X.r from rfl,aL n6]
      exact hS2r
     ·by_cases hj2:j<i
      ·exact hg1 j hj2
      ·rw[show j=i by lia];exact hbad
  ·rintro σ H1 ⟨v3,v4,v5,v6,rfl,s1,i1,hS1,hg1,hB1⟩
   rw[Int.toNat_natCast] at i1 hS1 hg1 hB1
   have hS1r:=hS1
   unfold aG at hS1r
   have e1:Sound.indexFault N xb=none:=ET fun j hj hl=>hg1 j hj
   refine (aS rfl hS1r rfl ⟨_,rfl,X.R,at_+3*N,ag at_ 8 ⟨rfl,i1.fD,hS1,?_⟩⟩)
   unfold cP nH
   unfold dE at k
   rw[hxb,e1] at k
   dsimp only at k
   by_cases c1:X.R.B.length<at_+3*N+4
   ·rw[if_pos c1]
    rw[if_pos (show X.B.length<at_+3*N+4 from c1)] at k
    exact fun H' s' hF=>k H' _ _ _ (cc s1 (cN X.mr s')) (i1.go s') rfl hF
   rw[if_neg c1]
   rw[if_neg (show¬X.B.length<at_+3*N+4 from c1)] at k
   rw[show at_+3*N-at_=3*N by lia,show X.R.B=X.B from rfl,hxb]
   by_cases c2:Sound.fromHigh ((X.B.drop (at_+3*N)).take 4)≠Sound.crc32 xb
   ·rw[if_pos c2]
    rw[if_pos c2] at k
    exact fun H' s' hF=>k H' _ _ _ (cc s1 (cN X.mr s')) (i1.go s') rfl hF
   rw[if_neg c2]
   rw[if_neg c2] at k
   dsimp only at k⊢
   intro H2 s2 hS2
   have i2:=i1.go s2
   have s12:=cc s1 (cN X.mr s2)
   have hS2r:=hS2
   unfold aG at hS2r
   refine (aD rfl hS2r T.aM T.gb rfl ⟨_,rfl,_,rfl,aD rfl hS2r T.aM T.cC rfl ⟨_,rfl,ag X.q _ ⟨rfl,i2.fD.sq,fun D hD=>?_⟩⟩⟩)
   refine ⟨_,rfl,aA X.p A.bu X.dp _ ⟨rfl,aF hD _ _ i2.hp,T.bJ,T.wB,(by show 7<1000;decide),?_⟩⟩
   rw[M7,show X.R.B=X.B from rfl,kb,show at_+3*N+4-at_=3*N+4 by lia,gO,fH]
   have hrn:H2 X.r≠none:=fun z=>by rw[show X.r=X.R.r from rfl,hS2r] at z;cases z
   have hDo:=i2.off (pl:=0) hrn hD
   refine k _ (.ref x) D (cc s12 (cc (kr (aF hD)) (jo X.mp))) ?_ ?_
   ·have:=i2.IH hD hDo ((X.B.drop at_).take (3*N+4)) (at_+3*N+4)
    unfold entries
    rw[hxb]
    exact this
   ·unfold aG
    exact bK n1.symm (aF hD _ _ hS2r)
theorem Qr {X:Cx} {K:PySem.W.Frag} {tg l:Expr} {tl:TE} (h:X.K=K) (hl:PE X l tl):PI X tg l (uU K tl):=by subst h;exact dn hl
def S0:Hs:=⟨Sound.nothing, [], [],0⟩
def dw:List dQ→Sound.Bytes→Hs→Except (Sound.Told×Nat×Nat) Hs
 | [],_,S=> .ok S
 |s::l,B,S=>match s.f B S with
  | .ok S'=>dw l B S'
  | .error z=> .error z
theorem jt (s:dQ) (l:List dQ) (B:Sound.Bytes) (S:Hs):dw (s::l) B S=match s.f B S with
  | .ok S'=>dw l B S'
  | .error z=> .error z:=rfl
def j7:List dQ→Sound.Bytes→Hs→Prop
 | [],_,_=>True
 |s::l,B,S=>s.pre B S∧ ∀S',s.f B S= .ok S'→j7 l B S'
def uF (K:PySem.W.Frag) (A:aW) (H:Hp) (X:Hx) (o:Except (Sound.Told×Nat×Nat) Hs):Prop:=match o with
 | .ok S=> ∃hv b,HI K A H X S hv b∧aG A.ax H X.R S.pl
 | .error (w,k,p)=> ∃S hv b,HI K A H X S hv b∧S.w=w∧dv A.ax H X.R k p
def Oi (K:PySem.W.Frag) (A:aW) (L:List (Addr×dQ)):Sp:=fun vs H Q _=> ∃(q g:Addr) (B:Sound.Bytes),vs= [.ref q, .ref g]∧ah K H q (vN (bn B))∧ah K H g (L.map fun x=> .ref x.1)∧B.length≤16384∧j7 (L.map Prod.snd) B S0∧ ∀X H',X.B=B→ae H H'→(∀y∈X.l,H y=none)→uF K A H' X (dw (L.map Prod.snd) B S0)→Q (.ref X.p) H'
theorem wF:aK ["data", "stages", "hearing", "stage"] ["data", "stages"] (aB zH):=⟨rfl,rfl,rfl,by decide+kernel,rfl,by decide+kernel,by decide+kernel⟩
theorem Dq (T:Txt K mg A) {N:Nat} (hN:4≤N) (L:List (Addr×dQ)) (hL: ∀x∈L,∃d,az P w K mg base (aY P w) N x.1 d ["hearing"] (iI K A x.2)∧PySem.W.keepIn K (.ref x.1)=true∧Binds K d ["hearing"] []):az P w K mg base a9 (N+1) A.lR A.qr ["data", "stages"] (Oi K A L):=by
 refine T.ya.ok wF (fun vs H Q E h=>?_) (fun cdv Ar outer s H vs Q E hr h=>?_)
 ·obtain ⟨q,g,B,rfl,_⟩:=h
  rfl
 ·obtain ⟨q,g,B,rfl,hq,hg,hB,hf0,k⟩:=h
  have hr4':aE 4 _:=hr.mono hN
  refine ⟨_,ai (aJ (i:=2) wF.nd rfl (Or.inl rfl) (fW T.K8 (Oh T) hr4' rfl T.Sl T.JV .nil aQ (aa (pv 0) af)))
   (ai (sR rfl rfl rfl (fun E pn xe hp ho=>ak (cw (X:=Cx.tr _ pn xe) ho rfl (Qr (K:=K) rfl (pv 1)) (bq (i:=3) wF.nd rfl (Or.inl rfl))
     (ak (ba (KD (i:=3) (tab:=fun f sp=> ∃x∈L,f=x.1∧sp=iI K A x.2) (pv 3) (fun f sp ht=>by
      obtain ⟨x,hx,rfl,rfl⟩:=ht
      obtain ⟨d,h1,h2,h3⟩:=hL x hx
      exact ⟨_,_,h1,h2,h3⟩) hr hp (aa (pv 2) af))))))
    (AU rfl T.ly rfl T.kQ (fun x ps n _=>ak (aX (pv 2)))))
   (ak (aX (pv 2)))),?_⟩
  refine ⟨_,rfl,fun p dp hp0 hdp hne=>?_⟩
  have sm:ae H (upd (upd H dp (.own p)) p (.ins A.bu dp [])):=d4 hp0 hdp
  refine (aA p dp q B ⟨rfl,aj,sm.seq hq,fun H1 r dr t a b c s1 ⟨r0,t0,a0,b0,c0⟩ nd hG hS ⟨ht1,ha1,hb1,hc1⟩=>⟨rfl,?_⟩⟩)
  have sH:ae H H1:=fun b o e=>s1 b o (by rw[hide_ne (cH e hp0)];exact sm b o e)
  obtain ⟨X,hX⟩: ∃X:Hx,X=⟨p,dp,r,dr,q,t,a,c,B⟩:=⟨_,rfl⟩
  have hfree: ∀y∈X.l,H y=none:=fun y hy=>by
   rw[hX] at hy
   simp only [Hx.l,List.mem_cons,List.not_mem_nil,or_false] at hy
   rcases hy with rfl|rfl|rfl|rfl|rfl
   ·exact hp0
   ·exact sm.none r0
   ·exact sm.none t0
   ·exact sm.none a0
   ·exact sm.none c0
  have sF: ∀H',ae H H'→ae H (X.f H'):=fun H' s'=>SX hfree s'
  have hi:HI K A H1 X S0 .aw b:=by
   have hq1:=(sF H1 sH).seq hq
   rw[hX] at hq1⊢
   exact ⟨nd,hG,rfl,⟨[],ht1,rfl,fun k a e=>by simp at e⟩,ha1,hc1,hb1,hq1,hB⟩
  have hS':aG A.ax H1 X.R S0.pl:=by rw[hX];exact hS
  have hXp:X.p=p:=by rw[hX]
  have hXB:X.B=B:=by rw[hX]
  clear hX hG hS ht1 ha1 hb1 hc1
  refine ⟨_,rfl,g,rfl,⟨_,sH.seq hg⟩,?_⟩
  refine ie (K:=K) (a:=g) (xs:=L.map fun x=> .ref x.1) (fun i σ H'=>(∃v3:Option V,σ= [some (.ref q),some (.ref g),some (.ref p),v3])∧ae H H'∧ ∃S hv b,HI K A H' X S hv b∧aG A.ax H' X.R S.pl∧j7 ((L.map Prod.snd).drop i) B S∧dw (L.map Prod.snd) B S0=dw ((L.map Prod.snd).drop i) B S) ⟨⟨none,rfl⟩,sH,S0,_,_,hi,hS',hf0,rfl⟩ (fun i σ H' _ ⟨_,s',_⟩=>s'.seq hg) ?_ ?_
  ·rintro i x σ H2 hiL ⟨⟨v3,rfl⟩,s2,S,hv,b2,i2,hS2,hf2,hrun⟩
   rw[List.getElem?_map] at hiL
   cases ei:L[i]? with
   |none=>rw[ei] at hiL;cases hiL
   |some y=>
    rw[ei] at hiL
    obtain rfl:V.ref y.1=x:=Option.some.inj hiL
    have hyL:y∈L:=List.mem_of_getElem? ei
    have ed:(L.map Prod.snd).drop i=y.2::(L.map Prod.snd).drop (i+1):=by
     obtain ⟨hlt,hy⟩:=List.getElem?_eq_some_iff.mp ei
     rw[List.drop_eq_getElem_cons (by rw[List.length_map];exact hlt),List.getElem_map,hy]
    rw[ed] at hf2 hrun
    refine ⟨y.1,_,rfl,⟨y,hyL,rfl,rfl⟩,_,rfl,X,S,hv,b2,by rw[hXp],i2,hS2,by rw[hXB];exact hf2.1,?_⟩
    unfold iL
    rw[hXB]
    rw[jt] at hrun
    cases es:y.2.f B S with
    |error z=>
     obtain ⟨w',kk,pp⟩:=z
     rw[es] at hrun
     dsimp only at hrun⊢
     intro H' S' hv' b' s' i' ew hF
     refine ⟨rfl,_,rfl,?_⟩
     rw[←hXp]
     refine k X H' hXB ((sF H2 s2).trans s') hfree ?_
     rw[hrun]
     exact ⟨S',hv',b',i',ew,hF⟩
    |ok S'=>
     rw[es] at hrun
     dsimp only at hrun⊢
     intro H' hv' b' s' i' hS3
     exact ⟨⟨_,rfl⟩,(sF H2 s2).trans s',S',hv',b',i',hS3,hf2.2 S' es,hrun⟩
  ·rintro σ H2 ⟨⟨v3,rfl⟩,s2,S,hv,b2,i2,hS2,hf2,hrun⟩
   refine ⟨_,rfl,?_⟩
   rw[←hXp]
   refine k X H2 hXB s2 hfree ?_
   rw[hrun,List.length_map,List.drop_eq_nil_of_le (by rw[List.length_map];exact Nat.le_refl _)]
   exact ⟨hv,b2,i2,hS2⟩
theorem HI.same {H H':Hp} {X:Hx} {S:Hs} {hv:V} {b:Addr} (h:HI K A H X S hv b) (s:ae H H'):HI K A H' X S hv b:=h.go ((dZ _ _).trans s)
theorem BX (f:Sound.Form) (n:Nat): ∀(ms:List Nat) (acc:List (List Int)) (l:Sound.Bits),Sound.takeChannels (Sound.eager f) n ms acc l=Sound.takeChannels f n ms acc l
 | [],_,_=>rfl
 |m::ms,acc,l=>by
  unfold Sound.takeChannels
  simp only [BX f n ms]
  rfl
theorem MI (f:Sound.Form) (b:Sound.Bytes):Sound.takeFrame (Sound.eager f) b=Sound.takeFrame f b:=by
 unfold Sound.takeFrame
 simp only [BX]
 rfl
theorem Pf (f:Sound.Form) (b:Sound.Bytes):Sound.unframe (Sound.eager f) b=Sound.unframe f b:=by
 unfold Sound.unframe
 rw[MI]
theorem QU (f:Sound.Form) (b:Sound.Bytes):Sound.unframe f (b.take 4096)=Sound.unframe f b:=by
 unfold Sound.unframe Sound.LONGEST
 rw[List.take_take,Nat.min_self]
 have:4096≤(b.take 4096).length↔4096≤b.length:=by rw[List.length_take];lia
 simp only [this]
theorem PF {F:Sound.Form} {B:Sound.Bytes} {x:Sound.Frame} {l:Sound.Bits} (h:Sound.takeFrame F B= .ok x l):1≤x.n∧x.k<2^20:=by
 rw[tm] at h
 obtain ⟨m,l1,_,h⟩:=cf h
 split at h
 ·cases h
 obtain ⟨k,l2,e2,h⟩:=cf h
 obtain ⟨n,l3,e3,h⟩:=cf h
 split at h
 ·cases h
 obtain ⟨cs,l4,e4,h⟩:=cf h
 obtain ⟨z,l5,_,h⟩:=cf h
 cases h
 exact ⟨by show 1≤n+1;lia,kR e2⟩
theorem PX {F:Sound.Form} {B:Sound.Bytes} {x:Sound.Frame} (h:Sound.unframe F B= .frame x):1≤x.n∧x.k<2^20:=by
 unfold Sound.unframe at h
 split at h
 ·rename_i e;cases h;exact PF e
 ·cases h
 ·split at h<;>cases h
def Rl (C:Addr):Sp:=fun vs H Q _=> ∃(f:Addr) (F:Sound.Form) (k n:Nat),vs= [.ref f, .int (k:Nat), .int (n:Nat)]∧gk C H f F∧F.block≤256∧Q (.int (min (F.block:Int) ((n:Int)-(k:Int)*(F.block:Int)))) H
theorem OU:aK ["self", "k", "samples"] ["self", "k", "samples"] (aB AH):=⟨rfl,rfl,rfl,by decide+kernel,rfl,by decide+kernel,by decide+kernel⟩
theorem M4 (T:Txt K mg A):az P w K mg base a9 1 A.qm A.pA ["self", "k", "samples"] (Rl A.bM):=by
 refine T.My.ok OU (fun vs H Q E h=>?_) (fun cdv Ar outer s H vs Q E hr h=>?_)
 ·obtain ⟨f,F,k,n,rfl,_⟩:=h
  rfl
 ·obtain ⟨f,F,k,n,rfl,⟨df,hf⟩,hb,q⟩:=h
  refine ⟨_,ak (aX (bX (GG rfl) (by rfl) T.GD (by decide+kernel:bootBuiltins "min" =some (.builtin "min")) (aa (ay (pv 0) rfl) (aa (au du (pv 2) (au ko (pv 1) (ay (pv 0) rfl))) af)))),?_⟩
  have e64:(2:Int)^64=18446744073709551616:=by decide
  refine (aD rfl hf T.b8 T.jF rfl ⟨_,rfl,_,rfl,aD rfl hf T.b8 T.jF rfl (ag _ _ ⟨rfl,rfl, .inr ⟨by lia,by lia⟩,ag _ _ ⟨rfl,rfl,ag _ _ ⟨rfl,?_⟩⟩⟩)⟩)
  have e:(if (n:Int)-(k:Int)*(F.block:Int)<(F.block:Int) then (n:Int)-(k:Int)*(F.block:Int) else (F.block:Int))=min (F.block:Int) ((n:Int)-(k:Int)*(F.block:Int)):=by
   split<;>lia
  dsimp only
  rw[e]
  exact q
theorem zb {B:Sound.Bytes} {k p:Nat} (h:cu B= .error (k,p)):k≠0:=by
 unfold cu at h
 repeat' split at h
 all_goals first|(cases h;decide)|cases h
theorem vZ {B:Sound.Bytes} {h:Sound.Head} (e:cu B= .ok h):h=Sound.fields B∧Sound.mayHead h=true∧26≤B.length:=by
 unfold cu at e
 split at e
 ·cases e
 ·split at e
  ·cases e
  ·split at e
   ·cases e
   ·split at e
    ·cases e
    ·rename_i hm
     split at e
     ·cases e
     ·split at e
      ·cases e
      ·cases e
       refine ⟨rfl,?_,by lia⟩
       cases q:Sound.mayHead (Sound.fields B) with
       |true=>rfl
       |false=>exact absurd q hm
theorem M3 {at_ n:Nat} {seen:List Sound.Bytes} {b:Sound.Bytes} {k p:Nat} (h:cK at_ n seen b= .inl (.fault k p)):k≠0:=by
 rcases qh at_ n seen b with e|⟨e,hl⟩|⟨y,e,h1,h2⟩
 ·rw[e] at h;cases h;decide
 ·rw[e] at h;cases h
 ·rw[e] at h;cases h
theorem FU: ∀(j at_ n:Nat) (seen:List Sound.Bytes) (b:Sound.Bytes) (l:List Sound.Bytes) (k p:Nat),Sound.tagItems j at_ n seen b=(l, .inl (.fault k p))→k≠0
 |0,at_,n,seen,b,l,k,p,h=>by unfold Sound.tagItems at h;cases h
 |j+1,at_,n,seen,b,l,k,p,h=>by
  rw[tW] at h
  cases e:cK at_ n seen b with
  |inl st=>
   rw[e] at h
   cases h
   exact M3 e
  |inr z=>
   rw[e] at h
   exact FU j _ _ _ _ l k p h
theorem FF {t:Nat} {b:Sound.Bytes} {l:List Sound.Bytes} {k p:Nat} (h:Sound.areaOf t b=(l, .fault k p)):k≠0:=by
 unfold Sound.areaOf at h
 split at h
 ·cases h
 ·split at h
  ·cases h;decide
  ·split at h
   ·rename_i l' a e
    cases h
    exact FU _ _ _ _ _ _ _ _ e
   ·split at h
    ·cases h;decide
    ·split at h
     ·cases h
     ·split at h
      ·cases h
      ·cases h;decide
theorem O4 {B:Sound.Bytes} {at_ n k p:Nat} (h:dE B at_ n= .error (k,p)):k≠0:=by
 unfold dE at h
 split at h
 ·cases h;decide
 ·split at h
  ·cases h;decide
  ·split at h
   ·cases h;decide
   ·cases h
def LB:List dQ:= [gw,fO]
def fJ (B:Sound.Bytes) (h:Sound.Head) (l:List Sound.Bytes):Hs:=⟨⟨some h,l, [],0⟩,entries B (26+h.t) (Sound.framesOf h.form h.n),(B.drop (26+h.t)).take (3*Sound.framesOf h.form h.n+4),26+h.t+3*Sound.framesOf h.form h.n+4⟩
theorem F0 (B:Sound.Bytes) (L:List dQ) (hL: ∀h l,fZ B=some (h,l)→Sound.mayHead h=true→26+h.t≤B.length→j7 L B ⟨⟨some h,l, [],0⟩, [], [],26+h.t⟩):j7 (gw::fO::L) B S0:=by
 refine ⟨rfl,fun S1 e1=>?_⟩
 unfold gw at e1
 dsimp only at e1
 cases e:cu B with
 |error z=>rw[e] at e1;cases e1
 |ok h=>
  rw[e] at e1
  cases e1
  obtain ⟨_,hm,h26⟩:=vZ e
  obtain ⟨_,_,h1,h2⟩:=gy hm
  refine ⟨⟨rfl,rfl,h,rfl,h1,h2,h26⟩,fun S2 e2=>?_⟩
  unfold fO at e2
  dsimp only at e2
  cases ea:Sound.areaOf h.t ((B.drop 26).take h.t) with
  |mk l st=>
   rw[ea] at e2
   cases st with
   |more=>cases e2
   |fault k p=>cases e2
   |whole=>
    cases e2
    have hl:=B4 ea
    rw[List.length_take,List.length_drop] at hl
    exact hL h l (by unfold fZ;rw[e];dsimp only;rw[ea]) hm (by lia)
theorem Fz (T:Txt K mg A):k7 P w K mg base 1 A.lr A.lg ["self", "fault", "place"] (Dd A):=by
 refine T.yM.Ff yL (fun vs H Q E h=>?_) (fun cdv Ar outer s H vs Q E pn hr hn h=>?_)
 ·obtain ⟨p,dx,d,pl,f0,o0,k,q,rfl,_⟩:=h
  rfl
 ·obtain ⟨p,dx,d,pl,f0,o0,k,q,rfl,hp,e⟩:=h
  refine ⟨_,ai (bh (pv 0) (pv 1) rfl) (ai (bh (pv 0) (pv 2) rfl) (ak (OD hn rfl T.kQ T.ly.exc Ay))),?_⟩
  refine ⟨_,rfl,_,rfl,p,A.ax,dx,_,rfl,hp,T.aM,T.kT,(by show 4<1000;decide),?_⟩
  rw[zt]
  refine ⟨_,rfl,_,rfl,p,A.ax,dx,_,rfl,aj,T.aM,T.wq,(by show 4<1000;decide),?_⟩
  rw[cB,CC]
  exact e
theorem QE (T:Txt K mg A):k7 P w K mg base 2 A.kL A.kI ["self"] (Bm K A):=by
 refine T.EJ.Ff yP (fun vs H Q E h=>?_) (fun cdv Ar outer s H vs Q E pn hr hn h=>?_)
 ·obtain ⟨p,dx,q,pl,f0,o0,xs,rfl,_⟩:=h
  rfl
 ·obtain ⟨p,dx,q,pl,f0,o0,xs,rfl,hp,hq,e⟩:=h
  refine ⟨_,ak (ba (E7 hn (pv 0) T.aM T.dC (Fz T) hr T.dz DW (aa (aR rfl T.DB) (aa (bX cx (by rfl) T.cj PySem.boot_len (aa (ay (pv 0) rfl) af)) af)))),?_⟩
  exact ⟨_,rfl,p,dx,_,rfl,hp,rfl,_,rfl,p,A.ax,dx,_,_,rfl,hp,T.aM,T.gb,rfl,q,xs,rfl, .inl hq,p,dx,_,_,_,_,1,xs.length,rfl,hp,e⟩
theorem OX {w b:Sound.Bytes} {c:Nat} (hc:c∈ [2,4,5,7]) (h1:c≤b.length) (h2:b.take c≠w.take c):Sound.expects [2,4,5,7] w b=some false:=by
 unfold Sound.expects
 rw[if_pos]
 rw[List.any_eq_true]
 exact ⟨c,hc,by rw[decide_eq_true h1,Bool.true_and,bne_iff_ne];exact h2⟩
theorem kP {w b:Sound.Bytes} (cuts:List Nat) (h: ∀c∈cuts,c≤b.length→b.take c=w.take c):Sound.expects cuts w b=if b.length<w.length then none else some (b.take w.length==w):=by
 unfold Sound.expects
 rw[if_neg]
 rw[List.any_eq_true]
 rintro ⟨c,hc,hz⟩
 rw[Bool.and_eq_true,decide_eq_true_eq,bne_iff_ne] at hz
 exact hz.2 (h c hc hz.1)
def DF (A:aW) (H:Hp) (R:Rg) (pl n:Nat) (o:Option Bool) (Q:VK) (E:XK):Prop:=match o with
 |some true=> ∀H',ae (hide R.r H) H'→aG A.ax H' R (pl+n)→Q .aw H'
 |some false=> ∀H',ae (hide R.r H) H'→dv A.ax H' R 9 pl→E (.ref A.bV) none H'
 |none=> ∀H',ae (hide R.r H) H'→dv A.ax H' R 1 R.B.length→E (.ref A.bV) none H'
def SY (K:PySem.W.Frag) (A:aW):Sp:=fun vs H Q E=> ∃(R:Rg) (pl:Nat) (q:Addr) (w:Sound.Bytes),vs= [.ref R.r, .ref q]∧dj K H R∧aG A.ax H R pl∧ah K (hide R.r H) q (vN (bn w))∧(7≤w.length∧w.length≤10000∧pl≤R.B.length)∧DF A H R pl w.length (Sound.expects [2,4,5,7] w (R.B.drop pl)) Q E
theorem vh:aK ["reading", "piece", "begin", "look"] ["reading", "piece"] (aB yN):=⟨rfl,rfl,rfl,by decide+kernel,rfl,by decide+kernel,by decide+kernel⟩
def di (n:Nat):List Nat:= [2,4,5,7,n]
theorem yb {n i j:Nat} (hn:7≤n) (hi:i<5) (hj:j<i):(di n).getD j 0≤(di n).getD i 0:=by
 unfold di
 have gj:j=0∨j=1∨j=2∨j=3:=by lia
 have gi:i=1∨i=2∨i=3∨i=4:=by lia
 rcases gi with rfl|rfl|rfl|rfl<;>rcases gj with rfl|rfl|rfl|rfl<;>first|lia|exact (by decide:2≤4)|exact (by decide:2≤5)|exact (by decide:4≤5)|exact (by decide:2≤7)|exact (by decide:4≤7)|exact (by decide:5≤7)|(show 2≤n;lia)|(show 4≤n;lia)|(show 5≤n;lia)|(show 7≤n;lia)
theorem EY {n c:Nat} (h:c∈ [2,4,5,7]): ∃j,j<4∧(di n).getD j 0=c:=by
 simp only [List.mem_cons,List.not_mem_nil,or_false] at h
 rcases h with rfl|rfl|rfl|rfl
 ·exact ⟨0,by decide,rfl⟩
 ·exact ⟨1,by decide,rfl⟩
 ·exact ⟨2,by decide,rfl⟩
 ·exact ⟨3,by decide,rfl⟩
def fj (n i:Nat):Nat:=(0::di n).getD i 0
theorem SD {n i:Nat} (hn:7≤n) (hi:i<5):fj n i≤(di n).getD i 0:=by
 unfold fj
 cases i with
 |zero=>exact Nat.zero_le _
 |succ j=>exact yb (j:=j) hn hi (by lia)
theorem Sd (T:Txt K mg A):az P w K mg base (aY P w) 4 A.pG A.o4 ["reading", "piece"] (SY K A):=by
 refine T.Ct.bO vh (fun vs H Q E h=>?_) (fun cdv Ar outer s H vs Q E hr h=>?_)
 ·obtain ⟨R,pl,q,w,rfl,_⟩:=h
  rfl
 ·obtain ⟨R,pl,q,w,rfl,hI,hS,hq,⟨hw7,hwm,hpl⟩,k⟩:=h
  have hr1':aE 1 _:=hr.mono (by decide)
  refine ⟨_,ai (aJ (i:=2) vh.nd rfl (Or.inl rfl) (ay (pv 0) rfl))
   (ak (cw PassesOwn.leaving rfl (dn (au jZ (tI tK rfl T.tV (by decide+kernel:bootBuiltins "list" =some (.type "list")) (aa (dR rfl T.IS) af)) (bZ (aa (bX cx (by rfl) T.cj PySem.boot_len (aa (pv 1) af)) af)))) (bq (i:=3) vh.nd rfl (Or.inl rfl))
    (ai (ba (aU (pv 0) T.aM T.i9 (iX T) hr T.iV .nil aN (aa (au du (au bS (pv 2) (pv 3)) (ay (pv 0) rfl)) af)))
    (ak (bg (bc (u9 hr.units) (eH eJ (ay (pv 0) rfl) (cD (pv 2)) (cD (au bS (pv 2) (pv 3)))) (eH eJ (pv 1) kq (cD (pv 3))) (aZ _)) (ak (ba (aU (pv 0) T.aM T.dC (dS T) hr1' T.dz .nil aN (aa (aR rfl T.rp) (aa (pv 2) af))))) br))))),?_⟩
  have hSr:=hS
  unfold aG at hSr
  refine ⟨_,rfl,R.r,A.ax,R.dr,_,_,rfl,hSr,T.aM,T.cC,rfl,?_⟩
  have one1:(1:Nat)≤sizeLine:=by rw[sizeLine_eq];lia
  have hq0:ah K H q (vN (bn w)):=(dZ _ _).seq hq
  refine ⟨A.qL,_,rfl, .inr (T.Iw _),fun L1 hL1=>?_⟩
  have t1:=aF (o:= .lst [V.int (2),V.int (4),V.int (5),V.int (7)]) hL1
  refine ⟨_,rfl,q,_,rfl, .inl (t1.seq hq0),one1,fun L2 hL2=>?_⟩
  have t2:=aF (o:= .lst [V.int ((vN (bn w)).length:Nat)]) hL2
  refine ⟨L1,L2,_,_,rfl,rfl,t2 _ _ aj,aj,(by rw[sizeLine_eq];show 5≤_;lia),fun L hL=>?_⟩
  have t3:=aF (o:= .lst (vN (di w.length))) hL
  have eL: [V.int (2),V.int (4),V.int (5),V.int (7)]++ [V.int ((vN (bn w)).length:Nat)]=vN (di w.length):=by rw[aO,bx];rfl
  rw[eL]
  have t0:=t1.trans (t2.trans t3)
  have hL0:upd (upd (upd H L1 (.lst [V.int (2),V.int (4),V.int (5),V.int (7)])) L2 (.lst [V.int ((vN (bn w)).length:Nat)])) L (.lst (vN (di w.length))) L=some (.lst (vN (di w.length))):=aj
  have hLH:H L=none:=(t1.trans t2).none hL
  have hLr:L≠R.r:=fun z=>by rw[z,hSr] at hLH;cases hLH
  generalize upd (upd (upd H L1 (.lst [V.int (2),V.int (4),V.int (5),V.int (7)])) L2 (.lst [V.int ((vN (bn w)).length:Nat)])) L (.lst (vN (di w.length)))=H0 at*
  refine ⟨L,rfl,⟨_,ah.of hL0⟩,?_⟩
  generalize hb:R.B.drop pl=b at*
  have hbl:b.length=R.B.length-pl:=by rw[←hb,List.length_drop]
  refine ie (K:=K) (a:=L) (xs:=vN (di w.length)) (fun i σ H'=>(∃v3:Option V,σ= [some (.ref R.r),some (.ref q),some (.int (pl:Nat)),v3])∧ae (hide R.r H) H'∧H' L=some (.lst (vN (di w.length)))∧aG A.ax H' R (pl+fj w.length i)∧ ∀j,j<i→(di w.length).getD j 0≤b.length∧b.take ((di w.length).getD j 0)=w.take ((di w.length).getD j 0))
   ⟨⟨none,rfl⟩,jW t0,hL0,t0 _ _ hS,fun j hj=>by lia⟩ (fun i σ H' _ ⟨_,_,h,_⟩=>ah.of h) ?_ ?_
  ·rintro i x σ H1 hi ⟨⟨v3,rfl⟩,s1,hL1',hS1,hm⟩
   obtain ⟨rfl,hi5⟩:=eT hi
   have hi5:i<5:=hi5
   have hle:=SD (n:=w.length) hw7 hi5
   have hnx:fj w.length (i+1)=(di w.length).getD i 0:=rfl
   generalize hlk:(di w.length).getD i 0=lk at*
   have hS1r:=hS1
   unfold aG at hS1r
   refine ⟨_,rfl,R.r,R.dr,_,rfl,hS1r,rfl,_,rfl,_,rfl,_,_,rfl,rfl,_,rfl,R.r,A.ax,R.dr,_,_,rfl,hS1r,T.aM,T.cC,rfl,_,_,rfl,rfl,R,pl+fj w.length i,lk-fj w.length i,?_,hI.go s1,hS1,?_⟩
   ·show [V.ref R.r,V.int (((pl:Nat):Int)+((lk:Nat):Int)-((pl+fj w.length i:Nat):Int))]=_
    rw[show ((pl:Nat):Int)+((lk:Nat):Int)-((pl+fj w.length i:Nat):Int)=((lk-fj w.length i:Nat):Int) by lia]
   unfold cP dO
   have cutOk: ∀c∈ [2,4,5,7],c≤b.length→(b.length<lk∨i=4)→b.take c=w.take c:=fun c hc hcb hlt=>by
    obtain ⟨j,hj4,hj⟩:=EY (n:=w.length) hc
    have hji:j<i:=by
     rcases hlt with hlt|hlt
     ·refine Nat.lt_of_not_le fun z=>?_
      rcases Nat.lt_or_ge i j with z2|z2
      ·have:=yb (n:=w.length) hw7 (show j<5 by lia) z2
       lia
      ·have:i=j:=by lia
       subst this
       lia
     ·lia
    have:=(hm j hji).2
    rw[hj] at this
    exact this
   by_cases c1:R.B.length<pl+fj w.length i+(lk-fj w.length i)
   ·rw[if_pos c1]
    have hlt:b.length<lk:=by lia
    have hlw:lk≤w.length:=by
     rcases Nat.lt_or_ge i 4 with z|z
     ·have:=yb (n:=w.length) hw7 (show 4<5 by decide) z
      rw[hlk] at this
      exact this
     ·have:i=4:=by lia
      subst this
      exact Nat.le_of_eq hlk.symm
    rw[kP _ (fun c hc hcb=>cutOk c hc hcb (.inl hlt)),if_pos (by lia)] at k
    exact fun H' s' hF=>k H' (bp s1 s') hF
   rw[if_neg c1]
   dsimp only
   intro H2 s2 hS2 D hD hDx
   have s12:=bp s1 s2
   have hL2':H2 L=some (.lst (vN (di w.length))):=s2 _ _ (by rw[hide_ne hLr];exact hL1')
   have hS2r:=hS2
   unfold aG at hS2r
   have epl:pl+fj w.length i+(lk-fj w.length i)=pl+lk:=by lia
   refine ⟨_,rfl,R.r,A.ax,R.dr,_,_,rfl,hS2r,T.aM,T.gb,rfl,_,rfl,_,rfl,_,rfl,_,rfl,_,_,rfl,rfl,_,rfl,R.q,_,rfl,(hI.go s12).sq,fun D1 hD1=>?_⟩
   dsimp only
   rw[show ((pl:Nat):Int)+((lk:Nat):Int)=((pl+lk:Nat):Int) by lia,kb,show pl+lk-pl=lk by lia,gO,fH,hb]
   have t4:=aF (o:= .lst (vN (bn (b.take lk)))) hD1
   refine ⟨_,rfl,_,rfl,_,rfl,q,_,rfl,t4.seq (s12.seq hq),fun D2 hD2=>?_⟩
   rw[ur,fH]
   have t5:=aF (o:= .lst (vN (bn (w.take lk)))) hD2
   refine ⟨D1,D2,(bn (b.take lk)).map (fun (n:Nat)=>(n:Int)),(bn (w.take lk)).map (fun (n:Nat)=>(n:Int)),rfl,rfl,(by rw[←ja];exact t5.seq (ah.of aj)),(by rw[←ja];exact ah.of aj),_,rfl,?_⟩
   have t45:=t4.trans t5
   have hS3:=t45 _ _ hS2
   have hS3r:=hS3
   generalize upd (upd H2 D1 (.lst (vN (bn (b.take lk))))) D2 (.lst (vN (bn (w.take lk))))=H3 at*
   have s13:=s12.trans t45
   by_cases c2:b.take lk=w.take lk
   ·rw[decide_eq_true (jg.mpr c2)]
    refine bA ⟨⟨_,rfl⟩,s13,t45 _ _ hL2',?_,fun j hj=>?_⟩
    ·rw[hnx,←epl];exact hS3
    ·by_cases hj2:j<i
     ·exact hm j hj2
     ·rw[show j=i by lia,hlk]
      exact ⟨by lia,c2⟩
   ·rw[decide_eq_false (fun z=>c2 (jg.mp z))]
    have ef:Sound.expects [2,4,5,7] w b=some false:=by
     rcases Nat.lt_or_ge i 4 with z|z
     ·have hlk4:lk∈ [2,4,5,7]:=by
       rw[←hlk]
       rcases (by lia:i=0∨i=1∨i=2∨i=3) with rfl|rfl|rfl|rfl
       ·exact .head _
       ·exact .tail _ (.head _)
       ·exact .tail _ (.tail _ (.head _))
       ·exact .tail _ (.tail _ (.tail _ (.head _)))
      exact OX hlk4 (by lia) c2
     ·have:i=4:=by lia
      subst this
      have hlw:lk=w.length:=hlk.symm
      rw[kP _ (fun c hc hcb=>cutOk c hc hcb (.inr rfl)),if_neg (by lia),←hlw,beq_eq_false_iff_ne.mpr]
      rw[List.take_of_length_le (l:=w) (by lia)] at c2
      exact c2
    rw[ef] at k
    exact bt ⟨_,rfl,R.r,R.dr,_,rfl,hS3r,rfl,_,rfl,R.r,R.dr,_,_,_,_,9,pl,rfl,hS3r,k _ (bp s13 cO) ⟨_,aj⟩⟩
  ·rintro σ H1 ⟨⟨v3,rfl⟩,s1,hL1',hS1,hm⟩
   have hm4:=hm 4 (by show 4<5;decide)
   have e5:(di w.length).getD 4 0=w.length:=rfl
   rw[e5,List.take_of_length_le (l:=w) (Nat.le_refl _)] at hm4
   have et:Sound.expects [2,4,5,7] w b=some true:=by
    rw[kP _ (fun c hc hcb=>?_),if_neg (by lia),hm4.2,beq_self_eq_true]
    obtain ⟨j,hj4,hj⟩:=EY (n:=w.length) hc
    have:=(hm j (show j<5 by lia)).2
    rw[hj] at this
    exact this
   rw[et] at k
   exact k H1 s1 hS1
theorem RX {B:Sound.Bytes} {l r:Sound.Bits} {z:Nat} (hB:2≤B.length) (h:lq B l= .ok z r):2≤z∧z≤B.length:=by
 unfold lq at h
 obtain ⟨x,l1,e1,h⟩:=cf h
 split at h
 ·cases h
 obtain ⟨c,l2,e2,h⟩:=cf h
 split at h
 ·cases h
 ·obtain ⟨q3,q4⟩:=sM e2
  cases h
  lia
theorem MH {F:Sound.Form} {B:Sound.Bytes} {x:Sound.Frame} {l:Sound.Bits} (h:Sound.takeFrame F B= .ok x l):2≤x.size∧x.size≤B.length:=by
 rw[tm] at h
 obtain ⟨m,l1,e0,h⟩:=cf h
 have hB:=(sM e0).2
 rw[jH] at hB
 split at h
 ·cases h
 obtain ⟨k,l2,e2,h⟩:=cf h
 obtain ⟨n,l3,e3,h⟩:=cf h
 split at h
 ·cases h
 obtain ⟨cs,l4,e4,h⟩:=cf h
 obtain ⟨z,l5,e5,h⟩:=cf h
 cases h
 exact RX (by lia) e5
theorem vE {F:Sound.Form} {B:Sound.Bytes} {x:Sound.Frame} (h:Sound.unframe F B= .frame x):2≤x.size∧x.size≤4096∧x.size≤B.length:=by
 unfold Sound.unframe at h
 split at h
 ·rename_i e
  cases h
  have:=MH e
  rw[List.length_take,show Sound.LONGEST=4096 from rfl] at this
  lia
 ·cases h
 ·split at h<;>cases h
theorem JP (r h t s i f n f':V):bC "frames_taken" f' (cM r h t s i f n)=cM r h t s i f' n:=by
 have n1: ¬("reading" :Str)= "frames_taken" :=by decide
 have n2: ¬("head" :Str)= "frames_taken" :=by decide
 have n3: ¬("tags" :Str)= "frames_taken" :=by decide
 have n4: ¬("starts" :Str)= "frames_taken" :=by decide
 have n5: ¬("index_bytes" :Str)= "frames_taken" :=by decide
 simp only [cM,bC,if_neg n1,if_neg n2,if_neg n3,if_neg n4,if_neg n5];rfl
theorem HI.fr {H:Hp} {X:Hx} {S:Hs} {hv:V} {b:Addr} (h:HI K A H X S hv b) (n:Nat):HI K A (upd H X.p (.ins A.bu X.dp (cM (.ref X.r) hv (.ref X.t) (.ref X.a) (.ref b) (.int (n:Nat)) (.ref X.c)))) X ⟨⟨S.w.head,S.w.tags,S.w.s,n⟩,S.starts,S.idx,S.pl⟩ hv b:=by
 obtain ⟨⟨n1,n2,n3,n4⟩,⟨n5,n6,n7⟩,⟨n8,n9⟩,n10⟩:=fY h.nd
 generalize hG:HO.ins A.bu X.dp (cM (.ref X.r) hv (.ref X.t) (.ref X.a) (.ref b) (.int (n:Nat)) (.ref X.c))=o
 have sf:ae (X.f H) (X.f (upd H X.p o)):=f7 (jo X.mp)
 exact ⟨h.nd,by rw[aj,←hG],h.hh.same sf,h.ht.same (aL n2.symm) sf,bK n3.symm h.ha,bK n4.symm h.hc,sf _ _ h.hb,sf.seq h.hq,h.hl⟩
theorem HI.num {H:Hp} {X:Hx} {S:Hs} {hv:V} {b:Addr} (h:HI K A H X S hv b) (l:List Int):HI K A (upd H X.c (.lst (l.map V.int))) X ⟨⟨S.w.head,S.w.tags,l,S.w.frames⟩,S.starts,S.idx,S.pl⟩ hv b:=by
 obtain ⟨⟨n1,n2,n3,n4⟩,⟨n5,n6,n7⟩,⟨n8,n9⟩,n10⟩:=fY h.nd
 have sf:ae (X.f H) (X.f (upd H X.c (.lst (l.map V.int)))):=f7 (jo X.mc)
 exact ⟨h.nd,bK n4 h.hp,h.hh.same sf,h.ht.same (aL n9) sf,bK n10 h.ha,aj,sf _ _ h.hb,sf.seq h.hq,h.hl⟩
theorem Dn {F:Sound.Form} (h:F.ok=true):(Sound.eager F).ok=true:=by
 unfold Sound.eager Sound.Form.ok at*
 simp only [Bool.and_eq_true,decide_eq_true_eq] at h⊢
 obtain ⟨a,b,c,d,e,f,g,r⟩:=h
 exact ⟨a,b,c,d,e,f,Nat.le_refl 4,r⟩
def ym (B:Sound.Bytes) (h:Sound.Head) (pl k:Nat):Except (Nat×Nat) Sound.Frame:=match Sound.unframe h.form (B.drop pl) with
 | .bad=> .error (9,pl)
 | .short=> .error (1,B.length)
 | .frame x=>if x.k≠k∨x.n≠Sound.frameLen h.form h.n k then .error (9,pl) else .ok x
def fN (w:Sound.Told) (x:Sound.Frame):Sound.Told:=⟨w.head,w.tags,w.s++x.s,w.frames+1⟩
theorem Ea {l l':List Addr} {H H':Hp} (h: ∀y∈l,y∈l') (s:ae (b5 l H) H'):ae (b5 l' H) H':=fun b o e=>by
 obtain ⟨e1,e2⟩:=cG e
 exact s b o (by rw[dW (fun z=>e2 (h b z))];exact e1)
def Hx.l3 (X:Hx):List Addr:= [X.p,X.r,X.c]
theorem Hx.Ic (X:Hx):X.p∈X.l3:= .head _
theorem Hx.Oc (X:Hx):X.r∈X.l3:= .tail _ (.head _)
theorem Hx.O7 (X:Hx):X.c∈X.l3:= .tail _ (.tail _ (.head _))
theorem Hx.tE (X:Hx): ∀y∈X.l3,y∈X.l:=fun y hy=>by
 simp only [Hx.l3,Hx.l,List.mem_cons,List.not_mem_nil,or_false] at hy⊢
 rcases hy with h|h|h<;>simp [h]
def FT (K:PySem.W.Frag) (A:aW) (H:Hp) (X:Hx) (S:Hs) (hv:V) (b:Addr) (o:Except (Nat×Nat) Sound.Frame) (Q:VK) (E:XK):Prop:=match o with
 | .ok x=> ∀D H',ae (b5 X.l3 H) H'→HI K A H' X ⟨fN S.w x,S.starts,S.idx,S.pl+x.size⟩ hv b→aG A.ax H' X.R (S.pl+x.size)→H D=none→X.f H' D=some (.lst (vN (bn ((X.B.drop S.pl).take x.size))))→Q (.ref D) H'
 | .error (k,p)=> ∀H' S' hv b,ae (X.f H) H'→HI K A H' X S' hv b→S'.w=S.w→dv A.ax H' X.R k p→E (.ref A.bV) none H'
def LM (K:PySem.W.Frag) (A:aW):Sp:=fun vs H Q E=> ∃(X:Hx) (S:Hs) (hv:V) (b:Addr) (h:Sound.Head) (k:Nat),vs= [.ref X.p, .int (k:Nat)]∧HI K A H X S hv b∧aG A.ax H X.R S.pl∧(S.w.head=some h∧Sound.mayHead h=true∧S.w.s.length≤1000000)∧FT K A H X S hv b (ym X.B h S.pl k) Q E
theorem oR:aK ["hearing", "k", "form", "reading", "begin", "taken"] ["hearing", "k"] (aB y8):=⟨rfl,rfl,rfl,by decide+kernel,rfl,by decide+kernel,by decide+kernel⟩
theorem Nn (T:Txt K mg A):az P w K mg base (aY P w) 14 A.pf A.nY ["hearing", "k"] (LM K A):=by
 refine T.DS.bO oR (fun vs H Q E h=>?_) (fun cdv Ar outer s H vs Q E hr h=>?_)
 ·obtain ⟨X,S,hv,b,h,k,rfl,_⟩:=h
  rfl
 ·obtain ⟨X,S,hv,b,h,k,rfl,hi,hS,⟨eh,hm,hsl⟩,q⟩:=h
  have hr1':aE 1 _:=hr.mono (by decide)
  have hr2':aE 2 _:=hr.mono (by decide)
  have hr3':aE 3 _:=hr.mono (by decide)
  refine ⟨_,ai (aJ (i:=2) oR.nd rfl (Or.inl rfl) (ay (ay (pv 0) rfl) rfl))
   (ai (aJ (i:=3) oR.nd rfl (Or.inl rfl) (ay (pv 0) rfl))
   (ai (aJ (i:=4) oR.nd rfl (Or.inl rfl) (ay (pv 3) rfl))
   (ai (sR rfl rfl rfl (fun E pn xe hp ho=>ak (aJ (i:=5) oR.nd rfl (Or.inl rfl) (yC (Jb T) hr rfl T.G6 T.Fc.kp T.Jg .nil hp (aa (pv 2) (aa (eH (Bh (K:=K) rfl) (xW (K:=K) rfl (pv 3) rfl) (cD (pv 4)) (cD (au bS (pv 4) (aR rfl T.xX)))) af)))))
    (NJ rfl T.eY rfl T.fg (fun x ps n hpc=>ak (ba (E7 (tD hpc) (pv 3) T.aM T.dC (Fz T) (hr1'.h _) T.dz (EE hr.hd rfl rfl rfl jS) (aa (aR rfl T.rp) (aa (pv 4) af)))))
     T.uq rfl T.sx (fun x ps n hpc=>ak (ba (NI (tD hpc) (pv 3) T.aM T.Bw (QE T) (hr2'.h _) T.By (EE hr.hd rfl rfl rfl jS)))) T.zU.symm))
   (ai (bg (PW.pt (l9 (bc fE (ay (pv 5) rfl) (pv 1) (aZ _)) (rl (bc fE (ay (pv 5) rfl) (aU (pv 2) T.b8 T.Mo (M4 T) hr1' T.Jf .nil aQ (aa (pv 1) (aa (ay (ay (pv 0) rfl) rfl) af))) (aZ _))))) (ak (ba (aU (pv 3) T.aM T.dC (dS T) hr1' T.dz .nil aN (aa (aR rfl T.rp) (aa (pv 4) af))))) br)
   (ai (Nw (pv 0) aq O0)
   (ai (ba (gS PySem.F.plainAttrs_list PySem.F.slot_list_extend PySem.F.type_list_extend tw (ay (pv 0) rfl) (aa (ay (pv 5) rfl) af)))
   (ak (aX (aU (pv 3) T.aM T.i9 (iX T) hr3' T.iV .nil aN (aa (ay (pv 5) rfl) af)))))))))),?_⟩
  obtain ⟨⟨n1,n2,n3,n4⟩,⟨n5,n6,n7⟩,⟨n8,n9⟩,n10⟩:=fY hi.nd
  have hx:=hi.hh
  rw[eh] at hx
  obtain ⟨x,rfl,dx,f,hx1,df,hf⟩:=hx
  have hx1':=(cG hx1).1
  have hf':=(cG hf).1
  have ao:=(gy hm).1
  obtain ⟨_,_,⟨hb1,hb2⟩,_⟩:=g9 ao
  have hSr:=hS
  unfold aG at hSr
  refine (aD rfl hi.hp T.bJ T.gM rfl (fI hx1' T.fi T.kN rfl ?_))
  refine (aD rfl hi.hp T.bJ T.gI rfl ?_)
  refine (aD rfl hSr T.aM T.cC rfl ?_)
  refine ⟨_,rfl,aD rfl hSr T.aM T.gb rfl ⟨_,rfl,_,rfl,_,rfl,ag _ _ ⟨rfl,rfl,_,rfl,ag X.q _ ⟨rfl,hi.fD.sq,fun D0 hD0=>?_⟩⟩⟩⟩
  dsimp only
  rw[show ((S.pl:Nat):Int)+4096=((S.pl+4096:Nat):Int) by lia,show X.R.B=X.B from rfl,kb,show S.pl+4096-S.pl=4096 by lia,gO,fH]
  have s1:=aF (o:= .lst (vN (bn ((X.B.drop S.pl).take 4096)))) hD0
  refine (aA f D0 (Sound.eager h.form) _ ⟨rfl,⟨df,s1 _ _ hf'⟩,ah.of aj,Dn ao,?_⟩)
  generalize upd H D0 (.lst (vN (bn ((X.B.drop S.pl).take 4096))))=H1 at*
  rw[Pf,QU]
  unfold AF
  unfold ym at q
  have stop: ∀(H2:Hp) (kk pp:Nat),ae H H2→(∀H' S' hv b,ae (X.f H) H'→HI K A H' X S' hv b→S'.w=S.w→dv A.ax H' X.R kk pp→E (.ref A.bV) none H')→E (.ref A.bV) none (upd H2 X.r (.ins A.ax X.dr (bw (.ref X.R.q) (.int (S.pl:Nat)) (.int (kk:Nat)) (.int (pp:Nat))))):=fun H2 kk pp s2 z=>by
   have s3:=bp (jW s2) (cO (r:=X.r) (H:=H2) (o:= .ins A.ax X.dr (bw (.ref X.R.q) (.int (S.pl:Nat)) (.int (kk:Nat)) (.int (pp:Nat)))))
   exact z _ S _ _ (cN X.mr s3) (hi.go s3) rfl ⟨_,aj⟩
  cases e:Sound.unframe h.form (X.B.drop S.pl) with
  |bad=>
   rw[e] at q
   intro H2 s2
   have hS2:=s2 _ _ (s1 _ _ hSr)
   exact .inl ⟨rfl,aS rfl hS2 rfl ⟨_,rfl,dH X.r X.dr _ _ _ _ 9 S.pl ⟨rfl,hS2,stop H2 9 S.pl (s1.trans s2) q⟩⟩⟩
  |short=>
   rw[e] at q
   intro H2 s2
   have hS2:=s2 _ _ (s1 _ _ hSr)
   refine .inr ⟨rfl,aS rfl hS2 rfl (ve X.r X.dr X.q _ _ _ _ ⟨rfl,hS2,(s1.trans s2).seq hi.fD.sq,?_⟩)⟩
   rw[aO,bx]
   exact stop H2 1 X.B.length (s1.trans s2) q
  |frame y=>
   rw[e] at q
   dsimp only at q⊢
   intro o H2 ho s2 hy
   obtain ⟨dy,Dy,hy1,hy2⟩:=id hy
   obtain ⟨hn1,hk20⟩:=PX e
   obtain ⟨hz1,hz2,hz3⟩:=vE e
   have hyl:=vc ao e
   rw[List.length_drop] at hz3
   have s12:=s1.trans s2
   have hS2:=s12 _ _ hSr
   have i2:=hi.same s12
   have hf2:=s12 _ _ hf'
   refine (aD rfl hy1 T.jb T.CF rfl ⟨_,rfl,rfl,_,rfl,?_⟩)
   by_cases ck:y.k=k
   case neg=>
    rw[decide_eq_false (fun z=>ck (by have:=V.int.inj z;lia))]
    rw[if_pos (.inl ck)] at q
    exact bt (bt (aS rfl hS2 rfl ⟨_,rfl,dH X.r X.dr _ _ _ _ 9 S.pl ⟨rfl,hS2,stop H2 9 S.pl s12 q⟩⟩))
   rw[decide_eq_true (by rw[ck])]
   refine bA (aD rfl hy1 T.jb T.yR rfl (aS rfl hf2 rfl ⟨_,rfl,aD rfl i2.hp T.bJ T.gM rfl (fI (s12 _ _ hx1') T.fi T.r6 rfl (aA f (Sound.eager h.form) k h.n ⟨rfl,⟨df,hf2⟩,by show h.form.block≤256;lia,rfl,_,rfl,?_⟩))⟩))
   have el:decide (V.int ((y.n:Nat):Int)=V.int (min (((Sound.eager h.form).block:Nat):Int) ((h.n:Int)-(k:Int)*(((Sound.eager h.form).block:Nat):Int))))=decide (y.n=Sound.frameLen h.form h.n k):=by
    rw[show (Sound.eager h.form).block=h.form.block from rfl]
    unfold Sound.frameLen
    have e1:((k*h.form.block:Nat):Int)=(k:Int)*(h.form.block:Int):=by lia
    by_cases c:y.n=min h.form.block (h.n-k*h.form.block)
    ·rw[decide_eq_true c,decide_eq_true]
     congr 1
     rw[←e1];lia
    ·rw[decide_eq_false c,decide_eq_false]
     intro z
     have z:=V.int.inj z
     rw[←e1] at z
     exact c (by lia)
   rw[el]
   by_cases cn:y.n=Sound.frameLen h.form h.n k
   case neg=>
    rw[decide_eq_false cn]
    rw[if_pos (.inr cn)] at q
    exact bt (aS rfl hS2 rfl ⟨_,rfl,dH X.r X.dr _ _ _ _ 9 S.pl ⟨rfl,hS2,stop H2 9 S.pl s12 q⟩⟩)
   rw[decide_eq_true cn]
   rw[if_neg (fun z=>z.elim (fun z=>z ck) fun z=>z cn)] at q
   refine bA ⟨_,rfl,X.p,A.bu,X.dp,_,_,rfl,i2.hp,T.bJ,T.Aw,rfl,_,_,rfl,rfl,X.dp,_,i2.hp,(by show 7<1000;decide),?_⟩
   rw[JP,show ((S.w.frames:Nat):Int)+1=((S.w.frames+1:Nat):Int) by lia]
   have i3:=i2.fr (S.w.frames+1)
   have s3:ae (b5 X.l3 H2) _:=jo (o:= .ins A.bu X.dp (cM (.ref X.r) (.ref x) (.ref X.t) (.ref X.a) (.ref b) (.int ((S.w.frames+1:Nat):Int)) (.ref X.c))) X.Ic
   have hop:o≠X.p:=fun z=>by rw[z,s1 _ _ hi.hp] at ho;cases ho
   have hoc:o≠X.c:=fun z=>by rw[z,s1 _ _ hi.hc] at ho;cases ho
   have hDp:Dy≠X.p:=fun z=>by rw[z,i2.hp] at hy2;cases hy2
   have hy1':=bK (o:= .ins A.bu X.dp (cM (.ref X.r) (.ref x) (.ref X.t) (.ref X.a) (.ref b) (.int ((S.w.frames+1:Nat):Int)) (.ref X.c))) hop hy1
   have hy2':=bK (o:= .ins A.bu X.dp (cM (.ref X.r) (.ref x) (.ref X.t) (.ref X.a) (.ref b) (.int ((S.w.frames+1:Nat):Int)) (.ref X.c))) hDp hy2
   have hS3:=bK (o:= .ins A.bu X.dp (cM (.ref X.r) (.ref x) (.ref X.t) (.ref X.a) (.ref b) (.int ((S.w.frames+1:Nat):Int)) (.ref X.c))) n1.symm hS2
   generalize upd H2 X.p (.ins A.bu X.dp (cM (.ref X.r) (.ref x) (.ref X.t) (.ref X.a) (.ref b) (.int ((S.w.frames+1:Nat):Int)) (.ref X.c)))=H3 at*
   refine (aD rfl i3.hp T.bJ T.xS rfl ⟨.inl ⟨rfl,_,ah.of i3.hc⟩,aD rfl hy1' T.jb T.Ge rfl (aA X.c Dy _ _ ⟨rfl,rfl,i3.hc,hy2',(by rw[List.length_map,List.length_map,sizeLine_eq];show S.w.s.length+_≤_;lia),?_⟩)⟩)
   rw[←List.map_append]
   generalize hH4:upd H3 X.c _=H4
   have hH4:upd H3 X.c (.lst ((S.w.s++y.s).map V.int))=H4:=hH4
   have i4:=i3.num (S.w.s++y.s)
   have s4:ae (b5 X.l3 H3) H4:=by rw[←hH4];exact jo X.O7
   have hy1'':=bK (o:= .lst ((S.w.s++y.s).map V.int)) hoc hy1'
   have hS4:=bK (o:= .lst ((S.w.s++y.s).map V.int)) n7 hS3
   rw[hH4] at i4 hy1'' hS4
   have sA:ae (b5 X.l3 H) H4:=cc (cc (kr s12) s3) s4
   refine (aS rfl hS4 rfl (aD rfl hy1'' T.jb T.Fu rfl (bE X.R S.pl y.size ⟨rfl,i4.fD,hS4,?_⟩)))
   unfold cP dO
   rw[if_neg (show¬X.R.B.length<S.pl+y.size by show¬X.B.length<_;lia)]
   dsimp only
   intro H5 s5 hS5 D hD hDx
   have hDo:=i4.off (pl:=0) (by rw[hS4];exact fun z=>by cases z) hD
   refine q D H5 (cc sA (cN X.Oc s5)) ((i4.go s5).sW _) hS5 ?_ ?_
   ·cases z:H D with
    |none=>rfl
    |some u=>
     have:=sA D u (by rw[dW (fun y=>hDo (X.tE D y))];exact z)
     rw[this] at hD;cases hD
   ·rw[show X.f H5 D=H5 D from dW hDo]
    exact hDx
def LG (K:PySem.W.Frag):Sp:=fun vs H Q _=> ∃(q:Addr) (xs:List V),vs= [.ref q]∧ah K H q xs∧xs.length≤1000000∧ ∀D H',H D=none→ae H H'→H' D=some (.lst (.int (xs.length:Nat)::xs))→Q (.ref D) H'
theorem Li:aK ["data"] ["data"] (aB Gk):=⟨rfl,rfl,rfl,by decide+kernel,rfl,by decide+kernel,by decide+kernel⟩
theorem J5 (T:Txt K mg A):az P w K mg base a9 1 A.mW A.lO ["data"] (LG K):=by
 refine T.EF.ok Li (fun vs H Q E h=>?_) (fun cdv Ar outer s H vs Q E hr h=>?_)
 ·obtain ⟨q,l,rfl,_⟩:=h
  rfl
 ·obtain ⟨q,l,rfl,hq,hl,k⟩:=h
  refine ⟨_,ak (aX (au fc (bZ (aa (bX cx (by rfl) T.cj PySem.boot_len (aa (pv 0) af)) af)) (pv 0))),?_⟩
  refine ⟨_,rfl,q,_,rfl, .inl hq,by rw[sizeLine_eq];show 1≤_;lia,fun p hp=>?_⟩
  refine ⟨_,rfl,p,q,_,_,rfl,rfl,ah.of aj,(aF hp).seq hq,(by rw[sizeLine_eq];show 1+_≤_;lia),fun p2 hp2=>?_⟩
  have n2:H p2=none:=(aF hp).none hp2
  exact k p2 _ n2 (fh (aF hp) n2) aj
def eZ (fs:List Sound.Bytes):List (List Nat):=fs.map bn
theorem N3 {l:List Nat} (h: ∀x∈l,x<256):bn (Sound.toBytes l)=l:=by
 unfold bn Sound.toBytes
 rw[List.map_map]
 conv=>rhs;rw[←List.map_id l]
 refine List.map_congr_left fun x hx=>?_
 have:=h x hx
 simp [UInt8.toNat_ofNat',Nat.mod_eq_of_lt this]
theorem d7 (c n:Nat):bn (Sound.high c n)=aT c n:=J2 c n
theorem lU {j:Nat} (h:j<256):aT 1 j= [j]:=by
 unfold aT
 simp [List.range_succ,Nat.mod_eq_of_lt h]
theorem QO {r:Nat} {b:Sound.Bytes} (h:b.length+2≤r):Sound.rowIn r b=cZ r (bn b):=by
 unfold Sound.rowIn cZ
 have e:(Sound.rowOf b).map UInt8.toNat=aT 2 (bn b).length++bn b:=by
  unfold Sound.rowOf
  rw[bx,←d7,←dJ];rfl
 simp only [e]
 rw[List.length_append,bG,bx,show r-(2+b.length)=r-2-b.length by lia,List.take_of_length_le]
 rw[List.length_append,List.length_append,bG,bx,List.length_replicate];lia
theorem IZ {r j:Nat} {fs:List Sound.Bytes} (h: ∀b∈fs,b.length+2≤r):Sound.sumRows r j (Sound.numbered fs)=iB r j (eZ fs):=by
 unfold Sound.sumRows Sound.numbered iB eZ
 rw[List.foldl_map,List.zipIdx_map,List.foldl_map]
 have key: ∀(L:List (Sound.Bytes×Nat)) (a:List Nat),(∀x∈L,x.1.length+2≤r)→L.foldl (fun a x=>Sound.added a (Sound.scaled (Sound.factor x.2 j) (Sound.rowIn r x.1))) a=L.foldl (fun a x=>Sound.added a ((cZ r (Prod.map bn id x).1).map (Sound.mul (Sound.factor (Prod.map bn id x).2 j)))) a:=by
  intro L
  induction L with
  |nil=>intro a _;rfl
  |cons x L ih=>
   intro a hx
   rw[List.foldl_cons,List.foldl_cons,ih _ fun y hy=>hx y (List.mem_cons_of_mem _ hy),QO (hx x (List.mem_cons_self ..))]
   rfl
 exact key _ _ fun x hx=>h _ (List.fst_mem_of_mem_zipIdx hx)
theorem Lu {fs:List Sound.Bytes} (h:fs≠ []):Sound.longest fs=cX (eZ fs):=by
 unfold Sound.longest cX fC eZ
 rw[List.map_map]
 have e:(List.length∘bn)=fun b:Sound.Bytes=>b.length:=by funext b;exact bx b
 rw[e]
 obtain ⟨a,b,c⟩:=mI (fs.map fun b:Sound.Bytes=>b.length) 0
 generalize hm:(fs.map fun b:Sound.Bytes=>b.length).foldl max 0=m at*
 refine FP ?_ fun x hx=>?_
 ·rcases c with c|c
  ·subst c
   obtain ⟨x,fs,rfl⟩:=List.exists_cons_of_ne_nil h
   have:=b x.length (by simp)
   exact List.mem_map.mpr ⟨x,by simp,by lia⟩
  ·obtain ⟨x,hx,rfl⟩:=List.mem_map.mp c
   exact List.mem_map.mpr ⟨x,hx,rfl⟩
 ·obtain ⟨y,hy,rfl⟩:=List.mem_map.mp hx
  have:=b y.length (List.mem_map.mpr ⟨y,hy,rfl⟩)
  lia
theorem u7 (b:Sound.Bytes):bn (b++Sound.high 4 (Sound.crc32 b))=i8 (bn b):=by
 unfold i8
 rw[dJ,d7,←xg];rfl
theorem Nr {g j:Nat} {row:Sound.Bytes} (hj:j<256):bn (Sound.pieceOf g j row)=i8 (aT 2 0x4B50++aT 2 g++ [j]++aT 2 row.length++bn row):=by
 unfold Sound.pieceOf
 simp only
 rw[u7]
 congr 1
 rw[dJ,dJ,dJ,dJ,d7,d7,d7,d7,lU hj]
 simp only [List.append_assoc]
theorem Fs {g j:Nat} {fs:List Sound.Bytes} (hj:j<4) (h:fs≠ []) (hl:fs.length≤8):bn (Sound.spare fs g j)=lH g j (eZ fs):=by
 unfold Sound.spare lH
 rw[Nr (by lia),Lu h]
 unfold Sound.spareRow
 have hge: ∀b∈fs,b.length+2≤cX (eZ fs):=fun b hb=>by
  have:=qe (M:=eZ fs) (List.mem_map_of_mem hb)
  rwa [bx] at this
 have hge2: ∀m∈eZ fs,m.length+2≤cX (eZ fs):=fun m hm=>qe hm
 rw[IZ hge,N3 (EH hj (by unfold eZ;rw[List.length_map];exact hl))]
 have e:(Sound.toBytes (iB (cX (eZ fs)) j (eZ fs))).length=cX (eZ fs):=by
  unfold Sound.toBytes;rw[List.length_map,w8 hge2]
 rw[e]
def OG (C:Addr):Sp:=fun vs H Q _=> ∃(f:Addr) (F:Sound.Form) (k n:Nat),vs= [.ref f, .int (k:Nat), .int (n:Nat)]∧gk C H f F∧1≤F.group∧Q (.bl (decide ((k+1)%F.group=0∨k+1=n))) H
theorem RJ:aK ["self", "k", "frame_count"] ["self", "k", "frame_count"] (aB zS):=⟨rfl,rfl,rfl,by decide+kernel,rfl,by decide+kernel,by decide+kernel⟩
theorem OY (T:Txt K mg A):az P w K mg base a9 1 A.lQ A.pj ["self", "k", "frame_count"] (OG A.bM):=by
 refine T.Oz.ok RJ (fun vs H Q E h=>?_) (fun cdv Ar outer s H vs Q E hr h=>?_)
 ·obtain ⟨f,F,k,n,rfl,_⟩:=h
  rfl
 ·obtain ⟨f,F,k,n,rfl,⟨df,hf⟩,hg,q⟩:=h
  refine ⟨_,ak (aX (NW (iu dA (au lj (au bS (pv 1) aq) (ay (pv 0) rfl)) aq (aZ _)) (wA (iu dA (au bS (pv 1) aq) (pv 2) (aZ _))))),?_⟩
  refine ⟨_,rfl,ag _ _ ⟨rfl,rfl,aD rfl hf T.b8 T.rH rfl (ag _ _ ⟨rfl,rfl,(by show (0:Int)<(F.group:Nat);lia),rfl,_,rfl,?_⟩)⟩⟩
  have e2:(((k:Nat):Int)+1)%((F.group:Nat):Int)=(((k+1)%F.group:Nat):Int):=by
   rw[show ((k:Nat):Int)+1=((k+1:Nat):Int) by lia,←Int.natCast_emod]
  by_cases c:(k+1)%F.group=0
  ·rw[decide_eq_true (by show V.int ((((k:Nat):Int)+1)%((F.group:Nat):Int))=V.int 0;rw[e2,c];rfl)]
   rw[decide_eq_true (.inl c)] at q
   exact bt q
  ·rw[decide_eq_false (fun z=>c (by have z:V.int ((((k:Nat):Int)+1)%((F.group:Nat):Int))=V.int 0:=z;rw[e2] at z;have:=V.int.inj z;lia))]
   refine bA ⟨_,rfl,ag _ _ ⟨rfl,rfl,_,rfl,rfl,?_⟩⟩
   by_cases c2:k+1=n
   ·rw[decide_eq_true (by show V.int (((k:Nat):Int)+1)=V.int (n:Nat);rw[←c2];rfl)]
    rw[decide_eq_true (.inr c2)] at q
    exact q
   ·rw[decide_eq_false (fun z=>c2 (by have z:V.int (((k:Nat):Int)+1)=V.int (n:Nat):=z;have:=V.int.inj z;lia))]
    rw[decide_eq_false (fun z=>z.elim c c2)] at q
    exact q
def gK (F:Hp) (g:Addr) (grp:List Sound.Bytes):Prop:= ∃as:List Addr,F g=some (.lst (as.map V.ref))∧as.length=grp.length∧ ∀(k:Nat) (a:Addr),as[k]?=some a→F a=some (.lst (vN (bn (grp.getD k []))))
theorem gK.same {F F':Hp} {g:Addr} {grp:List Sound.Bytes} (h:gK F g grp) (s:ae F F'):gK F' g grp:=by
 obtain ⟨as,h1,h2,h3⟩:=h
 exact ⟨as,s _ _ h1,h2,fun k a e=>s _ _ (h3 k a e)⟩
theorem gK.rows {F:Hp} {g:Addr} {grp:List Sound.Bytes} (h:gK F g grp):jI K F g (grp.map bn):=by
 obtain ⟨as,h1,h2,h3⟩:=h
 refine ⟨as,ah.of h1,by rw[List.length_map];exact h2,fun k a e=>?_⟩
 have hk:k<grp.length:=by rw[←h2];exact (List.getElem?_eq_some_iff.mp e).1
 have:=ah.of (K:=K) (h3 k a e)
 rw[List.getD_eq_getElem?_getD,List.getElem?_map,List.getElem?_eq_getElem hk]
 rw[List.getD_eq_getElem?_getD,List.getElem?_eq_getElem hk] at this
 exact this
theorem gK.push {H:Hp} {g D:Addr} {as:List Addr} {grp:List Sound.Bytes} {x:Sound.Bytes} (h1:H g=some (.lst (as.map V.ref))) (h2:as.length=grp.length) (h3: ∀(k:Nat) (a:Addr),as[k]?=some a→H a=some (.lst (vN (bn (grp.getD k []))))) (hD:H D=some (.lst (vN (bn x)))) (hne:D≠g):gK (upd H g (.lst (as.map V.ref++ [V.ref D]))) g (grp++ [x]):=by
 refine ⟨as++ [D],by rw[aj];simp,by rw[List.length_append,List.length_append,h2];rfl,fun k a e=>?_⟩
 by_cases hk:k<as.length
 ·rw[List.getElem?_append_left hk] at e
  have ha:=h3 k a e
  have hag:a≠g:=fun z=>by
   rw[z,h1] at ha
   have ha:=HO.lst.inj (Option.some.inj ha)
   cases as with
   |nil=>simp at hk
   |cons y ys=>
    cases hq:bn (grp.getD k []) with
    |nil=>rw[hq] at ha;cases ha
    |cons m ms=>rw[hq] at ha;cases ha
  rw[aL hag,List.getD_eq_getElem?_getD,List.getElem?_append_left (by lia),←List.getD_eq_getElem?_getD]
  exact ha
 ·rw[List.getElem?_append_right (by lia)] at e
  have hk0:k-as.length=0:=by
   have:=(List.getElem?_eq_some_iff.mp e).1
   simp at this;lia
  rw[hk0] at e
  obtain rfl:D=a:=Option.some.inj e
  rw[aL hne,List.getD_eq_getElem?_getD,List.getElem?_append_right (by lia),show k-grp.length=0 by lia]
  exact hD
def AZ (n:Nat) (v:Sound.Told×(Sound.Stand⊕(Nat×Sound.Bytes))):Except (Sound.Told×Nat×Nat) (Sound.Told×Nat):=match v with
 |(w, .inl s)=> .error (w,dM n s)
 |(w, .inr (p,_))=> .ok (w,p)
def eK (B:Sound.Bytes) (h:Sound.Head) (S:Hs):Sound.Told×(Sound.Stand⊕(Nat×Sound.Bytes)):=Sound.judgeFrames h.form h.n S.pl ((B.drop (26+h.t)).take (3*Sound.framesOf h.form h.n)) (Sound.framesOf h.form h.n+1) 0 S.pl [] (B.drop S.pl) S.w
def f6:dQ:=⟨fun B S=>S.pl≤B.length∧S.w.s= []∧ ∃h,S.w.head=some h∧Sound.mayHead h=true∧S.starts=entries B (26+h.t) (Sound.framesOf h.form h.n),fun B S=>match S.w.head with
 |none=> .ok S
 |some h=>match AZ B.length (eK B h S) with
  | .error z=> .error z
  | .ok (w,p)=> .ok ⟨w,S.starts,S.idx,p⟩⟩
theorem tQ (f:Sound.Form) (n start:Nat) (idx:Sound.Bytes) (fuel k place:Nat) (grp:List Sound.Bytes) (b:Sound.Bytes) (w:Sound.Told) (hk:k≠Sound.framesOf f n):Sound.judgeFrames f n start idx (fuel+1) k place grp b w=
  if start+Sound.entry idx k≠place then (w, .inl (.fault 9 place)) else match Sound.unframe f b with
  | .bad=>(w, .inl (.fault 9 place))
  | .short=>(w, .inl .more)
  | .frame x=>if x.k≠k∨x.n≠Sound.frameLen f n k then (w, .inl (.fault 9 place)) else
   if (k+1)%f.group=0∨k+1=Sound.framesOf f n then (match Sound.judgeSpares (Sound.sparesOf f (grp++ [b.take x.size]) (k/f.group)) (place+x.size) (b.drop x.size) with
    | .inl s=>(fN w x, .inl s)
    | .inr (p,r)=>Sound.judgeFrames f n start idx fuel (k+1) p [] r (fN w x))
   else Sound.judgeFrames f n start idx fuel (k+1) (place+x.size) (grp++ [b.take x.size]) (b.drop x.size) (fN w x):=by
 conv=>lhs;unfold Sound.judgeFrames
 rw[if_neg hk]
 rfl
theorem rC (f:Sound.Form) (n start:Nat) (idx:Sound.Bytes) (fuel k place:Nat) (grp:List Sound.Bytes) (b:Sound.Bytes) (w:Sound.Told) (hk:k=Sound.framesOf f n):Sound.judgeFrames f n start idx (fuel+1) k place grp b w=(w, .inr (place,b)):=by
 unfold Sound.judgeFrames
 rw[if_pos hk]
theorem AN {h:Sound.Head} (e:Sound.mayHead h=true):Sound.framesOf h.form h.n≤129:=by
 have hn:=yY e
 obtain ⟨_,_,⟨hb1,hb2⟩,_⟩:=g9 (gy e).1
 unfold Sound.framesOf
 refine Nat.div_le_of_le_mul ?_
 have:=Nat.mul_le_mul (show 16≤h.form.block from hb1) (Nat.le_refl 128)
 lia
theorem HI.next {H H':Hp} {X:Hx} {S S':Hs} {hv:V} {b g:Addr} (h:HI K A (hide g H) X S hv b) (s:ae (b5 X.l3 H) H') (h':HI K A H' X S' hv b) (e1:S'.w.head=S.w.head) (e2:S'.w.tags=S.w.tags) (e3:S'.starts=S.starts) (e4:S'.idx=S.idx):HI K A (hide g H') X S' hv b:=by
 obtain ⟨⟨n1,n2,n3,n4⟩,⟨n5,n6,n7⟩,⟨n8,n9⟩,n10⟩:=fY h.nd
 have sf:ae (X.f (hide g H)) (X.f (hide g H')):=fun y o e=>by
  obtain ⟨q1,q2⟩:=cG e
  obtain ⟨q3,q4⟩:=cq q1
  rw[show X.f (hide g H') y=hide g H' y from dW q2,hide_ne q4]
  exact s y o (by rw[dW (fun z=>q2 (X.tE y z))];exact q3)
 have off: ∀{y o},hide g H y=some o→y≠g:=fun q=>(cq q).2
 have kt: ∀y o,y≠X.p→y≠X.r→y≠X.c→hide g H y=some o→hide g H' y=some o:=fun y o z1 z2 z3 q=>by
  rw[hide_ne (off q)]
  refine s y o ?_
  rw[dW (fun z=>by
   simp only [Hx.l3,List.mem_cons,List.not_mem_nil,or_false] at z
   rcases z with z|z|z
   ·exact z1 z
   ·exact z2 z
   ·exact z3 z)]
  exact (cq q).1
 obtain ⟨as,t1,t2,t3⟩:=h.ht
 refine ⟨h.nd,by rw[hide_ne (off h.hp)];exact h'.hp,by rw[e1];exact h.hh.same sf,⟨as,kt _ _ n2.symm n5.symm n9 t1,by rw[e2];exact t2,fun k a q=>by rw[e2];exact (t3 k a q).same sf⟩,by rw[e3];exact kt _ _ n3.symm n6.symm n10 h.ha,by rw[hide_ne (off h.hc)];exact h'.hc,by rw[e4];exact sf _ _ h.hb,sf.seq h.hq,h.hl⟩
theorem HI.rm {H H':Hp} {X:Hx} {S:Hs} {hv:V} {b g:Addr} (h:HI K A (hide g H) X S hv b) (s:ae (hide X.r H) H'):HI K A (hide g H') X S hv b:=h.go fun y o e=>by
 obtain ⟨e1,e2⟩:=cq e
 obtain ⟨e3,e4⟩:=cq e1
 rw[hide_ne e4]
 exact s y o (by rw[hide_ne e2];exact e3)
theorem HI.full {H:Hp} {X:Hx} {S:Hs} {hv:V} {b g:Addr} (h:HI K A (hide g H) X S hv b):HI K A H X S hv b:=h.same (dZ _ _)
theorem Qb {l:List Addr} {H:Hp} {g:Addr} {o:HO} (hg:g∉l):b5 l (upd H g o)=upd (b5 l H) g o:=by
 funext y
 by_cases e:y=g
 ·rw[e,aj,dW hg,aj]
 ·rw[aL e]
  unfold b5
  split
  ·rfl
  ·rw[aL e]
theorem ra {H H':Hp} {g:Addr} (hg:H g=none) (s:ae H H'):ae H (hide g H'):=fun b o e=>by rw[hide_ne (cH e hg)];exact s b o e
theorem Jt {g j:Nat} {fs:List Sound.Bytes} (hj:j<4) (hne:fs≠ []) (h8:fs.length≤8) (hl: ∀b∈fs,b.length≤4096):7≤(Sound.spare fs g j).length∧(Sound.spare fs g j).length≤5000:=by
 have e:=congrArg List.length (Fs (g:=g) hj hne h8)
 rw[bx] at e
 rw[e]
 have hall: ∀m∈eZ fs,m.length≤4096:=fun m hm=>by
  obtain ⟨b,hb,rfl⟩:=List.mem_map.mp hm
  rw[bx];exact hl b hb
 unfold lH i8
 have:=F5 hall
 rw[List.length_append,bG,List.length_append,w8 (fun m hm=>qe hm),List.length_append,List.length_append,List.length_append,bG,bG,bG]
 show 7≤_+1+_+_+_∧_+1+_+_+_≤_
 lia
theorem wK (w:Sound.Bytes) (ws:List Sound.Bytes) (place:Nat) (b:Sound.Bytes):Sound.judgeSpares (w::ws) place b=match Sound.expects [2,4,5,7] w b with
  |some false=> .inl (.fault 9 place)
  |none=> .inl .more
  |some true=>Sound.judgeSpares ws (place+w.length) (b.drop w.length):=by
 conv=>lhs;unfold Sound.judgeSpares
 cases Sound.expects [2,4,5,7] w b with
 |none=>rfl
 |some c=>cases c<;>rfl
theorem KP {f:Sound.Form} {fs:List Sound.Bytes} {g j:Nat} (h:j<f.spare):(Sound.sparesOf f fs g).drop j=Sound.spare fs g j::(Sound.sparesOf f fs g).drop (j+1):=by
 unfold Sound.sparesOf
 rw[List.drop_eq_getElem_cons (by rw[List.length_map,List.length_range];exact h),List.getElem_map,List.getElem_range]
theorem iz:aK ["hearing", "form", "reading", "first", "group", "k", "start", "j"] ["hearing"] (aB z8):=⟨rfl,rfl,rfl,by decide+kernel,rfl,by decide+kernel,by decide+kernel⟩
theorem Bx {w b:Sound.Bytes} {cuts:List Nat} (h:Sound.expects cuts w b=some true):w.length≤b.length:=by
 unfold Sound.expects at h
 split at h
 ·cases h
 ·split at h
  ·cases h
  ·lia
theorem N5 (T:Txt K mg A):az P w K mg base (aY P w) 15 A.kj A.oX ["hearing"] (iI K A f6):=by
 refine T.zy.bO iz (fun vs H Q E h=>?_) (fun cdv Ar outer s H vs Q E hr h=>?_)
 ·obtain ⟨X,S,hv,b,rfl,_⟩:=h
  rfl
 ·obtain ⟨X,S,hv,b,rfl,hi,hS,⟨hplB,hs0,h,eh,hm,hst⟩,k⟩:=h
  have hr1':aE 1 _:=hr.mono (by decide)
  have hr4':aE 4 _:=hr.mono (by decide)
  have hr5':aE 5 _:=hr.mono (by decide)
  refine ⟨_,ai (aJ (i:=1) iz.nd rfl (Or.inl rfl) (ay (ay (pv 0) rfl) rfl))
   (ai (aJ (i:=2) iz.nd rfl (Or.inl rfl) (ay (pv 0) rfl))
   (ai (aJ (i:=3) iz.nd rfl (Or.inl rfl) (ay (pv 2) rfl))
   (ai (aJ (i:=4) iz.nd rfl (Or.inl rfl) (bZ af))
   (ak (cw PassesOwn.leaving rfl (A5 rfl T.C8 (aa (ay (pv 0) rfl) af)) (nu (K:=K) (n:=2) rfl rfl (gX (bq (i:=5) iz.nd rfl (Or.inl rfl)) (gX (bq (i:=6) iz.nd rfl (Or.inl rfl)) mY)))
    (ai (bg (bc fE (ay (pv 2) rfl) (au bS (pv 3) (pv 6)) (aZ _)) (ak (ba (aU (pv 2) T.aM T.dC (dS T) hr1' T.dz .nil aN (aa (aR rfl T.rp) (aa (ay (pv 2) rfl) af))))) br)
    (ai (ba (gS PySem.F.plainAttrs_list PySem.F.slot_list_append PySem.F.type_list_append qP (pv 4) (aa (aP (Nn T) hr rfl T.KG T.DS.kp T.Sh .nil aN (aa (pv 0) (aa (pv 5) af))) af)))
    (ak (bg (iS (aU (pv 1) T.b8 T.OS (OY T) hr1' T.QT .nil aQ (aa (pv 5) (aa (bX cx (by rfl) T.cj PySem.boot_len (aa (ay (pv 0) rfl) af)) af))))
     (ai (cw PassesOwn.leaving rfl (fu rfl T.dU (aa (ay (pv 1) rfl) af)) (bq (i:=7) iz.nd rfl (Or.inl rfl))
       (ak (ba (aP (Sd T) hr4' rfl T.Oe T.Ct.kp T.LI .nil aN (aa (pv 2) (aa (aP (QY T) hr5' rfl T.QM T.BD.kp T.KL .nil aQ (aa (au jG (pv 5) (ay (pv 1) rfl)) (aa (pv 7) (aa (pv 4) af)))) af))))))
      (ak (aJ (i:=4) iz.nd rfl (Or.inl rfl) (bZ af))))
     br))))))))),?_⟩
  obtain ⟨⟨n1,n2,n3,n4⟩,⟨n5,n6,n7⟩,⟨n8,n9⟩,n10⟩:=fY hi.nd
  have hx:=hi.hh
  rw[eh] at hx
  obtain ⟨x,rfl,dx,f,hx1,df,hf⟩:=hx
  have hx1':=(cG hx1).1
  have hf':=(cG hf).1
  have ao:=(gy hm).1
  have hN129:=AN hm
  obtain ⟨_,_,⟨hb1,hb2⟩,hord,⟨hg1,hg2⟩,hsp⟩:=g9 ao
  have e62:(2:Int)^62=4611686018427387904:=by decide
  have z0:([]:List V).length≤sizeLine:=by rw[sizeLine_eq];exact Nat.zero_le _
  have hSr:=hS
  unfold aG at hSr
  have kE: ∀w' st,eK X.B h S=(w', .inl st)→ ∀H' S' hv b,ae (X.f H) H'→HI K A H' X S' hv b→S'.w=w'→dv A.ax H' X.R (dM X.B.length st).1 (dM X.B.length st).2→E (.ref A.bV) none H':=fun w' st e=>by
   unfold iL f6 at k
   dsimp only at k
   rw[eh] at k
   dsimp only at k
   rw[e] at k
   exact k
  have kO: ∀w' p r,eK X.B h S=(w', .inr (p,r))→ ∀H' hv b,ae (X.f H) H'→HI K A H' X ⟨w',S.starts,S.idx,p⟩ hv b→aG A.ax H' X.R p→Q .aw H':=fun w' p r e=>by
   unfold iL f6 at k
   dsimp only at k
   rw[eh] at k
   dsimp only at k
   rw[e] at k
   exact k
  clear k
  generalize hJ:eK X.B h S=J at*
  unfold eK at hJ
  have hsl:S.starts.length=Sound.framesOf h.form h.n:=by rw[hst];unfold entries;rw[List.length_map,List.length_range]
  have hse: ∀i,i<Sound.framesOf h.form h.n→S.starts.getD i 0=Sound.entry ((X.B.drop (26+h.t)).take (3*Sound.framesOf h.form h.n)) i:=fun i aT=>by
   rw[hst];unfold entries
   rw[List.getD_eq_getElem?_getD,List.getElem?_map,List.getElem?_range aT];rfl
  generalize hxb:(X.B.drop (26+h.t)).take (3*Sound.framesOf h.form h.n)=xb at*
  refine (aD rfl hi.hp T.bJ T.gM rfl (fI hx1' T.fi T.kN rfl ?_))
  refine (aD rfl hi.hp T.bJ T.gI rfl ?_)
  refine (aD rfl hSr T.aM T.cC rfl ?_)
  refine ⟨z0,fun g0 hg0=>?_⟩
  have sg:=aF (o:= .lst []) hg0
  refine (aD rfl (sg _ _ hi.hp) T.bJ T.oB rfl (ag X.a _ ⟨rfl,ah.of (sg _ _ hi.ha),?_⟩))
  have hrn:H X.r≠none:=fun z=>by rw[show X.r=X.R.r from rfl,hSr] at z;cases z
  refine FA (J:=ua K X.a) (Sound.framesOf h.form h.n) (fun i σ H'=> ∃(g:Addr) (grp:List Sound.Bytes) (w':Sound.Told) (pl:Nat) (v5 v6 v7:Option V),σ= [some (.ref X.p),some (.ref f),some (.ref X.r),some (.int (S.pl:Nat)),some (.ref g),v5,v6,v7]∧
    H g=none∧g∉X.l∧ae (X.f H) H'∧HI K A (hide g H') X ⟨w',S.starts,S.idx,pl⟩ (.ref x) b∧aG A.ax H' X.R pl∧gK (X.f H') g grp∧(pl≤X.B.length∧(i<Sound.framesOf h.form h.n→grp.length=i%h.form.group)∧(∀m∈grp,m.length≤4096)∧w'.s.length≤2560*i∧w'.head=some h)∧
    Sound.judgeFrames h.form h.n S.pl xb (Sound.framesOf h.form h.n-i+1) i pl grp (X.B.drop pl) w'=J) ?_ ?_ ?_ ?_ ?_
  ·refine ⟨g0, [],S.w,S.pl,none,none,none,rfl,hg0,hi.off (pl:=0) hrn hg0,kr sg,hi.same (ra hg0 sg),sg _ _ hS,⟨[],?_,rfl,fun k a e=>by simp at e⟩,⟨hplB,fun _=>by simp,(fun m hm=>by cases hm),by rw[hs0];exact Nat.zero_le _,eh⟩,hJ⟩
   rw[show X.f _ g0=_ from dW (hi.off (pl:=0) hrn hg0)]
   exact aj
  ·rintro i σ H1 aT ⟨g,grp,w',pl,v5,v6,v7,rfl,hgn,hgl,s1,i1,hS1,hG1,_⟩
   exact ⟨_,_,ah.of i1.full.ha,fF (by show i<S.starts.length;lia)⟩
  ·rintro σ H1 ⟨g,grp,w',pl,v5,v6,v7,rfl,hgn,hgl,s1,i1,hS1,hG1,_⟩
   exact ⟨_,ah.of i1.full.ha,by rw[aO];show S.starts.length≤_;lia⟩
  ·rintro i σ H0 x0 H0' aT ⟨g,grp,w',pl,v5,v6,v7,rfl,hgn,hgl,s0,i0,hS0,hG0,⟨hpl,hgi,hgm,hws,hwh⟩,hJi⟩ ⟨T1,x1,rfl,hT1,rfl,hzz⟩
   obtain ⟨rfl,_⟩:=eT (hzz _ (ah.of i0.full.ha))
   have sT:=aF (o:= .tup [.int (i:Nat), .int ((S.starts.getD i 0:Nat):Int)]) hT1
   refine (ag T1 _ ⟨rfl,a8.of aj,rfl,ag _ _ ⟨rfl,ag _ _ ⟨rfl,rfl,?_⟩⟩⟩)
   have s1:=s0.trans sT
   have i1:=i0.same (rb (D:=g) sT)
   have hS1:=sT _ _ hS0
   have hG1:=hG0.same (f7 ((kG X.l H0).trans sT))
   generalize upd H0 T1 (.tup [.int (i:Nat), .int ((S.starts.getD i 0:Nat):Int)])=H1 at*
   rw[tQ _ _ _ _ _ _ _ _ _ _ (by lia)] at hJi
   rw[hse i aT]
   generalize hent:Sound.entry xb i=en at*
   have hi1:i1.full.ha=i1.full.ha:=rfl
   have hS1r:=hS1
   unfold aG at hS1r
   have hgr:X.r≠g:=fun z=>hgl (by rw[←z];exact X.mr)
   have stop: ∀(H2:Hp) (w2:Sound.Told) (p2 kk pp:Nat),ae (X.f H) H2→HI K A H2 X ⟨w2,S.starts,S.idx,p2⟩ (.ref x) b→(∀H' S' hv b,ae (X.f H) H'→HI K A H' X S' hv b→S'.w=w2→dv A.ax H' X.R kk pp→E (.ref A.bV) none H')→E (.ref A.bV) none (upd H2 X.r (.ins A.ax X.dr (bw (.ref X.R.q) (.int (p2:Nat)) (.int (kk:Nat)) (.int (pp:Nat))))):=fun H2 w2 p2 kk pp s2 i2 z=>by
    have s3:=cO (r:=X.r) (H:=H2) (o:= .ins A.ax X.dr (bw (.ref X.R.q) (.int (p2:Nat)) (.int (kk:Nat)) (.int (pp:Nat))))
    exact z _ _ _ _ (cc s2 (cN X.mr s3)) (i2.go s3) rfl ⟨_,aj⟩
   refine (aD rfl hS1r T.aM T.cC rfl ⟨_,rfl,_,rfl,ag _ _ ⟨rfl,rfl,rfl,_,rfl,?_⟩⟩)
   by_cases c1:S.pl+en=pl
   case neg=>
    rw[if_pos c1] at hJi
    rw[decide_eq_false (fun z=>c1 (by have:=V.int.inj z;lia))]
    exact bt (aS rfl hS1r rfl (aD rfl hS1r T.aM T.cC rfl (dH X.r X.dr _ _ _ _ 9 pl ⟨rfl,hS1r,stop H1 w' pl 9 pl s1 i1.full (kE w' _ hJi.symm)⟩)))
   rw[if_neg (fun z=>z c1)] at hJi
   rw[decide_eq_true (by rw[←c1];rfl)]
   have hG1':=hG1
   obtain ⟨as,ha1,ha2,ha3⟩:=hG1'
   refine bA ⟨_,rfl, .inl ⟨rfl,_,ah.of (cG ha1).1⟩,_,rfl,_,rfl,oA X ⟨w',S.starts,S.idx,pl⟩ (.ref x) b h i ⟨rfl,i1.full,hS1,⟨hwh,hm,by show w'.s.length≤_;lia⟩,?_⟩⟩
   unfold FT ym
   dsimp only
   cases eu:Sound.unframe h.form (X.B.drop pl) with
   |bad=>
    rw[eu] at hJi
    dsimp only at hJi⊢
    exact fun H' S' hv b s' i' ew hF=>kE w' _ hJi.symm H' S' hv b (cc s1 s') i' ew hF
   |short=>
    rw[eu] at hJi
    dsimp only at hJi⊢
    exact fun H' S' hv b s' i' ew hF=>kE w' _ hJi.symm H' S' hv b (cc s1 s') i' ew hF
   |frame y=>
   rw[eu] at hJi
   dsimp only at hJi⊢
   by_cases c2:y.k≠i∨y.n≠Sound.frameLen h.form h.n i
   ·rw[if_pos c2] at hJi⊢
    exact fun H' S' hv b s' i' ew hF=>kE w' _ hJi.symm H' S' hv b (cc s1 s') i' ew hF
   rw[if_neg c2] at hJi⊢
   dsimp only
   obtain ⟨hz1,hz2,hz3⟩:=vE eu
   have hyl:=vc ao eu
   rw[List.length_drop] at hz3
   intro D H2 s2 i2 hS2 hD hDx
   have sf2:ae (X.f H1) (X.f H2):=f7 (Ea X.tE s2)
   have s12:ae (X.f H) H2:=cc s1 (Ea X.tE s2)
   have i2g:=i1.next s2 i2 rfl rfl rfl rfl
   have hDg:D≠g:=fun z=>by rw[z,(cG ha1).1] at hD;cases hD
   have hg2:=sf2 _ _ ha1
   refine (bE g _ _ ⟨rfl,rfl,(cG hg2).1,(by rw[List.length_map,ha2,sizeLine_eq,hgi aT];have:=Nat.mod_lt i hg1;lia),?_⟩)
   have hGp:gK (X.f (upd H2 g (.lst (as.map V.ref++ [V.ref D])))) g (grp++ [(X.B.drop pl).take y.size]):=by
    rw[show X.f (upd H2 g (.lst (as.map V.ref++ [V.ref D])))=upd (X.f H2) g (.lst (as.map V.ref++ [V.ref D])) from Qb hgl]
    exact gK.push hg2 ha2 (fun k a e=>sf2 _ _ (ha3 k a e)) hDx hDg
   have s23:ae (X.f H) (upd H2 g (.lst (as.map V.ref++ [V.ref D]))):=fun yy o e=>by
    rw[aL (cH (cG e).1 hgn)]
    exact s12 _ _ e
   have i3:HI K A (hide g (upd H2 g (.lst (as.map V.ref++ [V.ref D])))) X ⟨fN w' y,S.starts,S.idx,pl+y.size⟩ (.ref x) b:=by rw[FO];exact i2g
   have hS3:aG A.ax (upd H2 g (.lst (as.map V.ref++ [V.ref D]))) X.R (pl+y.size):=bK hgr hS2
   rw[List.drop_drop] at hJi
   generalize hfb:(X.B.drop pl).take y.size=fb at*
   have hfl:fb.length≤4096:=by rw[←hfb,List.length_take];lia
   generalize upd H2 g (.lst (as.map V.ref++ [V.ref D]))=H3 at*
   have hf3:H3 f=_:=s23 _ _ hf
   have i3f:=i3.full
   refine (aS rfl hf3 rfl ⟨_,rfl,aD rfl i3f.hp T.bJ T.oB rfl (ag X.a _ ⟨rfl, .inl (ah.of i3f.ha),aA f (Sound.eager h.form) i _ ⟨rfl,⟨df,hf3⟩,hg1,_,rfl,?_⟩⟩)⟩)
   rw[aO,show (Sound.eager h.form).group=h.form.group from rfl,show (⟨fN w' y,S.starts,S.idx,pl+y.size⟩:Hs).starts.length=Sound.framesOf h.form h.n from hsl]
   have hall: ∀m∈grp++ [fb],m.length≤4096:=fun m hmm=>by
    rcases List.mem_append.mp hmm with hmm|hmm
    ·exact hgm m hmm
    ·rw[List.mem_singleton.mp hmm];exact hfl
   have hws2:(fN w' y).s.length≤2560*(i+1):=by
    show (w'.s++y.s).length≤_
    rw[List.length_append];lia
   have hne:grp++ [fb]≠ []:=by simp
   have hgl8:(grp++ [fb]).length≤8:=by
    rw[List.length_append,hgi aT]
    have:=Nat.mod_lt i hg1
    show _+1≤8
    lia
   by_cases c3:(i+1)%h.form.group=0∨i+1=Sound.framesOf h.form h.n
   case neg=>
    rw[if_neg c3] at hJi
    rw[decide_eq_false c3]
    refine bA ⟨g,grp++ [fb],fN w' y,aA (pl+y.size) _ _ _ ⟨rfl,hgn,hgl,s23,i3,hS3,hGp,⟨by lia,fun hi2=>?_,hall,hws2,hwh⟩,?_⟩⟩
    ·have hc:=fun z=>c3 (.inl z)
     rw[List.length_append,hgi aT]
     show i%h.form.group+1=_
     have h1:=Nat.mod_lt i hg1
     have h2:=Nat.add_mod i 1 h.form.group
     rcases Nat.lt_or_ge (i%h.form.group+1) h.form.group with z|z
     ·rw[Nat.add_mod,Nat.mod_eq_of_lt (show 1<h.form.group by lia),Nat.mod_eq_of_lt z]
     ·exfalso
      refine hc ?_
      have e1:i+1=(i%h.form.group+1)+h.form.group*(i/h.form.group):=by
       have:=Nat.mod_add_div i h.form.group
       lia
      rw[e1,Nat.add_mul_mod_self_left,show i%h.form.group+1=h.form.group by lia,Nat.mod_self]
    ·rw[show Sound.framesOf h.form h.n-(i+1)+1=Sound.framesOf h.form h.n-i by lia]
     exact hJi
   rw[if_pos c3] at hJi
   rw[decide_eq_true c3]
   refine bt (aD rfl hf3 T.b8 T.vn rfl ⟨_,rfl,(by show _≤((h.form.spare:Nat):Int);lia),(by show ((h.form.spare:Nat):Int)<_;lia),?_⟩)
   generalize hjs:Sound.judgeSpares (Sound.sparesOf h.form (grp++ [fb]) (i/h.form.group)) (pl+y.size) (X.B.drop (pl+y.size))=js at*
   have esp:(((Sound.eager h.form).spare:Nat):Int).toNat=h.form.spare:=Int.toNat_natCast _
   refine fM (lo:=0) (n:=(((Sound.eager h.form).spare:Nat):Int).toNat) (fun j σ H'=> ∃(v7:Option V) (p':Nat),σ= [some (.ref X.p),some (.ref f),some (.ref X.r),some (.int (S.pl:Nat)),some (.ref g),some (.int (i:Nat)),some (.int (en:Nat)),v7]∧ae (hide X.r H3) H'∧aG A.ax H' X.R p'∧p'≤X.B.length∧Sound.judgeSpares ((Sound.sparesOf h.form (grp++ [fb]) (i/h.form.group)).drop j) p' (X.B.drop p')=js)
    (ag v7 (pl+y.size) ⟨rfl,dZ _ _,hS3,by lia,hjs⟩) ?_ ?_
   ·rintro j σ H4 hj ⟨v7,p',rfl,s4,hS4,hp',hj4⟩
    rw[esp] at hj
    rw[KP hj,wK] at hj4
    have i4:=i3.rm s4
    have sf4:ae (X.f H3) (X.f H4):=f7 (cN X.mr s4)
    have hG4:=hGp.same sf4
    have hf4:H4 f=_:=s4 _ _ (by rw[hide_ne (fun z=>(cG hf).2 (by rw[z];exact X.mr))];exact hf3)
    have hgc:7≤(Sound.spare (grp++ [fb]) (i/h.form.group) j).length∧(Sound.spare (grp++ [fb]) (i/h.form.group) j).length≤5000:=Jt (by lia) hne hgl8 hall
    refine ⟨_,rfl,_,rfl,aD rfl hf4 T.b8 T.rH rfl (ag _ _ ⟨rfl,rfl,⟨by show (0:Int)<((h.form.group:Nat):Int);lia,by show ((h.form.group:Nat):Int)<_;lia⟩,_,rfl,_,rfl,i/h.form.group,j,g,(grp++ [fb]).map bn,?_,(hG4.same (kG _ _)).rows,⟨by lia,by rw[List.length_map];exact List.length_pos_iff.mpr hne,by rw[List.length_map];exact hgl8⟩,fun m hmm=>?_,fun D5 H5 hD5 s5 hx5=>?_⟩)⟩
    ·show [V.int (((i:Nat):Int)/((h.form.group:Nat):Int)),V.int (0+((j:Nat):Int)),V.ref g]=_
     rw[←Int.natCast_ediv,Int.zero_add]
    ·obtain ⟨bb,hbb,rfl⟩:=List.mem_map.mp hmm
     exact ⟨by rw[bx];exact hall bb hbb,eX bb⟩
    ·rw[show lH (i/h.form.group) j ((grp++ [fb]).map bn)=bn (Sound.spare (grp++ [fb]) (i/h.form.group) j) from (Fs (by lia) hne hgl8).symm] at hx5
     have hS5:=s5 _ _ hS4
     have hS4r:=hS4
     unfold aG at hS4r
     have hDr:D5≠X.r:=fun z=>by rw[z,show X.r=X.R.r from rfl,hS4r] at hD5;cases hD5
     have i5:=i4.rm (jW s5)
     refine (aA X.R p' D5 (Sound.spare (grp++ [fb]) (i/h.form.group) j) ⟨rfl,i5.full.fD,hS5,ah.of (by rw[show X.R.r=X.r from rfl,hide_ne hDr];exact hx5),⟨hgc.1,by lia,hp'⟩,?_⟩)
     unfold DF
     have s45:=bp s4 (jW s5)
     show match Sound.expects [2,4,5,7] (Sound.spare (grp++ [fb]) (i/h.form.group) j) (X.B.drop p') with
      |some true=>_
      |some false=>_
      |none=>_
     cases ee:Sound.expects [2,4,5,7] (Sound.spare (grp++ [fb]) (i/h.form.group) j) (X.B.drop p') with
     |none=>
      rw[ee] at hj4
      dsimp only at hj4⊢
      subst hj4
      exact fun H6 s6 hF=>kE (fN w' y) _ hJi.symm H6 _ _ _ (cc s23 (cN X.mr (bp s45 s6))) ((i5.rm s6).full) rfl hF
     |some c=>
      rw[ee] at hj4
      cases c with
      |false=>
       dsimp only at hj4⊢
       subst hj4
       exact fun H6 s6 hF=>kE (fN w' y) _ hJi.symm H6 _ _ _ (cc s23 (cN X.mr (bp s45 s6))) ((i5.rm s6).full) rfl hF
      |true=>
       dsimp only at hj4⊢
       have hel:=Bx ee
       rw[List.length_drop] at hel
       rw[List.drop_drop] at hj4
       exact fun H6 s6 hS6=>(ag _ _ ⟨rfl,bp s45 s6,hS6,by lia,hj4⟩)
   ·rintro σ H4 ⟨v7,p',rfl,s4,hS4,hp',hj4⟩
    rw[esp,List.drop_eq_nil_of_le (by unfold Sound.sparesOf;rw[List.length_map,List.length_range];exact Nat.le_refl _)] at hj4
    have hj4:(.inr (p',X.B.drop p'):Sound.Stand⊕(Nat×Sound.Bytes))=js:=hj4
    subst hj4
    dsimp only at hJi
    have i4:=(i3.rm s4).full
    have s34:ae (X.f H) H4:=cc s23 (cN X.mr s4)
    refine ⟨z0,fun g' hg'=>?_⟩
    have sg':=aF (o:= .lst []) hg'
    have hS4r:=hS4
    unfold aG at hS4r
    have hgl':=i4.off (pl:=0) (fun z=>by rw[show X.r=X.R.r from rfl,hS4r] at z;cases z) hg'
    refine ⟨g', [],fN w' y,aA p' _ _ _ ⟨rfl,?_,hgl',s34.trans sg',(i4.same (ra hg' sg')).sW p',sg' _ _ hS4,⟨[],?_,rfl,fun k a e=>by simp at e⟩,⟨hp',fun hi2=>?_,(fun m hmm=>by cases hmm),hws2,hwh⟩,?_⟩⟩
    ·cases z:H g' with
     |none=>rfl
     |some u=>
      have:=s34 g' u (by rw[show X.f H g'=H g' from dW hgl'];exact z)
      rw[this] at hg';cases hg'
    ·rw[show X.f _ g'=_ from dW hgl']
     exact aj
    ·rcases c3 with c3|c3
     ·rw[c3];rfl
     ·lia
    ·rw[show Sound.framesOf h.form h.n-(i+1)+1=Sound.framesOf h.form h.n-i by lia]
     exact hJi
  ·rintro σ H1 ⟨g,grp,w',pl,v5,v6,v7,rfl,hgn,hgl,s1,i1,hS1,hG1,_,hJi⟩
   rw[rC _ _ _ _ _ _ _ _ _ _ rfl] at hJi
   exact kO w' pl _ hJi.symm H1 (.ref x) b s1 i1.full hS1
theorem Ph {i j c:Int} {m:Nat} (hi:0≤i) (hi2:i<4096) (hj:0≤j) (hj2:j<4096) (hc:0<c) (hc2:c<4096) (hm:Builtin.Range.rangeSize i j c=m) (hm2:m≤4096):rV i j c m:=by
 refine ⟨by lia,by lia,?_,hm⟩
 unfold Builtin.Range.small
 rw[hm]
 simp only [Builtin.Range.rangeFitsLong,Bool.and_eq_true,Bool.or_eq_true,decide_eq_true_eq,beq_iff_eq,show c>0 from hc,if_true]
 lia
theorem OM {d:Nat} (h:d≤24):rV 0 (d:Int) 8 ((d+7)/8):=by
 refine Ph (by decide) (by decide) (by lia) (by lia) (by decide) (by decide) ?_ (by lia)
 unfold Builtin.Range.rangeSize
 rw[if_pos (by decide)]
 split<;>lia
def eP (d:Nat) (s:List Int):Sound.Bytes:=s.flatMap fun (x:Int)=>Sound.low ((d+7)/8) (x%(2^(8*((d+7)/8)):Int)).toNat
theorem NU (x:Int) (m i:Nat) (h:i<m):x/2^(8*i)%256=(((x%(2^(8*m):Int)).toNat/256^i%256:Nat):Int):=by
 have hp:(0:Int)<2^(8*m):=by
  have:(2:Int)^(8*m)=((2^(8*m):Nat):Int):=by simp
  rw[this];exact Int.natCast_pos.mpr (Nat.two_pow_pos _)
 have h0:=Int.emod_nonneg x (Int.ne_of_gt hp)
 have e1:((x%(2^(8*m):Int)).toNat:Int)=x%2^(8*m):=Int.toNat_of_nonneg h0
 have e2:(((x%(2^(8*m):Int)).toNat/256^i%256:Nat):Int)=(x%2^(8*m))/2^(8*i)%256:=by
  rw[Int.natCast_emod,Int.natCast_ediv,e1,sZ];simp
 rw[e2]
 have e3:(2:Int)^(8*m)=2^(8*i)*(256*2^(8*(m-i-1))):=by
  rw[show (256:Int)=2^8 by decide,←Int.pow_add,←Int.pow_add]
  congr 1;lia
 have hq:(0:Int)<2^(8*i):=by
  have:(2:Int)^(8*i)=((2^(8*i):Nat):Int):=by simp
  rw[this];exact Int.natCast_pos.mpr (Nat.two_pow_pos _)
 have e4:x%2^(8*m)=x-2^(8*i)*(256*2^(8*(m-i-1))*(x/2^(8*m))):=by
  rw[Int.emod_def]
  conv=>lhs;rw[show (2:Int)^(8*m)*(x/2^(8*m))=2^(8*i)*(256*2^(8*(m-i-1)))*(x/2^(8*m)) by rw[←e3]]
  rw[Int.mul_assoc]
 rw[e4,Int.sub_eq_add_neg,←Int.mul_neg,Int.add_mul_ediv_left _ _ (Int.ne_of_gt hq),Int.mul_assoc,←Int.mul_neg,Int.add_mul_emod_self_left]
theorem Nf (m v:Nat):bn (Sound.low m v)=(List.range m).map fun i=>v/256^i%256:=by
 unfold bn Sound.low
 rw[List.map_map]
 refine List.map_congr_left fun i _=>?_
 simp [UInt8.toNat_ofNat']
def OA (K:PySem.W.Frag):Sp:=fun vs H Q _=> ∃(d:Nat) (q:Addr) (s:List Int),vs= [.int d, .ref q]∧ah K H q (s.map V.int)∧(d≤24∧s.length≤1000000)∧fU H Q (bn (eP d s))
theorem nI:aK ["depth", "numbers", "plain", "number", "shift"] ["depth", "numbers"] (aB Bj):=⟨rfl,rfl,rfl,by decide+kernel,rfl,by decide+kernel,by decide+kernel⟩
theorem Ql (d:Nat) (s:List Int):(eP d s).length=s.length*((d+7)/8):=by
 unfold eP
 induction s with
 |nil=>simp
 |cons x s ih=>
  rw[List.flatMap_cons,List.length_append,ih,List.length_cons,Nat.add_mul,Nat.one_mul]
  unfold Sound.low
  rw[List.length_map,List.length_range];lia
theorem NQ (T:Txt K mg A):az P w K mg base a9 1 A.pN A.oU ["depth", "numbers"] (OA K):=by
 refine T.Cs.ok nI (fun vs H Q E h=>?_) (fun cdv Ar outer s H vs Q E hr h=>?_)
 ·obtain ⟨d,q,s,rfl,_⟩:=h
  rfl
 ·obtain ⟨d,q,ns,rfl,hq,⟨hd,hl⟩,k⟩:=h
  refine ⟨_,ai (aJ (i:=2) nI.nd rfl (Or.inl rfl) (bZ af))
   (ai (cw PassesOwn.never rfl (dn (pv 1)) (bq (i:=3) nI.nd rfl (Or.inr rfl))
    (ak (ba (gS PySem.F.plainAttrs_list PySem.F.slot_list_extend PySem.F.type_list_extend tw (pv 2) (aa (fz (own:= [("shift",4)]) rfl nI.nd (Ab rfl T.dU (aa aq (aa (pv 0) (aa aq af)))) (d5 (by kernel_rfl)) (fun _ _ _ _ _=>bq (i:=4) nI.nd rfl (Or.inl rfl)) (fun _ _ _ _ _=>d6) (fun _ _ _ _ _=>au lB (au fk (pv 3) (pv 4)) aq)) af)))))
   (ak (aX (pv 2)))),?_⟩
  refine ⟨(by rw[sizeLine_eq];exact Nat.zero_le _),fun L hL=>?_⟩
  have sL:=aF (o:= .lst []) hL
  refine ⟨_,rfl,q,rfl,⟨_,sL.seq hq⟩,?_⟩
  refine ie (K:=K) (a:=q) (xs:=ns.map V.int) (fun i σ H'=>(∃v3 v4:Option V,σ= [some (.int (d:Nat)),some (.ref q),some (.ref L),v3,v4])∧ae H H'∧H' L=some (.lst (vN (bn (eP d (ns.take i)))))) ⟨⟨none,none,rfl⟩,sL,aj⟩ (fun i σ H' _ ⟨_,s',_⟩=>s'.seq hq) ?_ ?_
  ·rintro i x σ H1 hi ⟨⟨v3,v4,rfl⟩,s1,hL1⟩
   rw[List.getElem?_map] at hi
   cases ex:ns[i]? with
   |none=>rw[ex] at hi;cases hi
   |some n=>
    rw[ex] at hi
    obtain rfl:V.int n=x:=Option.some.inj hi
    obtain ⟨hil,hin⟩:=List.getElem?_eq_some_iff.mp ex
    refine ⟨_,rfl, .inl ⟨rfl,_,ah.of hL1⟩,_,rfl,0,(d:Int),8,(d+7)/8,rfl,OM (by lia),fun D hD=>?_⟩
    refine fq (J:=r9 0 8 ((d+7)/8)) hD ((d+7)/8) (by rw[sizeLine_eq];lia) (fun j=> .int (((n%(2^(8*((d+7)/8)):Int)).toNat/256^j%256:Nat):Int)) (fun i Hh hi s1=>hi) (fun Hh s1=>Nat.le_refl _) ?_ ?_
    ·rintro j Hh z H' hj s2 ⟨rfl,rfl⟩ C hC
     have e1:(0:Int)+(j:Nat)*8=((8*j:Nat):Int):=by lia
     rw[e1]
     refine ⟨rfl,_,rfl,_,rfl,ag _ _ ⟨rfl,rfl,(by lia),ag _ _ ⟨rfl,rfl,?_⟩⟩⟩
     have e2:Builtin.bitAnd (n/2^((8*j:Nat):Int).toNat) 255=(((n%(2^(8*((d+7)/8)):Int)).toNat/256^j%256:Nat):Int):=by
      rw[Int.toNat_natCast,show (255:Int)=2^8-1 by decide,mask,show (2:Int)^8=256 by decide]
      exact NU n _ j hj
     dsimp only
     rw[e2]
     exact hC _ (ae.refl _)
    ·intro H2 s2 hx2
     have ag:(List.range ((d+7)/8)).map (fun j=>V.int (((n%(2^(8*((d+7)/8)):Int)).toNat/256^j%256:Nat):Int))=vN (bn (Sound.low ((d+7)/8) (n%(2^(8*((d+7)/8)):Int)).toNat)):=by
      rw[Nf];unfold vN;rw[List.map_map];rfl
     rw[ag] at hx2
     have hlt:(eP d (ns.take i)).length≤4000000:=by
      rw[Ql,List.length_take]
      exact Nat.le_trans (Nat.mul_le_mul (show min i ns.length≤1000000 by lia) (show (d+7)/8≤4 by lia)) (by decide)
     refine ⟨L,D,_,_,rfl,rfl,s2 _ _ hL1,hx2,(by rw[aO,aO,bx,bx,sizeLine_eq];unfold Sound.low;rw[List.length_map,List.length_range];lia),⟨_,_,rfl⟩,fun y o e=>?_,?_⟩
     ·rw[aL (cH e hL)]
      exact s2 _ _ (s1 _ _ e)
     ·rw[aj,←dB,←dJ]
      have:eP d (ns.take (i+1))=eP d (ns.take i)++Sound.low ((d+7)/8) (n%(2^(8*((d+7)/8)):Int)).toNat:=by
       unfold eP
       rw[List.take_succ,ex,List.flatMap_append]
       simp
      rw[this]
  ·rintro σ H1 ⟨⟨v3,v4,rfl⟩,s1,hL1⟩
   rw[List.length_map,List.take_length] at hL1
   exact ⟨_,rfl,k L H1 hL s1 hL1⟩
def GK (K:PySem.W.Frag):Sp:=fun vs H Q _=> ∃(d:Nat) (q:Addr) (s:List Int),vs= [.int d, .ref q]∧ah K H q (s.map V.int)∧(d≤24∧s.length≤1000000)∧fU H Q (bn (Sound.high 4 (Sound.crc32 (eP d s))))
theorem Qx:aK ["depth", "numbers"] ["depth", "numbers"] (aB yW):=⟨rfl,rfl,rfl,by decide+kernel,rfl,by decide+kernel,by decide+kernel⟩
theorem R4 (T:Txt K mg A):az P w K mg base a9 2 A.pS A.mV ["depth", "numbers"] (GK K):=by
 refine T.B8.ok Qx (fun vs H Q E h=>?_) (fun cdv Ar outer s H vs Q E hr h=>?_)
 ·obtain ⟨d,q,s,rfl,_⟩:=h
  rfl
 ·obtain ⟨d,q,ns,rfl,hq,hd,k⟩:=h
  refine ⟨_,ak (aX (aP (gQ T) hr rfl T.gU T.gh.kp T.gu .nil aQ (aa (aR rfl T.kg) (aa (aP (xC T) hr rfl T.wI T.sU.kp T.w6 .nil aQ (aa (aP (NQ T) hr rfl T.R6 T.Cs.kp T.GU .nil aQ (aa (pv 0) (aa (pv 1) af))) af)) af)))),?_⟩
  refine ⟨_,rfl,_,rfl,bE d q ns ⟨rfl,hq,hd,fun D H1 hD s1 hx=>?_⟩⟩
  refine (ag D _ ⟨rfl,ah.of hx,eX _,4,kd (bn (eP d ns)),rfl,by decide,fun D2 H2 hD2 s2 hx2=>k D2 H2 (s1.none hD2) (s1.trans s2) ?_⟩)
  rw[hx2,d7,←xg];rfl
def dc:List Sound.Bytes→Nat→Sound.Bytes→Sound.Stand⊕Nat
 | [],place,_=> .inr place
 |w::ws,place,b=>if b.length<w.length then .inl .more else if b.take w.length≠w then .inl (.fault 10 place) else dc ws (place+w.length) (b.drop w.length)
def iG (B:Sound.Bytes) (h:Sound.Head) (S:Hs):List Sound.Bytes:= [S.idx,B.take 26,Sound.high 4 (Sound.crc32 (eP h.form.depth S.w.s))]
def gA:dQ:=⟨fun B S=>(S.pl≤B.length∧S.w.s.length≤1000000)∧ ∃h,S.w.head=some h∧Sound.mayHead h=true,fun B S=>match S.w.head with
 |none=> .ok S
 |some h=>match dc (iG B h S) S.pl (B.drop S.pl) with
  | .inl s=> .error (S.w,dM B.length s)
  | .inr p=>if p<B.length then .error (S.w,11,p) else .ok ⟨S.w,S.starts,S.idx,p⟩⟩
theorem oO:aK ["hearing", "reading", "recording_sum", "part", "begin"] ["hearing"] (aB F3):=⟨rfl,rfl,rfl,by decide+kernel,rfl,by decide+kernel,by decide+kernel⟩
theorem PZ (T:Txt K mg A):az P w K mg base (aY P w) 4 A.jC A.oE ["hearing"] (iI K A gA):=by
 refine T.zD.bO oO (fun vs H Q E h=>?_) (fun cdv Ar outer s H vs Q E hr h=>?_)
 ·obtain ⟨X,S,hv,b,rfl,_⟩:=h
  rfl
 ·obtain ⟨X,S,hv,b,rfl,hi,hS,⟨⟨hplB,hsl⟩,h,eh,hm⟩,k⟩:=h
  have hr1':aE 1 _:=hr.mono (by decide)
  have hr2':aE 2 _:=hr.mono (by decide)
  refine ⟨_,ai (aJ (i:=1) oO.nd rfl (Or.inl rfl) (ay (pv 0) rfl))
   (ai (aJ (i:=2) oO.nd rfl (Or.inl rfl) (aP (R4 T) hr2' rfl T.NK T.B8.kp T.MR .nil aQ (aa (ay (ay (ay (pv 0) rfl) rfl) rfl) (aa (ay (pv 0) rfl) af))))
   (ai (cw PassesOwn.leaving rfl (dn (bZ (aa (ay (pv 0) rfl) (aa (eH eJ (ay (pv 1) rfl) kq (cD (aR rfl T.yf))) (aa (pv 2) af))))) (bq (i:=3) oO.nd rfl (Or.inl rfl))
    (ai (aJ (i:=4) oO.nd rfl (Or.inl rfl) (ay (pv 1) rfl))
    (ak (bg (bc (u9 hr.units) (aU (pv 1) T.aM T.i9 (iX T) hr T.iV .nil aN (aa (bX cx (by rfl) T.cj PySem.boot_len (aa (pv 3) af)) af)) (pv 3) (aZ _)) (ak (ba (aU (pv 1) T.aM T.dC (dS T) hr1' T.dz .nil aN (aa (aR rfl T.Sj) (aa (pv 4) af))))) br))))
   (ak (bg (bc pF (ay (pv 1) rfl) (bX cx (by rfl) T.cj PySem.boot_len (aa (ay (pv 1) rfl) af)) (aZ _)) (ak (ba (aU (pv 1) T.aM T.dC (dS T) hr1' T.dz .nil aN (aa (aR rfl T.P0) (aa (ay (pv 1) rfl) af))))) br)))),?_⟩
  obtain ⟨⟨n1,n2,n3,n4⟩,⟨n5,n6,n7⟩,⟨n8,n9⟩,n10⟩:=fY hi.nd
  have hx:=hi.hh
  rw[eh] at hx
  obtain ⟨x,rfl,dx,f,hx1,df,hf⟩:=hx
  have hx1':=(cG hx1).1
  have hf':=(cG hf).1
  have ao:=(gy hm).1
  obtain ⟨_,⟨hd1,hd2⟩,_⟩:=g9 ao
  have hSr:=hS
  unfold aG at hSr
  have kE: ∀st,dc (iG X.B h S) S.pl (X.B.drop S.pl)= .inl st→ ∀H' S' hv b,ae (X.f H) H'→HI K A H' X S' hv b→S'.w=S.w→dv A.ax H' X.R (dM X.B.length st).1 (dM X.B.length st).2→E (.ref A.bV) none H':=fun st e=>by
   unfold iL gA at k
   dsimp only at k
   rw[eh] at k
   dsimp only at k
   rw[e] at k
   exact k
  have kO: ∀p,dc (iG X.B h S) S.pl (X.B.drop S.pl)= .inr p→(p<X.B.length→ ∀H' S' hv b,ae (X.f H) H'→HI K A H' X S' hv b→S'.w=S.w→dv A.ax H' X.R 11 p→E (.ref A.bV) none H')∧(¬p<X.B.length→ ∀H' hv b,ae (X.f H) H'→HI K A H' X ⟨S.w,S.starts,S.idx,p⟩ hv b→aG A.ax H' X.R p→Q .aw H'):=fun p e=>by
   unfold iL gA at k
   dsimp only at k
   rw[eh] at k
   dsimp only at k
   rw[e] at k
   dsimp only at k
   refine ⟨fun c=>?_,fun c=>?_⟩
   ·rw[if_pos c] at k;exact k
   ·rw[if_neg c] at k;exact k
  clear k
  refine (aD rfl hi.hp T.bJ T.gI rfl ?_)
  refine (aD rfl hi.hp T.bJ T.gM rfl (fI hx1' T.fi T.kN rfl (fI hf' T.b8 T.nN rfl (aD rfl hi.hp T.bJ T.xS rfl ⟨h.form.depth,ag X.c S.w.s ⟨rfl,ah.of hi.hc,⟨by lia,hsl⟩,fun Ds H1 hDs s1 hxs=>?_⟩⟩))))
  have i1:=hi.same s1
  have hS1:=s1 _ _ hSr
  refine (aD rfl i1.hp T.bJ T.wB rfl (aD rfl hS1 T.aM T.gb rfl ⟨_,rfl,ag X.q _ ⟨rfl,i1.fD.sq,fun Dh hDh=>?_⟩⟩))
  rw[show X.R.B=X.B from rfl,show (26:Int)=((26:Nat):Int) from rfl,ur,fH]
  have s2:=aF (o:= .lst (vN (bn (X.B.take 26)))) hDh
  have hxh:upd H1 Dh (.lst (vN (bn (X.B.take 26)))) Dh=some (.lst (vN (bn (X.B.take 26)))):=aj
  have hrn: ∀(H2:Hp) (o:HO),H2 X.r=some o→ ∀(y:Addr),H2 y=none→y≠X.r:=fun H2 o e y hy z=>by rw[z,e] at hy;cases hy
  have hDsr:=hrn _ _ hSr _ hDs
  have hDhr:=hrn _ _ hS1 _ hDh
  generalize upd H1 Dh (.lst (vN (bn (X.B.take 26))))=H2 at*
  have i2:=i1.same s2
  have hS2:=s2 _ _ hS1
  refine ⟨_,rfl,(by rw[sizeLine_eq];show 3≤_;lia),fun L hL=>?_⟩
  have s3:=aF (o:= .lst [V.ref b,V.ref Dh,V.ref Ds]) hL
  have hLr:=hrn _ _ hS2 _ hL
  have hxL:upd H2 L (.lst [V.ref b,V.ref Dh,V.ref Ds]) L=some (.lst [V.ref b,V.ref Dh,V.ref Ds]):=aj
  have i3:=i2.same s3
  have hS3:aG A.ax _ X.R S.pl:=s3 _ _ hS2
  have s13:=s1.trans (s2.trans s3)
  have hxs3:=(s2.trans s3) _ _ hxs
  have hxh3:=s3 _ _ hxh
  generalize upd H2 L (.lst [V.ref b,V.ref Dh,V.ref Ds])=H3 at*
  refine ⟨L,rfl,⟨_,ah.of hxL⟩,?_⟩
  have hpt: ∀(i:Nat) (y:V), [V.ref b,V.ref Dh,V.ref Ds][i]?=some y→ ∃a w,y= .ref a∧(iG X.B h S).drop i=w::(iG X.B h S).drop (i+1)∧hide X.r H3 a=some (.lst (vN (bn w))):=fun i y e=>by
   have hbr:b≠X.r:=gF X.mr (cG i3.hb).2
   match i,e with
   |0,e=>
    obtain rfl:V.ref b=y:=Option.some.inj e
    exact (ag b _ ⟨rfl,rfl,by rw[hide_ne hbr];exact (cG i3.hb).1⟩)
   |1,e=>
    obtain rfl:V.ref Dh=y:=Option.some.inj e
    exact (ag Dh _ ⟨rfl,rfl,by rw[hide_ne hDhr];exact hxh3⟩)
   |2,e=>
    obtain rfl:V.ref Ds=y:=Option.some.inj e
    exact (ag Ds _ ⟨rfl,rfl,by rw[hide_ne hDsr];exact hxs3⟩)
   |i+3,e=>simp at e
  generalize hT:dc (iG X.B h S) S.pl (X.B.drop S.pl)=tot at*
  have h3p:(iG X.B h S).drop 3= []:=rfl
  generalize iG X.B h S=pts at*
  refine ie (K:=K) (a:=L) (xs:= [V.ref b,V.ref Dh,V.ref Ds]) (fun i σ H'=> ∃(v3 v4:Option V) (pl:Nat),σ= [some (.ref X.p),some (.ref X.r),some (.ref Ds),v3,v4]∧ae (hide X.r H3) H'∧aG A.ax H' X.R pl∧pl≤X.B.length∧dc (pts.drop i) pl (X.B.drop pl)=tot)
   ⟨none,none,S.pl,rfl,dZ _ _,hS3,hplB,hT⟩ (fun i σ H' _ ⟨_,_,_,_,s',_⟩=>ah.of (s' _ _ (by rw[hide_ne hLr];exact hxL))) ?_ ?_
  ·rintro i y σ H4 hi4 ⟨v3,v4,pl,rfl,s4,hS4,hpl4,hj4⟩
   obtain ⟨a,w,rfl,ed,ha⟩:=hpt i y hi4
   rw[ed] at hj4
   have hS4r:=hS4
   unfold aG at hS4r
   have i4:=i3.go s4
   have s04:ae (X.f H) H4:=cc (kr s13) (cN X.mr s4)
   refine (aD rfl hS4r T.aM T.cC rfl ?_)
   refine (aS rfl hS4r rfl ⟨_,rfl,ag a _ ⟨rfl, .inl (ah.of (s4 _ _ ha)),X.R,pl,w.length,?_,i4.fD,hS4,?_⟩⟩)
   ·rw[aO,bx];rfl
   unfold cP dO
   unfold dc at hj4
   rw[List.length_drop] at hj4
   by_cases c1:X.R.B.length<pl+w.length
   ·rw[if_pos c1]
    have c1:X.B.length<pl+w.length:=c1
    rw[if_pos (by lia)] at hj4
    exact fun H5 s5 hF=>kE _ hj4.symm H5 _ _ _ (cc s04 (cN X.mr s5)) (i4.go s5) rfl hF
   rw[if_neg c1]
   have c1: ¬X.B.length<pl+w.length:=c1
   rw[if_neg (by lia)] at hj4
   dsimp only
   intro H5 s5 hS5 D5 hD5 hx5
   have hS5r:=hS5
   unfold aG at hS5r
   have ha5:H5 a=some (.lst (vN (bn w))):=s5 _ _ (by rw[show X.R.r=X.r from rfl,hide_ne (cq ha).2];exact s4 _ _ ha)
   refine ⟨_,rfl,D5,a,(bn ((X.B.drop pl).take w.length)).map (fun (n:Nat)=>(n:Int)),(bn w).map (fun (n:Nat)=>(n:Int)),rfl,rfl,(by rw[←ja];exact ah.of hx5),(by rw[←ja];exact ah.of ha5),_,rfl,?_⟩
   by_cases c2:(X.B.drop pl).take w.length=w
   ·rw[if_neg (fun z=>z c2),List.drop_drop] at hj4
    rw[decide_eq_true (jg.mpr c2)]
    exact bA (bE _ _ (pl+w.length) ⟨rfl,bp s4 s5,hS5,by lia,hj4⟩)
   ·rw[if_pos c2] at hj4
    rw[decide_eq_false (fun z=>c2 (jg.mp z))]
    have s6:=cO (r:=X.r) (H:=H5) (o:= .ins A.ax X.dr (bw (.ref X.R.q) (.int ((pl+w.length:Nat):Int)) (.int ((10:Nat):Int)) (.int ((pl:Nat):Int))))
    exact bt (aS rfl hS5r rfl ⟨_,rfl,dH X.r X.dr _ _ _ _ 10 pl ⟨rfl,hS5r,kE _ hj4.symm _ _ _ _ (cc s04 (cN X.mr (bp s5 s6))) (i4.go (bp s5 s6)) rfl ⟨_,aj⟩⟩⟩)
  ·rintro σ H4 ⟨v3,v4,pl,rfl,s4,hS4,hpl4,hj4⟩
   have hS4r:=hS4
   unfold aG at hS4r
   have i4:=i3.go s4
   have s04:ae (X.f H) H4:=cc (kr s13) (cN X.mr s4)
   have hj4:dc (pts.drop 3) pl (X.B.drop pl)=tot:=hj4
   rw[h3p] at hj4
   obtain ⟨k1,k2⟩:=kO pl hj4.symm
   refine (aD rfl hS4r T.aM T.cC rfl (aD rfl hS4r T.aM T.gb rfl (ag X.q _ ⟨rfl, .inl i4.fD.sq,ag _ _ ⟨rfl,rfl,_,rfl,?_⟩⟩)))
   rw[aO,bx]
   refine bW (fun c=>?_) fun c=>?_
   ·have c:((pl:Nat):Int)<((X.B.length:Nat):Int):=of_decide_eq_true c
    have s6:=cO (r:=X.r) (H:=H4) (o:= .ins A.ax X.dr (bw (.ref X.R.q) (.int ((pl:Nat):Int)) (.int ((11:Nat):Int)) (.int ((pl:Nat):Int))))
    exact (aS rfl hS4r rfl (aD rfl hS4r T.aM T.cC rfl (dH X.r X.dr _ _ _ _ 11 pl ⟨rfl,hS4r,k1 (by lia) _ _ _ _ (cc s04 (cN X.mr s6)) (i4.go s6) rfl ⟨_,aj⟩⟩)))
   ·have c: ¬((pl:Nat):Int)<((X.B.length:Nat):Int):=fun z=>c (decide_eq_true z)
    exact k2 (by lia) H4 _ _ s04 (i4.sW pl) hS4
theorem B0: ∀(ws:List Sound.Bytes) (B:Sound.Bytes) (place p:Nat) (r:Sound.Bytes),place≤B.length→Sound.judgeSpares ws place (B.drop place)= .inr (p,r)→r=B.drop p∧p≤B.length
 | [],B,place,p,r,h,e=>by cases e;exact ⟨rfl,h⟩
 |w::ws,B,place,p,r,h,e=>by
  rw[wK] at e
  cases ee:Sound.expects [2,4,5,7] w (B.drop place) with
  |none=>rw[ee] at e;cases e
  |some c=>
   rw[ee] at e
   cases c with
   |false=>cases e
   |true=>
    have hl:=Bx ee
    rw[List.length_drop] at hl
    dsimp only at e
    rw[List.drop_drop] at e
    exact B0 ws B _ p r (by lia) e
theorem tM (f:Sound.Form) (ao:f.ok=true) (n start:Nat) (idx B:Sound.Bytes): ∀(fuel k place:Nat) (grp:List Sound.Bytes) (w v:Sound.Told) (p:Nat) (r:Sound.Bytes),place≤B.length→Sound.judgeFrames f n start idx fuel k place grp (B.drop place) w=(v, .inr (p,r))→r=B.drop p∧p≤B.length∧v.head=w.head∧v.s.length≤w.s.length+2560*fuel
 |0,k,place,grp,w,v,p,r,h,e=>by unfold Sound.judgeFrames at e;cases e
 |fuel+1,k,place,grp,w,v,p,r,h,e=>by
  by_cases hk:k=Sound.framesOf f n
  ·rw[rC _ _ _ _ _ _ _ _ _ _ hk] at e
   cases e
   exact ⟨rfl,h,rfl,by lia⟩
  ·rw[tQ _ _ _ _ _ _ _ _ _ _ hk] at e
   split at e
   ·cases e
   ·cases eu:Sound.unframe f (B.drop place) with
    |bad=>rw[eu] at e;cases e
    |short=>rw[eu] at e;cases e
    |frame y=>
     rw[eu] at e
     dsimp only at e
     obtain ⟨hz1,hz2,hz3⟩:=vE eu
     have hyl:=vc ao eu
     rw[List.length_drop] at hz3
     have hts:(fN w y).s.length=w.s.length+y.s.length:=by show (w.s++y.s).length=_;rw[List.length_append]
     split at e
     ·cases e
     ·split at e
      ·rw[List.drop_drop] at e
       split at e
       ·cases e
       ·rename_i p' r' ej
        obtain ⟨h1,h2⟩:=B0 _ B _ _ _ (by lia) ej
        rw[h1] at e
        obtain ⟨a1,a2,a3,a4⟩:=tM f ao n start idx B fuel _ _ _ _ _ _ _ h2 e
        exact ⟨a1,a2,a3,by lia⟩
      ·rw[List.drop_drop] at e
       obtain ⟨a1,a2,a3,a4⟩:=tM f ao n start idx B fuel _ _ _ _ _ _ _ (by lia) e
       exact ⟨a1,a2,a3,by lia⟩
theorem EC: ∀(ws:List Sound.Bytes) (place:Nat) (b:Sound.Bytes) (st:Sound.Stand),Sound.judgeSpares ws place b= .inl st→st= .more∨ ∃p,st= .fault 9 p
 | [],place,b,st,e=>by cases e
 |w::ws,place,b,st,e=>by
  rw[wK] at e
  cases ee:Sound.expects [2,4,5,7] w b with
  |none=>rw[ee] at e;cases e;exact .inl rfl
  |some c=>
   rw[ee] at e
   cases c with
   |false=>cases e;exact .inr ⟨_,rfl⟩
   |true=>exact EC ws _ _ st e
theorem xx (f:Sound.Form) (n start:Nat) (idx:Sound.Bytes): ∀(fuel k place:Nat) (grp:List Sound.Bytes) (b:Sound.Bytes) (w v:Sound.Told) (st:Sound.Stand),Sound.judgeFrames f n start idx fuel k place grp b w=(v, .inl st)→st= .more∨ ∃p,st= .fault 9 p
 |0,k,place,grp,b,w,v,st,e=>by unfold Sound.judgeFrames at e;cases e;exact .inl rfl
 |fuel+1,k,place,grp,b,w,v,st,e=>by
  by_cases hk:k=Sound.framesOf f n
  ·rw[rC _ _ _ _ _ _ _ _ _ _ hk] at e
   cases e
  ·rw[tQ _ _ _ _ _ _ _ _ _ _ hk] at e
   split at e
   ·cases e;exact .inr ⟨_,rfl⟩
   ·cases eu:Sound.unframe f b with
    |bad=>rw[eu] at e;cases e;exact .inr ⟨_,rfl⟩
    |short=>rw[eu] at e;cases e;exact .inl rfl
    |frame y=>
     rw[eu] at e
     dsimp only at e
     split at e
     ·cases e;exact .inr ⟨_,rfl⟩
     ·split at e
      ·split at e
       ·rename_i ej
        cases e
        exact EC _ _ _ _ ej
       ·exact xx f n start idx fuel _ _ _ _ _ _ _ e
      ·exact xx f n start idx fuel _ _ _ _ _ _ _ e
theorem xZ {w b:Sound.Bytes} (h:b.length<w.length):Sound.expects [] w b=none:=by rw[kP [] (fun c hc=>by cases hc),if_pos h]
theorem xK {w b:Sound.Bytes} (h: ¬b.length<w.length) (h2:b.take w.length≠w):Sound.expects [] w b=some false:=by rw[kP [] (fun c hc=>by cases hc),if_neg h,beq_eq_false_iff_ne.mpr h2]
theorem u6 {w b:Sound.Bytes} (h: ¬b.length<w.length) (h2:b.take w.length=w):Sound.expects [] w b=some true:=by rw[kP [] (fun c hc=>by cases hc),if_neg h,beq_iff_eq.mpr h2]
theorem xV {w b:Sound.Bytes} {ws:List Sound.Bytes} {p:Nat} (h:b.length<w.length):dc (w::ws) p b= .inl .more:=by unfold dc;rw[if_pos h]
theorem vk {w b:Sound.Bytes} {ws:List Sound.Bytes} {p:Nat} (h: ¬b.length<w.length) (h2:b.take w.length≠w):dc (w::ws) p b= .inl (.fault 10 p):=by unfold dc;rw[if_neg h,if_pos h2]
theorem vi {w b:Sound.Bytes} {ws:List Sound.Bytes} {p:Nat} (h: ¬b.length<w.length) (h2:b.take w.length=w):dc (w::ws) p b=dc ws (p+w.length) (b.drop w.length):=by conv=>lhs;unfold dc;rw[if_neg h,if_neg (fun z=>z h2)]
theorem NH {B idx head sum_:Sound.Bytes} {place:Nat} (hp:place≤B.length) (hh:head.length=26) (hs:sum_.length=4):Sound.judgeEnd idx head sum_ place (B.drop place)=match dc [idx,head,sum_] place (B.drop place) with
  | .inl s=>s
  | .inr p=>if p<B.length then .fault 11 p else .whole:=by
 have hH:Sound.HEAD=26:=rfl
 unfold Sound.judgeEnd
 by_cases c1:(B.drop place).length<idx.length
 ·rw[xZ c1,xV c1]
 by_cases c2:(B.drop place).take idx.length=idx
 case neg=>rw[xK c1 c2,vk c1 c2]
 rw[u6 c1 c2,vi c1 c2]
 dsimp only
 by_cases c3:((B.drop place).drop idx.length).length<head.length
 ·rw[xZ c3,xV c3]
 by_cases c4:((B.drop place).drop idx.length).take head.length=head
 case neg=>rw[xK c3 c4,vk c3 c4]
 rw[u6 c3 c4,vi c3 c4]
 dsimp only
 have e5:(B.drop place).drop (idx.length+Sound.HEAD)=((B.drop place).drop idx.length).drop head.length:=by rw[List.drop_drop (l:=B.drop place),hH,hh]
 rw[e5]
 by_cases c5:(((B.drop place).drop idx.length).drop head.length).length<sum_.length
 ·rw[xZ c5,xV c5]
 by_cases c6:(((B.drop place).drop idx.length).drop head.length).take sum_.length=sum_
 case neg=>
  rw[xK c5 c6,vk c5 c6]
  dsimp only
  rw[hH,hh]
 rw[u6 c5 c6,vi c5 c6]
 unfold dc
 dsimp only
 rw[hH,hh,hs]
 simp only [List.length_drop] at c1 c3 c5⊢
 by_cases c7:B.length-place=idx.length+26+4
 ·rw[if_pos c7,if_neg (by lia)]
 ·rw[if_neg c7,if_pos (by lia)]
theorem Gp: ∀(ws:List Sound.Bytes) (place:Nat) (b:Sound.Bytes) (st:Sound.Stand),dc ws place b= .inl st→st= .more∨ ∃p,st= .fault 10 p
 | [],place,b,st,e=>by cases e
 |w::ws,place,b,st,e=>by
  unfold dc at e
  split at e
  ·cases e;exact .inl rfl
  ·split at e
   ·cases e;exact .inr ⟨_,rfl⟩
   ·exact Gp ws _ _ st e
def LJ:List dQ:= [gw,fO,i6,f6,gA]
theorem Mw (B:Sound.Bytes):j7 LJ B S0:=F0 B [i6,f6,gA] fun h l e hm hl=>by
 refine ⟨⟨rfl,hl,h,rfl,hm,rfl⟩,fun S1 e1=>?_⟩
 unfold i6 at e1
 dsimp only at e1
 cases ei:dE B (26+h.t) (Sound.framesOf h.form h.n) with
 |error z=>rw[ei] at e1;cases e1
 |ok u=>
  rw[ei] at e1
  cases e1
  have hlen:26+h.t+3*Sound.framesOf h.form h.n+4≤B.length:=by
   unfold dE at ei
   split at ei
   ·cases ei
   ·split at ei
    ·cases ei
    ·lia
  refine ⟨⟨hlen,rfl,h,rfl,hm,rfl⟩,fun S2 e2=>?_⟩
  unfold f6 at e2
  dsimp only at e2
  cases ej:eK B h ⟨⟨some h,l, [],0⟩,entries B (26+h.t) (Sound.framesOf h.form h.n),(B.drop (26+h.t)).take (3*Sound.framesOf h.form h.n+4),26+h.t+3*Sound.framesOf h.form h.n+4⟩ with
  |mk v o=>
   rw[ej] at e2
   cases o with
   |inl st=>cases e2
   |inr z=>
    obtain ⟨p,r⟩:=z
    cases e2
    unfold eK at ej
    obtain ⟨h1,h2,h3,h4⟩:=tM h.form (gy hm).1 _ _ _ B _ _ _ _ _ _ _ _ hlen ej
    have:=AN hm
    exact ⟨⟨⟨h2,by show v.s.length≤_;have:([]:List Int).length=0:=rfl;dsimp only at h4;lia⟩,h,h3,hm⟩,fun _ _=>trivial⟩
def nX (k p:Nat):Sound.Stand:=if k=1 then .more else .fault k p
def rW (B:Sound.Bytes) (h:Sound.Head):Sound.Told×Sound.Stand:=match Sound.areaOf h.t ((B.drop 26).take h.t) with
 |(l, .fault k p)=>(⟨some h,l, [],0⟩, .fault k p)
 |(l, .more)=>(⟨some h,l, [],0⟩, .more)
 |(l, .whole)=>match dE B (26+h.t) (Sound.framesOf h.form h.n) with
  | .error (k,p)=>(⟨some h,l, [],0⟩,nX k p)
  | .ok _=>match eK B h (fJ B h l) with
   |(v, .inl s)=>(v,s)
   |(v, .inr (place,r))=>(v,Sound.judgeEnd ((B.drop (26+h.t)).take (3*Sound.framesOf h.form h.n+4)) (B.take 26) (Sound.high 4 (Sound.crc32 (eP h.form.depth v.s))) place r)
theorem FE (B:Sound.Bytes):Sound.judge B=match cu B with
  | .error (k,p)=>(Sound.nothing,nX k p)
  | .ok h=>rW B h:=by
 unfold Sound.judge cu
 have h26:Sound.HEAD=26:=rfl
 rw[h26]
 dsimp only
 split
 ·rfl
 ·split
  ·rfl
  ·split
   ·rfl
   ·split
    ·rfl
    ·split
     ·rfl
     ·split
      ·rfl
      ·dsimp only
       unfold rW
       generalize Sound.fields B=h
       cases Sound.areaOf h.t ((B.drop 26).take h.t) with
       |mk l st=>
        cases st with
        |more=>rfl
        |fault k p=>rfl
        |whole=>
         dsimp only
         unfold dE
         cases Sound.indexFault (Sound.framesOf h.form h.n) ((B.drop (26+h.t)).take (3*Sound.framesOf h.form h.n)) with
         |some k=>rfl
         |none=>
          dsimp only
          split
          ·rfl
          ·split
           ·rfl
           ·dsimp only
            unfold eK
            rw[show (B.drop (26+h.t)).take (3*Sound.framesOf h.form h.n)++(B.drop (26+h.t+3*Sound.framesOf h.form h.n)).take 4=(B.drop (26+h.t)).take (3*Sound.framesOf h.form h.n+4) by rw[List.take_add,List.drop_drop]]
            rfl
theorem B7 {k p n:Nat} (h:k=1→p=n):dM n (nX k p)=(k,p):=by
 unfold nX
 split
 ·rename_i e
  rw[e,h e];rfl
 ·rfl
theorem M5 {B:Sound.Bytes} {k p:Nat} (h:cu B= .error (k,p)):k=1→p=B.length:=by
 unfold cu at h
 repeat' split at h
 all_goals first|(cases h;intro z;first|rfl|cases z)|cases h
theorem Ky {B:Sound.Bytes} {at_ n k p:Nat} (h:dE B at_ n= .error (k,p)):k=1→p=B.length:=by
 unfold dE at h
 repeat' split at h
 all_goals first|(cases h;intro z;first|rfl|cases z)|cases h
theorem DT (B:Sound.Bytes):(∃S,(Sound.judge B).2= .whole∧S.w=(Sound.judge B).1∧dw LJ B S0= .ok S)∨(∃k p,k≠0∧dM B.length (Sound.judge B).2=(k,p)∧dw LJ B S0= .error ((Sound.judge B).1,k,p)):=by
 have hrun:dw LJ B S0=match cu B with
   | .error (k,p)=> .error (Sound.nothing,k,p)
   | .ok h=>dw [fO,i6,f6,gA] B ⟨⟨some h, [], [],0⟩, [], [],26⟩:=by
  unfold LJ
  rw[jt]
  unfold gw
  dsimp only
  cases cu B with
  |error z=>rfl
  |ok h=>rfl
 rw[hrun,FE]
 cases e:cu B with
 |error z=>exact .inr ⟨z.1,z.2,zb e,B7 (M5 e),rfl⟩
 |ok h=>
  obtain ⟨_,hm,h26⟩:=vZ e
  dsimp only
  rw[jt]
  unfold fO rW
  dsimp only
  cases ea:Sound.areaOf h.t ((B.drop 26).take h.t) with
  |mk l st=>
   cases st with
   |more=>exact .inr ⟨1,B.length,Nat.one_ne_zero,rfl,rfl⟩
   |fault k p=>exact .inr ⟨k,p,FF ea,rfl,rfl⟩
   |whole=>
    dsimp only
    rw[jt]
    unfold i6
    dsimp only
    cases ei:dE B (26+h.t) (Sound.framesOf h.form h.n) with
    |error z=>exact .inr ⟨z.1,z.2,O4 ei,B7 (Ky ei),rfl⟩
    |ok u=>
     dsimp only
     have hlen:26+h.t+3*Sound.framesOf h.form h.n+4≤B.length:=by
      unfold dE at ei
      split at ei
      ·cases ei
      ·split at ei
       ·cases ei
       ·lia
     have e0:(⟨⟨some h,l, [],0⟩,entries B (26+h.t) (Sound.framesOf h.form h.n),(B.drop (26+h.t)).take (3*Sound.framesOf h.form h.n+4),26+h.t+3*Sound.framesOf h.form h.n+4⟩:Hs)=fJ B h l:=rfl
     have hidx:(fJ B h l).idx=(B.drop (26+h.t)).take (3*Sound.framesOf h.form h.n+4):=rfl
     have hhd:(fJ B h l).w.head=some h:=rfl
     have hpl:(fJ B h l).pl≤B.length:=hlen
     show (∃S:Hs,_∧_∧dw [f6,gA] B (fJ B h l)=_)∨(∃k p,_∧_∧dw [f6,gA] B (fJ B h l)=_)
     generalize fJ B h l=SS at*
     rw[←hidx,jt]
     clear hidx e0
     unfold f6
     dsimp only
     rw[hhd]
     dsimp only
     cases ej:eK B h SS with
     |mk v o=>
      cases o with
      |inl st=>
       have hne:(dM B.length st).1≠0:=by
        unfold eK at ej
        rcases xx _ _ _ _ _ _ _ _ _ _ _ _ ej with z|⟨p,z⟩
        ·rw[z];exact Nat.one_ne_zero
        ·rw[z];show 9≠0;decide
       exact .inr ⟨_,_,hne,rfl,rfl⟩
      |inr z=>
       obtain ⟨p,r⟩:=z
       have ej':=ej
       unfold eK at ej'
       obtain ⟨h1,h2,h3,h4⟩:=tM h.form (gy hm).1 _ _ _ B _ _ _ _ _ _ _ _ hpl ej'
       have h3:v.head=some h:=h3.trans hhd
       subst h1
       have e26:(B.take 26).length=26:=by rw[List.length_take];lia
       have e4:(Sound.high 4 (Sound.crc32 (eP h.form.depth v.s))).length=4:=by unfold Sound.high;rw[List.length_map,List.length_range]
       unfold AZ
       dsimp only
       rw[NH h2 e26 e4,jt]
       unfold gA iG
       dsimp only
       rw[h3]
       dsimp only
       cases ep:dc [SS.idx,B.take 26,Sound.high 4 (Sound.crc32 (eP h.form.depth v.s))] p (B.drop p) with
       |inl st=>
        have hne:(dM B.length st).1≠0:=by
         rcases Gp _ _ _ _ ep with z|⟨p,z⟩
         ·rw[z];exact Nat.one_ne_zero
         ·rw[z];show 10≠0;decide
        exact .inr ⟨_,_,hne,rfl,rfl⟩
       |inr q=>
        dsimp only
        by_cases c:q<B.length
        ·rw[if_pos c,if_pos c]
         exact .inr ⟨11,q,by decide,rfl,rfl⟩
        ·rw[if_neg c,if_neg c]
         exact .inl ⟨_,rfl,rfl,rfl⟩
def vU (A:aW):List (Addr×dQ):= [(A.gZ,gw),(A.gE,fO),(A.jP,i6),(A.kj,f6),(A.jC,gA)]
theorem Il (T:Txt K mg A): ∀x∈vU A,∃d,az P w K mg base (aY P w) 15 x.1 d ["hearing"] (iI K A x.2)∧PySem.W.keepIn K (.ref x.1)=true∧Binds K d ["hearing"] []:=by
 intro x hx
 simp only [vU,List.mem_cons,List.not_mem_nil,or_false] at hx
 rcases hx with rfl|rfl|rfl|rfl|rfl
 ·exact ⟨_,(DU T).mono (by decide),T.uN.kp,T.Ac⟩
 ·exact ⟨_,(B1 T).mono (by decide),T.xI.kp,T.Cd⟩
 ·exact ⟨_,(Pc T).mono (by decide),T.CN.kp,T.Jk⟩
 ·exact ⟨_,N5 T,T.zy.kp,T.Ln⟩
 ·exact ⟨_,(PZ T).mono (by decide),T.zD.kp,T.OR⟩
def K3 (K:PySem.W.Frag) (A:aW):Sp:=fun vs H Q _=> ∃(q:Addr) (B:Sound.Bytes),vs= [.ref q]∧ah K H q (vN (bn B))∧B.length≤16384∧ ∀X H',X.B=B→ae H H'→(∀y∈X.l,H y=none)→uF K A H' X (dw LJ B S0)→Q (.ref X.p) H'
theorem OJ:aK ["data"] ["data"] (aB Bg):=⟨rfl,rfl,rfl,by decide+kernel,rfl,by decide+kernel,by decide+kernel⟩
theorem Np (T:Txt K mg A):az P w K mg base a9 17 A.lW A.mE ["data"] (K3 K A):=by
 refine T.FK.ok OJ (fun vs H Q E h=>?_) (fun cdv Ar outer s H vs Q E hr h=>?_)
 ·obtain ⟨q,B,rfl,_⟩:=h
  rfl
 ·obtain ⟨q,B,rfl,hq,hB,k⟩:=h
  refine ⟨_,ak (aX (aP (Dq T (N:=15) (by decide) (vU A) (Il T)) hr rfl T.AG T.ya.kp T.A3 .nil aQ (aa (pv 0) (aa (bZ (aa (dR rfl T.DG) (aa (dR rfl T.AI) (aa (dR rfl T.SW) (aa (dR rfl T.J1) (aa (dR rfl T.RZ) af)))))) af)))),?_⟩
  refine ⟨_,rfl,by rw[sizeLine_eq];show 5≤_;lia,fun L hL=>?_⟩
  have s1:=aF (o:= .lst [V.ref A.gZ,V.ref A.gE,V.ref A.jP,V.ref A.kj,V.ref A.jC]) hL
  exact (bE q L B ⟨rfl,s1.seq hq,ah.of aj,hB,Mw B,fun X H' eB s' hfr ho=>k X H' eB (s1.trans s') (fun y hy=>s1.none (hfr y hy)) ho⟩)
theorem PN {H:Hp} {X:Hx} {B:Sound.Bytes} (eB:X.B=B) (h:uF K A H X (dw LJ B S0)): ∃S hv b pl,HI K A H X S hv b∧S.w=(Sound.judge B).1∧H X.r=some (.ins A.ax X.dr (bw (.ref X.q) pl (.int ((dM B.length (Sound.judge B).2).1:Nat)) (.int ((dM B.length (Sound.judge B).2).2:Nat)))):=by
 rcases DT B with ⟨S,e1,e2,er⟩|⟨k,p,hk,e1,er⟩
 ·rw[er] at h
  obtain ⟨hv,b,hi,hS⟩:=h
  refine ⟨S,hv,b, .int (S.pl:Nat),hi,e2,?_⟩
  rw[e1,←eB]
  exact hS
 ·rw[er] at h
  obtain ⟨S,hv,b,hi,ew,pl,hF⟩:=h
  refine ⟨S,hv,b,pl,hi,ew,?_⟩
  rw[e1]
  exact hF
def iE:Nat→Nat→List Sound.Bytes→Sound.Bytes→Option (List Sound.Bytes)
 |0,_,_,_=>none
 |k+1,at_,seen,b=>if b.isEmpty=true then some seen else match cK at_ b.length seen b with
  | .inl _=>none
  | .inr z=>iE k (at_+z) (seen++ [b.take z]) (b.drop z)
def iy:List Sound.Bytes→List Sound.Bytes→Bool
 |_, []=>true
 |seen,x::r=>!(seen.any fun y=>Sound.keyOf y==Sound.keyOf x)&&iy (seen++ [x]) r
theorem AX: ∀(l seen:List Sound.Bytes),iy seen l=true↔Sound.nodupKeys l=true∧ ∀x∈l,∀y∈seen,Sound.keyOf y≠Sound.keyOf x
 | [],seen=>by simp [iy,Sound.nodupKeys]
 |x::r,seen=>by
  unfold iy Sound.nodupKeys
  rw[Bool.and_eq_true,Bool.and_eq_true,AX r,Bool.not_eq_true',Bool.not_eq_true',List.any_eq_false,List.any_eq_false]
  constructor
  ·rintro ⟨h1,h2,h3⟩
   refine ⟨⟨fun y hy z=>h3 y hy x (by simp) (beq_iff_eq.mp z).symm,h2⟩,fun y hy z hz=>?_⟩
   rcases List.mem_cons.mp hy with rfl|hy
   ·exact fun e=>h1 z hz (beq_iff_eq.mpr e)
   ·exact h3 y hy z (List.mem_append_left _ hz)
  ·rintro ⟨⟨h1,h2⟩,h3⟩
   refine ⟨fun y hy z=>h3 x (List.mem_cons_self ..) y hy (beq_iff_eq.mp z),h2,fun y hy z hz=>?_⟩
   rcases List.mem_append.mp hz with hz|hz
   ·exact h3 y (List.mem_cons_of_mem _ hy) z hz
   ·rw[List.mem_singleton.mp hz]
    exact fun e=>h1 y hy (beq_iff_eq.mpr e.symm)
theorem BP {b:Sound.Bytes} {m z:Nat} (hb:b≠ []) (hm:(b.headD 0).toNat=m) (hz:1+m≤z):Sound.keyOf (b.take z)=(b.drop 1).take m:=by
 obtain ⟨c,r,rfl⟩:=List.exists_cons_of_ne_nil hb
 obtain ⟨q,rfl⟩: ∃q,z=q+1:=⟨z-1,by lia⟩
 have hm:c.toNat=m:=hm
 unfold Sound.keyOf
 show (r.take q).take c.toNat=r.take m
 rw[hm,List.take_take,Nat.min_eq_left (by lia)]
theorem MV {at_:Nat} {seen:List Sound.Bytes} {b:Sound.Bytes} (hb:b≠ []):(∃st,cK at_ b.length seen b= .inl st∧((b.headD 0).toNat=0∨32<(b.headD 0).toNat∨b.length<(b.headD 0).toNat+3+Sound.fromHigh ((b.drop (1+(b.headD 0).toNat)).take 2)∨Sound.mayKey ((b.drop 1).take (b.headD 0).toNat)=false∨(seen.any fun y=>Sound.keyOf y==(b.drop 1).take (b.headD 0).toNat)=true))∨
  (cK at_ b.length seen b= .inr ((b.headD 0).toNat+3+Sound.fromHigh ((b.drop (1+(b.headD 0).toNat)).take 2))∧ ¬((b.headD 0).toNat=0∨32<(b.headD 0).toNat∨b.length<(b.headD 0).toNat+3+Sound.fromHigh ((b.drop (1+(b.headD 0).toNat)).take 2)∨Sound.mayKey ((b.drop 1).take (b.headD 0).toNat)=false)∧(seen.any fun y=>Sound.keyOf y==(b.drop 1).take (b.headD 0).toNat)=false):=by
 obtain ⟨c,r,hcr⟩:=List.exists_cons_of_ne_nil hb
 have hl:1≤b.length:=by rw[hcr];simp
 have hm:Sound.fromHigh (b.take 1)=(b.headD 0).toNat:=by rw[hcr,qi];rfl
 unfold cK
 dsimp only
 rw[hm,if_neg (by lia),if_neg (by lia)]
 generalize (b.headD 0).toNat=m
 generalize Sound.fromHigh ((b.drop (1+m)).take 2)=v
 by_cases c1:m=0∨32<m∨b.length<m+3
 ·rw[if_pos c1]
  refine .inl ⟨_,rfl,?_⟩
  rcases c1 with z|z|z
  ·exact .inl z
  ·exact .inr (.inl z)
  ·exact .inr (.inr (.inl (by lia)))
 rw[if_neg c1,if_neg (by lia)]
 cases hk:Sound.mayKey ((b.drop 1).take m) with
 |false=>exact .inl ⟨.fault 5 at_,by simp, .inr (.inr (.inr (.inl rfl)))⟩
 |true=>
  cases hs:seen.any fun y=>Sound.keyOf y==(b.drop 1).take m with
  |true=>exact .inl ⟨.fault 5 at_,by simp, .inr (.inr (.inr (.inr rfl)))⟩
  |false=>
   rw[if_neg (by decide),if_neg (by lia)]
   by_cases c2:b.length<m+3+v
   ·rw[if_pos c2]
    exact .inl ⟨_,rfl, .inr (.inr (.inl c2))⟩
   ·rw[if_neg c2,if_neg c2]
    refine .inr ⟨rfl,?_,rfl⟩
    rintro (z|z|z|z)
    ·exact c1 (.inl z)
    ·exact c1 (.inr (.inl z))
    ·exact c2 z
    ·cases z
theorem tF: ∀(k at_:Nat) (seen:List Sound.Bytes) (b:Sound.Bytes),iE k at_ seen b=match Sound.tagsIn k b with
  |none=>none
  |some l=>if iy seen l=true then some (seen++l) else none
 |0,_,_,_=>rfl
 |k+1,at_,seen,b=>by
  unfold iE Sound.tagsIn
  by_cases hb:b= []
  ·subst hb
   simp [iy]
  ·have he:b.isEmpty=false:=by cases b with
    |nil=>exact absurd rfl hb
    |cons _ _=>rfl
   rw[he]
   simp only [Bool.false_eq_true,if_false]
   rcases MV (at_:=at_) (seen:=seen) hb with ⟨st,e1,hc⟩|⟨e1,hc,hs⟩
   ·rw[e1]
    dsimp only
    by_cases h4:(b.headD 0).toNat=0∨32<(b.headD 0).toNat∨b.length<(b.headD 0).toNat+3+Sound.fromHigh ((b.drop (1+(b.headD 0).toNat)).take 2)∨Sound.mayKey ((b.drop 1).take (b.headD 0).toNat)=false
    ·rw[if_pos h4]
    ·rw[if_neg h4]
     have hs:(seen.any fun y=>Sound.keyOf y==(b.drop 1).take (b.headD 0).toNat)=true:=by
      rcases hc with z|z|z|z|z
      ·exact absurd (.inl z) h4
      ·exact absurd (.inr (.inl z)) h4
      ·exact absurd (.inr (.inr (.inl z))) h4
      ·exact absurd (.inr (.inr (.inr z))) h4
      ·exact z
     cases Sound.tagsIn k (b.drop ((b.headD 0).toNat+3+Sound.fromHigh ((b.drop (1+(b.headD 0).toNat)).take 2))) with
     |none=>rfl
     |some l=>
      dsimp only [Option.map_some]
      unfold iy
      rw[BP hb rfl (by lia),hs]
      rfl
   ·rw[e1,if_neg hc]
    dsimp only
    rw[tF k]
    cases Sound.tagsIn k (b.drop ((b.headD 0).toNat+3+Sound.fromHigh ((b.drop (1+(b.headD 0).toNat)).take 2))) with
    |none=>rfl
    |some l=>
     dsimp only [Option.map_some]
     conv=>rhs;unfold iy
     rw[BP hb rfl (by lia),hs,Bool.not_false,Bool.true_and,List.append_assoc]
     rfl
theorem uR: ∀(k:Nat) (b:Sound.Bytes) (l:List Sound.Bytes),Sound.tagsIn k b=some l→l.flatten=b
 |0,_,_,e=>by cases e
 |k+1,b,l,e=>by
  unfold Sound.tagsIn at e
  split at e
  ·rename_i hb
   cases e
   exact (List.isEmpty_iff.mp hb).symm
  ·dsimp only at e
   split at e
   ·cases e
   ·cases e2:Sound.tagsIn k (b.drop ((b.headD 0).toNat+3+Sound.fromHigh ((b.drop (1+(b.headD 0).toNat)).take 2))) with
    |none=>rw[e2] at e;cases e
    |some l'=>
     rw[e2] at e
     cases e
     rw[List.flatten_cons,uR k _ _ e2,List.take_append_drop]
theorem zV (B:Sound.Bytes) (pad:Nat):Sound.tagList B pad=match iE (B.length+1) 0 [] B with
  |none=>none
  |some l=>if l.length≤16∧B.length+pad+6≤1024 then some l else none:=by
 unfold Sound.tagList
 rw[tF]
 cases Sound.tagsIn (B.length+1) B with
 |none=>rfl
 |some l=>
  dsimp only
  have hn:iy [] l=Sound.nodupKeys l:=by
   rw[Bool.eq_iff_iff,AX]
   exact ⟨fun h=>h.1,fun h=>⟨h,fun x _ y hy=>by cases hy⟩⟩
  rw[hn]
  cases Sound.nodupKeys l with
  |false=>simp
  |true=>
   simp only [if_true,List.nil_append,Bool.true_and,Bool.and_eq_true,decide_eq_true_eq]
   rfl
def x4 (r:Addr) (n:Nat):L2.St→Hp→Nat:=fun _ H=>match H r with
 |some (.ins _ _ [_,(_, .int p),_,_])=>n-p.toNat
 |_=>0
theorem Cn {C:Addr} {H:Hp} {R:Rg} {pl:Nat} {σ:L2.St} (h:aG C H R pl) (n:Nat):x4 R.r n σ H=n-pl:=by
 unfold x4
 unfold aG at h
 rw[h]
 show n-((pl:Nat):Int).toNat=_
 rw[Int.toNat_natCast]
theorem one_pos {at_ n:Nat} {seen:List Sound.Bytes} {b:Sound.Bytes} {z:Nat} (h:cK at_ n seen b= .inr z):1≤z:=by
 rcases qh at_ n seen b with e|⟨e,hl⟩|⟨y,e,h1,h2⟩
 ·rw[e] at h;cases h
 ·rw[e] at h;cases h
 ·rw[e] at h;cases h;exact h1
def Ga (A:aW) (H:Hp) (B:Sound.Bytes) (pad:Nat) (o:Option (List Sound.Bytes)) (Q:VK) (E:XK):Prop:=match o with
 |some l=>fU H Q (bn (Sound.tagArea l pad))
 |none=> ∀H',ae H H'→E (.ref A.bV) none H'
def Tu (K:PySem.W.Frag) (A:aW):Sp:=fun vs H Q E=> ∃(pad:Nat) (q:Addr) (B:Sound.Bytes),vs= [.int (pad:Nat), .ref q]∧ah K H q (vN (bn B))∧B.length≤2048∧Ga A H B pad (Sound.tagList B pad) Q E
theorem xR:aK ["pad", "data", "reading", "tags"] ["pad", "data"] (aB Cp):=⟨rfl,rfl,rfl,by decide+kernel,rfl,by decide+kernel,by decide+kernel⟩
theorem LP (T:Txt K mg A):az P w K mg base (aY P w) 7 A.qs A.mw ["pad", "data"] (Tu K A):=by
 refine T.C1.bO xR (fun vs H Q E h=>?_) (fun cdv Ar outer s H vs Q E hr h=>?_)
 ·obtain ⟨pad,q,B,rfl,_⟩:=h
  rfl
 ·obtain ⟨pad,q,B,rfl,hq,hB,k⟩:=h
  have hr1':aE 1 _:=hr.mono (by decide)
  have hr2':aE 2 _:=hr.mono (by decide)
  refine ⟨_,ai (bg (bc dF (au bS (au bS (au bS (aR rfl T.x8) (bX cx (by rfl) T.cj PySem.boot_len (aa (pv 1) af))) (pv 0)) (aR rfl T.kg)) (aR rfl T.F9) (aZ _)) (ak (d8 rfl rfl T.kQ T.ly.exc eE)) br)
   (ai (aJ (i:=2) xR.nd rfl (Or.inl rfl) (fW T.EO (AJ T) hr2' rfl T.FX T.zj .nil aQ (aa (pv 1) af)))
   (ai (aJ (i:=3) xR.nd rfl (Or.inl rfl) (bZ af))
   (ai (Du PassesOwn.leaving (bc pF (ay (pv 2) rfl) (bX cx (by rfl) T.cj PySem.boot_len (aa (pv 1) af)) (aZ _))
    (ak (ba (aP (Cg T) hr rfl T.AO T.xD.kp T.CA .nil aN (aa (pv 2) (aa (bX cx (by rfl) T.cj PySem.boot_len (aa (pv 1) af)) (aa (pv 3) af)))))))
   (ai (bg (bc dF (bX cx (by rfl) T.cj PySem.boot_len (aa (pv 3) af)) (aR rfl T.F8) (aZ _)) (ak (d8 rfl rfl T.kQ T.ly.exc eE)) br)
   (ak (aX (aP (wL T) hr2' rfl T.vV T.rD.kp T.yc .nil aQ (aa (au fc (au fc (aP (gQ T) hr1' rfl T.gU T.gh.kp T.gu .nil aQ (aa (aR rfl T.x8) (aa (bX cx (by rfl) T.cj PySem.boot_len (aa (pv 3) af)) af))) (pv 1)) (au xk (bZ (aa aq af)) (pv 0))) af)))))))),?_⟩
  rw[zV] at k
  refine ⟨_,rfl,ag q _ ⟨rfl, .inl hq,ag _ _ ⟨rfl,rfl,_,rfl,ag _ _ ⟨rfl,rfl,ag _ _ ⟨rfl,rfl,ag _ _ ⟨rfl,rfl,_,rfl,?_⟩⟩⟩⟩⟩⟩
  rw[aO,bx]
  have bad: ¬(B.length+pad+6≤1024)→ ∀H',ae H H'→E (.ref A.bV) none H':=fun c=>by
   cases e:iE (B.length+1) 0 [] B with
   |none=>rw[e] at k;exact k
   |some l=>
    rw[e] at k
    dsimp only at k
    rw[if_neg (fun z=>c z.2)] at k
    exact k
  refine bW (fun c=>?_) fun c=>?_
  ·have c:(1024:Int)<2+((B.length:Nat):Int)+((pad:Nat):Int)+4:=of_decide_eq_true c
   exact bad (by lia) H (ae.refl _)
  have c: ¬(1024:Int)<2+((B.length:Nat):Int)+((pad:Nat):Int)+4:=fun z=>c (decide_eq_true z)
  clear bad
  refine ⟨_,rfl,fun r dr hr0 hdr hne=>?_⟩
  have sm:ae H (upd (upd H dr (.own r)) r (.ins A.ax dr [])):=d4 hr0 hdr
  refine (aA r dr q _ ⟨rfl,aj,sm.seq hq,rfl,?_⟩)
  rw[gN]
  have s1:ae H (upd (upd H dr (.own r)) r (.ins A.ax dr (bw (.ref q) (.int 0) (.int 0) (.int ((vN (bn B)).length:Nat))))):=d4 hr0 hdr
  have hS1:aG A.ax (upd (upd H dr (.own r)) r (.ins A.ax dr (bw (.ref q) (.int 0) (.int 0) (.int ((vN (bn B)).length:Nat))))) ⟨r,dr,q,B⟩ 0:=by
   unfold aG
   rw[aj,aO,bx];rfl
  generalize upd (upd H dr (.own r)) r (.ins A.ax dr (bw (.ref q) (.int 0) (.int 0) (.int ((vN (bn B)).length:Nat))))=H1 at*
  refine ⟨(by rw[sizeLine_eq];exact Nat.zero_le _),fun D hD=>?_⟩
  have s2:=aF (o:= .lst []) hD
  have hDr:D≠r:=fun z=>by unfold aG at hS1;rw[z,hS1] at hD;cases hD
  have hDH:H D=none:=s1.none hD
  have hid2: ∀H',ae H H'→ae H (hide D (hide r H')):=fun H' s'=>ra hDH (ra hr0 s')
  have hrgi: ∀H',ae H H'→dj K H' ⟨r,dr,q,B⟩:=fun H' s'=>⟨(ra hr0 s').seq hq,by show B.length≤_;lia⟩
  obtain ⟨W,hW⟩: ∃W:Hp,W=fun _=>none:=⟨_,rfl⟩
  generalize hwt:iE (B.length+1) 0 [] B=wt at*
  refine A9 (fun σ H'=> ∃(pl fuel:Nat) (seen:List Sound.Bytes),σ= [some (.int (pad:Nat)),some (.ref q),some (.ref r),some (.ref D)]∧pl≤B.length∧B.length-pl<fuel∧seen.length≤pl∧ae H H'∧aG A.ax H' ⟨r,dr,q,B⟩ pl∧dG A.b4 W H' r D seen∧iE fuel pl seen (B.drop pl)=wt) (x4 r B.length)
   ⟨0,B.length+1, [],rfl,Nat.zero_le _,by lia,Nat.le_refl _,s1.trans s2,s2 _ _ hS1,⟨[],by rw[hide_ne hDr];exact aj,rfl,fun k a e=>by simp at e,fun b _ _ _=>by rw[hW]⟩,hwt⟩ ?_
  rintro σ H2 ⟨pl,fuel,seen,rfl,hpl,hfu,hsl,s02,hS2,hT2,hw2⟩ C hT hN
  have hS2r:=hS2
  unfold aG at hS2r
  refine (aD rfl hS2r T.aM T.cC rfl ⟨_,rfl,ag q _ ⟨rfl, .inl (s02.seq hq),ag _ _ ⟨rfl,rfl,_,rfl,?_⟩⟩⟩)
  rw[aO,bx]
  obtain ⟨fuel,rfl⟩: ∃m,fuel=m+1:=⟨fuel-1,by lia⟩
  unfold iE at hw2
  have hem:(B.drop pl).isEmpty=true↔B.length≤pl:=by rw[List.isEmpty_iff,List.drop_eq_nil_iff]
  by_cases hc:((pl:Nat):Int)<((B.length:Nat):Int)
  ·rw[decide_eq_true hc]
   refine hT _ ?_
   rw[if_neg (fun z=>by have:=hem.mp z;lia)] at hw2
   refine ⟨_,rfl,_,rfl,ag q _ ⟨rfl, .inl (s02.seq hq),_,rfl,⟨r,dr,q,B⟩,W,D,pl,B.length-pl,seen,?_,hrgi H2 s02,hS2,hT2,⟨hpl,by lia⟩,?_⟩⟩
   ·rw[aO,bx,show pl+(B.length-pl)=B.length by lia];rfl
   have eb:(B.drop pl).take (B.length-pl+4)=B.drop pl:=List.take_of_length_le (by rw[List.length_drop];lia)
   show tJ A H2 _ W D pl seen ((B.drop pl).take (B.length-pl+4)) (cK pl (B.length-pl) seen ((B.drop pl).take (B.length-pl+4))) _ _
   rw[eb]
   rw[List.length_drop] at hw2
   unfold tJ
   cases eo:cK pl (B.length-pl) seen (B.drop pl) with
   |inl st=>
    rw[eo] at hw2
    dsimp only at hw2⊢
    subst hw2
    exact fun H3 s3 hF hT3=>k H3 ((hid2 H2 s02).trans s3)
   |inr z=>
    rw[eo] at hw2
    dsimp only at hw2⊢
    have hz1:=one_pos eo
    obtain ⟨hz2,hz3⟩:=vM eo
    rw[List.drop_drop] at hw2
    intro H3 s3 hS3 hT3
    have s03:=(hid2 H2 s02).trans s3
    refine ⟨⟨pl+z,fuel,_,rfl,by lia,by lia,by rw[List.length_append];show _+1≤_;lia,s03,hS3,hT3,hw2⟩,?_⟩
    rw[Cn hS3,Cn hS2]
    lia
  ·rw[decide_eq_false hc]
   refine hN _ ?_
   rw[if_pos (hem.mpr (by lia))] at hw2
   subst hw2
   obtain ⟨as,t1,t2,t3,_⟩:=hT2
   have hD2:H2 D=some (.lst (as.map V.ref)):=(cq t1).1
   refine ⟨_,rfl,ag D _ ⟨rfl, .inl (ah.of hD2),ag _ _ ⟨rfl,rfl,_,rfl,?_⟩⟩⟩
   rw[List.length_map,t2]
   dsimp only at k
   refine bW (fun c2=>?_) fun c2=>?_
   ·have c2:(16:Int)<((seen.length:Nat):Int):=of_decide_eq_true c2
    rw[if_neg (fun z=>by have:=z.1;lia)] at k
    exact k H2 s02
   have c2: ¬(16:Int)<((seen.length:Nat):Int):=fun z=>c2 (decide_eq_true z)
   rw[if_pos ⟨by lia,by lia⟩] at k
   refine ⟨_,rfl,ag D _ ⟨rfl, .inl (ah.of hD2),2,seen.length,?_,by decide,fun D3 H3 hD3 s3 hx3=>?_⟩⟩
   ·rw[List.length_map,t2];rfl
   have s03:=s02.trans s3
   refine ⟨_,rfl,aA D3 q _ _ ⟨rfl,rfl,ah.of hx3,s03.seq hq,(by rw[aO,bG,aO,bx,sizeLine_eq];lia),fun D4 hD4=>?_⟩⟩
   have s4:=aF (o:= .lst (vN (aT 2 seen.length)++vN (bn B))) hD4
   refine ⟨(by rw[sizeLine_eq];show 1≤_;lia),fun D5 hD5=>⟨_,rfl,bE D5 _ _ ⟨rfl,rfl,aj,by lia,by lia,(by rw[sizeLine_eq];simp;lia),fun D6 hD6=>?_⟩⟩⟩
   have s5:=aF (o:= .lst [V.int 0]) hD5
   rw[Int.toNat_natCast,wN]
   have s6:=aF (o:= .lst (vN (List.replicate pad 0))) hD6
   refine (aA D4 D6 _ _ ⟨rfl,rfl,ah.of (s6 _ _ (s5 _ _ aj)),ah.of aj,(by rw[List.length_append,aO,aO,aO,bG,bx,List.length_replicate,sizeLine_eq];lia),fun D7 hD7=>?_⟩)
   rw[←dB,←dB]
   have s7:=aF (o:= .lst (vN (aT 2 seen.length++bn B++List.replicate pad 0))) hD7
   have s07:=s03.trans (s4.trans (s5.trans (s6.trans s7)))
   have hlt: ∀x∈aT 2 seen.length++bn B++List.replicate pad 0,x<256:=fun x hx=>by
    rcases List.mem_append.mp hx with hx|hx
    ·rcases List.mem_append.mp hx with hx|hx
     ·exact pC _ _ x hx
     ·exact eX _ x hx
    ·rw[(List.mem_replicate.mp hx).2];decide
   refine (ag D7 _ ⟨rfl,ah.of aj,hlt,(by rw[List.length_append,List.length_append,bG,bx,List.length_replicate];lia),fun D8 H8 hD8 s8 hx8=>k D8 H8 (s07.none hD8) (s07.trans s8) ?_⟩)
   rw[hx8]
   have ef:seen.flatten=B:=by
    have hw:=hwt
    rw[tF] at hw
    cases et:Sound.tagsIn (B.length+1) B with
    |none=>rw[et] at hw;cases hw
    |some l=>
     rw[et] at hw
     dsimp only at hw
     split at hw
     ·cases hw
      rw[List.nil_append]
      exact uR _ _ _ et
     ·cases hw
   unfold Sound.tagArea
   dsimp only
   rw[u7,ef,dJ,dJ,d7,List.append_assoc]
   congr 5
   unfold bn
   rw[List.map_replicate];rfl
theorem Ox (F:List Nat) (a:Nat) (h1:1≤a) (h:a≤F.length):cW (vN F) (some (-(a:Int))) none=vN (F.drop (F.length-a)):=by
 unfold cW HT.dh vN
 simp only [List.length_map]
 rw[if_pos (by lia),←List.map_drop,←List.map_take]
 congr 1
 rw[show ((-(a:Int)+(F.length:Int)).toNat)=F.length-a by lia]
 exact List.take_of_length_le (by rw[List.length_drop];lia)
theorem RH (F:List Nat) (i a:Nat) (h1:1≤a) (h:a≤F.length):cW (vN F) (some (i:Int)) (some (-(a:Int)))=vN ((F.drop i).take (F.length-a-i)):=by
 unfold cW HT.dh vN
 simp only [List.length_map]
 rw[if_pos (show-(a:Int)<0 by lia),if_neg (show¬(i:Int)<0 by lia),Int.toNat_natCast,←List.map_drop,←List.map_take,show ((-(a:Int)+(F.length:Int)).toNat)=F.length-a by lia]
 congr 1
 rcases Nat.le_total i F.length with g|g
 ·rw[Nat.min_eq_left g]
 ·rw[Nat.min_eq_right g,List.drop_length,List.drop_of_length_le g,List.take_nil,List.take_nil]
def kJ (F:Sound.Form) (n t:Nat):List Nat:= [83,75,69,69,80,1,13,10]++([F.channels,F.depth]++aT 2 F.block++ [F.group,F.spare])++aT 4 n++aT 4 t
theorem Eh {F:Sound.Form} (n t:Nat) (ao:F.ok=true):bn (Sound.headOf F n t)=i8 (kJ F n t):=by
 obtain ⟨⟨hc1,hc2⟩,⟨hd1,hd2⟩,_,_,⟨hg1,hg2⟩,hsp⟩:=g9 ao
 unfold Sound.headOf kJ
 dsimp only
 rw[u7]
 congr 1
 rw[dJ,dJ,dJ,dJ,dJ,dJ,dJ,d7,d7,d7,d7,d7,d7,d7,lU (by lia),lU (by lia),lU (by lia),lU (by lia)]
 simp only [List.append_assoc,List.cons_append,List.nil_append]
 rfl
theorem J8 {F:Sound.Form} (n t:Nat) (ao:F.ok=true): ∀x∈kJ F n t,x<256:=by
 have e:=Eh n t ao
 unfold i8 at e
 intro x hx
 exact eX _ x (by rw[e];exact List.mem_append_left _ hx)
def Qh (C:Addr):Sp:=fun vs H Q _=> ∃(f:Addr) (F:Sound.Form) (n t:Nat),vs= [.ref f, .int (n:Nat), .int (t:Nat)]∧gk C H f F∧F.ok=true∧fU H Q (bn (Sound.headOf F n t))
theorem A6:aK ["form", "samples", "tags_size", "shape"] ["form", "samples", "tags_size"] (aB zX):=⟨rfl,rfl,rfl,by decide+kernel,rfl,by decide+kernel,by decide+kernel⟩
theorem IJ (T:Txt K mg A):az P w K mg base a9 3 A.qj A.nz ["form", "samples", "tags_size"] (Qh A.bM):=by
 refine T.zi.ok A6 (fun vs H Q E h=>?_) (fun cdv Ar outer s H vs Q E hr h=>?_)
 ·obtain ⟨f,F,n,t,rfl,_⟩:=h
  rfl
 ·obtain ⟨f,F,n,t,rfl,⟨df,hf⟩,ao,k⟩:=h
  have hr1':aE 1 _:=hr.mono (by decide)
  refine ⟨_,ai (aJ (i:=3) A6.nd rfl (Or.inl rfl) (au fc (au fc (bZ (aa (ay (pv 0) rfl) (aa (ay (pv 0) rfl) af))) (aP (gQ T) hr1' rfl T.gU T.gh.kp T.gu .nil aQ (aa aq (aa (ay (pv 0) rfl) af)))) (bZ (aa (ay (pv 0) rfl) (aa (ay (pv 0) rfl) af)))))
   (ak (aX (aP (wL T) hr rfl T.vV T.rD.kp T.yc .nil aQ (aa (au fc (au fc (au fc (tI tK rfl T.tV (by decide+kernel:bootBuiltins "list" =some (.type "list")) (aa (dR rfl T.yg) af)) (pv 3))
    (aP (gQ T) hr1' rfl T.gU T.gh.kp T.gu .nil aQ (aa aq (aa (pv 1) af)))) (aP (gQ T) hr1' rfl T.gU T.gh.kp T.gu .nil aQ (aa aq (aa (pv 2) af)))) af)))),?_⟩
  have sz: ∀m:Nat,m≤1000→m≤sizeLine:=fun m hm=>by rw[sizeLine_eq];lia
  refine aD rfl hf T.b8 T.rO rfl (aD rfl hf T.b8 T.nN rfl ⟨sz 2 (by decide),fun D1 hD1=>?_⟩)
  have s1:=aF (o:= .lst (vN [F.channels,F.depth])) hD1
  refine aD rfl (s1 _ _ hf) T.b8 T.jF rfl (ag 2 F.block ⟨rfl,by decide,fun D2 H2 hD2 s2 hx2=>?_⟩)
  have t2:=s1.trans s2
  refine ⟨D1,D2,vN [F.channels,F.depth],vN (aT 2 F.block),rfl,rfl,ah.of (s2 _ _ aj),ah.of hx2,(by rw[aO,aO,bG];exact sz 4 (by decide)),fun D3 hD3=>?_⟩
  have s3:=aF (o:= .lst (vN [F.channels,F.depth]++vN (aT 2 F.block))) hD3
  have t3:=t2.trans s3
  refine aD rfl (t3 _ _ hf) T.b8 T.rH rfl (aD rfl (t3 _ _ hf) T.b8 T.vn rfl ⟨sz 2 (by decide),fun D4 hD4=>?_⟩)
  have s4:=aF (o:= .lst (vN [F.group,F.spare])) hD4
  have t4:=t3.trans s4
  refine ⟨D3,D4,vN [F.channels,F.depth]++vN (aT 2 F.block),vN [F.group,F.spare],rfl,rfl,ah.of (s4 _ _ aj),ah.of aj,(by rw[List.length_append,aO,aO,aO,bG];exact sz 6 (by decide)),fun D5 hD5=>?_⟩
  rw[←dB,←dB]
  have s5:=aF (o:= .lst (vN ([F.channels,F.depth]++aT 2 F.block++ [F.group,F.spare]))) hD5
  have t5:=t4.trans s5
  have hx5:upd (upd (upd (upd H2 D3 (.lst (vN [F.channels,F.depth]++vN (aT 2 F.block)))) D4 (.lst (vN [F.group,F.spare]))) D5 (.lst (vN ([F.channels,F.depth]++aT 2 F.block++ [F.group,F.spare])))) D5 (.own 0) D5=some (.own 0):=aj
  clear hx5
  refine (ag A.jM _ ⟨rfl, .inr (T.vj _),fun D6 hD6=>?_⟩)
  have s6:=aF (o:= .lst (vN [83,75,69,69,80,1,13,10])) hD6
  have t6:=t5.trans s6
  refine ⟨_,rfl,D6,D5,vN [83,75,69,69,80,1,13,10],vN ([F.channels,F.depth]++aT 2 F.block++ [F.group,F.spare]),rfl,rfl,ah.of aj,ah.of (s6 _ _ aj),(by rw[aO,aO,List.length_append,List.length_append,bG];exact sz 14 (by decide)),fun D7 hD7=>?_⟩
  rw[←dB]
  have s7:=aF (o:= .lst (vN ([83,75,69,69,80,1,13,10]++([F.channels,F.depth]++aT 2 F.block++ [F.group,F.spare])))) hD7
  have t7:=t6.trans s7
  refine ⟨_,rfl,ag 4 n ⟨rfl,by decide,fun D8 H8 hD8 s8 hx8=>?_⟩⟩
  have t8:=t7.trans s8
  refine (aA D7 D8 _ _ ⟨rfl,rfl,ah.of (s8 _ _ aj),ah.of hx8,(by rw[aO,aO,List.length_append,List.length_append,List.length_append,bG,bG];exact sz 18 (by decide)),fun D9 hD9=>?_⟩)
  rw[←dB]
  have s9:=aF (o:= .lst (vN ([83,75,69,69,80,1,13,10]++([F.channels,F.depth]++aT 2 F.block++ [F.group,F.spare])++aT 4 n))) hD9
  have t9:=t8.trans s9
  refine ⟨_,rfl,ag 4 t ⟨rfl,by decide,fun Da Ha hDa sa hxa=>?_⟩⟩
  have ta:=t9.trans sa
  refine (aA D9 Da _ _ ⟨rfl,rfl,ah.of (sa _ _ aj),ah.of hxa,(by rw[aO,aO,List.length_append,List.length_append,List.length_append,List.length_append,bG,bG,bG];exact sz 22 (by decide)),fun Db hDb=>?_⟩)
  rw[←dB]
  have sb:=aF (o:= .lst (vN (kJ F n t))) hDb
  have tb:=ta.trans sb
  refine ⟨Db,kJ F n t,rfl,ah.of aj,J8 n t ao,(by unfold kJ;rw[List.length_append,List.length_append,List.length_append,List.length_append,List.length_append,bG,bG,bG];exact (by decide:22≤1000000)),fun Dc Hc hDc sc hxc=>k Dc Hc (tb.none hDc) (tb.trans sc) ?_⟩
  rw[hxc,Eh n t ao]
def Iu (K:PySem.W.Frag) (A:aW):Sp:=fun vs H Q _=> ∃(x q r:Addr) (h:Sound.Head) (B tp:Sound.Bytes),vs= [.ref x, .ref q, .ref r]∧jk A H x h∧ah K H q (vN (bn B))∧ah K H r (vN (bn tp))∧(h.form.ok=true∧30+h.t≤B.length∧B.length≤16384∧tp.length≤16384)∧
 fU H Q (bn (Sound.headOf h.form h.n tp.length++(tp++((B.drop (26+h.t)).take (B.length-30-(26+h.t))++(Sound.headOf h.form h.n tp.length++B.drop (B.length-4))))))
theorem uw:aK ["head", "data", "tags_part", "new_head", "recording_sum", "between"] ["head", "data", "tags_part"] (aB Fv):=⟨rfl,rfl,rfl,by decide+kernel,rfl,by decide+kernel,by decide+kernel⟩
theorem EI (F:Sound.Form) (n t:Nat):(Sound.headOf F n t).length=26:=by
 unfold Sound.headOf Sound.high
 simp only [List.length_append,List.length_map,List.length_range]
 rfl
theorem MZ (T:Txt K mg A):az P w K mg base a9 4 A.mx A.mO ["head", "data", "tags_part"] (Iu K A):=by
 refine T.EV.ok uw (fun vs H Q E h=>?_) (fun cdv Ar outer s H vs Q E hr h=>?_)
 ·obtain ⟨x,q,r,h,B,tp,rfl,_⟩:=h
  rfl
 ·obtain ⟨x,q,r,h,B,tp,rfl,⟨dx,f,hx1,df,hf⟩,hq,hr',⟨ao,hl1,hl2,hl3⟩,k⟩:=h
  refine ⟨_,ai (aJ (i:=3) uw.nd rfl (Or.inl rfl) (aP (IJ T) hr rfl T.Jx T.zi.kp T.Nh .nil aQ (aa (ay (pv 0) rfl) (aa (ay (pv 0) rfl) (aa (bX cx (by rfl) T.cj PySem.boot_len (aa (pv 2) af)) af)))))
   (ai (aJ (i:=4) uw.nd rfl (Or.inl rfl) (eH eJ (pv 1) (cD (fw fB (aR rfl T.kg))) kq))
   (ai (aJ (i:=5) uw.nd rfl (Or.inl rfl) (eH eJ (pv 1) (cD (au bS (aR rfl T.yf) (ay (pv 0) rfl))) (cD (au du (fw fB (aR rfl T.yf)) (aR rfl T.kg)))))
   (ak (aX (au fc (au fc (au fc (au fc (pv 3) (pv 2)) (pv 5)) (pv 3)) (pv 4)))))),?_⟩
  have sz: ∀m:Nat,m≤100000→m≤sizeLine:=fun m hm=>by rw[sizeLine_eq];lia
  have vb: ∀b:Sound.Bytes,(vN (bn b)).length=b.length:=fun b=>by rw[aO,bx]
  have vbA: ∀a b:Sound.Bytes,vN (bn a)++vN (bn b)=vN (bn (a++b)):=fun a b=>by rw[dJ,dB]
  refine aD rfl hx1 T.fi T.kN rfl (aD rfl hx1 T.fi T.r6 rfl ⟨_,rfl,ag r _ ⟨rfl, .inl hr',f,Sound.eager h.form,h.n,tp.length,?_,⟨df,hf⟩,Dn ao,fun D1 H1 hD1 s1 hx1'=>?_⟩⟩)
  ·rw[vb];rfl
  rw[show Sound.headOf (Sound.eager h.form) h.n tp.length=Sound.headOf h.form h.n tp.length from rfl] at hx1'
  have hgl:=EI h.form h.n tp.length
  generalize Sound.headOf h.form h.n tp.length=g at*
  refine ⟨_,rfl,_,rfl,_,rfl,ag q _ ⟨rfl,s1.seq hq,fun D2 hD2=>?_⟩⟩
  rw[show (-4:Int)= -((4:Nat):Int) from rfl,Ox _ 4 (by decide) (by rw[bx];lia),gO,bx]
  have s2:=aF (o:= .lst (vN (bn (B.drop (B.length-4))))) hD2
  have t2:=s1.trans s2
  refine ⟨_,rfl,aD rfl (t2 _ _ hx1) T.fi T.vR rfl (ag _ _ ⟨rfl,rfl,_,rfl,_,rfl,ag _ _ ⟨rfl,rfl,_,rfl,ag q _ ⟨rfl,t2.seq hq,fun D3 hD3=>?_⟩⟩⟩)⟩
  dsimp only
  rw[show (26:Int)+((h.t:Nat):Int)=((26+h.t:Nat):Int) by lia,show (-26-4:Int)= -((30:Nat):Int) from rfl,RH _ _ 30 (by decide) (by rw[bx];lia),gO,fH,bx]
  have s3:=aF (o:= .lst (vN (bn ((B.drop (26+h.t)).take (B.length-30-(26+h.t)))))) hD3
  have t3:=t2.trans s3
  have hg3:=(s2.trans s3) _ _ hx1'
  have hr3:=s3 _ _ (aj (H:=H1) (a:=D2) (o:= .lst (vN (bn (B.drop (B.length-4))))))
  refine ⟨_,rfl,_,rfl,aA D1 r _ _ ⟨rfl,rfl,ah.of hg3,t3.seq hr',(by rw[vb,vb];exact sz _ (by lia)),fun D4 hD4=>?_⟩⟩
  rw[vbA]
  have s4:=aF (o:= .lst (vN (bn (g++tp)))) hD4
  have hml:((B.drop (26+h.t)).take (B.length-30-(26+h.t))).length≤16384:=by rw[List.length_take,List.length_drop];lia
  have hsl:(B.drop (B.length-4)).length≤16384:=by rw[List.length_drop];lia
  refine ⟨_,rfl,aA D4 D3 _ _ ⟨rfl,rfl,ah.of aj,ah.of (s4 _ _ aj),(by rw[vb,vb,List.length_append];exact sz _ (by lia)),fun D5 hD5=>?_⟩⟩
  rw[vbA]
  have s5:=aF (o:= .lst (vN (bn (g++tp++(B.drop (26+h.t)).take (B.length-30-(26+h.t)))))) hD5
  refine ⟨_,rfl,aA D5 D1 _ _ ⟨rfl,rfl,ah.of aj,ah.of ((s4.trans s5) _ _ hg3),(by rw[vb,vb,List.length_append,List.length_append];exact sz _ (by lia)),fun D6 hD6=>?_⟩⟩
  rw[vbA]
  have s6:=aF (o:= .lst (vN (bn (g++tp++(B.drop (26+h.t)).take (B.length-30-(26+h.t))++g)))) hD6
  have t6:=t3.trans (s4.trans (s5.trans s6))
  refine ⟨_,rfl,aA D6 D2 _ _ ⟨rfl,rfl,ah.of aj,ah.of ((s4.trans (s5.trans s6)) _ _ hr3),(by rw[vb,vb,List.length_append,List.length_append,List.length_append];exact sz _ (by lia)),fun D7 hD7=>k D7 _ (t6.none hD7) (t6.trans (aF hD7)) ?_⟩⟩
  rw[vbA,aj]
  simp only [List.append_assoc]
def Kv (K:PySem.W.Frag):Sp:=fun vs H Q _=> ∃(q:Addr) (B:Sound.Bytes),vs= [.ref q]∧ah K H q (vN (bn B))∧B.length≤1000000∧ ∀D H',H' D=some (.lst ((Sound.fileOut B).map V.int))→Q (.ref D) H'
theorem Ju (b:Sound.Bytes):(Sound.gives b).map V.int=V.int ((vN (bn b)).length:Nat)::vN (bn b):=by
 unfold Sound.gives Sound.nats
 rw[aO,bx]
 simp only [List.map_cons,List.map_map]
 unfold vN bn
 rw[List.map_map];rfl
theorem Lz:aK ["data"] ["data"] (aB Am):=⟨rfl,rfl,rfl,by decide+kernel,rfl,by decide+kernel,by decide+kernel⟩
theorem P8 (T:Txt K mg A):az P w K mg base a9 2 A.oz A.mU ["data"] (Kv K):=by
 refine T.BZ.ok Lz (fun vs H Q E h=>?_) (fun cdv Ar outer s H vs Q E hr h=>?_)
 ·obtain ⟨q,B,rfl,_⟩:=h
  rfl
 ·obtain ⟨q,B,rfl,hq,hl,k⟩:=h
  refine ⟨_,ak (aX (lA (bc dF (bX cx (by rfl) T.cj PySem.boot_len (aa (pv 0) af)) (aR rfl T.NO) (aZ _)) (bZ (aa (fw fB aq) af)) (aP (J5 T) hr rfl T.QQ T.EF.kp T.GR .nil aQ (aa (pv 0) af)))),?_⟩
  refine ⟨_,rfl,ag q _ ⟨rfl, .inl hq,ag _ _ ⟨rfl,rfl,_,rfl,?_⟩⟩⟩
  rw[aO,bx]
  unfold Sound.fileOut Sound.tooLong Sound.FILE at k
  refine bW (fun c=>?_) fun c=>?_
  ·have c:(16384:Int)<((B.length:Nat):Int):=of_decide_eq_true c
   rw[if_pos (decide_eq_true (by lia))] at k
   exact ⟨_,rfl,(by rw[sizeLine_eq];show 1≤_;lia),fun D hD=>k D _ (by rw[aj];rfl)⟩
  ·have c: ¬(16384:Int)<((B.length:Nat):Int):=fun z=>c (decide_eq_true z)
   rw[if_neg (fun z=>c (by have:=of_decide_eq_true z;lia))] at k
   exact ⟨_,rfl,ag q _ ⟨rfl,hq,by rw[aO,bx];lia,fun D H' hD s hx=>k D H' (by rw[Ju];exact hx)⟩⟩
theorem Ow (B:Sound.Bytes):j7 LB B S0:=F0 B [] fun _ _ _ _ _=>trivial
theorem Iq (B:Sound.Bytes):(∃h l S,fZ B=some (h,l)∧Sound.mayHead h=true∧dw LB B S0= .ok S)∨(fZ B=none∧ ∃w k p,k≠0∧dw LB B S0= .error (w,k,p)):=by
 have hrun:dw LB B S0=match cu B with
   | .error (k,p)=> .error (Sound.nothing,k,p)
   | .ok h=>dw [fO] B ⟨⟨some h, [], [],0⟩, [], [],26⟩:=by
  unfold LB
  rw[jt]
  unfold gw
  dsimp only
  cases cu B with
  |error z=>rfl
  |ok h=>rfl
 rw[hrun]
 unfold fZ
 cases e:cu B with
 |error z=>exact .inr ⟨rfl,_,z.1,z.2,zb e,rfl⟩
 |ok h=>
  dsimp only
  rw[jt]
  unfold fO
  dsimp only
  cases ea:Sound.areaOf h.t ((B.drop 26).take h.t) with
  |mk l st=>
   cases st with
   |more=>exact .inr ⟨rfl,_,1,B.length,Nat.one_ne_zero,rfl⟩
   |fault k p=>exact .inr ⟨rfl,_,k,p,FF ea,rfl⟩
   |whole=>exact .inl (bE h l _ ⟨rfl,(vZ e).2.1,rfl⟩)
def wa (A:aW):List (Addr×dQ):= [(A.gZ,gw),(A.gE,fO)]
theorem RU (T:Txt K mg A): ∀x∈wa A,∃d,az P w K mg base (aY P w) 8 x.1 d ["hearing"] (iI K A x.2)∧PySem.W.keepIn K (.ref x.1)=true∧Binds K d ["hearing"] []:=by
 intro x hx
 simp only [wa,List.mem_cons,List.not_mem_nil,or_false] at hx
 rcases hx with rfl|rfl
 ·exact ⟨_,DU T,T.uN.kp,T.Ac⟩
 ·exact ⟨_,B1 T,T.xI.kp,T.Cd⟩
def NY (K:PySem.W.Frag) (A:aW):Sp:=fun vs H Q _=> ∃(q:Addr) (B:Sound.Bytes),vs= [.ref q]∧ah K H q (vN (bn B))∧B.length≤16384∧ ∀X H',X.B=B→ae H H'→(∀y∈X.l,H y=none)→uF K A H' X (dw LB B S0)→Q (.ref X.p) H'
theorem Qv:aK ["data"] ["data"] (aB B9):=⟨rfl,rfl,rfl,by decide+kernel,rfl,by decide+kernel,by decide+kernel⟩
theorem OO (T:Txt K mg A):az P w K mg base a9 10 A.o5 A.qA ["data"] (NY K A):=by
 refine T.DQ.ok Qv (fun vs H Q E h=>?_) (fun cdv Ar outer s H vs Q E hr h=>?_)
 ·obtain ⟨q,B,rfl,_⟩:=h
  rfl
 ·obtain ⟨q,B,rfl,hq,hB,k⟩:=h
  refine ⟨_,ak (aX (aP (Dq T (N:=8) (by decide) (wa A) (RU T)) hr rfl T.AG T.ya.kp T.A3 .nil aQ (aa (pv 0) (aa (bZ (aa (dR rfl T.DG) (aa (dR rfl T.AI) af))) af)))),?_⟩
  refine ⟨_,rfl,by rw[sizeLine_eq];show 2≤_;lia,fun L hL=>?_⟩
  have s1:=aF (o:= .lst [V.ref A.gZ,V.ref A.gE]) hL
  exact (bE q L B ⟨rfl,s1.seq hq,ah.of aj,hB,Ow B,fun X H' eB s' hfr ho=>k X H' eB (s1.trans s') (fun y hy=>s1.none (hfr y hy)) ho⟩)
theorem xT (f:Sound.Form) (n start:Nat) (idx:Sound.Bytes): ∀(fuel k place:Nat) (grp:List Sound.Bytes) (b:Sound.Bytes) (w:Sound.Told),(Sound.judgeFrames f n start idx fuel k place grp b w).1.head=w.head
 |0,k,place,grp,b,w=>by unfold Sound.judgeFrames;rfl
 |fuel+1,k,place,grp,b,w=>by
  by_cases hk:k=Sound.framesOf f n
  ·rw[rC _ _ _ _ _ _ _ _ _ _ hk]
  ·rw[tQ _ _ _ _ _ _ _ _ _ _ hk]
   split
   ·rfl
   ·cases Sound.unframe f b with
    |bad=>rfl
    |short=>rfl
    |frame y=>
     dsimp only
     split
     ·rfl
     ·split
      ·split
       ·rfl
       ·exact (xT f n start idx fuel _ _ _ _ _).trans rfl
      ·exact (xT f n start idx fuel _ _ _ _ _).trans rfl
theorem K6 {B:Sound.Bytes} {h:Sound.Head} {l:List Sound.Bytes} (ef:fZ B=some (h,l)) (e:(Sound.judge B).2= .whole):(Sound.judge B).1.head=some h∧30+h.t≤B.length:=by
 rw[FE] at e⊢
 unfold fZ at ef
 cases eh:cu B with
 |error z=>rw[eh] at ef;cases ef
 |ok h'=>
  rw[eh] at e ef
  dsimp only at e ef⊢
  unfold rW at e⊢
  cases ea:Sound.areaOf h'.t ((B.drop 26).take h'.t) with
  |mk l' st=>
   rw[ea] at e ef
   cases st with
   |more=>cases ef
   |fault k p=>cases ef
   |whole=>
    cases ef
    dsimp only at e⊢
    cases ei:dE B (26+h.t) (Sound.framesOf h.form h.n) with
    |error z=>
     rw[ei] at e
     dsimp only at e
     unfold nX at e
     split at e<;>cases e
    |ok u=>
     have hlen:26+h.t+3*Sound.framesOf h.form h.n+4≤B.length:=by
      unfold dE at ei
      split at ei
      ·cases ei
      ·split at ei
       ·cases ei
       ·lia
     refine ⟨?_,by lia⟩
     dsimp only
     have hh:=xT h.form h.n (fJ B h l).pl ((B.drop (26+h.t)).take (3*Sound.framesOf h.form h.n)) (Sound.framesOf h.form h.n+1) 0 (fJ B h l).pl [] (B.drop (fJ B h l).pl) (fJ B h l).w
     split
     ·rename_i v s ej
      unfold eK at ej
      rw[ej] at hh
      exact hh
     ·rename_i v p r ej
      unfold eK at ej
      rw[ej] at hh
      exact hh
def vv (B tg:Sound.Bytes) (pad:Nat):List Int:=match fZ B with
 |none=> [-2]
 |some (h,_)=>match Sound.tagList tg pad with
  |none=> [-3]
  |some t=>if (dM B.length (Sound.judge B).2).1≠0 then [-9] else Sound.fileOut (Sound.retag B h t pad)
theorem SF (pad:Nat) (file tags:List Int) (hl:file.length≤16384):PyWqaubg.retag (pad:Int) file tags=vv (cR file) (cR tags) pad:=by
 have e:PyWqaubg.retag (pad:Int) file tags=if Sound.tooLong (cR file)=true then [-1] else (match Sound.front (cR file) with
  |none=> [-2]
  |some w=>match w.head,Sound.tagList (cR tags) ((pad:Nat):Int).toNat with
   |some h,some t=>if (Sound.verdict (cR file)).1≠0 then [-9] else Sound.fileOut (Sound.retag (cR file) h t ((pad:Nat):Int).toNat)
   |_,_=> [-3]):=rfl
 rw[e,Tf hl,if_neg (by decide),front_eq,Int.toNat_natCast]
 have ev:(Sound.verdict (cR file)).1=(dM (cR file).length (Sound.judge (cR file)).2).1:=by
  unfold Sound.verdict
  cases (Sound.judge (cR file)).2<;>rfl
 rw[ev]
 unfold vv
 cases fZ (cR file) with
 |none=>rfl
 |some x=>
  dsimp only [Option.map_some]
  cases Sound.tagList (cR tags) pad with
  |none=>rfl
  |some t=>rfl
theorem BF (B:Sound.Bytes) (h:Sound.Head) (t:List Sound.Bytes) (pad:Nat) (hl:30+h.t≤B.length):Sound.headOf h.form h.n (Sound.tagArea t pad).length++(Sound.tagArea t pad++((B.drop (26+h.t)).take (B.length-30-(26+h.t))++(Sound.headOf h.form h.n (Sound.tagArea t pad).length++B.drop (B.length-4))))=Sound.retag B h t pad:=by
 unfold Sound.retag
 dsimp only
 rw[show Sound.HEAD=26 from rfl,List.length_drop,show B.length-(26+h.t)-26-4=B.length-30-(26+h.t) by lia,List.drop_drop,show 26+h.t+(B.length-(26+h.t)-4)=B.length-4 by lia]
def BS (K:PySem.W.Frag):Sp:=fun vs H Q _=> ∃(pad:Int) (q r:Addr) (file tags:List Int),vs= [.int pad, .ref q, .ref r]∧ah K H q (file.map V.int)∧ah K H r (tags.map V.int)∧0≤pad∧(file.length≤16384∧(∀x∈file,0≤x∧x≤255))∧(tags.length≤2048∧(∀x∈tags,0≤x∧x≤255))∧
 ∀(H':Hp) (p:Addr),H' p=some (.lst ((PyWqaubg.retag pad file tags).map V.int))→Q (.ref p) H'
theorem yu:aK ["pad", "file", "tags", "tags_part", "heard"] ["pad", "file", "tags"] (aB FN):=⟨rfl,rfl,rfl,by decide+kernel,rfl,by decide+kernel,by decide+kernel⟩
theorem Jp (T:Txt K mg A):az P w K mg base a9 18 A.pX A.jR ["pad", "file", "tags"] (BS K):=by
 refine T.NT.ok yu (fun vs H Q E h=>?_) (fun cdv Ar outer s H vs Q E hr h=>?_)
 ·obtain ⟨pad,q,r,file,tags,rfl,_⟩:=h
  rfl
 ·obtain ⟨pad,q,r,file,tags,rfl,hq,hr',hpad,⟨hfl,hfb⟩,⟨htl,htb⟩,k⟩:=h
  have hr2':aE 2 _:=hr.mono (by decide)
  have hr4':aE 4 _:=hr.mono (by decide)
  have hr7':aE 7 _:=hr.mono (by decide)
  have hr10':aE 10 _:=hr.mono (by decide)
  refine ⟨_,ai (bg (bc fE (ay (ay (aP (OO T) hr10' rfl T.Mr T.DQ.kp T.PQ .nil aQ (aa (pv 1) af)) rfl) rfl) aq (aZ _)) (ak (aX (bZ (aa (fw fB aq) af)))) br)
   (ai (sR rfl rfl rfl (fun E pn xe hp ho=>ak (aJ (i:=3) yu.nd rfl (Or.inl rfl) (yC (LP T) hr7' rfl T.Nq T.C1.kp T.LS .nil hp (aa (pv 0) (aa (pv 2) af)))))
    (AU rfl T.ly rfl T.kQ (fun x ps n _=>ak (aX (bZ (aa (fw fB aq) af))))))
   (ai (aJ (i:=4) yu.nd rfl (Or.inl rfl) (aP (Np T) hr rfl T.Tp T.FK.kp T.Ts .nil aQ (aa (pv 1) af)))
   (ai (bg (bc fE (ay (ay (pv 4) rfl) rfl) aq (aZ _)) (ak (aX (bZ (aa (fw fB aq) af)))) br)
   (ak (aX (aP (P8 T) hr2' rfl T.Lf T.BZ.kp T.IU .nil aQ (aa (aP (MZ T) hr4' rfl T.Rb T.EV.kp T.Om .nil aQ (aa (ay (pv 4) rfl) (aa (pv 1) (aa (pv 3) af)))) af))))))),?_⟩
  obtain ⟨pad,rfl⟩: ∃b:Nat,pad=(b:Int):=⟨pad.toNat,by lia⟩
  rw[BB hfb] at hq
  rw[BB htb] at hr'
  rw[SF pad file tags hfl] at k
  have hB:(cR file).length≤16384:=by rw[xB];exact hfl
  have hT:(cR tags).length≤2048:=by rw[xB];exact htl
  generalize cR file=B at*
  generalize cR tags=tg at*
  have one1:(1:Nat)≤sizeLine:=by rw[sizeLine_eq];lia
  unfold vv at k
  refine ⟨_,rfl,ag q B ⟨rfl,hq,hB,fun X H1 eB s1 _ ho=>?_⟩⟩
  rcases Iq B with ⟨h,l,S,ef,hm,er⟩|⟨ef,w',kk,pp,hk0,er⟩
  ·rw[er] at ho
   rw[ef] at k
   obtain ⟨hv,b,hi,hS⟩:=ho
   unfold aG at hS
   refine fI hi.hp T.bJ T.gI rfl (fI hS T.aM T.kT rfl ⟨rfl,_,rfl,?_⟩)
   rw[decide_eq_true rfl]
   refine bA ⟨_,rfl,_,rfl,bE pad r tg ⟨rfl,s1.seq hr',hT,?_⟩⟩
   unfold Ga
   cases et:Sound.tagList tg pad with
   |none=>
    rw[et] at k
    exact fun H2 s2=>⟨rfl,3,rfl,one1,fun D hD=>k _ D (by rw[aj];rfl)⟩
   |some t=>
    rw[et] at k
    dsimp only at k⊢
    intro Dt H2 hDt s2 hxt
    have s12:=s1.trans s2
    refine ⟨_,rfl,ag q B ⟨rfl,s12.seq hq,hB,fun X2 H3 eB2 s3 _ ho2=>?_⟩⟩
    have s13:=s12.trans s3
    obtain ⟨S2,hv2,b2,pl2,hi2,ew2,hR2⟩:=PN eB2 ho2
    refine aD rfl hi2.hp T.bJ T.gI rfl (fI hR2 T.aM T.kT rfl ⟨rfl,_,rfl,?_⟩)
    by_cases c:(dM B.length (Sound.judge B).2).1=0
    ·rw[if_neg (fun z=>z c)] at k
     rw[decide_eq_true (by rw[c];rfl)]
     have ewh:(Sound.judge B).2= .whole:=by
      rcases DT B with ⟨_,e1,_⟩|⟨k',p',hk',e1,_⟩
      ·exact e1
      ·rw[e1] at c;exact absurd c hk'
     obtain ⟨ehd,hl30⟩:=K6 ef ewh
     have hx:=hi2.hh
     rw[ew2,ehd] at hx
     obtain ⟨x,rfl,hx⟩:=hx
     have htal:(Sound.tagArea t pad).length≤1024:=by
      have h1:=zV tg pad
      rw[et] at h1
      cases e2:iE (tg.length+1) 0 [] tg with
      |none=>rw[e2] at h1;cases h1
      |some l2=>
       rw[e2] at h1
       dsimp only at h1
       split at h1
       ·rename_i hc
        cases h1
        rw[tF] at e2
        cases e3:Sound.tagsIn (tg.length+1) tg with
        |none=>rw[e3] at e2;cases e2
        |some l3=>
         rw[e3] at e2
         dsimp only at e2
         split at e2
         ·cases e2
          unfold Sound.tagArea Sound.high
          dsimp only
          rw[List.nil_append,List.length_append,List.length_append,List.length_append,uR _ _ _ e3,List.length_map,List.length_map,List.length_range,List.length_range,List.length_replicate]
          lia
         ·cases e2
       ·cases h1
     refine bA (aD rfl hi2.hp T.bJ T.gM rfl ⟨_,rfl,_,rfl,oA x q Dt h B (Sound.tagArea t pad) ⟨rfl,hx.same (kG _ _),s13.seq hq,ah.of (s3 _ _ hxt),⟨(gy hm).1,hl30,hB,by lia⟩,fun D4 H4 hD4 s4 hx4=>?_⟩⟩)
     rw[BF B h t pad hl30] at hx4
     refine (ag D4 _ ⟨rfl,ah.of hx4,?_,fun D5 H5 hx5=>k H5 D5 hx5⟩)
     rw[←BF B h t pad hl30,List.length_append,List.length_append,List.length_append,List.length_append,EI,List.length_take,List.length_drop,List.length_drop]
     lia
    ·rw[if_pos c] at k
     rw[decide_eq_false (fun z=>c (by have:=V.int.inj z;lia))]
     exact bt ⟨9,rfl,one1,fun D hD=>k _ D (by rw[aj];rfl)⟩
  ·rw[er] at ho
   rw[ef] at k
   obtain ⟨S,hv,b,hi,_,pl,hF⟩:=ho
   refine fI hi.hp T.bJ T.gI rfl (fI hF T.aM T.kT rfl ⟨rfl,_,rfl,?_⟩)
   rw[decide_eq_false (fun z=>hk0 (by have:=V.int.inj z;lia))]
   exact bt ⟨2,rfl,one1,fun D hD=>k _ D (by rw[aj];rfl)⟩
end
end Wg
namespace PySem.W.Fast
theorem tw12704655386728207618:True:=⟨⟩
theorem tw14132505899666681843:True:=⟨⟩
theorem tw8008363310297375374:True:=⟨⟩
theorem tw10125996634293995444:True:=⟨⟩
theorem tw16576904507117609486:True:=⟨⟩
theorem tw13040233473032252406:True:=⟨⟩
theorem tw9869048869471689845:True:=⟨⟩
theorem tw13918091649642807217:True:=⟨⟩
theorem tw5712438511599819692:True:=⟨⟩
theorem tw13459048951014594016:True:=⟨⟩
theorem tw10941524627803989685:True:=⟨⟩
theorem tw10185070041101958005:True:=⟨⟩
theorem tw8343304636388617970:True:=⟨⟩
theorem tw15573251883625250496:True:=⟨⟩
theorem tw1101523834556539087:True:=⟨⟩
theorem tw1574562439602654844:True:=⟨⟩
theorem tw17000630919029770060:True:=⟨⟩
theorem tw4523113653241338451:True:=⟨⟩
theorem tw12671700899951846926:True:=⟨⟩
theorem tw2501804832965342023:True:=⟨⟩
theorem tw16652082824611242352:True:=⟨⟩
theorem tw2801462797951404680:True:=⟨⟩
theorem tw1404782410359149983:True:=⟨⟩
theorem tw14953127705145510789:True:=⟨⟩
theorem tw18329444896925165257:True:=⟨⟩
theorem tw5728570416990459016:True:=⟨⟩
theorem tw16694894211695516077:True:=⟨⟩
theorem tw2147595787068200695:True:=⟨⟩
theorem tw16707542021338588218:True:=⟨⟩
theorem tw17002067609910448883:True:=⟨⟩
theorem tw18154309287849426901:True:=⟨⟩
theorem tw7157948054823593730:True:=⟨⟩
theorem tw12427153380440345423:True:=⟨⟩
theorem tw3220651576035674476:True:=⟨⟩
theorem tw9141516743873999036:True:=⟨⟩
theorem tw8488868858038529569:True:=⟨⟩
theorem tw8454345931976740365:True:=⟨⟩
theorem tw12630373653338885470:True:=⟨⟩
theorem tw13964860706471842188:True:=⟨⟩
theorem tw18274498030378448959:True:=⟨⟩
theorem tw16702788197443663053:True:=⟨⟩
theorem tw5577395607014177832:True:=⟨⟩
theorem tw10510874350836422742:True:=⟨⟩
theorem tw15773641294458706706:True:=⟨⟩
theorem tw13955666873096999936:True:=⟨⟩
theorem tw4088576594873923942:True:=⟨⟩
theorem tw534046480779460212:True:=⟨⟩
theorem tw12772224084012526873:True:=⟨⟩
theorem tw17725107536755834860:True:=⟨⟩
theorem tw14582962686366450930:True:=⟨⟩
theorem tw9447817839284268884:True:=⟨⟩
theorem tw9635809043716930322:True:=⟨⟩
theorem tw14940200934334113443:True:=⟨⟩
theorem tw250764793772169500:True:=⟨⟩
theorem tw9997233951127913518:True:=⟨⟩
theorem tw1944300066094431506:True:=⟨⟩
theorem tw9018299978463261784:True:=⟨⟩
theorem tw6400335399667963669:True:=⟨⟩
theorem tw15466468316016429306:True:=⟨⟩
theorem tw3847611919826445820:True:=⟨⟩
theorem tw16732311800775491494:True:=⟨⟩
theorem tw16837315561114519539:True:=⟨⟩
theorem tw4263446739700732943:True:=⟨⟩
theorem tw13984932733759606182:True:=⟨⟩
theorem tw10362964934671205801:True:=⟨⟩
theorem tw2558663788822975033:True:=⟨⟩
theorem tw1819277144513444720:True:=⟨⟩
theorem tw2336259604593187487:True:=⟨⟩
theorem tw8161613191196782804:True:=⟨⟩
theorem tw930727619286599071:True:=⟨⟩
theorem tw14879857901459014416:True:=⟨⟩
theorem tw14908765383261422553:True:=⟨⟩
theorem tw12538662294987218549:True:=⟨⟩
theorem tw16382059534696647771:True:=⟨⟩
theorem tw7077116492484846745:True:=⟨⟩
theorem tw17090793665116722961:True:=⟨⟩
theorem tw2056711241058606633:True:=⟨⟩
theorem tw3383849894537009019:True:=⟨⟩
theorem tw3789666851120157281:True:=⟨⟩
theorem tw12977561746616583636:True:=⟨⟩
theorem tw9416037088454525031:True:=⟨⟩
theorem tw2642948100306955213:True:=⟨⟩
theorem tw8957552571063476369:True:=⟨⟩
theorem tw11179364908131317650:True:=⟨⟩
theorem tw5401072862462321135:True:=⟨⟩
theorem tw12044228324486074585:True:=⟨⟩
theorem tw3798200874959363206:True:=⟨⟩
theorem tw16728129949742708822:True:=⟨⟩
theorem tw1776132153329044035:True:=⟨⟩
theorem tw4686084881226040695:True:=⟨⟩
theorem tw17102196470659757728:True:=⟨⟩
theorem tw7647994202187433923:True:=⟨⟩
theorem tw2903756686099261873:True:=⟨⟩
theorem tw10973865969953058435:True:=⟨⟩
theorem tw5077059035065233606:True:=⟨⟩
theorem tw2227565693238591169:True:=⟨⟩
theorem tw1630409055588892835:True:=⟨⟩
theorem tw16898540013821547024:True:=⟨⟩
theorem tw16667298959465668720:True:=⟨⟩
theorem tw7031888977458867579:True:=⟨⟩
theorem tw11188861156432182529:True:=⟨⟩
theorem tw17616732091822022898:True:=⟨⟩
theorem tw6582380399275551337:True:=⟨⟩
theorem tw4638230902171452338:True:=⟨⟩
theorem tw1947766890827146095:True:=⟨⟩
theorem tw3316238911416161636:True:=⟨⟩
theorem tw6572737759818206849:True:=⟨⟩
theorem tw17305952492420089618:True:=⟨⟩
theorem tw13188627131624910546:True:=⟨⟩
theorem tw7660524394567442913:True:=⟨⟩
theorem tw15835988795767922362:True:=⟨⟩
theorem tw291760482646058534:True:=⟨⟩
theorem tw13468337697604206140:True:=⟨⟩
theorem tw14385666816138460908:True:=⟨⟩
theorem tw12717418323254438935:True:=⟨⟩
theorem tw11809121780026320514:True:=⟨⟩
theorem tw14041276849507614283:True:=⟨⟩
theorem tw4870191990011039646:True:=⟨⟩
theorem tw4564197838536556074:True:=⟨⟩
theorem tw7668748207569909050:True:=⟨⟩
theorem tw17063747952590372154:True:=⟨⟩
theorem tw7986227780094600731:True:=⟨⟩
theorem tw17597146599535565606:True:=⟨⟩
theorem tw6950546000548639601:True:=⟨⟩
theorem tw18138029852296386814:True:=⟨⟩
theorem tw1999004389915529722:True:=⟨⟩
theorem tw10635091910034069184:True:=⟨⟩
theorem tw14344064504162093594:True:=⟨⟩
theorem tw4243345586557414874:True:=⟨⟩
theorem tw11188734287605973260:True:=⟨⟩
theorem tw15993786906545945989:True:=⟨⟩
theorem tw12542904455121454262:True:=⟨⟩
theorem tw16572321684905107875:True:=⟨⟩
theorem tw17997351412951019406:True:=⟨⟩
theorem tw12535507878778271605:True:=⟨⟩
theorem tw1762886821867150251:True:=⟨⟩
theorem tw13921133313396129299:True:=⟨⟩
theorem tw10953971735838499712:True:=⟨⟩
theorem tw15540416786943926219:True:=⟨⟩
theorem tw287136707262374426:True:=⟨⟩
theorem tw11559852177407753512:True:=⟨⟩
theorem tw1404270483954609083:True:=⟨⟩
theorem tw5906157485640868249:True:=⟨⟩
theorem tw1524738441567232179:True:=⟨⟩
theorem tw1014977186763835726:True:=⟨⟩
theorem tw14223489257330189357:True:=⟨⟩
theorem tw2286353449976435038:True:=⟨⟩
theorem tw10281939996480759095:True:=⟨⟩
theorem tw6779231493221986758:True:=⟨⟩
theorem tw5666960478936976439:True:=⟨⟩
theorem tw16341647098942383607:True:=⟨⟩
theorem tw13022627321326291806:True:=⟨⟩
theorem tw11562155753343188684:True:=⟨⟩
theorem tw10504419797025992087:True:=⟨⟩
theorem tw4353777219507264379:True:=⟨⟩
theorem tw14514164028832391128:True:=⟨⟩
theorem tw512644548706518041:True:=⟨⟩
theorem tw12606042935391363092:True:=⟨⟩
theorem tw14105558387912247528:True:=⟨⟩
theorem tw6932186110548480099:True:=⟨⟩
theorem tw3878430848481888197:True:=⟨⟩
theorem tw14741924279884185895:True:=⟨⟩
theorem tw14569139595106940418:True:=⟨⟩
theorem tw860677159642057242:True:=⟨⟩
theorem tw16426752355070033441:True:=⟨⟩
theorem tw16388010130795001232:True:=⟨⟩
theorem tw8300095072830488652:True:=⟨⟩
theorem tw14830625755360407560:True:=⟨⟩
theorem tw3107026468947379135:True:=⟨⟩
theorem tw6369429276706470299:True:=⟨⟩
theorem tw4832621692475953319:True:=⟨⟩
theorem tw2293495344063208996:True:=⟨⟩
theorem tw14047861435389359523:True:=⟨⟩
theorem tw15830519553650184018:True:=⟨⟩
theorem tw5256371209134632851:True:=⟨⟩
theorem tw669268643504809435:True:=⟨⟩
theorem tw466408057641433835:True:=⟨⟩
theorem tw8962732263487183696:True:=⟨⟩
theorem tw293004485672113708:True:=⟨⟩
theorem tw14191120514450733185:True:=⟨⟩
theorem tw5485062246976348194:True:=⟨⟩
theorem tw1071167542996304107:True:=⟨⟩
theorem tw18018469960828311234:True:=⟨⟩
theorem tw1080045372802271726:True:=⟨⟩
theorem tw12239463972339771890:True:=⟨⟩
theorem tw8110276086894572876:True:=⟨⟩
theorem tw9791520986585292862:True:=⟨⟩
theorem tw3698160918449978288:True:=⟨⟩
theorem tw6756684121199853249:True:=⟨⟩
theorem tw10163274137377834548:True:=⟨⟩
theorem tw2996600168473885847:True:=⟨⟩
theorem tw17826559784445307424:True:=⟨⟩
theorem tw1877814419413892294:True:=⟨⟩
theorem tw13377152550259996945:True:=⟨⟩
theorem tw348501879711519096:True:=⟨⟩
theorem tw11879843589054109438:True:=⟨⟩
theorem tw16393705444409166603:True:=⟨⟩
theorem tw11279028628734587339:True:=⟨⟩
theorem tw17220523443565684577:True:=⟨⟩
theorem tw16684392024262524570:True:=⟨⟩
theorem tw5150064533340723133:True:=⟨⟩
theorem tw9808675446340083565:True:=⟨⟩
theorem tw9540460630991753745:True:=⟨⟩
theorem tw5920285645772207867:True:=⟨⟩
theorem tw11980615215916974469:True:=⟨⟩
theorem tw5819439081173371086:True:=⟨⟩
theorem tw6631793193888687345:True:=⟨⟩
theorem tw2359227181467769291:True:=⟨⟩
theorem tw15994523826725688075:True:=⟨⟩
theorem tw862378743069411772:True:=⟨⟩
theorem tw14559511455438995790:True:=⟨⟩
theorem tw10311130080089173951:True:=⟨⟩
theorem tw466778780484016549:True:=⟨⟩
theorem tw12363903629913928054:True:=⟨⟩
theorem tw4835360818067089559:True:=⟨⟩
theorem tw648646232014467645:True:=⟨⟩
theorem tw12419758669001368034:True:=⟨⟩
theorem tw13359410006718685906:True:=⟨⟩
theorem tw6116823454304299246:True:=⟨⟩
theorem tw15722706449664985365:True:=⟨⟩
theorem tw7391486837045460625:True:=⟨⟩
theorem tw16013081065932007324:True:=⟨⟩
theorem tw12710893961251825360:True:=⟨⟩
theorem tw15812739423090640245:True:=⟨⟩
theorem tw2223116863720002948:True:=⟨⟩
theorem tw13915941450260592786:True:=⟨⟩
theorem tw9169999488788249864:True:=⟨⟩
theorem tw13055957521669456026:True:=⟨⟩
theorem tw11782196713564189525:True:=⟨⟩
theorem tw12749003799996174278:True:=⟨⟩
theorem tw17764724065927525936:True:=⟨⟩
theorem tw6525660173415947445:True:=⟨⟩
theorem tw9649437322470143865:True:=⟨⟩
theorem tw13336141910068097933:True:=⟨⟩
theorem tw9615454029380621110:True:=⟨⟩
theorem tw9691995389352361743:True:=⟨⟩
theorem tw6641727307139080973:True:=⟨⟩
theorem tw16931840891608560516:True:=⟨⟩
theorem tw11895790211309950555:True:=⟨⟩
theorem tw8214752711615549633:True:=⟨⟩
theorem tw6112520719596902192:True:=⟨⟩
theorem tw16050701100044360831:True:=⟨⟩
theorem tw1805911869823647279:True:=⟨⟩
theorem tw4698350785770815752:True:=⟨⟩
theorem tw670372221874291178:True:=⟨⟩
theorem tw12523547146584083096:True:=⟨⟩
theorem tw3916614596914171878:True:=⟨⟩
theorem tw10699424071957394472:True:=⟨⟩
theorem tw5527934571754247908:True:=⟨⟩
theorem tw15582113233050685792:True:=⟨⟩
theorem tw397661177346020380:True:=⟨⟩
theorem tw10481645044813102125:True:=⟨⟩
theorem tw3852495699884532904:True:=⟨⟩
theorem tw14668893960212688115:True:=⟨⟩
theorem tw8843430809088873607:True:=⟨⟩
theorem tw17772300783734498057:True:=⟨⟩
theorem tw2962411120073041913:True:=⟨⟩
theorem tw17078827711956509671:True:=⟨⟩
theorem tw1903105471436071154:True:=⟨⟩
theorem tw13051917675960650830:True:=⟨⟩
theorem tw13467128161051768991:True:=⟨⟩
theorem tw16016901312404615857:True:=⟨⟩
theorem tw4416866769693287181:True:=⟨⟩
theorem tw2896520351261699812:True:=⟨⟩
theorem tw6225761300255855201:True:=⟨⟩
theorem tw7068092436696092056:True:=⟨⟩
theorem tw14848343872156793580:True:=⟨⟩
theorem tw4402311414162695074:True:=⟨⟩
theorem tw17879386113593405024:True:=⟨⟩
theorem tw8387222342119074078:True:=⟨⟩
theorem tw9118845358838971918:True:=⟨⟩
theorem tw17187728508082615940:True:=⟨⟩
theorem tw5065786761229459586:True:=⟨⟩
theorem tw14782805292513274975:True:=⟨⟩
theorem tw13994386220783526546:True:=⟨⟩
theorem tw8544569730462029095:True:=⟨⟩
theorem tw8023411745543711150:True:=⟨⟩
theorem tw5384315191510816550:True:=⟨⟩
theorem tw2939260088043062092:True:=⟨⟩
theorem tw15782077798084640423:True:=⟨⟩
theorem tw11910964444663032617:True:=⟨⟩
theorem tw1224810950950481085:True:=⟨⟩
theorem tw12685141235215145074:True:=⟨⟩
theorem tw10025712887653429281:True:=⟨⟩
theorem tw7892777070439775505:True:=⟨⟩
theorem tw16669054818686767610:True:=⟨⟩
theorem tw16502406216565444208:True:=⟨⟩
theorem tw10428734254493082125:True:=⟨⟩
theorem tw11356598780374561093:True:=⟨⟩
theorem tw3391003607984713838:True:=⟨⟩
theorem tw5022240528327303298:True:=⟨⟩
theorem tw1465134620632525274:True:=⟨⟩
theorem tw10781705259858313432:True:=⟨⟩
theorem tw12821104432571036235:True:=⟨⟩
theorem tw8341903661525463559:True:=⟨⟩
theorem tw13762488728547478326:True:=⟨⟩
theorem tw16445844813250471205:True:=⟨⟩
theorem tw3953991657618730271:True:=⟨⟩
theorem tw1492527671250294931:True:=⟨⟩
theorem tw16160016620817577866:True:=⟨⟩
theorem tw2956131878072619292:True:=⟨⟩
theorem tw8719666377353098525:True:=⟨⟩
theorem tw4103671960129163834:True:=⟨⟩
theorem tw1219927135884230474:True:=⟨⟩
theorem tw15345980839157777136:True:=⟨⟩
theorem tw2692989091956824093:True:=⟨⟩
theorem tw10347705718057496052:True:=⟨⟩
theorem tw14131630508477174865:True:=⟨⟩
theorem tw4415991646692060050:True:=⟨⟩
theorem tw9576026919282332008:True:=⟨⟩
theorem tw18247655092335759098:True:=⟨⟩
theorem tw3203471787518653630:True:=⟨⟩
theorem tw574864178881847781:True:=⟨⟩
theorem tw8370416510870194487:True:=⟨⟩
theorem tw10365943145370857164:True:=⟨⟩
theorem tw8449413591034666597:True:=⟨⟩
theorem tw10452063197443651969:True:=⟨⟩
theorem tw8234618033203912473:True:=⟨⟩
theorem tw16098729862871833985:True:=⟨⟩
theorem tw476550370024426587:True:=⟨⟩
theorem tw11527108694706503063:True:=⟨⟩
theorem tw2058268747311628654:True:=⟨⟩
theorem tw3502504224225619093:True:=⟨⟩
theorem tw16213788360355956932:True:=⟨⟩
theorem tw3371822526932882544:True:=⟨⟩
theorem tw8024746895341378297:True:=⟨⟩
theorem tw5244243574140731493:True:=⟨⟩
theorem tw6970858253235741448:True:=⟨⟩
theorem tw15632410689592018962:True:=⟨⟩
theorem tw3900068578994529416:True:=⟨⟩
theorem tw14529644949352040206:True:=⟨⟩
theorem tw3551991010669863221:True:=⟨⟩
theorem tw2405627419805937399:True:=⟨⟩
theorem tw286621146813293365:True:=⟨⟩
theorem tw2714364719139872565:True:=⟨⟩
theorem tw2452794245954914066:True:=⟨⟩
theorem tw1948489612524184405:True:=⟨⟩
theorem tw5910344923499466450:True:=⟨⟩
theorem tw13680746975926847910:True:=⟨⟩
theorem tw13601079117817422588:True:=⟨⟩
theorem tw8448687536127227108:True:=⟨⟩
theorem tw9111763801982831029:True:=⟨⟩
theorem tw6996640559913508380:True:=⟨⟩
theorem tw1954731027643924841:True:=⟨⟩
theorem tw16896076252787260245:True:=⟨⟩
theorem tw13480392752688824484:True:=⟨⟩
theorem tw5662448800382327598:True:=⟨⟩
theorem tw14548591905929917931:True:=⟨⟩
theorem tw5436250860547181216:True:=⟨⟩
theorem tw12684104774979443903:True:=⟨⟩
theorem tw13849122505713514956:True:=⟨⟩
theorem tw7199846410552614424:True:=⟨⟩
theorem tw1410793700733443778:True:=⟨⟩
theorem tw15026601886265425338:True:=⟨⟩
theorem tw9513673040778119974:True:=⟨⟩
theorem tw16785109701359834940:True:=⟨⟩
theorem tw4287350794792293193:True:=⟨⟩
theorem tw14755404295648138211:True:=⟨⟩
theorem tw612179458529737909:True:=⟨⟩
theorem tw4653817203051472599:True:=⟨⟩
theorem tw7961476960238864526:True:=⟨⟩
theorem tw13633848261760232549:True:=⟨⟩
theorem tw1621469362097321587:True:=⟨⟩
theorem tw14542475781910272681:True:=⟨⟩
theorem tw12788685403011164981:True:=⟨⟩
theorem tw14970727901690681964:True:=⟨⟩
theorem tw14033144396488500028:True:=⟨⟩
theorem tw72055007736416417:True:=⟨⟩
theorem tw5305719531195402389:True:=⟨⟩
theorem tw3382020745060930438:True:=⟨⟩
theorem tw9289058712887626432:True:=⟨⟩
theorem tw12169571160314371836:True:=⟨⟩
theorem tw5071233078906262295:True:=⟨⟩
theorem tw15247659171841503962:True:=⟨⟩
theorem tw12177762611482250058:True:=⟨⟩
theorem tw6120026737215480888:True:=⟨⟩
theorem tw6771304486199990718:True:=⟨⟩
theorem tw17634672297784913395:True:=⟨⟩
theorem tw14132585579755470182:True:=⟨⟩
theorem tw1444036202165871806:True:=⟨⟩
theorem tw14863481071783371927:True:=⟨⟩
theorem tw6766761630565449120:True:=⟨⟩
theorem tw17268880107956473466:True:=⟨⟩
theorem tw5693776442738627728:True:=⟨⟩
theorem tw8426151097334709253:True:=⟨⟩
theorem tw5744444640949792519:True:=⟨⟩
theorem tw7441290785007222113:True:=⟨⟩
theorem tw4639475044542933099:True:=⟨⟩
theorem tw126560477489317924:True:=⟨⟩
theorem tw14430446926340434223:True:=⟨⟩
theorem tw9619455543566941102:True:=⟨⟩
theorem tw1580541467749744524:True:=⟨⟩
theorem tw7478306325485999405:True:=⟨⟩
theorem tw10521508921421490375:True:=⟨⟩
theorem tw16794125985534114568:True:=⟨⟩
theorem tw1945928015027027184:True:=⟨⟩
theorem tw6019570239026203011:True:=⟨⟩
theorem tw1628181914642494800:True:=⟨⟩
theorem tw16727932896138384906:True:=⟨⟩
theorem tw16133776022649370472:True:=⟨⟩
theorem tw5458242051526764368:True:=⟨⟩
theorem tw14975463920405961398:True:=⟨⟩
theorem tw5398713957628359919:True:=⟨⟩
theorem tw5547756369744049468:True:=⟨⟩
theorem tw8216310952070425022:True:=⟨⟩
theorem tw5680229885414995009:True:=⟨⟩
theorem tw18113105826506057308:True:=⟨⟩
theorem tw11807767373337495755:True:=⟨⟩
theorem tw3663360599610153169:True:=⟨⟩
theorem tw11609311095047292662:True:=⟨⟩
theorem tw7000920221898848282:True:=⟨⟩
theorem tw10465784357943138489:True:=⟨⟩
theorem tw15486962489228502743:True:=⟨⟩
theorem tw16278015779484419428:True:=⟨⟩
theorem tw13542055593546668348:True:=⟨⟩
theorem tw8278777960677007100:True:=⟨⟩
theorem tw13983198024824597299:True:=⟨⟩
theorem tw6779813276957999708:True:=⟨⟩
theorem tw10779237331065959367:True:=⟨⟩
theorem tw673651707105056505:True:=⟨⟩
theorem tw2959402232867374954:True:=⟨⟩
theorem tw11977411905830179807:True:=⟨⟩
theorem tw13625944218778085381:True:=⟨⟩
theorem tw6425946484080924841:True:=⟨⟩
theorem tw17903251084374672560:True:=⟨⟩
theorem tw13105117671483671291:True:=⟨⟩
theorem tw9494647608869430028:True:=⟨⟩
theorem tw18070644017399271456:True:=⟨⟩
theorem tw16649819052041806354:True:=⟨⟩
theorem tw3127702918800539051:True:=⟨⟩
theorem tw6481496091597613449:True:=⟨⟩
theorem tw4975731141876369282:True:=⟨⟩
theorem tw3241050830020389144:True:=⟨⟩
theorem tw13843763523560983588:True:=⟨⟩
theorem tw11995419148562085584:True:=⟨⟩
theorem tw8716513961289347809:True:=⟨⟩
theorem tw7968211542108050237:True:=⟨⟩
theorem tw16881645805994895355:True:=⟨⟩
theorem tw2811058277384766413:True:=⟨⟩
theorem tw15890716130097560659:True:=⟨⟩
theorem tw5100227462819006784:True:=⟨⟩
theorem tw2111288788613617962:True:=⟨⟩
theorem tw3972210906142542845:True:=⟨⟩
theorem tw14017098302099857668:True:=⟨⟩
theorem tw3283908811619430823:True:=⟨⟩
theorem tw6528246779764297209:True:=⟨⟩
theorem tw11464002048401005441:True:=⟨⟩
theorem tw7270578343583030488:True:=⟨⟩
theorem tw16055098682226171319:True:=⟨⟩
theorem tw13478659184977260052:True:=⟨⟩
theorem tw675291360408591886:True:=⟨⟩
theorem tw3391343095485569728:True:=⟨⟩
theorem tw14993217853283298437:True:=⟨⟩
theorem tw6707018406050785731:True:=⟨⟩
theorem tw2047381494970786706:True:=⟨⟩
theorem tw10389570458728255160:True:=⟨⟩
theorem tw11213894321044850858:True:=⟨⟩
theorem tw17099563957605001340:True:=⟨⟩
theorem tw6409760963767998014:True:=⟨⟩
theorem tw7972137614352081242:True:=⟨⟩
theorem tw16880492413951444464:True:=⟨⟩
theorem tw14991015179205861723:True:=⟨⟩
theorem tw7120882517043662694:True:=⟨⟩
theorem tw9485633519889539094:True:=⟨⟩
theorem tw9061937163291365485:True:=⟨⟩
theorem tw5957085961441203582:True:=⟨⟩
theorem tw16164140377203125556:True:=⟨⟩
theorem tw12928562342714000984:True:=⟨⟩
theorem tw618905050267041986:True:=⟨⟩
theorem tw8172168161270769052:True:=⟨⟩
theorem tw17478710486293258912:True:=⟨⟩
theorem tw12818932483447666775:True:=⟨⟩
theorem tw6850969827474066195:True:=⟨⟩
theorem tw3096590216377811219:True:=⟨⟩
theorem tw2603187282292501607:True:=⟨⟩
theorem tw15277130436038107224:True:=⟨⟩
theorem tw7983146758451594437:True:=⟨⟩
theorem tw7005725838024388771:True:=⟨⟩
theorem tw3760970782425018469:True:=⟨⟩
theorem tw12495054090977996499:True:=⟨⟩
theorem tw10170599436676697165:True:=⟨⟩
theorem tw3341937535721632823:True:=⟨⟩
theorem tw13639692574614551207:True:=⟨⟩
theorem tw11723668406548844633:True:=⟨⟩
theorem tw10852433481374153917:True:=⟨⟩
theorem tw3652932173771854156:True:=⟨⟩
theorem tw11444137798258557767:True:=⟨⟩
theorem tw10869226763171229944:True:=⟨⟩
theorem tw4098200540809986470:True:=⟨⟩
theorem tw14948426045547432995:True:=⟨⟩
theorem tw1176768295950445635:True:=⟨⟩
theorem tw3086238852088753243:True:=⟨⟩
theorem tw4192972547231464321:True:=⟨⟩
theorem tw10300079360962462145:True:=⟨⟩
theorem tw5337239726851045154:True:=⟨⟩
theorem tw14519492608396199390:True:=⟨⟩
theorem tw12543743082766497803:True:=⟨⟩
theorem tw680260912995397526:True:=⟨⟩
theorem tw41481624001504851:True:=⟨⟩
theorem tw5573560582991738509:True:=⟨⟩
theorem tw4824037663245893580:True:=⟨⟩
theorem tw13834139814011797096:True:=⟨⟩
theorem tw16417189656443160333:True:=⟨⟩
theorem tw13897797741012342018:True:=⟨⟩
theorem tw16594414394048594772:True:=⟨⟩
theorem tw6583569732558548135:True:=⟨⟩
theorem tw11654004932299705441:True:=⟨⟩
theorem tw1480880939961570119:True:=⟨⟩
theorem tw1236609314745597455:True:=⟨⟩
theorem tw4178334416822932987:True:=⟨⟩
theorem tw14782911566810955802:True:=⟨⟩
theorem tw6020448455460136643:True:=⟨⟩
theorem tw11382327038159925339:True:=⟨⟩
theorem tw7818106424182167474:True:=⟨⟩
theorem tw14475610330075210598:True:=⟨⟩
theorem tw7843735259257357089:True:=⟨⟩
theorem tw15568342246354638043:True:=⟨⟩
theorem tw1655030351658479049:True:=⟨⟩
theorem tw15248589781826519885:True:=⟨⟩
theorem tw10461665313188923835:True:=⟨⟩
theorem tw2068527055606377922:True:=⟨⟩
theorem tw52675848609813747:True:=⟨⟩
theorem tw12574233957616309565:True:=⟨⟩
theorem tw1240338748423406809:True:=⟨⟩
theorem tw16932804517324167612:True:=⟨⟩
theorem tw10283095555700833559:True:=⟨⟩
theorem tw3427155787798675004:True:=⟨⟩
theorem tw15921938076476019019:True:=⟨⟩
theorem tw10938626417399395341:True:=⟨⟩
theorem tw2986521068355280342:True:=⟨⟩
theorem tw18264981670504726935:True:=⟨⟩
theorem tw12457505998760223516:True:=⟨⟩
theorem tw3773303418749476793:True:=⟨⟩
theorem tw11459413241947868741:True:=⟨⟩
theorem tw3532370913594425188:True:=⟨⟩
theorem tw4008174552156895991:True:=⟨⟩
theorem tw13907528289780180211:True:=⟨⟩
theorem tw14827871911960924812:True:=⟨⟩
theorem tw12684217075216573507:True:=⟨⟩
theorem tw8703236988092752229:True:=⟨⟩
theorem tw187546692140908261:True:=⟨⟩
theorem tw11200530712007892296:True:=⟨⟩
theorem tw5531059406798823444:True:=⟨⟩
theorem tw8395783560446269023:True:=⟨⟩
theorem tw6115772183421054894:True:=⟨⟩
theorem tw10379492706586689005:True:=⟨⟩
theorem tw6336845539137968842:True:=⟨⟩
theorem tw1054273405415707287:True:=⟨⟩
theorem tw3628833299631015021:True:=⟨⟩
theorem tw11626393784133619533:True:=⟨⟩
theorem tw1920368895359097510:True:=⟨⟩
theorem tw18251633429869867253:True:=⟨⟩
theorem tw700160444658631729:True:=⟨⟩
theorem tw5440527318493305380:True:=⟨⟩
theorem tw6966203705799776903:True:=⟨⟩
theorem tw4607460606860444455:True:=⟨⟩
theorem tw1453442873275577354:True:=⟨⟩
theorem tw1268085077933920437:True:=⟨⟩
theorem tw11532335889722497055:True:=⟨⟩
theorem tw997895552857874652:True:=⟨⟩
theorem tw12505721474749068982:True:=⟨⟩
theorem tw1511263721636682821:True:=⟨⟩
theorem tw543171361203618219:True:=⟨⟩
theorem tw15262093121584783608:True:=⟨⟩
theorem tw5346425509856097613:True:=⟨⟩
theorem tw10852076910607637587:True:=⟨⟩
theorem tw18185214275227778416:True:=⟨⟩
theorem tw12093400498424214160:True:=⟨⟩
theorem tw16485653012568141002:True:=⟨⟩
theorem tw8798688019182138052:True:=⟨⟩
theorem tw4656366229673370568:True:=⟨⟩
theorem tw9303932301354277106:True:=⟨⟩
theorem tw3240101223348890338:True:=⟨⟩
theorem tw13667295455804520262:True:=⟨⟩
theorem tw6355548339752660379:True:=⟨⟩
theorem tw1456054436428579134:True:=⟨⟩
theorem tw14883586026100048039:True:=⟨⟩
theorem tw14218452885110358836:True:=⟨⟩
theorem tw13560942285201552234:True:=⟨⟩
theorem tw3191636721296285870:True:=⟨⟩
theorem tw10988382394250244263:True:=⟨⟩
theorem tw2291464671122029901:True:=⟨⟩
theorem tw752403835955932155:True:=⟨⟩
theorem tw13605335584503312057:True:=⟨⟩
theorem tw2432757789828656708:True:=⟨⟩
theorem tw1736462321016875984:True:=⟨⟩
theorem tw14675817272947169389:True:=⟨⟩
theorem tw13246014420277941245:True:=⟨⟩
theorem tw10261529932567048531:True:=⟨⟩
theorem tw2860835077696784693:True:=⟨⟩
theorem tw4528608217789687906:True:=⟨⟩
theorem tw18086101008643761963:True:=⟨⟩
theorem tw4834956772502756355:True:=⟨⟩
theorem tw7793395565174869345:True:=⟨⟩
theorem tw14318707165430824180:True:=⟨⟩
theorem tw15895883132330050624:True:=⟨⟩
theorem tw3004715726084741876:True:=⟨⟩
theorem tw15657673262941327721:True:=⟨⟩
theorem tw12325026806382787487:True:=⟨⟩
theorem tw12143357182929204247:True:=⟨⟩
theorem tw16655431334578575390:True:=⟨⟩
theorem tw2918091601657254553:True:=⟨⟩
theorem tw6590338607977031570:True:=⟨⟩
theorem tw14437527132688321406:True:=⟨⟩
theorem tw12842005707191704801:True:=⟨⟩
theorem tw7123084747116930850:True:=⟨⟩
theorem tw11805961854978937264:True:=⟨⟩
theorem tw4708701480757896954:True:=⟨⟩
theorem tw2716811979065621269:True:=⟨⟩
theorem tw15839864463896359533:True:=⟨⟩
theorem tw10511795897121319888:True:=⟨⟩
theorem tw17371727806445668684:True:=⟨⟩
theorem tw16974548603832289962:True:=⟨⟩
theorem tw2226963837063566357:True:=⟨⟩
theorem tw9421662155714404155:True:=⟨⟩
theorem tw12064915455555920329:True:=⟨⟩
theorem tw16746104702558296297:True:=⟨⟩
theorem tw9506932009494635435:True:=⟨⟩
theorem tw11540591668325366549:True:=⟨⟩
theorem tw6555002599670226571:True:=⟨⟩
theorem tw10856091506790690135:True:=⟨⟩
theorem tw16364006868905410878:True:=⟨⟩
theorem tw678652192279628635:True:=⟨⟩
theorem tw1557087860444929722:True:=⟨⟩
theorem tw17894377797840098865:True:=⟨⟩
theorem tw3107323314177522089:True:=⟨⟩
theorem tw5636596543493327935:True:=⟨⟩
theorem tw926807506566249066:True:=⟨⟩
theorem tw12195148316170396386:True:=⟨⟩
theorem tw17787388956797460419:True:=⟨⟩
theorem tw17842696460846616127:True:=⟨⟩
theorem tw11360950635769734090:True:=⟨⟩
theorem tw2248835403309010033:True:=⟨⟩
theorem tw10937901981904295126:True:=⟨⟩
theorem tw12931116689662211947:True:=⟨⟩
theorem tw9672713723732818044:True:=⟨⟩
theorem tw8932576313407202331:True:=⟨⟩
theorem tw351587649360501458:True:=⟨⟩
theorem tw14901251468486930218:True:=⟨⟩
theorem tw11924870872224812955:True:=⟨⟩
theorem tw7227598158034279633:True:=⟨⟩
theorem tw15003754244278516882:True:=⟨⟩
theorem tw4069459410195147487:True:=⟨⟩
theorem tw17831678971306002742:True:=⟨⟩
theorem tw18022209911587312945:True:=⟨⟩
theorem tw17847274785538569063:True:=⟨⟩
theorem tw13380380516752222651:True:=⟨⟩
theorem tw3041148219158334361:True:=⟨⟩
theorem tw6052775988203907205:True:=⟨⟩
theorem tw17664952677235479929:True:=⟨⟩
theorem tw6921232516760879322:True:=⟨⟩
theorem tw18172062866428636351:True:=⟨⟩
theorem tw10685640016622592527:True:=⟨⟩
theorem tw13877365185783279138:True:=⟨⟩
theorem tw17336712096832598126:True:=⟨⟩
theorem tw16894057799079743965:True:=⟨⟩
theorem tw3719926683468205240:True:=⟨⟩
theorem tw3408143646716610515:True:=⟨⟩
theorem tw18147945822205173709:True:=⟨⟩
theorem tw12876357116708640519:True:=⟨⟩
theorem tw3283498604093756032:True:=⟨⟩
theorem tw6865479893517501228:True:=⟨⟩
theorem tw14585812787899493766:True:=⟨⟩
theorem tw13724735080365246403:True:=⟨⟩
theorem tw16749916523718337529:True:=⟨⟩
theorem tw1305471874873458536:True:=⟨⟩
theorem tw14916077335530594507:True:=⟨⟩
theorem tw16416549647849838089:True:=⟨⟩
theorem tw9440324556282162526:True:=⟨⟩
theorem tw14433482913020105928:True:=⟨⟩
theorem tw10313112926808712479:True:=⟨⟩
theorem tw11173838482070629306:True:=⟨⟩
theorem tw2326838164993046705:True:=⟨⟩
theorem tw5205186786098963035:True:=⟨⟩
theorem tw10604143708828177902:True:=⟨⟩
theorem tw5558198712958626022:True:=⟨⟩
theorem tw6385578337285332514:True:=⟨⟩
theorem tw16865159129070336019:True:=⟨⟩
theorem tw17843742708929349575:True:=⟨⟩
theorem tw6421604448097118353:True:=⟨⟩
theorem tw7258445351674561799:True:=⟨⟩
theorem tw2541005724430671074:True:=⟨⟩
theorem tw7176158025231606423:True:=⟨⟩
theorem tw2993184518511318914:True:=⟨⟩
theorem tw6316225653544650337:True:=⟨⟩
theorem tw1645085838110599602:True:=⟨⟩
theorem tw16960684510720248081:True:=⟨⟩
theorem tw4468534092301159949:True:=⟨⟩
theorem tw9740606037481734527:True:=⟨⟩
theorem tw11929233492872500810:True:=⟨⟩
theorem tw15509178515183407864:True:=⟨⟩
theorem tw3192951272239141676:True:=⟨⟩
theorem tw1428655227247339574:True:=⟨⟩
theorem tw6435632292527892189:True:=⟨⟩
theorem tw9668895419160134355:True:=⟨⟩
theorem tw15916250808878101814:True:=⟨⟩
theorem tw5943557439635267790:True:=⟨⟩
theorem tw14676156344722492580:True:=⟨⟩
theorem tw14499476024932821716:True:=⟨⟩
theorem tw16986521168630123905:True:=⟨⟩
theorem tw5303311967359807640:True:=⟨⟩
theorem tw3660377478448732763:True:=⟨⟩
theorem tw15826271888131748166:True:=⟨⟩
theorem tw16981380324525101031:True:=⟨⟩
theorem tw16090728225756920284:True:=⟨⟩
theorem tw16723600168699093574:True:=⟨⟩
theorem tw10510710647188166533:True:=⟨⟩
theorem tw7754100748456132402:True:=⟨⟩
theorem tw3734647709475540273:True:=⟨⟩
theorem tw1689558679263134554:True:=⟨⟩
theorem tw7773295526609031399:True:=⟨⟩
theorem tw6699624494856933151:True:=⟨⟩
theorem tw7698652575246148840:True:=⟨⟩
theorem tw17532320871734684690:True:=⟨⟩
theorem tw12891816711259368117:True:=⟨⟩
theorem tw17896174116552465514:True:=⟨⟩
theorem tw8083426121834679875:True:=⟨⟩
theorem tw11988881470200134688:True:=⟨⟩
theorem tw13868310421872577002:True:=⟨⟩
theorem tw9197156391598889397:True:=⟨⟩
theorem tw11734527260692029954:True:=⟨⟩
theorem tw15351238936625828021:True:=⟨⟩
theorem tw13074920121967490090:True:=⟨⟩
theorem tw12551068879100551031:True:=⟨⟩
theorem tw13751693908967329947:True:=⟨⟩
theorem tw6576400153023559353:True:=⟨⟩
theorem tw15633425188708402580:True:=⟨⟩
theorem tw15465143261030432877:True:=⟨⟩
theorem tw14187420229282489615:True:=⟨⟩
theorem tw14263283682531143314:True:=⟨⟩
theorem tw9936170518661120348:True:=⟨⟩
theorem tw13864306939008468010:True:=⟨⟩
theorem tw8289992041343315183:True:=⟨⟩
theorem tw10733184178229978809:True:=⟨⟩
theorem tw2816774265776353913:True:=⟨⟩
theorem tw11371708190766291158:True:=⟨⟩
theorem tw13001450308054549042:True:=⟨⟩
theorem tw5465709059621684064:True:=⟨⟩
theorem tw12066275979736342451:True:=⟨⟩
end PySem.W.Fast
open PySem PySem.W PyProof.Rows
set_option maxRecDepth 100000 in
set_option maxHeartbeats 0 in
theorem PySem.Challenge.cw_soundkeeping_s11_retag_holds : PySem.Challenge.rw_soundkeeping_s11_retag.Holds := by
 w_on;k_headS;(case hw=>exact ⟨[.int 0, .list [], .list []],by decide+kernel,by decide+kernel⟩)
 k_fillS
 refine L2.N1 (r:=PySem.Challenge.rw_soundkeeping_s11_retag) (k:=18) (CX:=L2.a9) (ps:= ["pad", "file", "tags"]) (sp:=Wg.BS) (by decide+kernel) rfl rfl ⟨rfl,by decide,by decide⟩ (fun w h Y=>PySem.W.kIn_of Y) ?F ?S (fun _ _ _ _ z=>z)
 case F=>
  intro w mg fa h Y KX G hmg
  have T: ∃A,Wg.Txt (L2.EA KX) mg A:=by
   dsimp only [L2.EA]
   apply Wg.Su
   apply Wg.Txt.mk
   all_goals try dsimp only
   all_goals first
   |(refine PySem.W.mg_of KX G ?_;k_is;done)
   |(refine PySem.W.mg_none_of KX G ?_;k_is;done)
   |(apply L2.QK;all_goals try k_is)
   |exact Wg.Jc fun _=>rfl
   |exact Wg.Qp fun _ _=>rfl
   |exact Wg.LA fun _ _ _=>rfl
   |exact Wg.PB fun _ _ _ _=>rfl
   |exact Wg.Pq fun _ _ _ _ _=>rfl
   |(apply L2.Meth.mk<;>k_is)
   |(apply L2.cg.mk<;>k_is)
   |(apply L2.Mk.mk<;>k_is)
   |(apply L2.Own.mk<;>(try unfold L2.iD)<;>first|k_is|k_exc|rfl)
   |exact beq_eq_false_iff_ne.mp rfl
   |(refine (?_:PySem.W.findIn _ _ _=some none);k_is;done)
   |(apply Wg.Ko;k_is;decide;repeat first|exact .nil|refine .cons rfl ?_|refine .cons ⟨_,rfl⟩ ?_)
   |exact fun s us hu=>match us,hu with| [_,_,_],_=> .of_eq rfl
   |skip
  obtain ⟨A,T⟩:=T
  have e0:=hmg.symm.trans T.Qt
  cases e0
  exact ⟨A.jR,T.entry,fun base _ _=>Wg.Jp T⟩
 case S=>
  intro K H xs a hO hwi hask hx
  obtain ⟨x0,x1,x2,u⟩:=a
  cases hx with
  |cons h0 r0=>
   cases r0 with
   |cons h1 r1=>
    cases r1 with
    |cons h2 r2=>
     cases r2
     cases h0
     cases h1 with
     |lst s1 d1=>
      have e1:=L2.wD x1 _ d1
      subst e1
      cases h2 with
      |lst s2 d2=>
       have e2:=L2.wD x2 _ d2
       subst e2
       have q:(Codec.inInt 0 4294967295 x0&&((Codec.inLen 0 16384 x1&&x1.all (Codec.inInt 0 255))&&((Codec.inLen 0 2048 x2&&x2.all (Codec.inInt 0 255))&&true)))=true:=hwi
       simp only [Bool.and_eq_true] at q
       obtain ⟨q0,⟨l1,b1⟩,⟨l2,b2⟩,_⟩:=q
       have q0:=Codec.inInt_iff.mp q0
       have l1:=(Codec.inNat_iff.mp l1).2
       have b1:=fun z hz=>Codec.inInt_iff.mp (List.all_eq_true.mp b1 z hz)
       have l2:=(Codec.inNat_iff.mp l2).2
       have b2:=fun z hz=>Codec.inInt_iff.mp (List.all_eq_true.mp b2 z hz)
       exact ⟨x0,_,_,x1,x2,rfl,s1,s2,q0.1,⟨l1,b1⟩,⟨l2,b2⟩,fun H' p hp=> .lst (L2.ah.of hp) (L2.AM _)⟩
#print axioms PySem.Challenge.cw_soundkeeping_s11_retag_holds
