import PyProof.Rows.All
import Wide.All
import OpenK.AllK
import Wide.FinOn
import PyProof.EqAt
import PyProof.EqKinds
import PyProof.TupleCall
import KE.BitLaws
import Open.SpecLaws
import KE.OsHead
import KE.OsGo
import PySem.Challenge.RW_soundkeeping_s08_hear
set_option Elab.async false
set_option linter.all false
set_option maxRecDepth 100000
namespace L2
open PySem PySem.Spec PyProof.Rows
abbrev Key:=Sum Int Str
def zI:Key→Value→Bool
 | .inl k,v=>Value.isInt k v
 | .inr x,v=>Value.isStrOf x v
def Ff (w:World):Key→Int
 | .inl k=>hashInt k
 | .inr x=>hashStr w x
theorem gQ: ∀{k:Key} {v:Value},zI k v=true→(∃i t,k=Sum.inl i∧v=Value.int i t)∨(∃x t,k=Sum.inr x∧v=Value.str x t)
 | .inl i,v,h=>by
  obtain ⟨t,e⟩:=Value.isInt_shape (k:=i) (v:=v) h
  exact .inl ⟨i,t,rfl,e⟩
 | .inr x,v,h=>by
  obtain ⟨t,e⟩:=Value.isStrOf_shape (x:=x) (v:=v) h
  exact .inr ⟨x,t,rfl,e⟩
theorem P8 (a b:Int):decide ((Sum.inl a:Key)=Sum.inl b)=(a==b):=by
 by_cases e:a=b
 ·subst e;simp
 ·have h: ¬(Sum.inl a:Key)=Sum.inl b:=fun q=>e (Sum.inl.inj q)
  rw[decide_eq_false h]
  exact (beq_eq_false_iff_ne.mpr e).symm
theorem GN (a b:Str):decide ((Sum.inr a:Key)=Sum.inr b)=decide (a=b):=by
 by_cases e:a=b
 ·subst e;simp
 ·have h: ¬(Sum.inr a:Key)=Sum.inr b:=fun q=>e (Sum.inr.inj q)
  rw[decide_eq_false h,decide_eq_false e]
theorem J4 (a:Int) (b:Str):decide ((Sum.inl a:Key)=Sum.inr b)=false:=decide_eq_false (fun q=>nomatch q)
theorem F0 (a:Str) (b:Int):decide ((Sum.inr a:Key)=Sum.inl b)=false:=decide_eq_false (fun q=>nomatch q)
def Bh (prog:Program) (w:World):PySem.KeyKind prog w Key where
 is:=zI
 hash:=Ff w
 inj:=fun v a b ha hb=>by
  rcases gQ ha with ⟨i,t,rfl,rfl⟩|⟨x,t,rfl,rfl⟩
  ·rcases gQ hb with ⟨j,u,rfl,e⟩|⟨y,u,rfl,e⟩
   ·injection e with e1 _;rw[e1]
   ·exact nomatch e
  ·rcases gQ hb with ⟨j,u,rfl,e⟩|⟨y,u,rfl,e⟩
   ·exact nomatch e
   ·injection e with e1 _;rw[e1]
 byValue:=fun k v h=>by
  rcases gQ h with ⟨i,t,rfl,rfl⟩|⟨x,t,rfl,rfl⟩<;>rfl
 pyHash:=fun hv h=>by
  rcases gQ hv with ⟨i,t,rfl,rfl⟩|⟨x,t,rfl,rfl⟩
  ·exact wpAny_pyHash_int h
  ·exact wpAny_pyHash_str h
 eqBool:=fun hu hv h=>by
  rcases gQ hu with ⟨i,t,rfl,rfl⟩|⟨x,t,rfl,rfl⟩
  ·rcases gQ hv with ⟨j,u,rfl,rfl⟩|⟨y,u,rfl,rfl⟩
   ·rw[P8] at h;exact wpAny_eqBool_int h
   ·rw[J4] at h;exact SeqAt.EqAt.int_str i t y u _ _ _ _ h
  ·rcases gQ hv with ⟨j,u,rfl,rfl⟩|⟨y,u,rfl,rfl⟩
   ·rw[F0] at h;exact SeqAt.EqAt.str_int x t j u _ _ _ _ h
   ·rw[GN] at h;exact wpAny_eqBool_str h
 «strs»:=fun k x t v h=>by
  rcases gQ h with ⟨i,u,rfl,e⟩|⟨y,u,rfl,e⟩
  ·exact nomatch e
  ·injection e with e1 _
   subst e1
   cases v<;>rfl
end L2
namespace L2
open PySem PySem.Spec PyProof.Rows
inductive V where
 |au|bl (b:Bool)|int (i:Int)|str (x:Str)|dB (b:Array UInt8)|mj (b:UInt64)|ref (a:Addr)|ty (n:String)
 deriving DecidableEq
def RelV:V→Value→Prop
 | .au,u=>u=Value.none
 | .bl b,u=>u=Value.bool b
 | .int i,u=> ∃t,u=Value.int i t
 | .str x,u=> ∃t,u=Value.str x t
 | .dB b,u=> ∃t,u=Value.bytes b t
 | .mj b,u=> ∃t,u=Value.float b t
 | .ref a,u=>u=Value.ref a
 | .ty n,u=>u=Value.type n
abbrev Vals:List V→List Value→Prop:=Paired RelV
theorem Vals.length {xs:List V} {us:List Value} (r:Vals xs us):xs.length=us.length:=Paired.length r
theorem Vals.get: ∀{xs:List V} {us:List Value} {i:Nat} {x:V},Vals xs us→xs[i]?=some x→ ∃u,us[i]?=some u∧RelV x u
 |_,_,_,_, .nil,e=>by simp at e
 |_,_,0,_, .cons r _,e=>by simp at e;subst e;exact ⟨_,rfl,r⟩
 |_,_,i+1,x, .cons _ t,e=>by
  obtain ⟨u,h1,h2⟩:=Vals.get (i:=i) (x:=x) t (by simpa using e)
  exact ⟨u,by simpa using h1,h2⟩
theorem Vals.append: ∀{xs ys:List V} {us ws:List Value},Vals xs us→Vals ys ws→Vals (xs++ys) (us++ws)
 |_,_,_,_, .nil,s=>s
 |_,_,_,_, .cons r t,s=> .cons r (Vals.append t s)
theorem Vals.take: ∀{xs:List V} {us:List Value} (n:Nat),Vals xs us→Vals (xs.take n) (us.take n)
 |_,_,0,_=> .nil
 |_,_,_+1, .nil=> .nil
 |_,_,n+1, .cons r t=> .cons r (Vals.take n t)
theorem Vals.drop: ∀{xs:List V} {us:List Value} (n:Nat),Vals xs us→Vals (xs.drop n) (us.drop n)
 |_,_,0,r=>r
 |_,_,_+1, .nil=> .nil
 |_,_,n+1, .cons _ t=>Vals.drop n t
def gH:Option V→Option Value→Prop
 |some v,some u=>RelV v u
 |none,none=>True
 |_,_=>False
def KV {κ:Type}:List (κ×V)→List (κ×Value)→Prop:=Paired fun (p:κ×V) (q:κ×Value)=>p.1=q.1∧RelV p.2 q.2
def kV:Key→V
 | .inl i=> .int i
 | .inr x=> .str x
inductive HO where
 |lst (xs:List V)
 |tup (xs:List V)
 |dK (kvs:List (Key×V))|dT (kvs:List (List Key×V))
 |set (S:Int→Bool) (n:Nat)
 |ins (C dx:Addr) (fs:List (Str×V))
 |own (x:Addr)
 |xd (fs:List (Str×V))
 |met (f x:Addr)
 |sE (lo hi:Int)
 |cY (o:Obj) (u:HO)
 |iX (ps:Array Value)
 |ext (φ:Heap→Prop)
abbrev Hp:=Addr→Option HO
def upd (H:Hp) (a:Addr) (o:HO):Hp:=fun b=>if b=a then some o else H b
theorem ak {H:Hp} {a:Addr} {o:HO}:upd H a o a=some o:=by unfold upd;rw[if_pos rfl]
theorem aG {H:Hp} {a b:Addr} {o:HO} (h:b≠a):upd H a o b=H b:=by unfold upd;rw[if_neg h]
theorem cB {H:Hp} {a:Addr} {o u:HO}:upd (upd H a o) a u=upd H a u:=by
 funext b;unfold upd;split<;>rfl
theorem rp {H:Hp} {a b:Addr} {o u:HO} (h:H a=some o) (h':H b=some u) (d:o≠u):a≠b:=by
 intro e;subst e;rw[h] at h';exact d (Option.some.inj h')
theorem cw {H:Hp} {a b:Addr} {o:HO} (h:H a=some o) (h':H b=none):a≠b:=by
 intro e;subst e;rw[h] at h';cases h'
section
variable (P:Program) (w:World)
def cS (H:Hp) (h:Heap) (a:Addr):HO→Prop
 | .lst xs=>xs.length≤sizeLine∧ ∃(its:List Value) (n:Nat),Vals xs its∧h.get? a=some {cls:= .type "list",data:= .seq its.toArray n}
 | .tup xs=>xs.length≤sizeLine∧ ∃its:List Value,Vals xs its∧IsTup h a its.toArray
 | .dK kvs=>kvs.length≤sizeLine∧(a==sysModules)=false∧ ∃vs,KV kvs vs∧h.DictOf (Bh P w) a vs
 | .dT kvs=>kvs.length≤sizeLine∧(a==sysModules)=false∧ ∃xs:List (List Key×Addr×Value),
   Paired (fun (p:List Key×V) (q:List Key×Addr×Value)=>p.1=q.1∧H q.2.1=some (.tup (p.1.map kV))∧RelV p.2 q.2.2) kvs xs∧
   ∃o es ep,h.get? a=some o∧o.ExactDict∧o.data= .dict es ep∧es.toList=xs.map (entryOfKey (tupleKind (Bh P w)))∧(xs.map (·.1)).Nodup
 | .set S n=>h.SetOf (intKind P w) a S n
 | .ins C dx fs=>H dx=some (.own a)∧fs.length≤1000∧dx≠a∧h.get? a=some (PySem.W.instObj C dx)∧
   ∃mA,h.Ns1 dx mA∧(∀f,gH (fs.lookup f) (mA f))∧PySem.Within mA (fs.map (·.1))
 | .own _=> ∃o,h.get? a=some o
 | .xd fs=> ∃mA,h.Ns1 a mA∧ ∀f,gH (fs.lookup f) (mA f)
 | .sE lo hi=> ∃t u v,h.get? a=some {cls:= .type "range",data:= .fields #[.int lo t, .int hi u, .int 1 v]}
 | .cY o u=>h.get? a=some o∧cS H h a u
 | .iX ps=>h.get? a=some {cls:= .none,data:= .fields ps}
 | .met f x=>h.get? a=some (PySem.W.methodObj (.ref f) (.ref x))
 | .ext φ=>φ h∧(∃o,h.get? a=some o)∧ ∀h1 h2:Heap,φ h1→(∀o,h1.get? a=some o→h2.get? a=some o)→φ h2
def bO (H:Hp) (h:Heap):Prop:= ∀a o,H a=some o→cS P w H h a o
end
section
variable {P:Program} {w:World} {H H':Hp} {h h':Heap} {a:Addr} {o:HO}
theorem cS.lt (x:cS P w H h a o):a<h.objs.size:=by
 cases o with
 |lst xs=>obtain ⟨_,_,_,_,e⟩:=x;exact Heap.lt_size e
 |tup xs=>obtain ⟨_,_,_,p⟩:=x;exact p.lt
 |dK kvs=>obtain ⟨_,_,_,_,o,_,_,e,_⟩:=x;exact Heap.lt_size e
 |dT kvs=>obtain ⟨_,_,_,_,o,_,_,e,_⟩:=x;exact Heap.lt_size e
 |set S n=>obtain ⟨o,_,_,_,e,_⟩:=x;exact Heap.lt_size e
 |ins C dx fs=>obtain ⟨_,_,_,e,_⟩:=x;exact Heap.lt_size e
 |own y=>obtain ⟨_,e⟩:=x;exact Heap.lt_size e
 |xd fs=>obtain ⟨_,⟨_,_,_,e,_⟩,_⟩:=x;exact Heap.lt_size e
 |sE lo hi=>obtain ⟨_,_,_,e⟩:=x;exact Heap.lt_size e
 |cY ob u=>obtain ⟨e,_⟩:=x;exact Heap.lt_size e
 |iX ps=>exact Heap.lt_size (show h.get? a=some _ from x)
 |met f y=>exact Heap.lt_size (show h.get? a=some _ from x)
 |ext φ=>obtain ⟨_,⟨_,e⟩,_⟩:=x;exact Heap.lt_size e
theorem Paired.AU {α β:Type} {F G:α→β→Prop}: ∀{l₁:List α} {l₂:List β},Paired F l₁ l₂→(∀a b,F a b→G a b)→Paired G l₁ l₂
 |_,_, .nil,_=> .nil
 |_,_, .cons r t,f=> .cons (f _ _ r) (Paired.AU t f)
theorem cS.fD (x:cS P w H h a o) (k: ∀b u,(b=a∨H b=some (.own a))→h.get? b=some u→h'.get? b=some u)
  (ho: ∀b,H b=some (.own a)→H' b=some (.own a)) (ht: ∀b xs,H b=some (.tup xs)→H' b=some (.tup xs)):cS P w H' h' a o:=by
 induction o with
 |lst xs=>obtain ⟨z,its,n,r,e⟩:=x;exact ⟨z,its,n,r,k _ _ (.inl rfl) e⟩
 |tup xs=>obtain ⟨z,its,r,ob,e,c⟩:=x;exact ⟨z,its,r,ob,k _ _ (.inl rfl) e,c⟩
 |dK kvs=>obtain ⟨z,y,vs,r,ob,es,ep,e,c⟩:=x;exact ⟨z,y,vs,r,ob,es,ep,k _ _ (.inl rfl) e,c⟩
 |dT kvs=>
  obtain ⟨z,y,xs,r,ob,es,ep,e,c⟩:=x
  exact ⟨z,y,xs,Paired.AU r fun p q z=>⟨z.1,ht _ _ z.2.1,z.2.2⟩,ob,es,ep,k _ _ (.inl rfl) e,c⟩
 |set S n=>obtain ⟨ob,es,ep,t,e,c⟩:=x;exact ⟨ob,es,ep,t,k _ _ (.inl rfl) e,c⟩
 |ins C dx fs=>
  obtain ⟨d,z,ne,e,mA,⟨od,es,ep,e2,c⟩,r⟩:=x
  exact ⟨ho _ d,z,ne,k _ _ (.inl rfl) e,mA,⟨od,es,ep,k _ _ (.inr d) e2,c⟩,r⟩
 |own y=>obtain ⟨ob,e⟩:=x;exact ⟨ob,k _ _ (.inl rfl) e⟩
 |xd fs=>obtain ⟨mA,⟨od,es,ep,e,c⟩,r⟩:=x;exact ⟨mA,⟨od,es,ep,k _ _ (.inl rfl) e,c⟩,r⟩
 |sE lo hi=>obtain ⟨t,u,v,e⟩:=x;exact ⟨t,u,v,k _ _ (.inl rfl) e⟩
 |cY ob u ih=>obtain ⟨e,q⟩:=x;exact ⟨k _ _ (.inl rfl) e,ih q⟩
 |iX ps=>
  have e:h.get? a=some {cls:= .none,data:= .fields ps}:=x
  show h'.get? a=some {cls:= .none,data:= .fields ps}
  exact k a _ (.inl rfl) e
 |met f y=>
  have e:h.get? a=some (PySem.W.methodObj (.ref f) (.ref y)):=x
  show h'.get? a=some (PySem.W.methodObj (.ref f) (.ref y))
  exact k a _ (.inl rfl) e
 |ext φ=>obtain ⟨p,⟨o,e⟩,st⟩:=x;exact ⟨st _ _ p fun o q=>k _ _ (.inl rfl) q,⟨o,k _ _ (.inl rfl) e⟩,st⟩
theorem bO.lt (x:bO P w H h) (e:H a=some o):a<h.objs.size:=(x a o e).lt
theorem bO.fresh (x:bO P w H h) (e:h.objs.size≤a):H a=none:=by
 cases q:H a with
 |none=>rfl
 |some u=>exact absurd (Nat.lt_of_lt_of_le (x.lt q) e) (Nat.lt_irrefl _)
theorem bO.kept (x:bO P w H h) (k: ∀b u,h.get? b=some u→h'.get? b=some u):bO P w H h':=fun a o e=>
 (x a o e).fD (fun b u _ q=>k b u q) (fun _ q=>q) fun _ _ q=>q
theorem bO.laid (x:bO P w H h) (k: ∀b u,h.get? b=some u→h'.get? b=some u) (hp:h.objs.size≤a) (new:cS P w (upd H a o) h' a o):bO P w (upd H a o) h':=fun b u e=>by
 have hn:=x.fresh hp
 by_cases hb:b=a
 ·subst hb;rw[ak] at e;cases e;exact new
 ·rw[aG hb] at e
  exact (x b u e).fD (fun c v _ q=>k c v q) (fun c q=>by rw[aG (cw q hn)];exact q) fun c xs q=>by rw[aG (cw q hn)];exact q
end
def Rd (H:Hp) (a:Addr) (u:HO):Prop:=H a=some u∨ ∃o,H a=some (.cY o u)
theorem Rd.ok {P:Program} {w:World} {H:Hp} {h:Heap} {a:Addr} {u:HO} (r:Rd H a u) (x:bO P w H h):cS P w H h a u:=by
 rcases r with r|⟨o,r⟩
 ·exact x a u r
 ·obtain ⟨_,q⟩:=x a _ r
  exact q
def tG:Option HO→Prop
 |some (.lst _)=>True
 |some (.dK _)=>True
 |some (.dT _)=>True
 |some (.set _ _)=>True
 |some (.ins _ _ _)=>True
 |some (.ext _)=>True
 |_=>False
section
variable {P:Program} {w:World} {H:Hp} {h h':Heap} {x e:Addr} {o':HO}
theorem bO.write (ok:bO P w H h) (mu:tG (H x)) (he:e=x∨H e=some (.own x)) (k: ∀b u,b≠e→h.get? b=some u→h'.get? b=some u) (heo: ∃u,h'.get? e=some u)
  (new:cS P w (upd H x o') h' x o'):bO P w (upd H x o') h':=fun b u q=>by
 have nown: ∀c y,H c=some (.own y)→c≠x:=fun c y r z=>by subst z;rw[r] at mu;exact mu
 have ntup: ∀c xs,H c=some (.tup xs)→c≠x:=fun c xs r z=>by subst z;rw[r] at mu;exact mu
 by_cases hb:b=x
 ·subst hb;rw[ak] at q;cases q;exact new
 ·rw[aG hb] at q
  by_cases hbe:b=e
  ·have q':H b=some (.own x):=by
    rcases he with z|z
    ·exact absurd (hbe.trans z) hb
    ·rw[hbe];exact z
   rw[q] at q';cases q'
   obtain ⟨v,hv⟩:=heo
   exact ⟨v,by rw[hbe];exact hv⟩
  ·refine (ok b u q).fD (fun c v hc r=>k c v ?_ r) (fun c r=>by rw[aG (nown c b r)];exact r) fun c xs r=>by rw[aG (ntup c xs r)];exact r
   rcases hc with rfl|hc
   ·exact hbe
   ·rintro rfl
    rcases he with z|z
    ·exact nown c b hc z
    ·rw[hc] at z;cases z;exact hb rfl
end
structure Un (fs ex:List Addr) (H H':Hp) (h h':Heap):Prop where
 keep: ∀b o,h.get? b=some o→H b=none→b∉fs→b∉ex→h'.get? b=some o
 slot: ∀b o,h.get? b=some o→H b=none→b∈fs→b∉ex→ ∃sl,h'.get? b=some {o with slots:=sl}
 free: ∀b o,h.get? b=some o→H b=none→b∉ex→H' b=none
 there: ∀b o,h.get? b=some o→b∉ex→ ∃o',h'.get? b=some o'
 gm: ∀b xs,H b=some (.tup xs)→H' b=some (.tup xs)
 fO: ∀b o u,H b=some (.cY o u)→H' b=some (.cY o u)
 gL: ∀b ps,H b=some (.iX ps)→ ∃more,H' b=some (.iX (ps++more))
section
variable {fs fs' ex ex':List Addr} {H H1 H2:Hp} {h h1 h2 h':Heap} {a x e:Addr} {o:HO}
theorem Un.any (u:Un fs ex H H1 h h1) {b:Addr} {ob:Obj} (q:h.get? b=some ob) (n:H b=none) (hx:b∉ex): ∃sl,h1.get? b=some {ob with slots:=sl}:=by
 by_cases hb:b∈fs
 ·exact u.slot b ob q n hb hx
 ·exact ⟨ob.slots,u.keep b ob q n hb hx⟩
theorem Un.kept (k: ∀b u,h.get? b=some u→h'.get? b=some u):Un fs ex H H h h':=
 ⟨fun b ob q _ _ _=>k b ob q,fun b ob q _ _ _=>⟨ob.slots,k b ob q⟩,fun _ _ _ n _=>n,fun b ob q _=>⟨ob,k b ob q⟩,fun _ _ q=>q,fun _ _ _ q=>q,fun _ ps q=>⟨#[],by rw[q];simp⟩⟩
theorem Un.refl:Un fs ex H H h h:=Un.kept fun _ _ q=>q
theorem Un.laid (k: ∀b u,h.get? b=some u→h'.get? b=some u) (hp:h.objs.size≤a) (hn:H a=none):Un fs ex H (upd H a o) h h' where
 keep:=fun b u q _ _ _=>k b u q
 slot:=fun b u q _ _ _=>⟨u.slots,k b u q⟩
 free:=fun b u q n _=>by rw[aG (Nat.ne_of_lt (Nat.lt_of_lt_of_le (Heap.lt_size q) hp))];exact n
 there:=fun b u q _=>⟨u,k b u q⟩
 gm:=fun b xs q=>by rw[aG (cw q hn)];exact q
 fO:=fun b u xs q=>by rw[aG (cw q hn)];exact q
 gL:=fun b ps q=>⟨#[],by rw[aG (cw q hn),q];simp⟩
theorem Un.write (mu:tG (H x)) (he:e=x∨H e=some (.own x)) (k: ∀b u,b≠e→h.get? b=some u→h'.get? b=some u) (heo: ∃u,h'.get? e=some u):Un fs ex H (upd H x o) h h':=by
 have hx: ∀b,H b=none→b≠x:=fun b n z=>by subst z;rw[n] at mu;exact mu
 have hb: ∀b,H b=none→b≠e:=fun b n z=>by
  subst z
  rcases he with r|r
  ·exact hx b n r
  ·rw[n] at r;cases r
 have hm: ∀b u,H b=some u→ ¬tG (some u)→b≠x:=fun b u q nm z=>by subst z;rw[q] at mu;exact nm mu
 refine ⟨fun b u q n _ _=>k b u (hb b n) q,fun b u q n _ _=>⟨u.slots,k b u (hb b n) q⟩,fun b u q n _=>by rw[aG (hx b n)];exact n,fun b u q _=>?_,
  fun b xs q=>by rw[aG (hm b _ q fun z=>z)];exact q,fun b u xs q=>by rw[aG (hm b _ q fun z=>z)];exact q,fun b ps q=>⟨#[],by rw[aG (hm b _ q fun z=>z),q];simp⟩⟩
 by_cases hbe:b=e
 ·subst hbe;exact heo
 ·exact ⟨u,k b u hbe q⟩
end
def qS (h:Heap) (H:Hp):List Addr:=(List.range h.objs.size).filter fun a=>(H a).isSome
def gO (h:Heap) (H:Hp):Heap:=PySem.W.hideAll h (qS h H)
theorem Qt (h:Heap) (H:Hp):(gO h H).objs.size=h.objs.size:=PySem.W.hideAll_size _ _
theorem JT {h:Heap} {H:Hp} {b:Addr} {o:Obj} (e:h.get? b=some o) (n:H b=none):(gO h H).get? b=some o:=
 PySem.W.hideAll_get _ e fun hm=>by
  have q:(H b).isSome=true:=(List.mem_filter.mp hm).2
  rw[n] at q;simp at q
theorem Ii {h:Heap} {H:Hp} {b:Addr} {o:Obj} (e:(gO h H).get? b=some o):h.get? b=some o∧H b=none:=by
 have e':h.get? b=some o:=PySem.W.of_hideAll (qS h H) e
 refine ⟨e',?_⟩
 cases q:H b with
 |none=>rfl
 |some x=>
  have hm:b∈qS h H:=List.mem_filter.mpr ⟨List.mem_range.mpr (Heap.lt_size e'),by simp [q]⟩
  have z:(gO h H).get? b=none:=PySem.W.hideAll_none (qS h H) hm
  rw[z] at e;cases e
end L2
namespace L2
open PySem PySem.Spec PyProof.Rows
structure Mod (K:PySem.W.Frag) (mg:Str→Option Value) (base:Heap):Prop where
 gZ:K.In base
 glob:base.Ns mainGlobals mg
 blt: ∃mb,base.Ns builtinsNs mb∧ ∀x:Str,x≠ "__name__" →mb x=bootBuiltins x
 nolimit:base.NoLimit
structure Cx where
 prog:Program
 w:World
 K:PySem.W.Frag
 mg:Str→Option Value
 base:Heap
 A:Around
 N:List Str
 bx:Shared
 km:Hp
 env:Env
 outer:List Env
 stack:List Env
 ex:List Addr
 fn:Str→Bool
 calm:Bool
 pn:List (Addr×Obj)
 xe:Value→Shared→Prop
def bj (l:List Env):List Addr:=l.filterMap (·.frame)
abbrev Cx.fs (X:Cx):List Addr:=bj X.outer
def kY (sc:Scope) (x:Str):Prop:=sc.names.lookup x=some .local∨sc.names.lookup x=some .cell∨sc.names.lookup x=some .free
def Loc (sc:Scope) (x:Str):Prop:=sc.names.lookup x=some .local∨sc.names.lookup x=some .cell
def Look (env:Env) (h:Heap) (m:Str→Option Value) (x:Str) (u:Value):Prop:=
 (env.kindOf x=some .local∧m x=some u)∨((env.kindOf x=some .cell∨env.kindOf x=some .free)∧ ∃c,env.cells.lookup x=some c∧h.IsCell c (some u))
structure Cx.Ok (X:Cx):Prop where
 mod:Mod X.K X.mg X.base
 kind:X.env.scope.kind= .function
 glob:X.env.globals=mainGlobals
 blt:X.env.builtins=builtinsNs
 above:X.bx.heap.objs.size≤X.env.locals
 inj: ∀x y c,X.env.cells.lookup x=some c→X.env.cells.lookup y=some c→x=y
 has: ∀x,(X.env.kindOf x=some .cell∨X.env.kindOf x=some .free)→ ∃c,X.env.cells.lookup x=some c
 gR: ∀x c,X.fn x=true→X.env.cells.lookup x=some c→X.bx.heap.objs.size≤c
 hd:X.calm=true→X.A.handled=none
 frames:X.A.frames=some X.stack
 iO:X.stack=X.outer∨(X.stack=X.env::X.outer∧X.env.frame=some X.env.locals)
 gJ: ∀b∈X.ex,b≠X.env.locals∧ ∀x c,X.env.cells.lookup x=some c→c≠b
 bs: ∀b o,X.base.get? b=some o→X.bx.heap.get? b=some o∧X.km b=none
 ek:X.base.objs.size≤X.bx.heap.objs.size
 eE: ∀b o,X.base.get? b=some o→b∉X.ex
 gI: ∀b∈X.ex,b∉X.fs
 dc:X.bx.heap.FunFrames X.base X.outer
 fN: ∀b∈X.fs,X.km b=none
structure Inv (X:Cx) (pins:List (Addr×Obj)) (σ:List (Option V)) (H:Hp) (s:Shared):Prop where
 ok:X.Ok
 os:s.os=X.bx.os
 bare:AllBare s.gens
 base:Un X.fs X.ex X.km H X.bx.heap s.heap
 loc: ∃m,s.heap.Ns X.env.locals m∧ ∀(i:Nat) (x:Str) (v:V),X.N[i]?=some x→σ[i]?=some (some v)→kY X.env.scope x→ ∃u,RelV v u∧Look X.env s.heap m x u
 cell: ∀x c,X.env.cells.lookup x=some c→ ∃v,s.heap.IsCell c v
 free:H X.env.locals=none
 dG: ∀x c,X.env.cells.lookup x=some c→H c=none
 pin: ∀p∈X.pn++pins,s.heap.get? p.1=some p.2∧H p.1=none∧p.1≠X.env.locals∧p.1∉X.fs∧ ∀v,p.2.data≠ .cell v
 ao:bO X.prog X.w H s.heap
 len:σ.length=X.N.length
section
variable {X:Cx} {pins:List (Addr×Obj)} {σ:List (Option V)} {H H':Hp} {s:Shared} {h':Heap}
theorem Cx.Ok.Ra (ok:X.Ok) {b:Addr} {o:Obj} (e:X.base.get? b=some o):b∉X.fs:=fun hb=>by
 have:=(ok.dc.mem hb).1
 rw[e] at this;cases this
theorem Inv.bs (I:Inv X pins σ H s): ∀b o,X.base.get? b=some o→s.heap.get? b=some o∧H b=none:=fun b o e=>
 ⟨I.base.keep b o (I.ok.bs b o e).1 (I.ok.bs b o e).2 (I.ok.Ra e) (I.ok.eE b o e),I.base.free b o (I.ok.bs b o e).1 (I.ok.bs b o e).2 (I.ok.eE b o e)⟩
theorem Inv.bk (I:Inv X pins σ H s): ∀b o,X.base.get? b=some o→s.heap.get? b=some o:=fun b o e=>(I.bs b o e).1
theorem Inv.mod (I:Inv X pins σ H s):Mod X.K X.mg X.base:=I.ok.mod
theorem Inv.bV (I:Inv X pins σ H s):X.K.In s.heap:=I.ok.mod.gZ.keeps I.bk
theorem Inv.lt (I:Inv X pins σ H s):X.env.locals<s.heap.objs.size:=let ⟨_,hn,_⟩:=I.loc;hn.lt
theorem Inv.sz (I:Inv X pins σ H s):X.bx.heap.objs.size≤s.heap.objs.size:=Nat.le_trans I.ok.above (Nat.le_of_lt I.lt)
theorem Inv.LY (I:Inv X pins σ H s) {a:Addr} (h:s.heap.objs.size≤a):a∉X.fs:=fun hb=>by
 obtain ⟨_,o,ho,_⟩:=I.ok.dc.mem hb
 exact absurd (Nat.lt_of_lt_of_le (Heap.lt_size ho) (Nat.le_trans I.sz h)) (Nat.lt_irrefl _)
theorem Inv.jN (I:Inv X pins σ H s): ∀x c,X.env.cells.lookup x=some c→c≠X.env.locals:=fun x c e z=>by
 obtain ⟨v,o,ho,hd⟩:=I.cell x c e
 obtain ⟨m,⟨o',es,ep,ho',hd',_⟩,_⟩:=I.loc
 rw[z,ho'] at ho;cases ho;rw[hd'] at hd;cases hd
theorem Inv.dc (I:Inv X pins σ H s):s.heap.FunFrames X.base X.outer:=by
 have all: ∀(l:List Env),(∀b∈bj l,b∈X.fs)→X.bx.heap.FunFrames X.base l→s.heap.FunFrames X.base l:=by
  intro l
  induction l with
  |nil=>intro _ _;trivial
  |cons env r ih=>
   intro hs hl
   obtain ⟨hk,⟨L,o,hf,hn,ho,hd⟩,hr⟩:=hl
   have hL:L∈X.fs:=hs L (by unfold bj;rw[List.filterMap_cons,hf];exact List.mem_cons_self)
   obtain ⟨sl,e⟩:=I.base.slot L o ho (I.ok.fN L hL) hL fun z=>I.ok.gI L z hL
   exact ⟨hk,⟨L,_,hf,hn,e,hd⟩,ih (fun b hb=>hs b (by unfold bj;rw[List.filterMap_cons,hf];exact List.mem_cons_of_mem _ hb)) hr⟩
 exact all X.outer (fun _ hb=>hb) I.ok.dc
theorem Inv.stack (I:Inv X pins σ H s):s.heap.FunFrames X.base X.stack:=by
 rcases I.ok.iO with e|⟨e,hf⟩
 ·rw[e];exact I.dc
 ·rw[e]
  obtain ⟨m,hn,_⟩:=I.loc
  refine .cons (by rw[I.ok.kind];decide) hf hn ?_ I.dc
  exact Heap.get?_none_of_le (Nat.le_trans I.ok.ek I.ok.above)
theorem Inv.qm (I:Inv X pins σ H s): ∀b∈bj X.stack,b∈X.env.locals::X.fs:=fun b hb=>by
 rcases I.ok.iO with e|⟨e,hf⟩
 ·rw[e] at hb;exact List.mem_cons_of_mem _ hb
 ·rw[e] at hb
  unfold bj at hb
  rw[List.filterMap_cons,hf] at hb
  exact hb
theorem Inv.tJ (I:Inv X pins σ H s): ∀b∈bj X.stack,H b=none:=fun b hb=>by
 rcases List.mem_cons.mp (I.qm b hb) with e|hb
 ·rw[e];exact I.free
 ·obtain ⟨_,o,ho,_⟩:=I.ok.dc.mem hb
  exact I.base.free b o ho (I.ok.fN b hb) fun z=>I.ok.gI b z hb
theorem Inv.step {g':Array GenState} {t':Nat} {d':Drawn} {ch:List Addr} (I:Inv X pins σ H s)
  (hch: ∀b∈ch,(b∈X.ex∨X.bx.heap.objs.size≤b)∧b≠X.env.locals∧(∀x c,X.env.cells.lookup x=some c→c≠b)∧ ∀p∈X.pn++pins,p.1≠b)
  (keep: ∀b o,b≠X.env.locals→b∉X.fs→b∉ch→s.heap.get? b=some o→H b=none→h'.get? b=some o)
  (slot: ∀b o,b≠X.env.locals→b∈X.fs→b∉ch→s.heap.get? b=some o→H b=none→ ∃sl,h'.get? b=some {o with slots:=sl}) (free: ∀b o,b∉ch→s.heap.get? b=some o→H b=none→H' b=none)
  (there: ∀b o,b∉ch→s.heap.get? b=some o→ ∃o',h'.get? b=some o')
  (gm: ∀b xs,H b=some (.tup xs)→H' b=some (.tup xs)) (fO: ∀b o u,H b=some (.cY o u)→H' b=some (.cY o u)) (gL: ∀b ps,H b=some (.iX ps)→ ∃more,H' b=some (.iX (ps++more)))
  (ns: ∀m,s.heap.Ns X.env.locals m→h'.Ns X.env.locals m) (ao:bO X.prog X.w H' h') (hg:AllBare g'):
  Inv X pins σ H' {s with heap:=h',gens:=g',drawn:=d',toks:=t'}:=by
 have neL: ∀b o,X.bx.heap.get? b=some o→b≠X.env.locals:=fun b o e=>Nat.ne_of_lt (Nat.lt_of_lt_of_le (Heap.lt_size e) I.ok.above)
 have neC: ∀b o,X.bx.heap.get? b=some o→b∉X.ex→b∉ch:=fun b o e hx hb=>by
  rcases (hch b hb).1 with z|z
  ·exact hx z
  ·exact absurd (Nat.lt_of_lt_of_le (Heap.lt_size e) z) (Nat.lt_irrefl _)
 have cellK: ∀x c,X.env.cells.lookup x=some c→ ∀v,s.heap.IsCell c v→h'.IsCell c v:=fun x c e v ⟨o,ho,hd⟩=>by
  have nch:c∉ch:=fun z=>(hch c z).2.2.1 x c e rfl
  by_cases hc:c∈X.fs
  ·obtain ⟨sl,q⟩:=slot c o (I.jN x c e) hc nch ho (I.dG x c e)
   exact ⟨_,q,hd⟩
  ·exact ⟨o,keep c o (I.jN x c e) hc nch ho (I.dG x c e),hd⟩
 refine ⟨I.ok,I.os,hg,⟨fun b o e n hb hx=>?_,fun b o e n hb hx=>?_,fun b o e n hx=>?_,fun b o e hx=>?_,fun b xs e=>gm b xs (I.base.gm b xs e),fun b o xs e=>fO b o xs (I.base.fO b o xs e),fun b ps e=>?_⟩,?_,fun x c e=>?_,?_,fun x c e=>?_,fun p hp=>?_,ao,I.len⟩
 ·exact keep b o (neL b o e) hb (neC b o e hx) (I.base.keep b o e n hb hx) (I.base.free b o e n hx)
 ·obtain ⟨sl,e1⟩:=I.base.slot b o e n hb hx
  obtain ⟨sl',e2⟩:=slot b _ (neL b o e) hb (neC b o e hx) e1 (I.base.free b o e n hx)
  exact ⟨sl',e2⟩
 ·obtain ⟨o',e1⟩:=I.base.there b o e hx
  exact free b o' (neC b o e hx) e1 (I.base.free b o e n hx)
 ·obtain ⟨o',e1⟩:=I.base.there b o e hx
  exact there b o' (neC b o e hx) e1
 ·obtain ⟨m1,e1⟩:=I.base.gL b ps e
  obtain ⟨m2,e2⟩:=gL b _ e1
  exact ⟨m1++m2,by rw[e2,Array.append_assoc]⟩
 ·obtain ⟨m,hn,hl⟩:=I.loc
  refine ⟨m,ns m hn,fun i x v e1 e2 e3=>?_⟩
  obtain ⟨u,r,l⟩:=hl i x v e1 e2 e3
  refine ⟨u,r,?_⟩
  rcases l with l|⟨k,c,e,z⟩
  ·exact .inl l
  ·exact .inr ⟨k,c,e,cellK x c e _ z⟩
 ·obtain ⟨v,z⟩:=I.cell x c e
  exact ⟨v,cellK x c e v z⟩
 ·obtain ⟨m,⟨o,_,_,ho,_⟩,_⟩:=I.loc
  exact free _ o (fun z=>(hch _ z).2.1 rfl) ho I.free
 ·obtain ⟨v,o,ho,hd⟩:=I.cell x c e
  exact free c o (fun z=>(hch c z).2.2.1 x c e rfl) ho (I.dG x c e)
 ·obtain ⟨e,n,ne,nf,d⟩:=I.pin p hp
  have nch:p.1∉ch:=fun z=>(hch p.1 z).2.2.2 p hp rfl
  exact ⟨keep p.1 p.2 ne nf nch e n,free p.1 p.2 nch e n,ne,nf,d⟩
theorem Inv.un {t':Nat} (I:Inv X pins σ H s) (u:Un X.fs [] H H' s.heap h') (ao:bO X.prog X.w H' h'):Inv X pins σ H' {s with heap:=h',toks:=t'}:=by
 obtain ⟨m,⟨o,es,ep,ho,r⟩,_⟩:=id I.loc
 obtain ⟨sl,hL⟩:=u.any ho I.free (by simp)
 exact I.step (g':=s.gens) (d':=s.drawn) (ch:= []) (fun _ z=>nomatch z) (fun b o _ hb _ e n=>u.keep b o e n hb (by simp)) (fun b o _ hb _ e n=>u.slot b o e n hb (by simp)) (fun b o _ e n=>u.free b o e n (by simp)) (fun b o _ e=>u.there b o e (by simp)) u.gm u.fO u.gL (fun m' hm=>by
  obtain ⟨o',es',ep',ho',r'⟩:=hm
  rw[ho] at ho';cases ho'
  exact ⟨_,es',ep',hL,r'⟩) ao I.bare
theorem Inv.call {g':Array GenState} {t':Nat} {d':Drawn} {ch:List Addr} (I:Inv X pins σ H s) (u:Un (bj X.stack) ch H H' s.heap h') (ao:bO X.prog X.w H' h') (hg:AllBare g')
  (hch: ∀b∈ch,(b∈X.ex∨X.bx.heap.objs.size≤b)∧b≠X.env.locals∧(∀x c,X.env.cells.lookup x=some c→c≠b)∧ ∀p∈X.pn++pins,p.1≠b):
  Inv X pins σ H' {s with heap:=h',gens:=g',drawn:=d',toks:=t'}:=by
 obtain ⟨m,⟨o,es,ep,ho,r⟩,_⟩:=id I.loc
 obtain ⟨sl,hL⟩:=u.any ho I.free fun z=>(hch _ z).2.1 rfl
 exact I.step (ch:=ch) hch (fun b o hL hb hc e n=>u.keep b o e n (fun z=>(List.mem_cons.mp (I.qm b z)).elim hL hb) hc) (fun b o _ _ hc e n=>u.any e n hc) (fun b o hc e n=>u.free b o e n hc) (fun b o hc e=>u.there b o e hc) u.gm u.fO u.gL (fun m' hm=>by
  obtain ⟨o',es',ep',ho',r'⟩:=hm
  rw[ho] at ho';cases ho'
  exact ⟨_,es',ep',hL,r'⟩) ao hg
theorem Inv.turned {t':Nat} {it:Addr} (I:Inv X pins σ H s) (k: ∀b o,b≠it→s.heap.get? b=some o→h'.get? b=some o) (hn:H it=none) (hL:it≠X.env.locals)
  (h1:it∈X.ex∨X.bx.heap.objs.size≤it) (h2: ∀x c,X.env.cells.lookup x=some c→c≠it) (h3: ∀p∈X.pn++pins,p.1≠it):Inv X pins σ H {s with heap:=h',toks:=t'}:=by
 have nit: ∀b u,H b=some u→b≠it:=fun b u e z=>by rw[z,hn] at e;cases e
 refine I.step (g':=s.gens) (d':=s.drawn) (ch:= [it]) (fun b hb=>?_) (fun b o _ _ hc e _=>k b o (fun z=>hc (by simp [z])) e) (fun b o _ _ hc e _=>⟨o.slots,k b o (fun z=>hc (by simp [z])) e⟩) (fun _ _ _ _ n=>n)
  (fun b o hc e=>⟨o,k b o (fun z=>hc (by simp [z])) e⟩) (fun _ _ e=>e) (fun _ _ _ e=>e) (fun b ps e=>⟨#[],by rw[e];simp⟩) (fun m hm=>?_) (fun b u e=>?_) I.bare
 ·have e:b=it:=by simpa using hb
  subst e
  exact ⟨h1,hL,h2,h3⟩
 ·obtain ⟨o,es,ep,ho,r⟩:=hm
  exact ⟨o,es,ep,k _ o (Ne.symm hL) ho,r⟩
 ·refine (I.ao b u e).fD (fun c v hc q=>k c v ?_ q) (fun _ q=>q) fun _ _ q=>q
  rcases hc with z|z
  ·rw[z];exact nit b u e
  ·exact nit c _ z
theorem Inv.tok (I:Inv X pins σ H s) (t:Nat):Inv X pins σ H {s with toks:=t}:=I.un (h':=s.heap) (t':=t) Un.refl I.ao
theorem Inv.kept {t':Nat} (I:Inv X pins σ H s) (k: ∀b u,s.heap.get? b=some u→h'.get? b=some u):Inv X pins σ H {s with heap:=h',toks:=t'}:=I.un (Un.kept k) (I.ao.kept k)
theorem Inv.laid {a:Addr} {o:HO} {t':Nat} (I:Inv X pins σ H s) (k: ∀b u,s.heap.get? b=some u→h'.get? b=some u) (hp:s.heap.objs.size≤a) (new:cS X.prog X.w (upd H a o) h' a o):
  Inv X pins σ (upd H a o) {s with heap:=h',toks:=t'}:=I.un (Un.laid k hp (I.ao.fresh hp)) (I.ao.laid k hp new)
theorem Inv.write {x e:Addr} {o:HO} {t':Nat} (I:Inv X pins σ H s) (mu:tG (H x)) (he:e=x∨H e=some (.own x)) (k: ∀b u,b≠e→s.heap.get? b=some u→h'.get? b=some u) (heo: ∃u,h'.get? e=some u)
  (new:cS X.prog X.w (upd H x o) h' x o):Inv X pins σ (upd H x o) {s with heap:=h',toks:=t'}:=I.un (Un.write mu he k heo) (I.ao.write mu he k heo new)
theorem Inv.weak {σ':List (Option V)} (I:Inv X pins σ H s) (hl:σ'.length=σ.length) (w: ∀(i:Nat) v,σ'[i]?=some (some v)→σ[i]?=some (some v)):Inv X pins σ' H s:=
 ⟨I.ok,I.os,I.bare,I.base,let ⟨m,hn,hl'⟩:=I.loc;⟨m,hn,fun i x v e1 e2 e3=>hl' i x v e1 (w i v e2) e3⟩,I.cell,I.free,I.dG,I.pin,I.ao,hl.trans I.len⟩
theorem Inv.ye {pins':List (Addr×Obj)} (I:Inv X pins σ H s) (h: ∀p∈pins',s.heap.get? p.1=some p.2∧H p.1=none∧p.1≠X.env.locals∧p.1∉X.fs∧ ∀v,p.2.data≠ .cell v):Inv X pins' σ H s:=
 ⟨I.ok,I.os,I.bare,I.base,I.loc,I.cell,I.free,I.dG,fun p hp=>(List.mem_append.mp hp).elim (fun z=>I.pin p (List.mem_append_left _ z)) (h p),I.ao,I.len⟩
theorem wW {N:List Str} (hN:N.Nodup) {i j:Nat} {x:Str} (a:N[i]?=some x) (b:N[j]?=some x):i=j:=by
 obtain ⟨h1,e1⟩:=List.getElem?_eq_some_iff.mp a
 obtain ⟨h2,e2⟩:=List.getElem?_eq_some_iff.mp b
 exact (List.getElem_inj hN).mp (e1.trans e2.symm)
theorem xJ {M:Model} {A:Around} {E:Value→Shared→Prop} {i:Nat} {x:Str} {v:V} {u:Value} {Q:Unit→Shared→Prop} (I:Inv X pins σ H s) (hN:X.N.Nodup) (hi:X.N[i]?=some x) (hx:Loc X.env.scope x) (r:RelV v u)
  (h: ∀s',Inv X pins (σ.set i (some v)) H s'→(∃a,Heap.SameBut a s.heap s'.heap∧(a=X.env.locals∨X.env.cells.lookup x=some a))→Q () s') (hf:X.fn x=true∨X.env.scope.names.lookup x=some .local:=by first|exact .inl rfl|exact .inr rfl|assumption):wpAny M A (storeName X.env x u) Q E s:=by
 obtain ⟨m,hn,hl⟩:=id I.loc
 have hcls:(X.env.scope.kind== .class||(X.env.scope.kind== .module&&X.env.locals !=X.env.globals))=false:=by rw[I.ok.kind];rfl
 have hiσ:i<σ.length:=by rw[I.len];exact (List.getElem?_eq_some_iff.mp hi).1
 have jN:=I.jN
 have tracked: ∀{a:Addr} {h':Heap},(∃o,s.heap.get? a=some o∧H a=none)→Heap.SameBut a s.heap h'→bO X.prog X.w H h':=fun {a h'} ha hs b ob e=>by
  obtain ⟨_,_,hfree⟩:=ha
  refine (I.ao b ob e).fD (fun c w' hc q=>(hs.2 c ?_).trans q) (fun _ q=>q) fun _ _ q=>q
  rintro rfl
  rcases hc with rfl|hc
  ·rw[hfree] at e;cases e
  ·rw[hfree] at hc;cases hc
 rcases hx with hk|hk
 ·refine wpAny_storeName_local hk hn (fun h' hn' hs=>?_) hcls
  obtain ⟨oL,_,_,hoL,_⟩:=id hn
  refine h _ ⟨I.ok,I.os,I.bare,⟨fun b o e n hb hx=>?_,fun b o e n hb hx=>?_,I.base.free,fun b o e hx=>?_,I.base.gm,I.base.fO,I.base.gL⟩,⟨_,hn',fun j y v' e1 e2 e3=>?_⟩,fun y c e=>?_,I.free,I.dG,fun p hp=>?_,tracked ⟨oL,hoL,I.free⟩ hs,by simpa using I.len⟩ ⟨_,hs, .inl rfl⟩
  ·exact (hs.2 b (Nat.ne_of_lt (Nat.lt_of_lt_of_le (Heap.lt_size e) I.ok.above))).trans (I.base.keep b o e n hb hx)
  ·obtain ⟨sl,e1⟩:=I.base.slot b o e n hb hx
   exact ⟨sl,(hs.2 b (Nat.ne_of_lt (Nat.lt_of_lt_of_le (Heap.lt_size e) I.ok.above))).trans e1⟩
  ·obtain ⟨o',e1⟩:=I.base.there b o e hx
   exact ⟨o',(hs.2 b (Nat.ne_of_lt (Nat.lt_of_lt_of_le (Heap.lt_size e) I.ok.above))).trans e1⟩
  ·by_cases hj:j=i
   ·subst hj
    rw[hi] at e1;cases e1
    rw[List.getElem?_set_self hiσ] at e2
    cases e2
    exact ⟨u,r, .inl ⟨hk,by simp⟩⟩
   ·rw[List.getElem?_set_ne (Ne.symm hj)] at e2
    obtain ⟨u',r',q⟩:=hl j y v' e1 e2 e3
    refine ⟨u',r',?_⟩
    rcases q with ⟨k,e⟩|⟨k,c,e,z⟩
    ·refine .inl ⟨k,?_⟩
     have:y≠x:=fun e=>hj (wW hN e1 (e▸hi))
     simp [this,e]
    ·exact .inr ⟨k,c,e,z.sameBut hs (jN y c e)⟩
  ·obtain ⟨w',z⟩:=I.cell y c e
   exact ⟨w',z.sameBut hs (jN y c e)⟩
  ·obtain ⟨e,n,ne,nf,d⟩:=I.pin p hp
   exact ⟨(hs.2 p.1 ne).trans e,n,ne,nf,d⟩
 ·have hfn:X.fn x=true:=by
   rcases hf with z|z
   ·exact z
   ·rw[z] at hk;cases hk
  obtain ⟨c,hc⟩:=I.ok.has x (.inl hk)
  obtain ⟨w',z⟩:=I.cell x c hc
  refine wpAny_storeName_cell I.ok.kind hk hc z (fun h' hc' hs=>?_)
  obtain ⟨oc,hoc,hocd⟩:=id z
  refine h {s with heap:=h'} ⟨I.ok,I.os,I.bare,⟨fun b o e n hb hx=>?_,fun b o e n hb hx=>?_,I.base.free,fun b o e hx=>?_,I.base.gm,I.base.fO,I.base.gL⟩,⟨m,hn.sameBut hs (Ne.symm (jN x c hc)),fun j y v' e1 e2 e3=>?_⟩,fun y c' e=>?_,I.free,I.dG,fun p hp=>?_,tracked ⟨oc,hoc,I.dG x c hc⟩ hs,by simpa using I.len⟩ ⟨c,hs, .inr hc⟩
  ·exact (hs.2 b (Nat.ne_of_lt (Nat.lt_of_lt_of_le (Heap.lt_size e) (I.ok.gR x c hfn hc)))).trans (I.base.keep b o e n hb hx)
  ·obtain ⟨sl,e1⟩:=I.base.slot b o e n hb hx
   exact ⟨sl,(hs.2 b (Nat.ne_of_lt (Nat.lt_of_lt_of_le (Heap.lt_size e) (I.ok.gR x c hfn hc)))).trans e1⟩
  ·obtain ⟨o',e1⟩:=I.base.there b o e hx
   exact ⟨o',(hs.2 b (Nat.ne_of_lt (Nat.lt_of_lt_of_le (Heap.lt_size e) (I.ok.gR x c hfn hc)))).trans e1⟩
  ·by_cases hj:j=i
   ·subst hj
    rw[hi] at e1;cases e1
    rw[List.getElem?_set_self hiσ] at e2
    cases e2
    exact ⟨u,r, .inr ⟨.inl hk,c,hc,hc'⟩⟩
   ·rw[List.getElem?_set_ne (Ne.symm hj)] at e2
    obtain ⟨u',r',q⟩:=hl j y v' e1 e2 e3
    refine ⟨u',r',?_⟩
    rcases q with q|⟨k,c',e,z'⟩
    ·exact .inl q
    ·refine .inr ⟨k,c',e,z'.sameBut hs ?_⟩
     rintro rfl
     exact hj (wW hN e1 (I.ok.inj _ _ _ e hc▸hi))
  ·by_cases hcc:c'=c
   ·subst hcc;exact ⟨_,hc'⟩
   ·obtain ⟨w2,z2⟩:=I.cell y c' e
    exact ⟨w2,z2.sameBut hs hcc⟩
  ·obtain ⟨e,n,ne,nf,d⟩:=I.pin p hp
   refine ⟨(hs.2 p.1 ?_).trans e,n,ne,nf,d⟩
   intro q
   rw[q,hoc] at e
   have q':oc=p.2:=Option.some.inj e
   exact d w' (by rw[←q'];exact hocd)
theorem uX {M:Model} {A:Around} {E:Value→Shared→Prop} {i:Nat} {x:Str} {v:V} {u:Value} {Q:Unit→Shared→Prop} (I:Inv X pins σ H s) (hN:X.N.Nodup) (hi:X.N[i]?=some x) (hx:Loc X.env.scope x) (r:RelV v u)
  (h: ∀s',Inv X pins (σ.set i (some v)) H s'→Q () s') (hf:X.fn x=true∨X.env.scope.names.lookup x=some .local:=by first|exact .inl rfl|exact .inr rfl|assumption):wpAny M A (storeName X.env x u) Q E s:=
 xJ I hN hi hx r (fun s' I' _=>h s' I') hf
theorem Inv.jj {s':Shared} {ch:List Addr} (I:Inv X pins σ H s) (ho:s'.os=s.os) (u:Un (bj X.stack) ch H H' s.heap s'.heap) (ao:bO X.prog X.w H' s'.heap) (hg:AllBare s'.gens)
  (hch: ∀b∈ch,(b∈X.ex∨X.bx.heap.objs.size≤b)∧b≠X.env.locals∧(∀x c,X.env.cells.lookup x=some c→c≠b)∧ ∀p∈X.pn++pins,p.1≠b):Inv X pins σ H' s':=by
 obtain ⟨h',g',d',t',o'⟩:=s'
 have e:o'=s.os:=ho
 subst e
 exact I.call (g':=g') (t':=t') (d':=d') u ao hg hch
end
abbrev XK:=Value→Option Addr→Hp→Prop
abbrev St:=List (Option V)
abbrev VK:=V→Hp→Prop
abbrev TE:=St→Hp→VK→Prop
abbrev TT:=St→Hp→(Bool→Hp→Prop)→Prop
abbrev TA:=St→Hp→(List V→Hp→Prop)→Prop
structure Ends where
 nx:St→Hp→Prop
 rt:VK
 bk:St→Hp→Prop:=fun _ _=>False
 ct:St→Hp→Prop:=fun _ _=>False
abbrev TS:=Ends→St→Hp→Prop
def EP (X:Cx) (pins:List (Addr×Obj)) (σ:St) (Q:VK) (u:Value) (s':Shared):Prop:= ∃v H',Inv X pins σ H' s'∧RelV v u∧Q v H'
def TP (X:Cx) (pins:List (Addr×Obj)) (σ:St) (Q:Bool→Hp→Prop) (b:Bool) (s':Shared):Prop:= ∃H',Inv X pins σ H' s'∧Q b H'
def AP (X:Cx) (pins:List (Addr×Obj)) (σ:St) (Q:List V→Hp→Prop) (us:List Value) (s':Shared):Prop:= ∃vs H',Inv X pins σ H' s'∧Vals vs us∧Q vs H'
def SP (X:Cx) (pins:List (Addr×Obj)) (D:Ends) (f:Flow) (s':Shared):Prop:=
 match f with
 | .next=> ∃σ' H',Inv X pins σ' H' s'∧D.nx σ' H'
 | .brk=> ∃σ' H',Inv X pins σ' H' s'∧D.bk σ' H'
 | .cont=> ∃σ' H',Inv X pins σ' H' s'∧D.ct σ' H'
 | .ret u=> ∃v σ' H',Inv X pins σ' H' s'∧RelV v u∧D.rt v H'
def PE (X:Cx) (e:Expr) (t:TE):Prop:=
 ∀(pins:List (Addr×Obj)) (s:Shared) (σ:St) (H:Hp) (Q:VK),Inv X pins σ H s→t σ H Q→wpAny (model X.prog X.w) X.A (eval e X.env) (EP X pins σ Q) X.xe s
def PT (X:Cx) (e:Expr) (t:TT):Prop:=
 ∀(pins:List (Addr×Obj)) (s:Shared) (σ:St) (H:Hp) (Q:Bool→Hp→Prop),Inv X pins σ H s→t σ H Q→wpAny (model X.prog X.w) X.A (isTrue e X.env (eval e X.env)) (TP X pins σ Q) X.xe s
def PW (X:Cx) (e:Expr) (t:TT):Prop:=
 ∀(whole:Sem Value) (pins:List (Addr×Obj)) (s:Shared) (σ:St) (H:Hp) (Q:Bool→Hp→Prop),Inv X pins σ H s→t σ H Q→wpAny (model X.prog X.w) X.A (isTrue e X.env whole) (TP X pins σ Q) X.xe s
theorem PW.pt {X:Cx} {e:Expr} {t:TT} (h:PW X e t):PT X e t:=h _
def PA (X:Cx) (es:List Expr) (t:TA):Prop:=
 ∀(pos:Pos) (pins:List (Addr×Obj)) (s:Shared) (σ:St) (H:Hp) (Q:List V→Hp→Prop),Inv X pins σ H s→t σ H Q→wpAny (model X.prog X.w) X.A (spliced (backTo pos (starEach es X.env))) (AP X pins σ Q) X.xe s
def PS (X:Cx) (st:Stmt) (t:TS):Prop:=
 ∀(pins:List (Addr×Obj)) (s:Shared) (σ:St) (H:Hp) (D:Ends),Inv X pins σ H s→t D σ H→wpAny (model X.prog X.w) X.A (exec st X.env) (SP X pins D) X.xe s
def cP (X:Cx) (st:List Stmt) (t:TS):Prop:=
 ∀(pins:List (Addr×Obj)) (s:Shared) (σ:St) (H:Hp) (D:Ends),Inv X pins σ H s→t D σ H→wpAny (model X.prog X.w) X.A (execs st X.env) (SP X pins D) X.xe s
theorem aE {α:Type} {t:Sem α} {Q Q':α→Shared→Prop} {M:Model} {A:Around} {E:Value→Shared→Prop} {s:Shared} (h:wpAny M A t Q E s) (hQ: ∀a s,Q a s→Q' a s):wpAny M A t Q' E s:=wpAny_mono h hQ fun _ _ x=>x
end L2
namespace L2
open PySem PySem.Spec PyProof.Rows
section
variable {X:Cx}
def gh (i:Nat):TE:=fun σ H Q=> ∃v,σ[i]?=some (some v)∧Q v H
def tC (v:V):TE:=fun _ H Q=>Q v H
theorem Py {i:Nat} {x:Str} {pos:Pos} (hN:X.N[i]?=some x) (hv:kY X.env.scope x) (hd:(x==("__debug__" :Str))=false:=by decide) (hcd:(x==("__classdict__" :Str))=false:=by decide):PE X (.Name x pos) (gh i):=by
 intro pins s σ H Q I h
 obtain ⟨v,e,h⟩:=h
 obtain ⟨m,hn,hl⟩:=I.loc
 obtain ⟨u,r,l⟩:=hl i x v hN e hv
 have fin:EP X pins σ Q u s:=⟨v,H,I,r,h⟩
 rcases l with ⟨hk,hm⟩|⟨hk,c,hc,hcell⟩
 ·exact wpAny_Name (wpAny_loadName_local I.ok.kind hk hn hm fin) hd
 ·rcases hk with hk|hk
  ·exact wpAny_Name (wpAny_loadName_cell I.ok.kind hk hc hcell fin) hd
  ·exact wpAny_Name (wpAny_loadName_free I.ok.kind hk hc hcell fin hcd) hd
theorem aq {i j pos}:PE X (.Constant (.int i) j pos) (tC (.int i)):=fun _ _ _ H _ I h=>wpAny_Constant_int ⟨.int i,H,I.tok _,⟨_,rfl⟩,h⟩
theorem Oa {b j pos}:PE X (.Constant (.bool b) j pos) (tC (.bl b)):=fun _ _ _ H _ I h=>Constant_bool ⟨.bl b,H,I,rfl,h⟩
theorem iT {j pos}:PE X (.Constant .none j pos) (tC .au):=fun _ _ _ H _ I h=>Constant_none ⟨.au,H,I,rfl,h⟩
def Gl (X:Cx) (x:Str):Prop:=X.env.kindOf x=some .globalImplicit
theorem jw {E:Value→Shared→Prop} {pins:List (Addr×Obj)} {s:Shared} {σ:St} {H:Hp} {x:Str} {u:Value} {pos:Pos} {Q:Value→Shared→Prop} (I:Inv X pins σ H s) (hg:Gl X x) (hm:X.mg x=some u) (h:Q u s)
  (hd:(x==("__debug__" :Str))=false:=by decide):wpAny (model X.prog X.w) X.A (eval (.Name x pos) X.env) Q E s:=
 Calls.Name_function_global I.ok.kind hg (Calls.loadGlobal_global (by rw[I.ok.glob];exact I.mod.glob.keeps I.bk) hm h) hd
theorem iC {E:Value→Shared→Prop} {pins:List (Addr×Obj)} {s:Shared} {σ:St} {H:Hp} {x:Str} {u:Value} {pos:Pos} {Q:Value→Shared→Prop} (I:Inv X pins σ H s) (hg:Gl X x) (hm:X.mg x=none) (hv:bootBuiltins x=some u) (h:Q u s)
  (hn:x≠ "__name__" :=by decide) (hd:(x==("__debug__" :Str))=false:=by decide):wpAny (model X.prog X.w) X.A (eval (.Name x pos) X.env) Q E s:=by
 obtain ⟨mb,h1,h2⟩:=I.mod.blt
 exact Calls.Name_function_global I.ok.kind hg (Calls.loadGlobal_builtin (by rw[I.ok.glob];exact I.mod.glob.keeps I.bk) hm (by rw[I.ok.blt];exact h1.keeps I.bk) ((h2 x hn).trans hv) h) hd
theorem ER {x:Str} {v:V} {u:Value} {pos:Pos} (hg:Gl X x) (hm:X.mg x=some u) (r:RelV v u) (hd:(x==("__debug__" :Str))=false:=by decide):PE X (.Name x pos) (tC v):=
 fun _ _ _ H _ I h=>jw I hg hm ⟨v,H,I,r,h⟩ hd
variable {a b:Expr} {ta tb:TE} {pos:Pos}
def PC (X:Cx) (op:CmpOp) (a b:Expr) (t:TE):Prop:=
 ∀(pins:List (Addr×Obj)) (s:Shared) (σ:St) (H:Hp) (Q:VK),Inv X pins σ H s→t σ H Q→
  wpAny (model X.prog X.w) X.A (eval a X.env) (fun v s₁=>wpAny (model X.prog X.w) X.A (eval b X.env) (fun u s₂=>wpAny (model X.prog X.w) X.A (compareOp op v u) (EP X pins σ Q) X.xe s₂) X.xe s₁) X.xe s
theorem FT (b:Expr) {op:CmpOp} (h:op≠ .In) (h2:op≠ .NotIn):behindInMarks op b=false:=by
 have e1:(op==CmpOp.In)=false:=by cases op<;>first|rfl|exact absurd rfl h
 have e2:(op==CmpOp.NotIn)=false:=by cases op<;>first|rfl|exact absurd rfl h2
 cases b<;>simp [behindInMarks,e1,e2]
def LM (ta:TE):TE:=fun σ H Q=>ta σ H fun x H1=>Q (.bl (!decide (x= .au))) H1
theorem RelV.MN {x:V} {v:Value} (r:RelV x v):(v==Value.none)=decide (x= .au):=by
 cases x with
 |au=>cases r;rfl
 |bl _=>cases r;rfl
 |int _=>obtain ⟨t,rfl⟩:=r;rfl
 |str _=>obtain ⟨t,rfl⟩:=r;rfl
 |dB _=>obtain ⟨t,rfl⟩:=r;rfl
 |mj _=>obtain ⟨t,rfl⟩:=r;rfl
 |ref _=>cases r;rfl
 |ty _=>cases r;rfl
theorem LS {j pos'} (ha:PE X a ta):PC X .IsNot a (.Constant .none j pos') (LM ta):=by
 intro pins s σ H Q I h
 refine aE (ha pins s σ H _ I h) fun v s1 ⟨x,H1,I1,r1,q1⟩=>?_
 exact Constant_none (isnot_none_gen ⟨.bl _,H1,I1,by rw[r1.MN];rfl,q1⟩)
def tB (t:TE):TT:=fun σ H Q=>t σ H fun x H1=> ∃c,x= .bl c∧Q c H1
theorem IX {op:CmpOp} {t:TE} (h:PC X op a b t) (h1:behindInMarks op b=false:=by first|exact FT _ (by decide) (by decide)|rfl):PT X (.Compare a [op] [b] pos) (tB t):=by
 intro pins s σ H Q I hw
 refine wpAny_isTrue_Compare1 (aE (h pins s σ H _ I hw) fun v s1 h1=>aE h1 fun u s2 h2=>aE h2 fun c s3 ⟨x,H1,I1,r1,q1⟩=>?_) h1
 obtain ⟨d,rfl,q⟩:=q1
 cases r1
 exact wpAny_truthy_bool ⟨H1,I1,q⟩
theorem iF {e:Expr} {t:TE} (h:PE X e t) (he: ∀whole,isTrue e X.env whole=(do let v←whole;standAt e.pos;holding [v] (truthy v)):=by intro _;rfl):PT X e (tB t):=by
 intro pins s σ H Q I hw
 refine isTrue_plain (aE (h pins s σ H _ I hw) fun v s1 ⟨x,H1,I1,r1,q1⟩=>?_) (he _)
 obtain ⟨d,rfl,q⟩:=q1
 cases r1
 exact wpAny_truthy_bool ⟨H1,I1,q⟩
variable {tA tB':TT} {rest:List Expr}
def O0 (t u:TT):TT:=fun σ H Q=>t σ H fun c H1=>if c=true then Q true H1 else u σ H1 Q
def Iq (t:TT):TT:=fun σ H Q=>t σ H fun c H1=>Q (!c) H1
theorem nE (ha:PT X a tA):PW X (.BoolOp .Or [a] pos) tA:=by
 intro wh pins s σ H Q I h
 refine isTrue_or (aE (ha pins s σ H Q I h) fun c s1 e=>?_)
 cases c with
 |false=>exact isTrue_or_nil e
 |true=>exact e
theorem mx (ha:PT X a tA) (hb:PW X (.BoolOp .Or (b::rest) pos) tB'):PW X (.BoolOp .Or (a::b::rest) pos) (O0 tA tB'):=by
 intro wh pins s σ H Q I h
 refine isTrue_or (aE (ha pins s σ H _ I h) fun c s1 ⟨H1,I1,q1⟩=>?_)
 cases c with
 |true=>exact ⟨H1,I1,q1⟩
 |false=>exact hb wh pins s1 σ H1 Q I1 q1
theorem iW (ha:PT X a tA):PT X (.UnaryOp .Not a pos) (Iq tA):=by
 intro pins s σ H Q I h
 exact isTrue_not (ha pins s σ H (fun c H1=>Q (!c) H1) I h)
def Ge (ta tb:TE):TE:=fun σ H Q=>ta σ H fun x H1=> ∃c,x= .bl c∧if c=true then tb σ H1 Q else Q (.bl false) H1
def Qi (ta tb:TE):TE:=fun σ H Q=>ta σ H fun x H1=> ∃c,x= .bl c∧if c=true then Q (.bl true) H1 else tb σ H1 Q
theorem uY {op} {t:TE} (h:PE X a t):PE X (.BoolOp op [a] pos) t:=fun pins s σ H Q I hw=>BoolOp_one (h pins s σ H Q I hw)
theorem wH (ha:PE X a ta) (hb:PE X (.BoolOp .And (b::rest) pos) tb):PE X (.BoolOp .And (a::b::rest) pos) (Ge ta tb):=by
 intro pins s σ H Q I h
 refine BoolOp_and (aE (ha pins s σ H _ I h) fun v s1 ⟨x,H1,I1,r1,q1⟩=>?_)
 obtain ⟨c,rfl,q1⟩:=q1
 cases r1
 refine wpAny_truthy_bool ?_
 cases c with
 |true=>exact hb pins s1 σ H1 Q I1 q1
 |false=>exact ⟨.bl false,H1,I1,rfl,q1⟩
theorem LR (ha:PE X a ta) (hb:PE X (.BoolOp .Or (b::rest) pos) tb):PE X (.BoolOp .Or (a::b::rest) pos) (Qi ta tb):=by
 intro pins s σ H Q I h
 refine BoolOp_or (aE (ha pins s σ H _ I h) fun v s1 ⟨x,H1,I1,r1,q1⟩=>?_)
 obtain ⟨c,rfl,q1⟩:=q1
 cases r1
 refine wpAny_truthy_bool ?_
 cases c with
 |false=>exact hb pins s1 σ H1 Q I1 q1
 |true=>exact ⟨.bl true,H1,I1,rfl,q1⟩
def Gg (t:TT) (ta tb:TE):TE:=fun σ H Q=>t σ H fun c H1=>if c=true then ta σ H1 Q else tb σ H1 Q
theorem lH {c:Expr} (hc:PT X c tA) (ha:PE X a ta) (hb:PE X b tb):PE X (.IfExp c a b pos) (Gg tA ta tb):=by
 intro pins s σ H Q I h
 refine wpAny_IfExp (aE (hc pins s σ H _ I h) fun d s1 ⟨H1,I1,q1⟩=>?_)
 cases d with
 |true=>exact ha pins s1 σ H1 Q I1 q1
 |false=>exact hb pins s1 σ H1 Q I1 q1
end
end L2
namespace L2
open PySem PySem.Spec PyProof.Rows
def ah (K:PySem.W.Frag) (H:Hp) (a:Addr) (xs:List V):Prop:=
 Rd H a (.lst xs)∨
  ∃(o:Obj) (its:Array Value) (n:Nat),K.lookup a=some o∧o.cls= .type "list" ∧o.dict=none∧o.data= .seq its n∧its.size≤sizeLine∧Vals xs its.toList
def aY (K:PySem.W.Frag) (H:Hp) (a:Addr) (xs:List V):Prop:=
 Rd H a (.tup xs)∨
  ∃(o:Obj) (its:Array Value) (n:Nat),K.lookup a=some o∧o.cls= .type "tuple" ∧o.data= .seq its n∧its.size≤sizeLine∧Vals xs its.toList
def OI:Value→Option V
 | .none=>some .au
 | .bool b=>some (.bl b)
 | .int i _=>some (.int i)
 | .str x _=>some (.str x)
 | .bytes b _=>some (.dB b)
 | .float b _=>some (.mj b)
 | .ref a=>some (.ref a)
 | .type n=>some (.ty n)
 |_=>none
theorem RelV.abs {x:V} {u:Value} (r:RelV x u):OI u=some x:=by
 cases x with
 |au=>cases r;rfl
 |bl _=>cases r;rfl
 |int _=>obtain ⟨t,rfl⟩:=r;rfl
 |str _=>obtain ⟨t,rfl⟩:=r;rfl
 |dB _=>obtain ⟨t,rfl⟩:=r;rfl
 |mj _=>obtain ⟨t,rfl⟩:=r;rfl
 |ref _=>cases r;rfl
 |ty _=>cases r;rfl
theorem RelV.inj {x y:V} {u:Value} (r:RelV x u) (q:RelV y u):x=y:=Option.some.inj (r.abs.symm.trans q.abs)
theorem Vals.inj: ∀{xs ys:List V} {us:List Value},Vals xs us→Vals ys us→xs=ys
 |_,_,_, .nil, .nil=>rfl
 |_,_,_, .cons r t, .cons r' t'=>by rw[r.inj r',Vals.inj t t']
section
variable {X:Cx} {pins:List (Addr×Obj)} {σ:St} {H:Hp} {s:Shared} {a:Addr} {xs ys:List V}
theorem ah.of {K:PySem.W.Frag} (h:H a=some (.lst xs)):ah K H a xs:= .inl (.inl h)
theorem aY.of {K:PySem.W.Frag} (h:H a=some (.tup xs)):aY K H a xs:= .inl (.inl h)
theorem Inv.list (I:Inv X pins σ H s) (h:ah X.K H a xs): ∃its:List Value,Vals xs its∧PlainL s.heap a its.toArray∧xs.length≤sizeLine:=by
 rcases h with h|⟨o,its,n,hk,hc,hd,hs,hz,r⟩
 ·obtain ⟨z,its,n,r,e⟩:=h.ok I.ao
  exact ⟨its,r,⟨_,n,e,rfl,rfl,rfl⟩,z⟩
 ·refine ⟨its.toList,r,⟨o,n,I.bV a o hk,hc,hd,by simpa using hs⟩,?_⟩
  have e:=r.length
  simp only [Array.length_toList] at e
  omega
theorem Inv.tuple (I:Inv X pins σ H s) (h:aY X.K H a xs): ∃its:List Value,Vals xs its∧IsTup s.heap a its.toArray∧xs.length≤sizeLine:=by
 rcases h with h|⟨o,its,n,hk,hc,hs,hz,r⟩
 ·obtain ⟨z,its,r,p⟩:=h.ok I.ao
  exact ⟨its,r,p,z⟩
 ·refine ⟨its.toList,r,⟨o,I.bV a o hk,hc,n,by simpa using hs⟩,?_⟩
  have e:=r.length
  simp only [Array.length_toList] at e
  omega
theorem Inv.mE (I:Inv X pins σ H s) (h:ah X.K H a xs) (h':ah X.K H a ys):xs=ys:=by
 obtain ⟨its,r,⟨o,n,e,_,_,d⟩,_⟩:=I.list h
 obtain ⟨its',r',⟨o',n',e',_,_,d'⟩,_⟩:=I.list h'
 rw[e] at e';cases e'
 rw[d] at d'
 injection d' with d1 _
 have:its=its':=by simpa using congrArg Array.toList d1
 subst this
 exact r.inj r'
theorem Inv.Du (I:Inv X pins σ H s) (h:aY X.K H a xs) (h':aY X.K H a ys):xs=ys:=by
 obtain ⟨its,r,⟨o,e,_,n,d⟩,_⟩:=I.tuple h
 obtain ⟨its',r',⟨o',e',_,n',d'⟩,_⟩:=I.tuple h'
 rw[e] at e';cases e'
 rw[d] at d'
 injection d' with d1 _
 have:its=its':=by simpa using congrArg Array.toList d1
 subst this
 exact r.inj r'
end
abbrev Cx.bM (X:Cx) (E:Value→Shared→Prop):Cx:={X with xe:=E}
abbrev Cx.tH (X:Cx):Cx:=X.bM fun _ _=>False
theorem Cx.Ok.bM {X:Cx} (ok:X.Ok) (E:Value→Shared→Prop):(X.bM E).Ok:=
 ⟨ok.mod,ok.kind,ok.glob,ok.blt,ok.above,ok.inj,ok.has,ok.gR,ok.hd,ok.frames,ok.iO,ok.gJ,ok.bs,ok.ek,ok.eE,ok.gI,ok.dc,ok.fN⟩
theorem Cx.Ok.iU {X:Cx} {E:Value→Shared→Prop} (ok:(X.bM E).Ok):X.Ok:=
 ⟨ok.mod,ok.kind,ok.glob,ok.blt,ok.above,ok.inj,ok.has,ok.gR,ok.hd,ok.frames,ok.iO,ok.gJ,ok.bs,ok.ek,ok.eE,ok.gI,ok.dc,ok.fN⟩
section
variable {X:Cx} {pins:List (Addr×Obj)} {σ:St} {H:Hp} {s:Shared} {E:Value→Shared→Prop}
theorem Inv.bM (I:Inv X pins σ H s) (E:Value→Shared→Prop):Inv (X.bM E) pins σ H s:=⟨I.ok.bM E,I.os,I.bare,I.base,I.loc,I.cell,I.free,I.dG,I.pin,I.ao,I.len⟩
theorem Inv.iU (I:Inv (X.bM E) pins σ H s):Inv X pins σ H s:=⟨I.ok.iU,I.os,I.bare,I.base,I.loc,I.cell,I.free,I.dG,I.pin,I.ao,I.len⟩
theorem SP.iU {D:Ends} {f:Flow} {s':Shared} (h:SP (X.bM E) pins D f s'):SP X pins D f s':=by
 cases f with
 |next=>obtain ⟨σ',H',I,q⟩:=h;exact ⟨σ',H',I.iU,q⟩
 |brk=>obtain ⟨σ',H',I,q⟩:=h;exact ⟨σ',H',I.iU,q⟩
 |cont=>obtain ⟨σ',H',I,q⟩:=h;exact ⟨σ',H',I.iU,q⟩
 |ret u=>obtain ⟨v,σ',H',I,r,q⟩:=h;exact ⟨v,σ',H',I.iU,r,q⟩
theorem cP.tH {st:List Stmt} {t:TS} (h:cP X.tH st t):cP X st t:=fun pins s σ H D I hw=>
 wpAny_mono (h pins s σ H D (I.bM _) hw) (fun _ _ q=>q.iU) fun _ _ z=>False.elim z
end
section
variable {X:Cx} {st:Stmt} {rest:List Stmt} {t u:TS} {e:Expr} {te:TE} {pos:Pos}
def NT:TS:=fun D σ H=>D.nx σ H
def Oy (t u:TS):TS:=fun D σ H=>t {D with nx:=u D} σ H
theorem bu:cP X [] NT:=fun _ _ σ H _ I h=>wpAny_execs_nil ⟨σ,H,I,h⟩
theorem ai (h1:PS X st t) (h2:cP X rest u):cP X (st::rest) (Oy t u):=by
 intro pins s σ H D I h
 refine wpAny_execs_cons (aE (h1 pins s σ H {D with nx:=u D} I h) fun f s1 q=>?_)
 cases f with
 |next=>
  obtain ⟨σ',H',I',q⟩:=q
  exact h2 pins s1 σ' H' D I' q
 |ret v=>exact q
 |brk=>exact q
 |cont=>exact q
theorem aj (h1:PS X st t):cP X [st] t:=by
 intro pins s σ H D I h
 refine wpAny_execs_cons (aE (h1 pins s σ H D I h) fun f s1 q=>?_)
 cases f with
 |next=>exact wpAny_execs_nil q
 |ret v=>exact q
 |brk=>exact q
 |cont=>exact q
theorem Inv.quiet {pins:List (Addr×Obj)} {σ:St} {H:Hp} {s:Shared} (I:Inv X pins σ H s):interactive X.env=false:=by simp [interactive,I.ok.kind]
def zB (te:TE):TS:=fun D σ H=>te σ H fun _ H1=>D.nx σ H1
theorem a8 (he:PE X e te) (hs:swapsWith e none pos.line X.env=pure false:=by rfl):PS X (.Expr e pos) (zB te):=by
 intro pins s σ H D I h
 exact wpAny_Expr_any (aE (he pins s σ H _ I h) fun v s1 ⟨x,H1,I1,r1,q1⟩=>⟨σ,H1,I1,q1⟩) I.quiet hs
def zS (te:TE):TS:=fun D σ H=>te σ H D.rt
theorem aW (he:PE X e te):PS X (.Return (some e) pos) (zS te):=by
 intro pins s σ H D I h
 exact wpAny_Return_some (aE (he pins s σ H _ I h) fun v s1 ⟨x,H1,I1,r1,q1⟩=>⟨x,σ,H1,I1,r1,q1⟩)
def FP:TS:=fun D _ H=>D.rt .au H
theorem PQ:PS X (.Return none pos) FP:=fun _ _ σ H _ I h=>wpAny_Return_none ⟨.au,σ,H,I,rfl,h⟩
def Pe (c:TT) (t u:TS):TS:=fun D σ H=>c σ H fun b H1=>if b=true then t D σ H1 else u D σ H1
theorem bp {c:Expr} {a b:List Stmt} {tc:TT} (hc:PT X c tc) (ha:cP X a t) (hb:cP X b u):PS X (.If c a b pos) (Pe tc t u):=by
 intro pins s σ H D I h
 refine wpAny_If (aE (hc pins s σ H _ I h) fun d s1 ⟨H1,I1,q1⟩=>?_)
 cases d with
 |true=>exact ha pins s1 σ H1 D I1 q1
 |false=>exact hb pins s1 σ H1 D I1 q1
end
abbrev TG:=V→St→Hp→(St→Hp→Prop)→Prop
abbrev iM:=List V→St→Hp→(St→Hp→Prop)→Prop
def PG (X:Cx) (target:Expr) (t:TG):Prop:=
 ∀(pins:List (Addr×Obj)) (s:Shared) (σ:St) (H:Hp) (v:V) (u:Value) (Q:St→Hp→Prop),Inv X pins σ H s→RelV v u→t v σ H Q→
  wpAny (model X.prog X.w) X.A (assign target X.env u) (fun _ s'=> ∃σ' H',Inv X pins σ' H' s'∧Q σ' H') X.xe s
def oR (X:Cx) (ts:List Expr) (t:iM):Prop:=
 ∀(pins:List (Addr×Obj)) (s:Shared) (σ:St) (H:Hp) (vs:List V) (us:List Value) (Q:St→Hp→Prop),Inv X pins σ H s→Vals vs us→t vs σ H Q→
  wpAny (model X.prog X.w) X.A (assignInOrder ((assignEach ts X.env).map (·.2)) us) (fun _ s'=> ∃σ' H',Inv X pins σ' H' s'∧Q σ' H') X.xe s
abbrev vF:=V→V→Hp→VK→Prop
def Kx (X:Cx) (op:Operator) (t:vF):Prop:=
 ∀(pins:List (Addr×Obj)) (s:Shared) (σ:St) (H:Hp) (x y:V) (v u:Value) (Q:VK),Inv X pins σ H s→RelV x v→RelV y u→t x y H Q→
  wpAny (model X.prog X.w) X.A (inplaceOp op v u) (EP X pins σ Q) X.xe s
section
variable {X:Cx} {pos:Pos}
def jX (i:Nat):TG:=fun v σ H Q=>Q (σ.set i (some v)) H
theorem bo {i:Nat} {x:Str} (hN:X.N.Nodup) (hi:X.N[i]?=some x) (hx:Loc X.env.scope x) (hf:X.fn x=true∨X.env.scope.names.lookup x=some .local:=by first|exact .inl rfl|exact .inr rfl|assumption):PG X (.Name x pos) (jX i):=by
 intro pins s σ H v u Q I r h
 exact wpAny_assign_Name (uX I hN hi hx r (fun s' I'=>⟨_,H,I',h⟩) hf)
def J3:iM:=fun vs σ H Q=>vs= []∧Q σ H
def Jq (t:TG) (u:iM):iM:=fun vs σ H Q=> ∃v r,vs=v::r∧t v σ H fun σ' H'=>u r σ' H' Q
theorem oq:oR X [] J3:=by
 intro pins s σ H vs us Q I r h
 obtain ⟨e,h⟩:=h
 subst e
 cases r
 exact assignInOrder_nil ⟨σ,H,I,h⟩
theorem gq {e:Expr} {es:List Expr} {t:TG} {u:iM} (h1:PG X e t) (h2:oR X es u)
  (hs:(assignEach (e::es) X.env).map (·.2)=assign e X.env::(assignEach es X.env).map (·.2):=by rfl):oR X (e::es) (Jq t u):=by
 intro pins s σ H vs us Q I r h
 obtain ⟨v,vr,e1,h⟩:=h
 subst e1
 cases r with
 |cons r rr=>
  rw[hs]
  refine assignInOrder_cons (aE (h1 pins s σ H _ _ _ I r h) fun _ s1 ⟨σ1,H1,I1,q1⟩=>?_)
  exact h2 pins s1 σ1 H1 _ _ Q I1 rr q1
def BB (K:PySem.W.Frag) (n:Nat) (t:iM):TG:=fun v σ H Q=> ∃a xs,v= .ref a∧aY K H a xs∧xs.length=n∧t xs σ H Q
theorem JJ {es:List Expr} {k:Nat} {t:iM} {n:Nat} (hc:X.calm=true) (h:oR X es t)
  (hn:(assignEach es X.env).length=n:=by rfl) (hst:(assignEach es X.env).findIdx? (·.1)=none:=by rfl):PG X (.Tuple es k pos) (BB X.K n t):=by
 intro pins s σ H v u Q I r hw
 obtain ⟨a,xs,e1,hq,hl,hw⟩:=hw
 subst e1
 cases r
 obtain ⟨its,rv,ht,hz⟩:=I.tuple hq
 refine assign_Tuple_tuple (I.ok.hd hc) ht (by simp [hn,←hl,rv.length]) hst fun h' hx=>?_
 have I1:Inv X pins σ H {s with heap:=h'}:=I.kept (t':=s.toks) fun b o e=>hx b o (Nat.ne_of_lt (Heap.lt_size e)) e
 exact h pins _ σ H xs _ Q I1 (by simpa using rv) hw
def uE (te:TE) (g:TG):TS:=fun D σ H=>te σ H fun x H1=>g x σ H1 D.nx
theorem aI {i:Nat} {x:Str} {e:Expr} {te:TE} {pos':Pos} (hN:X.N.Nodup) (hi:X.N[i]?=some x) (hx:Loc X.env.scope x) (he:PE X e te) (hs:swapsWith e (some (.Name x pos')) pos.line X.env=pure false:=by rfl) (hf:X.fn x=true∨X.env.scope.names.lookup x=some .local:=by first|exact .inl rfl|exact .inr rfl|assumption):
  PS X (.Assign [.Name x pos'] e pos) (uE te (jX i)):=by
 intro pins s σ H D I h
 refine wpAny_Assign_Name (aE (he pins s σ H _ I h) fun v s1 ⟨y,H1,I1,r1,q1⟩=>?_) hs
 exact uX I1 hN hi hx r1 (fun s2 I2=>⟨_,H1,I2,q1⟩) hf
def Jj (i:Nat) (te:TE) (ti:vF):TS:=fun D σ H=> ∃x,σ[i]?=some (some x)∧te σ H fun y H1=>ti x y H1 fun z H2=>D.nx (σ.set i (some z)) H2
theorem ig {i:Nat} {x:Str} {e:Expr} {te:TE} {op:Operator} {ti:vF} {pos':Pos} (hN:X.N.Nodup) (hi:X.N[i]?=some x) (hx:Loc X.env.scope x) (he:PE X e te) (ho:Kx X op ti) (hf:X.fn x=true∨X.env.scope.names.lookup x=some .local:=by first|exact .inl rfl|exact .inr rfl|assumption):
  PS X (.AugAssign (.Name x pos') op e pos) (Jj i te ti):=by
 intro pins s σ H D I h
 obtain ⟨v,e1,h⟩:=h
 obtain ⟨m,hn,hl⟩:=I.loc
 have vis:kY X.env.scope x:=by rcases hx with k|k;exact .inl k;exact .inr (.inl k)
 obtain ⟨u,r,l⟩:=hl i x v hi e1 vis
 refine wpAny_AugAssign_Name ?_
 have go:wpAny (model X.prog X.w) X.A (eval e X.env) (fun w s₂=>wpAny (model X.prog X.w) X.A (inplaceOp op u w) (fun r s₃=>wpAny (model X.prog X.w) X.A (storeName X.env x r) (fun _=>SP X pins D .next) X.xe s₃) X.xe s₂) X.xe s:=by
  refine aE (he pins s σ H _ I h) fun w s1 ⟨y,H1,I1,r1,q1⟩=>?_
  refine aE (ho pins s1 σ H1 v y u w _ I1 r r1 q1) fun z s2 ⟨zv,H2,I2,r2,q2⟩=>?_
  exact uX I2 hN hi hx r2 (fun s3 I3=>⟨_,H2,I3,q2⟩) hf
 rcases l with ⟨hk,hm⟩|⟨hk,c,hc,hcell⟩
 ·exact wpAny_loadName_local I.ok.kind hk hn hm go
 ·rcases hk with hk|hk
  ·exact wpAny_loadName_cell I.ok.kind hk hc hcell go
  ·rcases hx with k|k
   ·have:X.env.scope.names.lookup x=some .free:=hk
    rw[k] at this;cases this
   ·have:X.env.scope.names.lookup x=some .free:=hk
    rw[k] at this;cases this
end
section
variable {X:Cx} {pos:Pos}
def yU (c:TT) (tb:TS):TS:=fun D σ H=> ∃W:Nat→St→Hp→Prop,(∃m,W m σ H)∧ ∀m σ H,W m σ H→
 c σ H fun b H1=>if b=true then∃N:St→Hp→Prop,(∀σ' H',N σ' H'→ ∃m',m'<m∧W m' σ' H')∧tb {D with nx:=N,ct:=N,bk:=D.nx} σ H1 else D.nx σ H1
theorem QN {c:Expr} {body:List Stmt} {tc:TT} {tb:TS} (hp:PassesOwn (model X.prog X.w) X.A X.env X.xe) (hc:PT X c tc) (hb:cP X body tb):PS X (.While c body [] pos) (yU tc tb):=by
 intro pins s σ H D I h
 obtain ⟨W,⟨m0,w0⟩,turn⟩:=h
 refine wpAny_While (codeAny_whileLoop (fun n s'=> ∃σ' H',Inv X pins σ' H' s'∧W n σ' H') ?_ m0 ⟨σ,H,I,w0⟩)
 rintro n s1 ⟨σ1,H1,I1,w1⟩
 refine wpAny_passesOwn hp (aE (hc pins s1 σ1 H1 _ I1 (turn n σ1 H1 w1)) fun b s2 ⟨H2,I2,q2⟩=>?_)
 cases b with
 |true=>
  obtain ⟨N,hN,q2⟩:=q2
  rw[if_pos rfl]
  refine wpAny_passesOwn hp (aE (hb pins s2 σ1 H2 _ I2 q2) fun f s3 q3=>?_)
  cases f with
  |next=>
   obtain ⟨σ3,H3,I3,n3⟩:=q3
   obtain ⟨m',hm,w3⟩:=hN σ3 H3 n3
   exact ⟨m',hm,σ3,H3,I3,w3⟩
  |cont=>
   obtain ⟨σ3,H3,I3,n3⟩:=q3
   obtain ⟨m',hm,w3⟩:=hN σ3 H3 n3
   exact ⟨m',hm,σ3,H3,I3,w3⟩
  |brk=>exact q3
  |ret v=>exact q3
 |false=>
  rw[if_neg Bool.false_ne_true]
  exact wpAny_execs_nil ⟨σ1,H2,I2,q2⟩
end
structure It where
 go:Nat→Hp→Prop
 eP:Nat→Hp→V→Hp→Prop
 stop:Nat→Hp→Prop
def dX (X:Cx) (pins:List (Addr×Obj)) (H:Hp) (b:Addr):Prop:=
 H b=none∧b≠X.env.locals∧b∉X.fs∧(b∈X.ex∨X.bx.heap.objs.size≤b)∧(∀x c,X.env.cells.lookup x=some c→c≠b)∧ ∀p∈X.pn++pins,p.1≠b
theorem Inv.gn {X:Cx} {pins:List (Addr×Obj)} {σ:St} {H H':Hp} {s:Shared} {b:Addr} (I:Inv X pins σ H s) (hb:s.heap.objs.size≤b) (hn:H' b=none):dX X pins H' b:=by
 refine ⟨hn,Nat.ne_of_gt (Nat.lt_of_lt_of_le I.lt hb),I.LY hb, .inr (Nat.le_trans I.sz hb),fun x c e z=>?_,fun p hp z=>?_⟩
 ·obtain ⟨v,q⟩:=I.cell x c e
  exact absurd (Nat.lt_of_lt_of_le q.lt (by rw[z];exact hb)) (Nat.lt_irrefl _)
 ·exact absurd (Nat.lt_of_lt_of_le (Heap.lt_size (I.pin p hp).1) (by rw[z];exact hb)) (Nat.lt_irrefl _)
structure Turn (P:Program) (w:World) (K:PySem.W.Frag) (tg:Expr) (J:It) (fp:List Addr) (it:Addr) (tn:Nat→Heap→Prop):Prop where
 mem:it∈fp
 obj: ∀i h,tn i h→ ∀b∈fp,∃o,h.get? b=some o∧ ∀v,o.data≠ .cell v
 keep: ∀i h h',tn i h→(∀b∈fp,∀o,h.get? b=some o→h'.get? b=some o)→tn i h'
 item: ∀(X:Cx),X.prog=P→X.w=w→X.K=K→X.calm=true→ ∀(i:Nat) (pins:List (Addr×Obj)) (s:Shared) (σ:St) (H:Hp) (E:Value→Shared→Prop),Inv X pins σ H s→(∀b∈fp,dX X pins H b)→tn i s.heap→J.go i H→
  wpAny (model P w) X.A (pyNext (.ref it)) (fun r s1=> ∃u,r=some u∧
   wpAny (model P w) X.A (letOwnedTupleGo tg (.ref it) u) (fun _ s2=> ∃x H',Inv X pins σ H' s2∧RelV x u∧J.eP i H x H'∧tn (i+1) s2.heap∧ ∀b∈fp,H' b=none) E s1) E s
 done: ∀(X:Cx),X.prog=P→X.w=w→X.K=K→X.calm=true→ ∀(i:Nat) (pins:List (Addr×Obj)) (s:Shared) (σ:St) (H:Hp) (E:Value→Shared→Prop),Inv X pins σ H s→(∀b∈fp,dX X pins H b)→tn i s.heap→J.stop i H→
  wpAny (model P w) X.A (pyNext (.ref it)) (fun r s1=>r=none∧Inv X pins σ H s1) E s
 self: ∀(A:Around) (i:Nat) (s:Shared) (Q:Value→Shared→Prop) (E:Value→Shared→Prop),tn i s.heap→Q (.ref it) s→wpAny (model P w) A (pyIter (.ref it)) Q E s
abbrev TI:=St→Hp→(It→Hp→Prop)→Prop
def wX (X:Cx) (pins:List (Addr×Obj)) (σ:St) (tg:Expr) (R:It→Hp→Prop) (itv:Value) (s2:Shared):Prop:=
 ∃(it:Addr) (fp:List Addr) (tn:Nat→Heap→Prop) (J:It) (H':Hp),itv= .ref it∧Inv X pins σ H' s2∧Turn X.prog X.w X.K tg J fp it tn∧tn 0 s2.heap∧(∀b∈fp,dX X pins H' b)∧R J H'
def PI (X:Cx) (tg iter:Expr) (wi:TI):Prop:=
 ∀(pins:List (Addr×Obj)) (s:Shared) (σ:St) (H:Hp) (R:It→Hp→Prop),Inv X pins σ H s→wi σ H R→
  wpAny (model X.prog X.w) X.A (eval iter X.env) (fun v s1=>wpAny (model X.prog X.w) X.A (pyIter v) (wX X pins σ tg R) X.xe s1) X.xe s
theorem sN {M:Model} {A:Around} {E:Value→Shared→Prop} {s:Shared} {tg:Expr} {it:Addr} {u:Value} {o:Obj} {n:String} {vs:Array Value} {Q:Unit→Shared→Prop} (ho:s.heap.get? it=some o) (hc:o.cls= .type n) (hd:o.data= .fields vs)
  (hn: ["enumerate", "zip", "dict_itemiterator", "dict_reverseitemiterator", "odict_iterator", "itertools.zip_longest", "itertools.pairwise"].contains n=false) (hQ:Q () s):wpAny M A (letOwnedTupleGo tg (.ref it) u) Q E s:=by
 unfold letOwnedTupleGo
 cases tg<;>first
  |exact wpAny_pure hQ
  |(cases u<;>first
    |exact wpAny_pure hQ
    |(refine wpAny_bind (wpAny_load ho ?_)
      rw[hc,hd]
      show wpAny M A (if (["enumerate", "zip", "dict_itemiterator", "dict_reverseitemiterator", "odict_iterator", "itertools.zip_longest", "itertools.pairwise"].contains n&&vs[0]?==some (rawInt _))=true then _ else _) Q E s
      rw[if_neg (by intro h;rw[hn,Bool.false_and] at h;cases h)]
      exact wpAny_pure hQ))
def d9 (K:PySem.W.Frag) (a:Addr):It:=
 ⟨fun i H=> ∃xs x,ah K H a xs∧xs[i]?=some x,fun i H x H'=>H'=H∧ ∀xs,ah K H a xs→xs[i]?=some x,fun i H=> ∃xs,ah K H a xs∧xs.length≤i⟩
def qh (K:PySem.W.Frag) (a:Addr):It:=
 ⟨fun i H=> ∃xs x,aY K H a xs∧xs[i]?=some x,fun i H x H'=>H'=H∧ ∀xs,aY K H a xs→xs[i]?=some x,fun i H=> ∃xs,aY K H a xs∧xs.length≤i⟩
def jH (lo:Int) (n:Nat):It:=⟨fun i _=>i<n,fun i H x H'=>H'=H∧x= .int (lo+i),fun i _=>n≤i⟩
theorem Qx {P:Program} {w:World} {K:PySem.W.Frag} {tg:Expr} (a it:Addr):Turn P w K tg (d9 K a) [it] it (fun i h=>h.IsListIter it a i) where
 mem:=by simp
 obj:=fun i h st b hb=>by
  have e:b=it:=by simpa using hb
  subst e
  obtain ⟨o,e,c,d⟩:=st
  exact ⟨o,e,fun v z=>by rw[d] at z;cases z⟩
 keep:=fun i h h' st k=>st.at fun o e=>k it (by simp) o e
 item:=by
  intro X hP hw hK hc i pins s σ H E I hf st hg
  subst hP hw hK
  obtain ⟨xs,x,hq,hx⟩:=hg
  obtain ⟨its,rv,p,hz⟩:=I.list hq
  obtain ⟨u,hu,ru⟩:=rv.get hx
  obtain ⟨f0,f1,f2,f3,f4,f5⟩:=hf it (by simp)
  refine wpAny_pyNext_list_item st p.isList (x:=u) (by simpa using hu) fun h' st' sb=>?_
  have I1:Inv X pins σ H {s with heap:=h'}:=I.turned (t':=s.toks) (fun b o hb e=>(sb.2 b hb).trans e) f0 f1 f3 f4 f5
  obtain ⟨o,e,c,d⟩:=id st'
  exact ⟨u,rfl,sN (s:={s with heap:=h'}) e c d (by decide) ⟨x,H,I1,ru,⟨rfl,fun ys hy=>by rw[I.mE hy hq];exact hx⟩,st',fun b hb=>(hf b hb).1⟩⟩
 done:=by
  intro X hP hw hK hc i pins s σ H E I hf st hg
  subst hP hw hK
  obtain ⟨xs,hq,hx⟩:=hg
  obtain ⟨its,rv,p,hz⟩:=I.list hq
  obtain ⟨f0,f1,f2,f3,f4,f5⟩:=hf it (by simp)
  have hl:=rv.length
  exact wpAny_pyNext_list_end (I.ok.hd hc) st p.isList (by simp;omega) fun h' eb=>⟨rfl,I.turned (t':=s.toks) (fun b o hb e=>eb b o hb e) f0 f1 f3 f4 f5⟩
 self:=fun _ _ _ _ _ st h=>wpAny_pyIter_listiter st h
theorem Pk {P:Program} {w:World} {K:PySem.W.Frag} {tg:Expr} (a it:Addr):Turn P w K tg (qh K a) [it] it (fun i h=>h.IsTupleIter it a i) where
 mem:=by simp
 obj:=fun i h st b hb=>by
  have e:b=it:=by simpa using hb
  subst e
  obtain ⟨o,e,c,d⟩:=st
  exact ⟨o,e,fun v z=>by rw[d] at z;cases z⟩
 keep:=fun i h h' st k=>st.at fun o e=>k it (by simp) o e
 item:=by
  intro X hP hw hK hc i pins s σ H E I hf st hg
  subst hP hw hK
  obtain ⟨xs,x,hq,hx⟩:=hg
  obtain ⟨its,rv,p,hz⟩:=I.tuple hq
  obtain ⟨u,hu,ru⟩:=rv.get hx
  obtain ⟨f0,f1,f2,f3,f4,f5⟩:=hf it (by simp)
  refine wpAny_pyNext_tuple_item st (show s.heap.IsTuple a its.toArray from p) (x:=u) (by simpa using hu) fun h' st' sb=>?_
  have I1:Inv X pins σ H {s with heap:=h'}:=I.turned (t':=s.toks) (fun b o hb e=>(sb.2 b hb).trans e) f0 f1 f3 f4 f5
  obtain ⟨o,e,c,d⟩:=id st'
  exact ⟨u,rfl,sN (s:={s with heap:=h'}) e c d (by decide) ⟨x,H,I1,ru,⟨rfl,fun ys hy=>by rw[I.Du hy hq];exact hx⟩,st',fun b hb=>(hf b hb).1⟩⟩
 done:=by
  intro X hP hw hK hc i pins s σ H E I hf st hg
  subst hP hw hK
  obtain ⟨xs,hq,hx⟩:=hg
  obtain ⟨its,rv,p,hz⟩:=I.tuple hq
  obtain ⟨f0,f1,f2,f3,f4,f5⟩:=hf it (by simp)
  have hl:=rv.length
  exact wpAny_pyNext_tuple_end (I.ok.hd hc) st (show s.heap.IsTuple a its.toArray from p) (by simp;omega) fun h' eb=>⟨rfl,I.turned (t':=s.toks) (fun b o hb e=>eb b o hb e) f0 f1 f3 f4 f5⟩
 self:=fun _ _ _ _ _ st h=>wpAny_pyIter_tupleiter st h
theorem FG {P:Program} {w:World} {K:PySem.W.Frag} {tg:Expr} (it:Addr) (lo:Int) (n:Nat):Turn P w K tg (jH lo n) [it] it (fun i h=>IsRangeIter h it (lo+(i:Nat)*1) ((n:Int)-(i:Nat)) 1) where
 mem:=by simp
 obj:=fun i h st b hb=>by
  have e:b=it:=by simpa using hb
  subst e
  exact ⟨_,st,fun v z=>by
   have z':Data.fields _=Data.cell v:=z
   cases z'⟩
 keep:=fun i h h' st k=>k it (by simp) _ st
 item:=by
  intro X hP hw hK hc i pins s σ H E I hf st hg
  subst hP hw hK
  obtain ⟨f0,f1,f2,f3,f4,f5⟩:=hf it (by simp)
  have W:=Walks.range (prog:=X.prog) (w:=X.w) (I.ok.hd hc) it lo 1 n
  refine W.item i s _ _ hg st fun v h' tk hv st' kk=>?_
  obtain ⟨t,rfl⟩:=hv
  have I1:Inv X pins σ H {s with heap:=h',toks:=tk}:=I.turned (fun b o hb e=>kk b o (by simpa using hb) e) f0 f1 f3 f4 f5
  refine ⟨_,rfl,sN (s:={s with heap:=h',toks:=tk}) (n:= "range_iterator") st' rfl rfl (by decide) ⟨.int (lo+i),H,I1,⟨t,?_⟩,⟨rfl,rfl⟩,st',fun b hb=>(hf b hb).1⟩⟩
  rw[Int.mul_one]
 done:=by
  intro X hP hw hK hc i pins s σ H E I hf st hg
  subst hP hw hK
  obtain ⟨f0,f1,f2,f3,f4,f5⟩:=hf it (by simp)
  exact wpAny_pyNext_range_end (I.ok.hd hc) st (by have:n≤i:=hg;omega) fun h' eb=>⟨rfl,I.turned (t':=s.toks) (fun b o hb e=>eb b o hb e) f0 f1 f3 f4 f5⟩
 self:=fun _ _ _ _ _ st h=>wpAny_pyIter_rangeiter st h
end L2
namespace L2
open PySem PySem.Spec PyProof.Rows
section
variable {X:Cx} {tg:Expr}
def ui (K:PySem.W.Frag) (tl:TE):TI:=fun σ H R=>tl σ H fun x H1=> ∃a,x= .ref a∧(∃xs,ah K H1 a xs)∧R (d9 K a) H1
def Rv (K:PySem.W.Frag) (tl:TE):TI:=fun σ H R=>tl σ H fun x H1=> ∃a,x= .ref a∧(∃xs,aY K H1 a xs)∧R (qh K a) H1
theorem dj {l:Expr} {tl:TE} (hl:PE X l tl):PI X tg l (ui X.K tl):=by
 intro pins s σ H R I h
 refine aE (hl pins s σ H _ I h) fun v s1 ⟨x,H1,I1,r1,q1⟩=>?_
 obtain ⟨a,e,⟨xs,hq⟩,q⟩:=q1
 subst e
 cases r1
 obtain ⟨its,rv,p,hz⟩:=I1.list hq
 refine wpAny_pyIter_list p.isList ?_
 refine ⟨s1.heap.objs.size, [s1.heap.objs.size],_,_,H1,rfl,I1.kept (t':=s1.toks) fun b o e=>Heap.get?_push_of_some _ e,Qx a _,⟨_,Heap.get?_push_size _ rfl,rfl,rfl⟩,fun b hb=>?_,q⟩
 have e:b=s1.heap.objs.size:=by simpa using hb
 subst e
 exact I1.gn (Nat.le_refl _) (I1.ao.fresh (Nat.le_refl _))
theorem MG {l:Expr} {tl:TE} (hl:PE X l tl):PI X tg l (Rv X.K tl):=by
 intro pins s σ H R I h
 refine aE (hl pins s σ H _ I h) fun v s1 ⟨x,H1,I1,r1,q1⟩=>?_
 obtain ⟨a,e,⟨xs,hq⟩,q⟩:=q1
 subst e
 cases r1
 obtain ⟨its,rv,p,hz⟩:=I1.tuple hq
 refine wpAny_pyIter_tuple (show s1.heap.IsTuple a its.toArray from p) ?_
 refine ⟨s1.heap.objs.size, [s1.heap.objs.size],_,_,H1,rfl,I1.kept (t':=s1.toks) fun b o e=>Heap.get?_push_of_some _ e,Pk a _,⟨_,Heap.get?_push_size _ rfl,rfl,rfl⟩,fun b hb=>?_,q⟩
 have e:b=s1.heap.objs.size:=by simpa using hb
 subst e
 exact I1.gn (Nat.le_refl _) (I1.ao.fresh (Nat.le_refl _))
theorem ze {pins:List (Addr×Obj)} {σ:St} {H:Hp} {s:Shared} {R:It→Hp→Prop} {E:Value→Shared→Prop} {lo hi:Int} {t u v:Tok} {tk:Nat} (I:Inv X pins σ H s) (h1: -(2^62)≤lo) (h2:lo<2^62) (h3: -(2^62)≤hi) (h4:hi<2^62)
  (q:R (jH lo (hi-lo).toNat) H):wpAny (model X.prog X.w) X.A (pyIter (.ref s.heap.objs.size)) (wX X pins σ tg R) E {s with heap:=s.heap.push {cls:= .type "range",data:= .fields #[.int lo t, .int hi u, .int 1 v]},toks:=tk}:=by
 refine wpAny_pyIter_range (IsRange.new ..) (small_one h1 h2 h3 h4) ?_
 have I1:Inv X pins σ H {s with heap:=s.heap.push {cls:= .type "range",data:= .fields #[.int lo t, .int hi u, .int 1 v]},toks:=tk}:=I.kept fun b o e=>Heap.get?_push_of_some _ e
 refine ⟨(s.heap.push {cls:= .type "range",data:= .fields #[.int lo t, .int hi u, .int 1 v]}).objs.size, [(s.heap.push {cls:= .type "range",data:= .fields #[.int lo t, .int hi u, .int 1 v]}).objs.size],_,_,H,rfl,
  I1.kept (t':=tk) fun b o e=>Heap.get?_push_of_some _ e,FG _ lo (hi-lo).toNat,?_,fun b hb=>?_,q⟩
 ·have e1:lo+((0:Nat):Int)*1=lo:=by simp
  have e2:(((hi-lo).toNat:Nat):Int)-((0:Nat):Int)=Builtin.Range.rangeSize lo hi 1:=by rw[rangeSize_one];split<;>omega
  show IsRangeIter _ _ (lo+((0:Nat):Int)*1) ((((hi-lo).toNat:Nat):Int)-((0:Nat):Int)) 1
  rw[e1,e2]
  exact Heap.get?_push_size _ rfl
 ·have e:b=(s.heap.push {cls:= .type "range",data:= .fields #[.int lo t, .int hi u, .int 1 v]}).objs.size:=by simpa using hb
  subst e
  exact I1.gn (Nat.le_refl _) (I1.ao.fresh (Nat.le_refl _))
def N4 (ta:TA):TI:=fun σ H R=>ta σ H fun vs H1=> ∃j:Int,vs= [.int j]∧ -(2^62)≤j∧j<2^62∧R (jH 0 j.toNat) H1
def NQ (ta:TA):TI:=fun σ H R=>ta σ H fun vs H1=> ∃i j:Int,vs= [.int i, .int j]∧(-(2^62)≤i∧i<2^62∧ -(2^62)≤j∧j<2^62)∧R (jH i (j-i).toNat) H1
theorem fk {a:Expr} {ta:TA} {p pos:Pos} (hg:Gl X "range") (hm:X.mg "range" =none) (ha:PA X [a] ta) (hs:starEach [a] X.env= [(false,eval a X.env)]:=by rfl):PI X tg (.Call (.Name "range" p) [a] [] pos) (N4 ta):=by
 intro pins s σ H R I h
 refine Call_ (iC I hg hm boot_range (PyProof.Rows.callWith_type1 (aE (ha pos pins s σ H _ I h) fun us s1 ⟨vs,H1,I1,r1,q1⟩=>?_) hs rfl))
 obtain ⟨j,e,q1,q2,q⟩:=q1
 subst e
 cases r1 with
 |cons r rr=>
  cases rr
  obtain ⟨t,rfl⟩:=r
  exact call_range_1 (ze I1 (by omega) (by omega) q1 q2 (by simpa using q))
theorem L8 {a b:Expr} {ta:TA} {p pos:Pos} (hg:Gl X "range") (hm:X.mg "range" =none) (ha:PA X [a,b] ta) (hs:starEach [a,b] X.env= [(false,eval a X.env),(false,eval b X.env)]:=by rfl) (hs2:starEach [b] X.env= [(false,eval b X.env)]:=by rfl):
  PI X tg (.Call (.Name "range" p) [a,b] [] pos) (NQ ta):=by
 intro pins s σ H R I h
 refine Call_ (iC I hg hm boot_range (PyProof.Rows.callWith_type1 (aE (ha pos pins s σ H _ I h) fun us s1 ⟨vs,H1,I1,r1,q1⟩=>?_) (by rw[hs,hs2]) (by rw[hs2];rfl)))
 obtain ⟨i,j,e,⟨q1,q2,q3,q4⟩,q⟩:=q1
 subst e
 cases r1 with
 |cons r rr=>
  cases rr with
  |cons r' rr=>
   cases rr
   obtain ⟨t,rfl⟩:=r
   obtain ⟨t',rfl⟩:=r'
   exact call_range_2 (ze I1 q1 q2 q3 q4 q)
def QS (wi:TI) (g:TG) (tb:TS):TS:=fun D σ H=>wi σ H fun J H1=> ∃W:Nat→Nat→St→Hp→Prop,(∃m,W 0 m σ H1)∧ ∀i m σ H,W i m σ H→
 (J.stop i H∧D.nx σ H)∨(J.go i H∧ ∃N:St→Hp→Prop,(∀σ' H',N σ' H'→ ∃m',m'<m∧W (i+1) m' σ' H')∧ ∀x H',J.eP i H x H'→g x σ H' fun σ2 H2=>tb {D with nx:=N,ct:=N,bk:=D.nx} σ2 H2)
def kQ (fp:List Addr) (h:Heap):List (Addr×Obj):=fp.filterMap fun b=>(h.get? b).map fun o=>(b,o)
theorem tf {fp:List Addr} {h:Heap} {b:Addr} {o:Obj} (hb:b∈fp) (e:h.get? b=some o):(b,o)∈kQ fp h:=List.mem_filterMap.mpr ⟨b,hb,by rw[e];rfl⟩
theorem Rl {fp:List Addr} {h:Heap} {p:Addr×Obj} (hp:p∈kQ fp h):p.1∈fp∧h.get? p.1=some p.2:=by
 obtain ⟨b,hb,e⟩:=List.mem_filterMap.mp hp
 cases q:h.get? b with
 |none=>rw[q] at e;cases e
 |some o=>
  rw[q] at e
  have e':(b,o)=p:=Option.some.inj e
  subst e'
  exact ⟨hb,q⟩
theorem Inv.pinned {pins:List (Addr×Obj)} {σ:St} {H:Hp} {s:Shared} {fp:List Addr} (I:Inv X pins σ H s) (hf: ∀b∈fp,dX X pins H b) (ho: ∀b∈fp,∃o,s.heap.get? b=some o∧ ∀v,o.data≠ .cell v):Inv X (pins++kQ fp s.heap) σ H s:=
 I.ye fun p hp=>(List.mem_append.mp hp).elim (fun z=>I.pin p (List.mem_append_right _ z)) fun z=>by
  obtain ⟨hb,e⟩:=Rl z
  obtain ⟨f0,f1,f2,_⟩:=hf p.1 hb
  obtain ⟨o,e',d⟩:=ho p.1 hb
  rw[e] at e';cases e'
  exact ⟨e,f0,f1,f2,d⟩
theorem Inv.nG {pins pl:List (Addr×Obj)} {σ:St} {H:Hp} {s:Shared} (I:Inv X (pins++pl) σ H s):Inv X pins σ H s:=I.ye fun p hp=>I.pin p (List.mem_append_right _ (List.mem_append_left _ hp))
theorem cj {iter:Expr} {body:List Stmt} {wi:TI} {g:TG} {tb:TS} {pos:Pos} (hp:PassesOwn (model X.prog X.w) X.A X.env X.xe) (hc:X.calm=true) (hi:PI X tg iter wi) (hg:PG X tg g) (hb:cP X body tb)
  (hs: ∀x,foldedSetIterable iter X.env x=pure x:=by intro _;rfl):PS X (.For tg iter body [] pos) (QS wi g tb):=by
 intro pins s σ H D I h
 refine wpAny_For (aE (hi pins s σ H _ I h) fun v s1 h1=>aE h1 fun itv s2 h2=>?_) hs
 obtain ⟨it,fp,tn,J,H2,e,I2,T,st2,f2,W,⟨m0,w0⟩,turn⟩:=h2
 subst e
 have stat: ∀{H':Hp},(∀b∈fp,H' b=none)→ ∀b∈fp,dX X pins H' b:=fun hn b hb=>⟨hn b hb,(f2 b hb).2⟩
 refine codeAny_forLoop_any (fun n s'=> ∃i σ' H',Inv X pins σ' H' s'∧tn i s'.heap∧(∀b∈fp,H' b=none)∧W i n σ' H') ?_ m0 ⟨0,σ,H2,I2,st2,fun b hb=>(f2 b hb).1,w0⟩
 rintro n s3 ⟨i,σ3,H3,I3,st3,fr3,w3⟩
 rcases turn i n σ3 H3 w3 with ⟨stop,qn⟩|⟨go,N,hN,step⟩
 ·refine wpAny_passesOwn hp (aE (T.done X rfl rfl rfl hc i pins s3 σ3 H3 X.xe I3 (stat fr3) st3 stop) fun r s4 ⟨hr,I4⟩=>?_)
  subst hr
  exact wpAny_execs_nil ⟨σ3,H3,I4,qn⟩
 ·refine wpAny_passesOwn hp (aE (T.item X rfl rfl rfl hc i pins s3 σ3 H3 X.xe I3 (stat fr3) st3 go) fun r s4 ⟨u,hr,h4⟩=>?_)
  subst hr
  refine wpAny_passesOwn hp (aE h4 fun _ s5 ⟨x,H5,I5,r5,y5,st5,fr5⟩=>?_)
  have I5':=I5.pinned (stat fr5) (T.obj _ _ st5)
  refine wpAny_passesOwn hp (aE (hg _ s5 σ3 H5 x u _ I5' r5 (step x H5 y5)) fun _ s6 ⟨σ6,H6,I6,q6⟩=>?_)
  refine wpAny_passesOwn hp (aE (hb _ s6 σ6 H6 _ I6 q6) fun f s7 q7=>?_)
  have again: ∀{σ7:St} {H7:Hp},Inv X (pins++kQ fp s5.heap) σ7 H7 s7→N σ7 H7→ ∃m,m<n∧ ∃i σ' H',Inv X pins σ' H' s7∧tn i s7.heap∧(∀b∈fp,H' b=none)∧W i m σ' H':=fun {σ7 H7} I7 n7=>by
   obtain ⟨m',hm,w7⟩:=hN σ7 H7 n7
   refine ⟨m',hm,i+1,σ7,H7,I7.nG,T.keep _ _ _ st5 fun b hb o e=>(I7.pin (b,o) (List.mem_append_right _ (List.mem_append_right _ (tf hb e)))).1,fun b hb=>?_,w7⟩
   obtain ⟨o,e,d⟩:=T.obj _ _ st5 b hb
   exact (I7.pin (b,o) (List.mem_append_right _ (List.mem_append_right _ (tf hb e)))).2.1
  cases f with
  |next=>obtain ⟨σ7,H7,I7,n7⟩:=q7;exact again I7 n7
  |cont=>obtain ⟨σ7,H7,I7,n7⟩:=q7;exact again I7 n7
  |brk=>obtain ⟨σ7,H7,I7,q7⟩:=q7;exact ⟨σ7,H7,I7.nG,q7⟩
  |ret v=>obtain ⟨x7,σ7,H7,I7,r7,q7⟩:=q7;exact ⟨x7,σ7,H7,I7.nG,r7,q7⟩
end
theorem gk {K:PySem.W.Frag} {a:Addr} {xs:List V} {g:TG} {tb:TS} {D:Ends} {σ:St} {H:Hp} (Pv:Nat→St→Hp→Prop) (h0:Pv 0 σ H) (hl: ∀i σ H,i≤xs.length→Pv i σ H→ah K H a xs)
  (hs: ∀i x σ H,xs[i]?=some x→Pv i σ H→g x σ H fun σ2 H2=>tb {D with nx:=Pv (i+1),ct:=Pv (i+1),bk:=D.nx} σ2 H2) (hd: ∀σ H,Pv xs.length σ H→D.nx σ H):
  ∃W:Nat→Nat→St→Hp→Prop,(∃m,W 0 m σ H)∧ ∀i m σ H,W i m σ H→
   ((d9 K a).stop i H∧D.nx σ H)∨((d9 K a).go i H∧ ∃N:St→Hp→Prop,(∀σ' H',N σ' H'→ ∃m',m'<m∧W (i+1) m' σ' H')∧ ∀x H',(d9 K a).eP i H x H'→g x σ H' fun σ2 H2=>tb {D with nx:=N,ct:=N,bk:=D.nx} σ2 H2):=by
 refine ⟨fun i m σ H=>m=xs.length-i∧i≤xs.length∧Pv i σ H,⟨xs.length,by simp,Nat.zero_le _,h0⟩,?_⟩
 rintro i m σ H ⟨rfl,hi,p⟩
 have q:=hl i σ H hi p
 by_cases hlt:i<xs.length
 ·refine .inr ⟨⟨xs,xs[i],q,by simp [hlt]⟩,Pv (i+1),fun σ' H' p'=>⟨xs.length-(i+1),by omega,rfl,hlt,p'⟩,fun x H' y=>?_⟩
  obtain ⟨e,y⟩:=y
  subst e
  exact hs i x σ _ (y xs q) p
 ·have e:i=xs.length:=by omega
  subst e
  exact .inl ⟨⟨xs,q,Nat.le_refl _⟩,hd σ H p⟩
theorem Jn {K:PySem.W.Frag} {a:Addr} {xs:List V} {g:TG} {tb:TS} {D:Ends} {σ:St} {H:Hp} (Pv:Nat→St→Hp→Prop) (h0:Pv 0 σ H) (hl: ∀i σ H,i≤xs.length→Pv i σ H→aY K H a xs)
  (hs: ∀i x σ H,xs[i]?=some x→Pv i σ H→g x σ H fun σ2 H2=>tb {D with nx:=Pv (i+1),ct:=Pv (i+1),bk:=D.nx} σ2 H2) (hd: ∀σ H,Pv xs.length σ H→D.nx σ H):
  ∃W:Nat→Nat→St→Hp→Prop,(∃m,W 0 m σ H)∧ ∀i m σ H,W i m σ H→
   ((qh K a).stop i H∧D.nx σ H)∨((qh K a).go i H∧ ∃N:St→Hp→Prop,(∀σ' H',N σ' H'→ ∃m',m'<m∧W (i+1) m' σ' H')∧ ∀x H',(qh K a).eP i H x H'→g x σ H' fun σ2 H2=>tb {D with nx:=N,ct:=N,bk:=D.nx} σ2 H2):=by
 refine ⟨fun i m σ H=>m=xs.length-i∧i≤xs.length∧Pv i σ H,⟨xs.length,by simp,Nat.zero_le _,h0⟩,?_⟩
 rintro i m σ H ⟨rfl,hi,p⟩
 have q:=hl i σ H hi p
 by_cases hlt:i<xs.length
 ·refine .inr ⟨⟨xs,xs[i],q,by simp [hlt]⟩,Pv (i+1),fun σ' H' p'=>⟨xs.length-(i+1),by omega,rfl,hlt,p'⟩,fun x H' y=>?_⟩
  obtain ⟨e,y⟩:=y
  subst e
  exact hs i x σ _ (y xs q) p
 ·have e:i=xs.length:=by omega
  subst e
  exact .inl ⟨⟨xs,q,Nat.le_refl _⟩,hd σ H p⟩
theorem fE {lo:Int} {n:Nat} {g:TG} {tb:TS} {D:Ends} {σ:St} {H:Hp} (Pv:Nat→St→Hp→Prop) (h0:Pv 0 σ H)
  (hs: ∀i σ H,i<n→Pv i σ H→g (.int (lo+i)) σ H fun σ2 H2=>tb {D with nx:=Pv (i+1),ct:=Pv (i+1),bk:=D.nx} σ2 H2) (hd: ∀σ H,Pv n σ H→D.nx σ H):
  ∃W:Nat→Nat→St→Hp→Prop,(∃m,W 0 m σ H)∧ ∀i m σ H,W i m σ H→
   ((jH lo n).stop i H∧D.nx σ H)∨((jH lo n).go i H∧ ∃N:St→Hp→Prop,(∀σ' H',N σ' H'→ ∃m',m'<m∧W (i+1) m' σ' H')∧ ∀x H',(jH lo n).eP i H x H'→g x σ H' fun σ2 H2=>tb {D with nx:=N,ct:=N,bk:=D.nx} σ2 H2):=by
 refine ⟨fun i m σ H=>m=n-i∧i≤n∧Pv i σ H,⟨n,by simp,Nat.zero_le _,h0⟩,?_⟩
 rintro i m σ H ⟨rfl,hi,p⟩
 by_cases hlt:i<n
 ·refine .inr ⟨hlt,Pv (i+1),fun σ' H' p'=>⟨n-(i+1),by omega,rfl,hlt,p'⟩,fun x H' y=>?_⟩
  obtain ⟨e,y⟩:=y
  subst e y
  exact hs i σ _ hlt p
 ·have e:i=n:=by omega
  subst e
  exact .inl ⟨Nat.le_refl _,hd σ H p⟩
end L2
namespace L2
open PySem PySem.Spec PyProof.Rows
abbrev R2:=V→V→Hp→VK→Prop
def bA (X:Cx) (f:Value→Value→Sem Value) (r:R2):Prop:=
 ∀(pins:List (Addr×Obj)) (s:Shared) (σ:St) (H:Hp) (x y:V) (v u:Value) (Q:VK),Inv X pins σ H s→RelV x v→RelV y u→r x y H Q→
  wpAny (model X.prog X.w) X.A (f v u) (EP X pins σ Q) X.xe s
def uf (X:Cx) (f:Value→Sem Value) (r:V→Hp→VK→Prop):Prop:=
 ∀(pins:List (Addr×Obj)) (s:Shared) (σ:St) (H:Hp) (x:V) (v:Value) (Q:VK),Inv X pins σ H s→RelV x v→r x H Q→
  wpAny (model X.prog X.w) X.A (f v) (EP X pins σ Q) X.xe s
def iq (X:Cx) (f:Value) (r:List V→Hp→VK→Prop):Prop:=
 ∀(pins:List (Addr×Obj)) (s:Shared) (σ:St) (H:Hp) (xs:List V) (us:List Value) (Q:VK),Inv X pins σ H s→Vals xs us→r xs H Q→
  wpAny (model X.prog X.w) X.A (call f us) (EP X pins σ Q) X.xe s
def gW (r:R2) (ta tb:TE):TE:=fun σ H Q=>ta σ H fun x H1=>tb σ H1 fun y H2=>r x y H2 Q
def Fu (r:V→Hp→VK→Prop) (ta:TE):TE:=fun σ H Q=>ta σ H fun x H1=>r x H1 Q
def rI (C:Int→Int→Prop) (g:Int→Int→V):R2:=fun x y H Q=> ∃i j,x= .int i∧y= .int j∧C i j∧Q (g i j) H
def dN (g:Int→Int→V):R2:=fun x y H Q=> ∃i j,x= .int i∧y= .int j∧Q (g i j) H
def rU (g:Int→V):V→Hp→VK→Prop:=fun x H Q=> ∃i,x= .int i∧Q (g i) H
section
variable {X:Cx} {a b c:Expr} {ta tb tc:TE} {pos:Pos}
theorem xF (ha:PE X a ta) (hb:PE X b tb) {pins:List (Addr×Obj)} {s:Shared} {σ:St} {H:Hp} {R:V→V→Hp→Prop} (I:Inv X pins σ H s)
  (h:ta σ H fun x H1=>tb σ H1 fun y H2=>R x y H2) {Q:Value→Shared→Prop} {f:Value→Value→Sem Value}
  (hf: ∀v u s2 x y H2,Inv X pins σ H2 s2→RelV x v→RelV y u→R x y H2→wpAny (model X.prog X.w) X.A (f v u) Q X.xe s2):
  wpAny (model X.prog X.w) X.A (eval a X.env) (fun v s₁=>wpAny (model X.prog X.w) X.A (eval b X.env) (fun u s₂=>wpAny (model X.prog X.w) X.A (f v u) Q X.xe s₂) X.xe s₁) X.xe s:=by
 refine aE (ha pins s σ H _ I h) fun v s1 ⟨x,H1,I1,r1,q1⟩=>?_
 refine aE (hb pins s1 σ H1 _ I1 q1) fun u s2 ⟨y,H2,I2,r2,q2⟩=>?_
 exact hf v u s2 x y H2 I2 r1 r2 q2
theorem aw {op:Operator} {r:R2} (ho:bA X (binaryOp op) r) (ha:PE X a ta) (hb:PE X b tb):PE X (.BinOp a op b pos) (gW r ta tb):=by
 intro pins s σ H Q I h
 exact wpAny_BinOp (xF ha hb I h fun v u s2 x y H2 I2 rx ry q=>ho pins s2 σ H2 x y v u Q I2 rx ry q)
theorem jV {op:UnaryOp} {r:V→Hp→VK→Prop} (ho:uf X (unaryOp op) r) (ha:PE X a ta):PE X (.UnaryOp op a pos) (Fu r ta):=by
 intro pins s σ H Q I h
 exact UnaryOp_ (aE (ha pins s σ H _ I h) fun v s1 ⟨x,H1,I1,r1,q1⟩=>ho pins s1 σ H1 x v Q I1 r1 q1)
theorem jP {f:Value→Value→Sem Value} {C:Int→Int→Prop} {g:Int→Int→Int}
  (rule: ∀(i j:Int) (t u:Tok) (s:Shared) (Q:Value→Shared→Prop) (E:Value→Shared→Prop),C i j→Q (.int (g i j) s.toks) {s with toks:=s.toks+1}→wpAny (model X.prog X.w) X.A (f (.int i t) (.int j u)) Q E s):
  bA X f (rI C fun i j=> .int (g i j)):=by
 intro pins s σ H x y v u Q I rx ry h
 obtain ⟨i,j,rfl,rfl,hc,q⟩:=h
 obtain ⟨t,rfl⟩:=rx
 obtain ⟨t',rfl⟩:=ry
 exact rule i j t t' s _ _ hc ⟨.int (g i j),H,I.tok _,⟨_,rfl⟩,q⟩
theorem iK {f:Value→Value→Sem Value} {g:Int→Int→Int}
  (rule: ∀(i j:Int) (t u:Tok) (s:Shared) (Q:Value→Shared→Prop) (E:Value→Shared→Prop),Q (.int (g i j) s.toks) {s with toks:=s.toks+1}→wpAny (model X.prog X.w) X.A (f (.int i t) (.int j u)) Q E s):
  bA X f (dN fun i j=> .int (g i j)):=by
 intro pins s σ H x y v u Q I rx ry h
 obtain ⟨i,j,rfl,rfl,q⟩:=h
 obtain ⟨t,rfl⟩:=rx
 obtain ⟨t',rfl⟩:=ry
 exact rule i j t t' s _ _ ⟨.int (g i j),H,I.tok _,⟨_,rfl⟩,q⟩
theorem rP {f:Value→Value→Sem Value} {g:Int→Int→Bool}
  (rule: ∀(i j:Int) (t u:Tok) (s:Shared) (Q:Value→Shared→Prop) (E:Value→Shared→Prop),Q (.bool (g i j)) s→wpAny (model X.prog X.w) X.A (f (.int i t) (.int j u)) Q E s):
  bA X f (dN fun i j=> .bl (g i j)):=by
 intro pins s σ H x y v u Q I rx ry h
 obtain ⟨i,j,rfl,rfl,q⟩:=h
 obtain ⟨t,rfl⟩:=rx
 obtain ⟨t',rfl⟩:=ry
 exact rule i j t t' s _ _ ⟨.bl (g i j),H,I,rfl,q⟩
def Rc (i j:Int):Prop:=0<j∧j<1073741824
def uH (i j:Int):Prop:=0≤j∧j≤1000000∧i.natAbs<2^64
def wG (i j:Int):Prop:=(-(2^64)<i∧i<2^64)∨(-(2^64)<j∧j<2^64)
theorem wG.ok {i j:Int} (h:wG i j):IntMulOk i j:=by
 rcases h with ⟨h1,h2⟩|⟨h1,h2⟩
 ·exact .of_left (intBits_le_64 h1 h2)
 ·exact .of_right (intBits_le_64 h1 h2)
theorem NY (k:Nat):(0:Int)≤2^k:=by
 rw[two_pow_cast]
 exact Int.natCast_nonneg _
theorem b5:bA X (binaryOp .Add) (dN fun i j=> .int (i+j)):=iK fun _ _ _ _ _ _ _ q=>add_int q
theorem du:bA X (binaryOp .Sub) (dN fun i j=> .int (i-j)):=iK fun _ _ _ _ _ _ _ q=>sub_int q
theorem k9:bA X (binaryOp .Mult) (rI wG fun i j=> .int (i*j)):=jP fun _ _ _ _ _ _ _ hc q=>mul_int q hc.ok
theorem jA:bA X (binaryOp .FloorDiv) (rI Rc fun i j=> .int (i/j)):=jP fun i j _ _ _ _ _ hc q=>by
 have h1:(0:Int)<j:=hc.1
 have h2:j<1073741824:=hc.2
 exact floordiv_int (by omega) (by rw[Int.fdiv_eq_ediv_of_nonneg i (by omega)];exact q) (.inl (PyProof.noPylong_small (by omega)))
theorem kR:bA X (binaryOp .Mod) (rI (fun _ j=>0<j) fun i j=> .int (i%j)):=jP fun i j _ _ _ _ _ hc q=>by
 have h1:(0:Int)<j:=hc
 exact mod_int' (by omega) (by rw[Int.fmod_eq_emod_of_nonneg i (by omega)];exact q)
theorem jE:bA X (binaryOp .LShift) (rI uH fun i j=> .int (i*2^j.toNat)):=jP fun _ _ _ _ _ _ _ hc q=>lshift_int_small hc.1 hc.2.1 hc.2.2 q
theorem eU:bA X (binaryOp .RShift) (rI (fun _ j=>0≤j) fun i j=> .int (i/2^j.toNat)):=jP fun i j _ _ _ _ _ hc q=>
 rshift_int hc (by rw[Int.fdiv_eq_ediv_of_nonneg i (NY _)];exact q)
theorem kq:bA X (binaryOp .BitAnd) (dN fun i j=> .int (Builtin.bitAnd i j)):=iK fun _ _ _ _ _ _ _ q=>and_int q
theorem yL:bA X (binaryOp .BitOr) (dN fun i j=> .int (Builtin.bitOr i j)):=iK fun _ _ _ _ _ _ _ q=>or_int q
theorem j9:bA X (binaryOp .BitXor) (dN fun i j=> .int (Builtin.bitXor i j)):=iK fun _ _ _ _ _ _ _ q=>xor_int q
theorem D9:bA X (inplaceOp .Add) (dN fun i j=> .int (i+j)):=iK fun _ _ _ _ _ _ _ q=>iadd_int q
theorem FW:bA X (inplaceOp .Sub) (dN fun i j=> .int (i-j)):=iK fun _ _ _ _ _ _ _ q=>isub_int q
theorem Cn:bA X (inplaceOp .LShift) (rI uH fun i j=> .int (i*2^j.toNat)):=jP fun _ _ _ _ _ _ _ hc q=>ilshift_int_small hc.1 hc.2.1 hc.2.2 q
theorem sx:bA X (inplaceOp .BitXor) (dN fun i j=> .int (Builtin.bitXor i j)):=iK fun _ _ _ _ _ _ _ q=>ixor_int q
theorem G9 {f:Value→Sem Value} {g:Int→Int}
  (rule: ∀(i:Int) (t:Tok) (s:Shared) (Q:Value→Shared→Prop) (E:Value→Shared→Prop),Q (.int (g i) s.toks) {s with toks:=s.toks+1}→wpAny (model X.prog X.w) X.A (f (.int i t)) Q E s):
  uf X f (rU fun i=> .int (g i)):=by
 intro pins s σ H x v Q I rx h
 obtain ⟨i,rfl,q⟩:=h
 obtain ⟨t,rfl⟩:=rx
 exact rule i t s _ _ ⟨.int (g i),H,I.tok _,⟨_,rfl⟩,q⟩
theorem ju:uf X (unaryOp .USub) (rU fun i=> .int (-i)):=G9 fun _ _ _ _ _ q=>neg_int q
end
def CK:V→V→Bool
 | .au, .au=>true| .au, .int _=>true| .int _, .au=>true| .au, .bl _=>true| .bl _, .au=>true| .au, .str _=>true| .str _, .au=>true
 | .int _, .int _=>true| .bl _, .bl _=>true| .str _, .str _=>true| .dB _, .dB _=>true
 | .int _, .str _=>true| .str _, .int _=>true| .bl _, .str _=>true| .str _, .bl _=>true
 |_,_=>false
def Qp:R2:=fun x y H Q=>CK x y=true∧Q (.bl (decide (x=y))) H
def K4:R2:=fun x y H Q=>CK x y=true∧Q (.bl (!decide (x=y))) H
theorem yN {i j:Int}:decide (V.int i=V.int j)=(i==j):=by
 rw[Bool.eq_iff_iff]
 simp
theorem DW {i j:Bool}:decide (V.bl i=V.bl j)=(i==j):=by
 rw[Bool.eq_iff_iff]
 simp
theorem Aa {i j:Str}:decide (V.str i=V.str j)=(i==j):=by
 rw[Bool.eq_iff_iff]
 simp
theorem Bq {i j:Array UInt8}:decide (V.dB i=V.dB j)=(i.toList==j.toList):=by
 rw[Bool.eq_iff_iff]
 cases i
 cases j
 simp
section
variable {X:Cx} {a b c:Expr} {ta tb tc:TE} {pos:Pos}
theorem bR {pins:List (Addr×Obj)} {σ:St} {H:Hp} {s:Shared} {Q:VK} {k k':Bool} (I:Inv X pins σ H s) (q:Q (.bl k) H) (e:k=k'):EP X pins σ Q (.bool k') s:=by
 subst e
 exact ⟨.bl k,H,I,rfl,q⟩
theorem dA:bA X (compareOp .Eq) Qp:=by
 intro pins s σ H x y v u Q I rx ry h
 obtain ⟨hs,q⟩:=h
 cases x with
 |au=>
  cases rx
  cases y with
  |au=>cases ry;exact PySem.EqNone.eq_none_none (bR I q (by simp))
  |bl j=>cases ry;exact PySem.EqNone.eq_none_bool (bR I q (by simp))
  |int j=>obtain ⟨t',rfl⟩:=ry;exact PySem.EqNone.eq_none_int (bR I q (by simp))
  |str j=>obtain ⟨t',rfl⟩:=ry;exact PySem.EqNone.eq_none_str (bR I q (by simp))
  |_=>exact absurd (show false=true from hs) Bool.false_ne_true
 |bl i=>
  cases rx
  cases y with
  |au=>cases ry;exact PySem.EqNone.eq_bool_none (bR I q (by simp))
  |bl j=>cases ry;exact eq_bool (bR I q DW)
  |str j=>obtain ⟨t',rfl⟩:=ry;exact PySem.EqMixed.eq_bool_str (bR I q (by simp))
  |_=>exact absurd (show false=true from hs) Bool.false_ne_true
 |int i=>
  obtain ⟨t,rfl⟩:=rx
  cases y with
  |au=>cases ry;exact PySem.EqNone.eq_int_none (bR I q (by simp))
  |int j=>obtain ⟨t',rfl⟩:=ry;exact eq_int (bR I q yN)
  |str j=>obtain ⟨t',rfl⟩:=ry;exact PySem.EqMixed.eq_int_str (bR I q (by simp))
  |_=>exact absurd (show false=true from hs) Bool.false_ne_true
 |str i=>
  obtain ⟨t,rfl⟩:=rx
  cases y with
  |au=>cases ry;exact PySem.EqNone.eq_str_none (bR I q (by simp))
  |bl j=>cases ry;exact PySem.EqMixed.eq_str_bool (bR I q (by simp))
  |int j=>obtain ⟨t',rfl⟩:=ry;exact PySem.EqMixed.eq_str_int (bR I q (by simp))
  |str j=>obtain ⟨t',rfl⟩:=ry;exact eq_str (bR I q Aa)
  |_=>exact absurd (show false=true from hs) Bool.false_ne_true
 |dB i=>
  obtain ⟨t,rfl⟩:=rx
  cases y with
  |dB j=>obtain ⟨t',rfl⟩:=ry;exact PySem.W.eq_bytes (bR I q Bq)
  |_=>exact absurd (show false=true from hs) Bool.false_ne_true
 |_=>cases y<;>exact absurd (show false=true from hs) Bool.false_ne_true
theorem gF:bA X (compareOp .NotEq) K4:=by
 intro pins s σ H x y v u Q I rx ry h
 obtain ⟨hs,q⟩:=h
 cases x with
 |au=>
  cases rx
  cases y with
  |au=>cases ry;exact PySem.EqNone.ne_none_none (bR I q (by simp))
  |bl j=>cases ry;exact PySem.EqNone.ne_none_bool (bR I q (by simp))
  |int j=>obtain ⟨t',rfl⟩:=ry;exact PySem.EqNone.ne_none_int (bR I q (by simp))
  |str j=>obtain ⟨t',rfl⟩:=ry;exact PySem.EqNone.ne_none_str (bR I q (by simp))
  |_=>exact absurd (show false=true from hs) Bool.false_ne_true
 |bl i=>
  cases rx
  cases y with
  |au=>cases ry;exact PySem.EqNone.ne_bool_none (bR I q (by simp))
  |bl j=>cases ry;exact ne_bool (bR I q (congrArg not DW))
  |str j=>obtain ⟨t',rfl⟩:=ry;exact PySem.EqMixed.ne_bool_str (bR I q (by simp))
  |_=>exact absurd (show false=true from hs) Bool.false_ne_true
 |int i=>
  obtain ⟨t,rfl⟩:=rx
  cases y with
  |au=>cases ry;exact PySem.EqNone.ne_int_none (bR I q (by simp))
  |int j=>obtain ⟨t',rfl⟩:=ry;exact ne_int (bR I q (congrArg not yN))
  |str j=>obtain ⟨t',rfl⟩:=ry;exact PySem.EqMixed.ne_int_str (bR I q (by simp))
  |_=>exact absurd (show false=true from hs) Bool.false_ne_true
 |str i=>
  obtain ⟨t,rfl⟩:=rx
  cases y with
  |au=>cases ry;exact PySem.EqNone.ne_str_none (bR I q (by simp))
  |bl j=>cases ry;exact PySem.EqMixed.ne_str_bool (bR I q (by simp))
  |int j=>obtain ⟨t',rfl⟩:=ry;exact PySem.EqMixed.ne_str_int (bR I q (by simp))
  |str j=>obtain ⟨t',rfl⟩:=ry;exact ne_str (bR I q (congrArg not Aa))
  |_=>exact absurd (show false=true from hs) Bool.false_ne_true
 |dB i=>
  obtain ⟨t,rfl⟩:=rx
  cases y with
  |dB j=>obtain ⟨t',rfl⟩:=ry;exact PySem.W.ne_bytes (bR I q (congrArg not Bq))
  |_=>exact absurd (show false=true from hs) Bool.false_ne_true
 |_=>cases y<;>exact absurd (show false=true from hs) Bool.false_ne_true
theorem tX:bA X (compareOp .Lt) (dN fun i j=> .bl (decide (i<j))):=rP fun _ _ _ _ _ _ _ q=>lt_int q
theorem gD:bA X (compareOp .LtE) (dN fun i j=> .bl (decide (i≤j))):=rP fun _ _ _ _ _ _ _ q=>le_int q
theorem d4:bA X (compareOp .Gt) (dN fun i j=> .bl (decide (j<i))):=rP fun _ _ _ _ _ _ _ q=>gt_int q
theorem x6:bA X (compareOp .GtE) (dN fun i j=> .bl (decide (j≤i))):=rP fun _ _ _ _ _ _ _ q=>ge_int q
theorem Bp:bA X (compareOp .Is) (fun x y H Q=>y= .au∧Q (.bl (decide (x= .au))) H):=by
 intro pins s σ H x y v u Q I rx ry h
 obtain ⟨rfl,q⟩:=h
 cases ry
 refine is_none_gen (bR I q ?_)
 cases x<;>first
  |(cases rx;rfl)
  |(obtain ⟨t,rfl⟩:=rx;rfl)
theorem aX (b:Expr) {op:CmpOp} (h:op≠ .In:=by decide) (h2:op≠ .NotIn:=by decide):behindInMarks op b=false:=by
 have e1:(op==CmpOp.In)=false:=by cases op<;>first|rfl|exact absurd rfl h
 have e2:(op==CmpOp.NotIn)=false:=by cases op<;>first|rfl|exact absurd rfl h2
 cases b<;>simp [behindInMarks,e1,e2]
theorem gP {op:CmpOp} {r:R2} (ho:bA X (compareOp op) r) (ha:PE X a ta) (hb:PE X b tb) (hm:behindInMarks op b=false):PE X (.Compare a [op] [b] pos) (gW r ta tb):=by
 intro pins s σ H Q I h
 exact wpAny_Compare1 (xF ha hb I h fun v u s2 x y H2 I2 rx ry q=>ho pins s2 σ H2 x y v u Q I2 rx ry q) hm
def DV (t:TE):TT:=fun σ H Q=>t σ H fun x H'=> ∃k,x= .bl k∧Q k H'
theorem bq {op:CmpOp} {r:R2} (ho:bA X (compareOp op) r) (ha:PE X a ta) (hb:PE X b tb) (hm:behindInMarks op b=false):PT X (.Compare a [op] [b] pos) (DV (gW r ta tb)):=by
 intro pins s σ H Q I h
 refine wpAny_isTrue_Compare1 (aE (ha pins s σ H _ I h) fun v s1 ⟨x,H1,I1,r1,q1⟩=>aE (hb pins s1 σ H1 _ I1 q1) fun u s2 ⟨y,H2,I2,r2,q2⟩=>
  aE (ho pins s2 σ H2 x y v u _ I2 r1 r2 q2) fun c s3 ⟨z,H3,I3,r3,k,e,q3⟩=>?_) hm
 subst e
 cases r3
 exact wpAny_truthy_bool ⟨H3,I3,q3⟩
def AB (r r':R2) (ta tb tc:TE):TE:=fun σ H Q=>ta σ H fun x H1=>tb σ H1 fun y H2=>r x y H2 fun z H3=> ∃k,z= .bl k∧
 (if k=true then tc σ H3 fun w' H4=>r' y w' H4 Q else Q (.bl false) H3)
theorem xC {op op':CmpOp} {r r':R2} (ho:bA X (compareOp op) r) (ho':bA X (compareOp op') r') (ha:PE X a ta) (hb:PE X b tb) (hc:PE X c tc)
  (hm:lastMarks [op,op'] [b,c]=false:=by with_unfolding_all rfl):PE X (.Compare a [op,op'] [b,c] pos) (AB r r' ta tb tc):=by
 intro pins s σ H Q I h
 refine Compare_chain (aE (ha pins s σ H _ I h) fun v s1 ⟨x,H1,I1,r1,q1⟩=>chain_link (aE (hb pins s1 σ H1 _ I1 q1) fun u s2 ⟨y,H2,I2,r2,q2⟩=>
  aE (ho pins s2 σ H2 x y v u _ I2 r1 r2 q2) fun d s3 ⟨z,H3,I3,r3,k,e,q3⟩=>?_)) hm
 subst e
 cases r3
 refine wpAny_truthy_bool ?_
 cases k with
 |false=>exact ite_ff ⟨.bl false,H3,I3,rfl,q3⟩
 |true=>exact ite_tt (chain_last (aE (hc pins s3 σ H3 _ I3 q3) fun w' s4 ⟨z',H4,I4,r4,q4⟩=>ho' pins s4 σ H4 y z' u w' Q I4 r2 r4 q4))
theorem yp {op op':CmpOp} {r r':R2} (ho:bA X (compareOp op) r) (ho':bA X (compareOp op') r') (ha:PE X a ta) (hb:PE X b tb) (hc:PE X c tc)
  (hm:lastMarks [op,op'] [b,c]=false:=by with_unfolding_all rfl):PT X (.Compare a [op,op'] [b,c] pos) (DV (AB r r' ta tb tc)):=by
 intro pins s σ H Q I h
 refine isTrue_chain (aE (ha pins s σ H _ I h) fun v s1 ⟨x,H1,I1,r1,q1⟩=>test_link (aE (hb pins s1 σ H1 _ I1 q1) fun u s2 ⟨y,H2,I2,r2,q2⟩=>
  aE (ho pins s2 σ H2 x y v u _ I2 r1 r2 q2) fun d s3 ⟨z,H3,I3,r3,k,e,q3⟩=>?_)) hm
 subst e
 cases r3
 refine wpAny_truthy_bool ?_
 cases k with
 |false=>
  obtain ⟨k',e',q'⟩:=q3
  cases e'
  exact ite_ff ⟨H3,I3,q'⟩
 |true=>
  refine ite_tt (test_last (aE (hc pins s3 σ H3 _ I3 q3) fun w' s4 ⟨z',H4,I4,r4,q4⟩=>aE (ho' pins s4 σ H4 y z' u w' _ I4 r2 r4 q4) fun d' s5 ⟨z2,H5,I5,r5,k2,e2,q5⟩=>?_))
  subst e2
  cases r5
  exact wpAny_truthy_bool ⟨H5,I5,q5⟩
theorem vX:(sizeLine:Nat)<2^63:=by rw[sizeLine_eq];decide
theorem vals1 {x:V} {us:List Value} (r:Vals [x] us): ∃u,us= [u]∧RelV x u:=by
 cases r with
 |cons r1 r2=>cases r2;exact ⟨_,rfl,r1⟩
theorem vals2 {x y:V} {us:List Value} (r:Vals [x,y] us): ∃u w',us= [u,w']∧RelV x u∧RelV y w':=by
 cases r with
 |cons r1 r2=>
  cases r2 with
  |cons r3 r4=>cases r4;exact ⟨_,_,rfl,r1,r3⟩
theorem Pg (hc:X.calm=true):iq X (.builtin "min") (fun xs H Q=> ∃i j,xs= [.int i, .int j]∧Q (.int (if j<i then j else i)) H):=by
 intro pins s σ H xs us Q I r h
 obtain ⟨i,j,rfl,q⟩:=h
 obtain ⟨u,w',rfl,⟨t,rfl⟩,⟨t',rfl⟩⟩:=vals2 r
 refine min_two_ints (I.ok.hd hc) fun h' tk k=>⟨_,H,I.kept k,?_,q⟩
 by_cases hj:j<i
 ·rw[if_pos hj,if_pos hj];exact ⟨_,rfl⟩
 ·rw[if_neg hj,if_neg hj];exact ⟨_,rfl⟩
end
end L2
namespace L2
open PySem PySem.Spec PyProof.Rows
structure jl (h:Heap) (x dx C:Addr) (mA:Str→Option Value):Prop where
 obj:h.get? x=some (PySem.W.instObj C dx)
 ns:h.Ns1 dx mA
 ne:dx≠x
theorem GA {h:Heap} {dx:Addr} {mA:Str→Option Value} (n:h.Ns1 dx mA): ∃od,h.get? dx=some od∧ ∀name,PySem.W.lookIn name od=some (mA name):=by
 obtain ⟨o,es,ep,ho,hd,hk,_,hm⟩:=n
 refine ⟨o,ho,fun name=>?_⟩
 have e:=hm name
 unfold nsFind findBy at e
 rw[←Array.find?_toList] at e
 unfold PySem.W.lookIn
 rw[hd]
 dsimp only
 split
 ·rename_i y q
  rw[q] at e
  exact congrArg some e
 ·rename_i q
  rw[q] at e
  have a:es.toList.any (·.refKey)=false:=by
   rw[List.any_eq_false]
   intro y hy
   obtain ⟨z,t,hkey⟩:=hk y (Array.mem_toList_iff.mp hy)
   simp [DictEntry.refKey,hkey]
  have a': ¬es.toList.any (·.refKey)=true:=by rw[a];exact Bool.false_ne_true
  rw[if_neg a']
  exact congrArg some e
theorem jl.look {h:Heap} {x dx C:Addr} {mA:Str→Option Value} (I:jl h x dx C mA): ∃od,PySem.W.InstAt h x (PySem.W.instObj C dx) C (some od)∧ ∀name,PySem.W.lookIn name od=some (mA name):=
 let ⟨od,ho,hl⟩:=GA I.ns
 ⟨od,⟨I.obj,rfl,rfl,ho⟩,hl⟩
section
variable {prog:Program} {w:World} {A:Around} {E:Value→Shared→Prop} {s:Shared} {K:PySem.W.Frag} {x dx C f:Addr} {mA:Str→Option Value} {name:Str} {v:Value}
theorem get_map {expr:Bool} {Q:Value→Shared→Prop} (X:K.In s.heap) (I:jl s.heap x dx C mA) (hg:PySem.W.plainGet K C name=true) (hh:PySem.W.hasDictIn K C=true)
  (ha:PySem.W.findIn K (.ref C) name=some none) (hv:mA name=some v) (hv':PySem.W.handedIn v=true) (h:Q v {s with toks:=s.toks+1}):
  wpAny (model prog w) A (getAttr (.ref x) name expr) Q E s:=by
 obtain ⟨od,J,hl⟩:=I.look
 exact PySem.W.get_value X J (PySem.W.plainGet_of hg).1 (PySem.W.findObj_own hh ha rfl (by rw[hl,hv])) hv' h
theorem GP {pl:Sem Bool} {Q:Value×List Value→Shared→Prop} (X:K.In s.heap) (I:jl s.heap x dx C mA) (hg:PySem.W.plainGet K C name=true)
  (hf:PySem.W.findIn K (.ref C) name=some (some (.ref f))) (ht:PySem.W.isFn K (.ref f)=true) (hv:mA name=none) (h:Q (.ref f, [.ref x]) s):
  wpAny (model prog w) A (getMethod (.ref x) name pl) Q E s:=by
 obtain ⟨od,J,hl⟩:=I.look
 exact PySem.W.method_fn X J (PySem.W.plainGet_of hg).1 (PySem.W.plainGet_of hg).2 hf (beq_iff_eq.mp ht) (by show (PySem.W.lookIn name od).map (·.isSome)=some false;rw[hl,hv];rfl) h
theorem N1 {ns:List Str} {Q:Unit→Shared→Prop} (X:K.In s.heap) (I:jl s.heap x dx C mA)
  (hs:PySem.W.findIn K (.ref C) "__setattr__" =some (some (.builtin "object.__setattr__"))) (hp:PySem.W.plainOver K C=true) (ht:PySem.W.takerIn K C name=some none) (hh:PySem.W.hasDictIn K C=true)
  (hw:PySem.Within mA ns) (hsz:ns.length≤sizeLine)
  (h: ∀h',jl h' x dx C (fun y=>if y=name then some v else mA y)→Heap.SameBut dx s.heap h'→Q () {s with heap:=h',toks:=s.toks+2}):
  wpAny (model prog w) A (setAttr (.ref x) name v) Q E s:=by
 obtain ⟨od,J,hl⟩:=I.look
 refine PySem.W.set_plain X J hs (PySem.W.osa_open (s:={s with toks:=s.toks+1}) (r:=none) X J hp ht fun b=>?_)
 obtain ⟨cd,hc,hd'⟩:=PySem.W.any_some hh
 have hx:s.heap.get? x=some ⟨.ref C,some dx, .plain, #[]⟩:=I.obj
 refine wpAny_bind (wpAny_pure (wpAny_bind (wpAny_bind (wpAny_loadPart hx (wpAny_bind (PySem.W.Looks.here (s:={s with toks:=s.toks+1}) (PySem.W.looks_clsIn X hc) ?_))))))
 rw[hd']
 refine wpAny_pure (a:=some dx) (wpAny_bind (wpAny_pure (wpAny_bind ?_)))
 refine wpAny_nsSet1 (s:={s with toks:=s.toks+1}) I.ns fun h' hn2 hs2=>?_
 obtain ⟨oD,esD,epD,hoD,hdD,hcD⟩:=hn2.count (PySem.Within.cons name v hw)
 refine wpAny_bind (wpAny_lookBehind hoD (by rw[hdD];exact pastItsLine_dict (Nat.le_trans hcD (by rw[List.length_cons];omega))) ?_)
 exact wpAny_pure (h _ ⟨(hs2.2 _ (Ne.symm I.ne)).trans I.obj,hn2,I.ne⟩ hs2)
theorem RP {R:Result→Shared→Prop} {vs:List Value} {kw:List (Str×Value)} (X:K.In s.heap) (hm:PySem.W.makesIn K C=true)
  (hi:PySem.W.findIn K (.ref C) "__init__" =some (some (.ref f))) (hf:PySem.W.typeIn K (.ref f)=some (.type "function"))
  (h:codeAny (model prog w) (A.under (.builtin "type.__call__" ⟨.ref C::vs,kw⟩)) (.call (.ref f) ⟨.ref (s.heap.objs.size+1)::vs,kw⟩) (PySem.W.InitBack (s.heap.objs.size+1) R)
   {s with heap:=(s.heap.push PySem.W.emptyDict).push (PySem.W.instObj C s.heap.objs.size)}):
  codeAny (model prog w) A (.call (.ref C) ⟨vs,kw⟩) R s:=by
 obtain ⟨hh,g,d,t,os⟩:=s
 exact PySem.W.make_core (PySem.W.makes_of X hm) (PySem.W.looks_findIn X hi) (fun self=>PySem.W.bind_fn X self hf) (.inl rfl) h
end
def bz (f:Str) (v:V):List (Str×V)→List (Str×V)
 | []=> [(f,v)]
 |(g,x)::r=>if g=f then (g,v)::r else (g,x)::bz f v r
theorem AN (f g:Str) (v:V): ∀fs:List (Str×V),(bz f v fs).lookup g=if g=f then some v else fs.lookup g
 | []=>by
  show List.lookup g [(f,v)]=_
  by_cases h:g=f
  ·have hb:(g==f)=true:=beq_iff_eq.mpr h
   simp only [List.lookup,hb,if_pos h]
  ·have hb:(g==f)=false:=beq_eq_false_iff_ne.mpr h
   simp only [List.lookup,hb,if_neg h]
 |(k,x)::r=>by
  have ih:=AN f g v r
  rw[show bz f v ((k,x)::r)=(if k=f then (k,v)::r else (k,x)::bz f v r) from rfl]
  by_cases hk:k=f
  ·rw[if_pos hk]
   by_cases h:g=k
   ·have hb:(g==k)=true:=beq_iff_eq.mpr h
    simp only [List.lookup,hb,if_pos (h.trans hk)]
   ·have hb:(g==k)=false:=beq_eq_false_iff_ne.mpr h
    simp only [List.lookup,hb,if_neg (fun e:g=f=>h (e.trans hk.symm))]
  ·rw[if_neg hk]
   by_cases h:g=k
   ·have hb:(g==k)=true:=beq_iff_eq.mpr h
    simp only [List.lookup,hb,if_neg (fun e:g=f=>hk (h.symm.trans e))]
   ·have hb:(g==k)=false:=beq_eq_false_iff_ne.mpr h
    simp only [List.lookup,hb]
    exact ih
theorem wY (f:Str) (v:V): ∀fs:List (Str×V),f∈(bz f v fs).map (·.1)∧ ∀g,g∈fs.map (·.1)→g∈(bz f v fs).map (·.1)
 | []=>⟨by simp [bz],fun g h=>by simp at h⟩
 |(k,x)::r=>by
  obtain ⟨i1,i2⟩:=wY f v r
  rw[show bz f v ((k,x)::r)=(if k=f then (k,v)::r else (k,x)::bz f v r) from rfl]
  by_cases hk:k=f
  ·rw[if_pos hk]
   subst hk
   exact ⟨by simp,fun g h=>by simpa using h⟩
  ·rw[if_neg hk]
   refine ⟨?_,fun g h=>?_⟩
   ·rw[List.map_cons]
    exact List.mem_cons_of_mem _ i1
   ·rw[List.map_cons] at h⊢
    rcases List.mem_cons.mp h with e|e
    ·exact List.mem_cons.mpr (.inl e)
    ·exact List.mem_cons_of_mem _ (i2 g e)
theorem yX (f:Str) (v:V): ∀fs:List (Str×V),(bz f v fs).length≤fs.length+1
 | []=>by simp [bz]
 |(k,x)::r=>by
  have ih:=yX f v r
  rw[show bz f v ((k,x)::r)=(if k=f then (k,v)::r else (k,x)::bz f v r) from rfl]
  by_cases hk:k=f
  ·rw[if_pos hk,List.length_cons,List.length_cons];omega
  ·rw[if_neg hk,List.length_cons,List.length_cons];omega
theorem gH.some_of {v:V} {o:Option Value} (r:gH (some v) o): ∃u,o=some u∧RelV v u:=by
 cases o with
 |none=>exact (show False from r).elim
 |some u=>exact ⟨u,rfl,r⟩
theorem gH.none_of {o:Option Value} (r:gH none o):o=none:=by
 cases o with
 |none=>rfl
 |some u=>exact (show False from r).elim
theorem ON {v:V} {u:Value} (r:RelV v u):PySem.W.handedIn u=true:=by
 cases v with
 |au=>cases (show u=Value.none from r);rfl
 |bl b=>cases (show u=Value.bool b from r);rfl
 |int i=>obtain ⟨t,e⟩:=(show∃t,u=Value.int i t from r);cases e;rfl
 |str x=>obtain ⟨t,e⟩:=(show∃t,u=Value.str x t from r);cases e;rfl
 |dB b=>obtain ⟨t,e⟩:=(show∃t,u=Value.bytes b t from r);cases e;rfl
 |mj b=>obtain ⟨t,e⟩:=(show∃t,u=Value.float b t from r);cases e;rfl
 |ref a=>cases (show u=Value.ref a from r);rfl
 |ty n=>cases (show u=Value.type n from r);rfl
section
variable {P:Program} {w:World} {H H':Hp} {h h':Heap} {a C dx:Addr} {fs fs':List (Str×V)}
theorem wC (ao:bO P w H h) (e:H a=some (.ins C dx fs)): ∃mA,jl h a dx C mA∧(∀f,gH (fs.lookup f) (mA f))∧PySem.Within mA (fs.map (·.1))∧fs.length≤1000∧H dx=some (.own a):=by
 obtain ⟨d,z,ne,ob,mA,n,r,q⟩:=(show cS P w H h a (.ins C dx fs) from ao a _ e)
 exact ⟨mA,⟨ob,n,ne⟩,r,q,z,d⟩
end
structure b8 (K:PySem.W.Frag) (C:Addr):Prop where
 pg:PySem.W.plainGet K C Str.empty=true
 hd:PySem.W.hasDictIn K C=true
 po:PySem.W.plainOver K C=true
 sa:PySem.W.findIn K (.ref C) "__setattr__" =some (some (.builtin "object.__setattr__"))
theorem b8.get {K:PySem.W.Frag} {C:Addr} (c:b8 K C) (f:Str):PySem.W.plainGet K C f=true:=c.pg
def a9 (K:PySem.W.Frag) (C:Addr) (f:Str):Prop:=PySem.W.findIn K (.ref C) f=some none
theorem a9.NL {K:PySem.W.Frag} {C:Addr} {f:Str} (n:a9 K C f):PySem.W.takerIn K C f=some none:=by
 unfold PySem.W.takerIn
 rw[show PySem.W.findIn K (.ref C) f=some none from n]
 rfl
structure Meth (K:PySem.W.Frag) (C:Addr) (m:Str) (f:Addr):Prop where
 at_:PySem.W.findIn K (.ref C) m=some (some (.ref f))
 fn:PySem.W.isFn K (.ref f)=true
 kp:PySem.W.keepIn K (.ref f)=true
section
variable {X:Cx} {pins:List (Addr×Obj)} {σ:St} {H:Hp} {s:Shared} {a C dx:Addr} {fs:List (Str×V)} {f:Str} {v:V} {A:Around} {E:Value→Shared→Prop}
theorem yr {b:Bool} {Q:Value→Shared→Prop} (I:Inv X pins σ H s) (e:H a=some (.ins C dx fs)) (c:b8 X.K C) (n:a9 X.K C f) (l:fs.lookup f=some v)
  (h: ∀u s',Inv X pins σ H s'→RelV v u→Q u s'):wpAny (model X.prog X.w) A (getAttr (.ref a) f b) Q E s:=by
 obtain ⟨mA,O,r,_,_,_⟩:=wC I.ao e
 obtain ⟨u,hu,ru⟩:=gH.some_of (v:=v) (o:=mA f) (by rw[←l];exact r f)
 exact get_map I.bV O (c.get f) c.hd n hu (ON ru) (h u _ (I.tok _) ru)
theorem ub {m:Str} {g:Addr} {pl:Sem Bool} {Q:Value×List Value→Shared→Prop} (I:Inv X pins σ H s) (e:H a=some (.ins C dx fs)) (c:b8 X.K C) (k:Meth X.K C m g) (l:fs.lookup m=none)
  (h:Q (.ref g, [.ref a]) s):wpAny (model X.prog X.w) A (getMethod (.ref a) m pl) Q E s:=by
 obtain ⟨mA,O,r,_,_,_⟩:=wC I.ao e
 have hn:mA m=none:=gH.none_of (by rw[←l];exact r m)
 exact GP I.bV O (c.get m) k.at_ k.fn hn h
theorem CQ {y:V} {u:Value} {Q:Unit→Shared→Prop} (I:Inv X pins σ H s) (e:H a=some (.ins C dx fs)) (c:b8 X.K C) (n:a9 X.K C f) (hl:fs.length<1000) (ry:RelV y u)
  (h: ∀s',Inv X pins σ (upd H a (.ins C dx (bz f y fs))) s'→Q () s'):wpAny (model X.prog X.w) A (setAttr (.ref a) f u) Q E s:=by
 obtain ⟨mA,O,r,wi,_,ho⟩:=wC I.ao e
 have hz:(fs.map (·.1)).length≤sizeLine:=by rw[List.length_map,sizeLine_eq];omega
 refine N1 I.bV O c.sa c.po n.NL c.hd wi hz fun h' O' sb=>h _ ?_
 have hd: ∃o,h'.get? dx=some o:=let ⟨o,_,_,e',_⟩:=O'.ns;⟨o,e'⟩
 refine I.write (x:=a) (e:=dx) (by rw[e];exact True.intro) (.inr ho) (fun b q hb z=>(sb.2 b hb).trans z) hd ?_
 refine ⟨by rw[aG O.ne];exact ho,?_,O.ne,O'.obj,_,O'.ns,fun g=>?_,fun g hg=>?_⟩
 ·have:=yX f y fs;omega
 ·show gH ((bz f y fs).lookup g) (if g=f then some u else mA g)
  rw[AN]
  by_cases q:g=f
  ·rw[if_pos q,if_pos q];exact ry
  ·rw[if_neg q,if_neg q];exact r g
 ·by_cases q:g=f
  ·rw[q];exact (wY f y fs).1
  ·refine (wY f y fs).2 g (wi g fun z=>hg ?_)
   show (if g=f then some u else mA g)=none
   rw[if_neg q];exact z
theorem Inv.made (I:Inv X pins σ H s):Inv X pins σ (upd (upd H s.heap.objs.size (.own (s.heap.objs.size+1))) (s.heap.objs.size+1) (.ins C s.heap.objs.size []))
  {s with heap:=(s.heap.push PySem.W.emptyDict).push (PySem.W.instObj C s.heap.objs.size)}:=by
 have e1:(s.heap.push PySem.W.emptyDict).get? s.heap.objs.size=some PySem.W.emptyDict:=Heap.get?_push_size s.heap rfl
 have e2:((s.heap.push PySem.W.emptyDict).push (PySem.W.instObj C s.heap.objs.size)).get? (s.heap.objs.size+1)=some (PySem.W.instObj C s.heap.objs.size):=by
  have:=Heap.get?_push_size (s.heap.push PySem.W.emptyDict) (o:=PySem.W.instObj C s.heap.objs.size) rfl
  rwa [Heap.size_push] at this
 have e3:(s.heap.push PySem.W.emptyDict).Ns s.heap.objs.size (fun _=>none):=⟨PySem.W.emptyDict, #[],_,e1,rfl,(fun e he=>absurd he (by simp)),fun _=>rfl⟩
 have I1:=I.laid (a:=s.heap.objs.size) (o:= .own (s.heap.objs.size+1)) (h':=s.heap.push PySem.W.emptyDict) (t':=s.toks) (fun b u q=>Heap.get?_push_of_some _ q) (Nat.le_refl _) ⟨_,e1⟩
 refine I1.laid (a:=s.heap.objs.size+1) (o:= .ins C s.heap.objs.size []) (t':=s.toks) (fun b u q=>Heap.get?_push_of_some _ q) (Nat.le_of_eq (Heap.size_push _ _)) ?_
 have ne:s.heap.objs.size≠s.heap.objs.size+1:=Nat.ne_of_lt (Nat.lt_succ_self _)
 refine ⟨by rw[aG ne,ak],Nat.zero_le _,ne,e2,fun _=>none,(Heap.Ns1.of_empty e3).at fun o q=>Heap.get?_push_of_some _ q,fun _=>True.intro,fun y hy=>absurd rfl hy⟩
theorem ML {prog:Program} {w:World} {env:Env} {e:Expr} {f:Str} {pos:Pos} {s:Shared} {Q:Value→Shared→Prop} (hb:attributeBase e f env (eval e env)=eval e env)
  (h:wpAny (model prog w) A (eval e env) (fun o s₁=>wpAny (model prog w) A (getAttr o f true) Q E s₁) E s):wpAny (model prog w) A (eval (.Attribute e f pos) env) Q E s:=
 Attribute_any_ h (by rw[arm_eval_Attribute,hb])
end
def l8 (K:PySem.W.Frag) (ta:TE) (f:Str):TE:=fun σ H Q=>ta σ H fun x H1=> ∃a C dx fs v,x= .ref a∧H1 a=some (.ins C dx fs)∧b8 K C∧a9 K C f∧fs.lookup f=some v∧Q v H1
def LK (K:PySem.W.Frag) (ta tv:TE) (f:Str):TS:=fun D σ H=>tv σ H fun y H1=>ta σ H1 fun x H2=> ∃a C dx fs,x= .ref a∧H2 a=some (.ins C dx fs)∧b8 K C∧a9 K C f∧fs.length<1000∧
 D.nx σ (upd H2 a (.ins C dx (bz f y fs)))
def B0 (X:Cx) (op:Operator) (rd:V→V→Hp→VK→Prop):Prop:=
 ∀(pins:List (Addr×Obj)) (s:Shared) (σ:St) (H:Hp) (x y:V) (u v:Value) (Q:VK),Inv X pins σ H s→RelV x u→RelV y v→rd x y H Q→wpAny (model X.prog X.w) X.A (inplaceOp op u v) (EP X pins σ Q) X.xe s
def Ov (K:PySem.W.Frag) (ta tv:TE) (rd:V→V→Hp→VK→Prop) (f:Str):TS:=fun D σ H=>ta σ H fun x H1=> ∃a C dx fs v,x= .ref a∧H1 a=some (.ins C dx fs)∧b8 K C∧a9 K C f∧fs.lookup f=some v∧
 tv σ H1 fun y H2=>rd v y H2 fun z H3=> ∃dx' fs',H3 a=some (.ins C dx' fs')∧fs'.length<1000∧D.nx σ (upd H3 a (.ins C dx' (bz f z fs')))
section
variable {X:Cx} {o e value:Expr} {f:Str} {pos pos' tpos:Pos} {ta tv:TE}
theorem ax (he:PE X e ta) (hb:attributeBase e f X.env (eval e X.env)=eval e X.env):PE X (.Attribute e f pos) (l8 X.K ta f):=by
 intro pins s σ H Q I h
 refine ML hb (aE (he pins s σ H _ I h) fun u s1 ⟨x,H1,I1,rx,a,C,dx,fs,v,ex,ea,c,n,l,q⟩=>?_)
 subst ex
 obtain rfl:u=Value.ref a:=rx
 exact yr I1 ea c n l fun u' s2 I2 ru=>⟨v,H1,I2,ru,q⟩
theorem bc (ha:PE X o ta) (hv:PE X value tv) (hs:swapsWith value (some (.Attribute o f pos')) pos.line X.env=pure false):PS X (.Assign [.Attribute o f pos'] value pos) (LK X.K ta tv f):=by
 intro pins s σ H D I h
 refine plainObj_wpAny_Assign_Attribute (aE (hv pins s σ H _ I h) fun u s1 ⟨y,H1,I1,ry,q⟩=>aE (ha pins s1 σ H1 _ I1 q) fun ov s2 ⟨x,H2,I2,rx,a,C,dx,fs,ex,ea,c,n,l,q2⟩=>?_) hs
 subst ex
 obtain rfl:ov=Value.ref a:=rx
 exact CQ I2 ea c n l ry fun s3 I3=>⟨σ,_,I3,q2⟩
theorem K9 {op:Operator} {rd:V→V→Hp→VK→Prop} (ha:PE X o ta) (hv:PE X value tv) (hop:B0 X op rd):PS X (.AugAssign (.Attribute o f tpos) op value pos) (Ov X.K ta tv rd f):=by
 intro pins s σ H D I h
 refine wpAny_AugAssign_AttributeAny (aE (ha pins s σ H _ I h) fun ov s1 ⟨x,H1,I1,rx,a,C,dx,fs,v,ex,ea,c,n,l,q⟩=>?_)
 subst ex
 obtain rfl:ov=Value.ref a:=rx
 refine yr I1 ea c n l fun u s2 I2 ru=>aE (hv pins s2 σ H1 _ I2 q) fun w3 s3 ⟨y,H2,I3,ry,q3⟩=>aE (hop pins s3 σ H2 v y u w3 _ I3 ru ry q3) fun w4 s4 ⟨z,H3,I4,rz,dx',fs',ea',l',q4⟩=>?_
 exact CQ I4 ea' c n l' rz fun s5 I5=>⟨σ,_,I5,q4⟩
def Fz:V→V→Hp→VK→Prop:=fun x y H Q=> ∃i j,x= .int i∧y= .int j∧Q (.int (i+j)) H
theorem KZ:B0 X .Add Fz:=by
 rintro pins s σ H x y u v Q I rx ry ⟨i,j,rfl,rfl,q⟩
 obtain ⟨t,rfl⟩:=(show∃t,u=Value.int i t from rx)
 obtain ⟨t',rfl⟩:=(show∃t',v=Value.int j t' from ry)
 exact PyProof.Rows.iadd_int ⟨.int (i+j),H,I.tok _,⟨_,rfl⟩,q⟩
end
section
variable {X:Cx} {pins:List (Addr×Obj)} {σ:St} {H:Hp} {s:Shared} {A:Around} {E:Value→Shared→Prop} {Q:Value→Shared→Prop} {c:Value} {b:Bool}
end
end L2
namespace L2
open PySem PySem.Spec PyProof.Rows
structure aF (k:Nat) (A:Around):Prop where
 hd:A.handled=none
 dp:A.depth+3*k+5<recursionLimit
 un:A.units+16*k+200<cLine
theorem aF.mono {j k:Nat} {A:Around} (r:aF k A) (h:j≤k):aF j A:=⟨r.hd,by have:=r.dp;omega,by have:=r.un;omega⟩
theorem aF.deeper {k:Nat} {A:Around} (r:aF (k+1) A) (env:Env):aF k (A.deeper env):=
 ⟨r.hd,by have:=r.dp;show A.depth+1+3*k+5<_;omega,by have:=r.un;show A.units+3+16*k+200<_;omega⟩
theorem OJ {A:Around} {C:Addr} {us:List Value} {kw:List (Str×Value)}:(A.under (.builtin "type.__call__" ⟨.ref C::us,kw⟩)).depth=A.depth+1:=by
 first|rfl|simp [Around.under,Code.weight,Code.isCreation,Code.isGuard,Code.isCaller,Code.frames,Code.isFrame,guardIds]
theorem Ih {A:Around} {C:Addr} {us:List Value} {kw:List (Str×Value)}:(A.under (.builtin "type.__call__" ⟨.ref C::us,kw⟩)).units=A.units+1:=by
 first|rfl|simp [Around.under,Code.cUnits,Code.frames,Code.isFrame]
theorem aF.make {k:Nat} {A:Around} (r:aF (k+1) A) (C:Addr) (us:List Value) (kw:List (Str×Value)):aF k (A.under (.builtin "type.__call__" ⟨.ref C::us,kw⟩)):=
 ⟨r.hd,by have:=r.dp;rw[OJ];omega,by have:=r.un;rw[Ih];omega⟩
theorem aF.depth {k:Nat} {A:Around} (r:aF k A):A.depth<recursionLimit:=by have:=r.dp;omega
theorem aF.units {k:Nat} {A:Around} (r:aF k A):A.units+64<cLine:=by have:=r.un;omega
def sM:TA:=fun _ H Q=>Q [] H
def EC (ta:TE) (tr:TA):TA:=fun σ H Q=>ta σ H fun x H1=>tr σ H1 fun xs H2=>Q (x::xs) H2
section
variable {X:Cx} {e:Expr} {es:List Expr} {te:TE} {t:TA} {pos:Pos}
theorem af:PA X [] sM:=fun _ _ _ _ H Q I h=>Calls.spliced_nil ⟨[],H,I, .nil,h⟩
theorem aa (ha:PE X e te) (hr:PA X es t) (hs:starEach (e::es) X.env=(false,eval e X.env)::starEach es X.env:=by rfl):PA X (e::es) (EC te t):=by
 intro pos pins s σ H Q I h
 rw[hs]
 show wpAny _ _ (spliced ((false,eval e X.env)::backTo pos (starEach es X.env))) _ _ s
 refine Calls.spliced_cons (aE (ha pins s σ H _ I h) fun u s1 ⟨x,H1,I1,r1,q1⟩=>?_)
 exact aE (hr pos pins s1 σ H1 _ I1 q1) fun us s2 ⟨xs,H2,I2,r2,q2⟩=>⟨x::xs,H2,I2, .cons r1 r2,q2⟩
def OP (t:TA):TE:=fun σ H Q=>t σ H fun xs H1=>xs.length≤sizeLine∧ ∀p,H1 p=none→Q (.ref p) (upd H1 p (.tup xs))
def NU (t:TA):TE:=fun σ H Q=>t σ H fun xs H1=>xs.length≤sizeLine∧ ∀p,H1 p=none→Q (.ref p) (upd H1 p (.lst xs))
theorem tE {x1} (h:PA X es t):PE X (.Tuple es x1 pos) (OP t):=by
 intro pins s σ H Q I hq
 refine wpAny_Tuple_spliced (aE (h pos pins s σ H _ I hq) fun us s1 ⟨xs,H1,I1,r,z,q⟩=>⟨by rw[←r.length];exact z,?_⟩)
 have hf:H1 s1.heap.objs.size=none:=I1.ao.fresh (Nat.le_refl _)
 refine ⟨.ref s1.heap.objs.size,upd H1 s1.heap.objs.size (.tup xs),I1.laid (t':=s1.toks) (fun b u e=>Heap.get?_push_of_some _ e) (Nat.le_refl _) ?_,rfl,q _ hf⟩
 exact ⟨z,us,r,⟨_,Heap.get?_push_size _ rfl,rfl,_,rfl⟩⟩
theorem cg (h:PA X es t):PE X (.List es pos) (NU t):=by
 intro pins s σ H Q I hq
 refine wpAny_List_spliced (aE (h pos pins s σ H _ I hq) fun us s1 ⟨xs,H1,I1,r,z,q⟩=>⟨by rw[←r.length];exact z,?_⟩)
 have hf:H1 s1.heap.objs.size=none:=I1.ao.fresh (Nat.le_refl _)
 refine ⟨.ref s1.heap.objs.size,upd H1 s1.heap.objs.size (.lst xs),I1.laid (t':=s1.toks) (fun b u e=>Heap.get?_push_of_some _ e) (Nat.le_refl _) ?_,rfl,q _ hf⟩
 exact ⟨z,us,0,r,Heap.get?_push_size _ rfl⟩
end
abbrev Sp:=List V→Hp→VK→XK→Prop
abbrev d5:=List Env→Hp→Shared→XK→Value→Shared→Prop
structure iY (P:Program) (w:World) (K:PySem.W.Frag) (mg:Str→Option Value) (base:Heap) (A:Around) (outer:List Env) (s:Shared) (H:Hp):Prop where
 frames:A.frames=some outer
 mod:Mod K mg base
 bs: ∀b o,base.get? b=some o→s.heap.get? b=some o∧H b=none
 ek:base.objs.size≤s.heap.objs.size
 dc:s.heap.FunFrames base outer
 fN: ∀b∈bj outer,H b=none
 ao:bO P w H s.heap
 bare:AllBare s.gens
def CE (outer:List Env) (P:Program) (w:World) (H:Hp) (s:Shared) (Q:VK) (u:Value) (s':Shared):Prop:=
 ∃v H',s'.os=s.os∧AllBare s'.gens∧Un (bj outer) [] H H' s.heap s'.heap∧bO P w H' s'.heap∧RelV v u∧Q v H'
def CR (CX:d5) (outer:List Env) (P:Program) (w:World) (H:Hp) (s:Shared) (Q:VK) (E:XK) (r:Result) (s':Shared):Prop:=
 match r with
 | .ok (.ret u)=>CE outer P w H s Q u s'
 | .ok _=>False
 | .error e=>CX outer H s E e s'
structure az (P:Program) (w:World) (K:PySem.W.Frag) (mg:Str→Option Value) (base:Heap) (CX:d5) (k:Nat) (f:Addr) (fd:FuncData) (ps:List Str) (sp:Sp):Prop where
 len: ∀vs H Q E,sp vs H Q E→vs.length=ps.length
 run: ∀(A:Around) (outer:List Env) (s:Shared) (H:Hp) (args:Args) (us:List Value) (vs:List V) (Q:VK) (E:XK),aF k A→iY P w K mg base A outer s H→BindsTo s fd args (ps.zip us)→Vals vs us→sp vs H Q E→
  codeAny (model P w) A (.call (.ref f) args) (CR CX outer P w H s Q E) s
theorem az.mono {P:Program} {w:World} {K:PySem.W.Frag} {mg:Str→Option Value} {base:Heap} {CX:d5} {j k:Nat} {f:Addr} {fd:FuncData} {ps:List Str} {sp:Sp} (F:az P w K mg base CX j f fd ps sp) (h:j≤k):
  az P w K mg base CX k f fd ps sp:=⟨F.len,fun A outer s H args us vs Q E hr=>F.run A outer s H args us vs Q E (hr.mono h)⟩
theorem az.imp {P:Program} {w:World} {K:PySem.W.Frag} {mg:Str→Option Value} {base:Heap} {CX:d5} {k:Nat} {f:Addr} {fd:FuncData} {ps:List Str} {sp sp':Sp} (F:az P w K mg base CX k f fd ps sp)
  (h: ∀vs H Q E,sp' vs H Q E→sp vs H Q E):az P w K mg base CX k f fd ps sp':=
 ⟨fun vs H Q E q=>F.len vs H Q E (h _ _ _ _ q),fun A outer s H args us vs Q E hr he hb hv hs=>F.run A outer s H args us vs Q E hr he hb hv (h _ _ _ _ hs)⟩
theorem iY.make {P:Program} {w:World} {K:PySem.W.Frag} {mg:Str→Option Value} {base:Heap} {A:Around} {outer:List Env} {s:Shared} {H:Hp} (e:iY P w K mg base A outer s H) (C:Addr) (us:List Value) (kw:List (Str×Value)):
  iY P w K mg base (A.under (.builtin "type.__call__" ⟨.ref C::us,kw⟩)) outer s H:=⟨by first|exact e.frames|(simpa [Around.under,Code.envs,Code.isFrame,pushEnvs] using e.frames),e.mod,e.bs,e.ek,e.dc,e.fN,e.ao,e.bare⟩
section
variable {X:Cx} {pins:List (Addr×Obj)} {σ:St} {H:Hp} {s s':Shared}
theorem Inv.rF (I:Inv X pins σ H s):iY X.prog X.w X.K X.mg X.base X.A X.stack s H:=
 ⟨I.ok.frames,I.ok.mod,I.bs,Nat.le_trans I.ok.ek I.sz,I.stack,I.tJ,I.ao,I.bare⟩
theorem Inv.after {Q:VK} {u:Value} (I:Inv X pins σ H s) (h:CE X.stack X.prog X.w H s Q u s'):EP X pins σ Q u s':=by
 obtain ⟨v,H',os,bare,un,ao,r,q⟩:=h
 obtain ⟨hh,g,d,t,os'⟩:=s'
 obtain rfl:os'=s.os:=os
 exact ⟨v,H',I.call (h':=hh) (g':=g) (d':=d) (t':=t) (ch:= []) un ao bare (fun b z=>absurd z (by simp)),r,q⟩
end
def Gd (sp:Sp) (dvs:List V) (E:XK) (t:TA):TE:=fun σ H Q=>t σ H fun vs H1=>sp (vs++dvs) H1 Q E
def rD (C:Addr) (m:Str) (sp:Sp) (dvs:List V) (E:XK) (ta:TE) (t:TA):TE:=fun σ H Q=>ta σ H fun x H1=> ∃a dx fs,x= .ref a∧H1 a=some (.ins C dx fs)∧fs.lookup m=none∧
 t σ H1 fun vs H2=>sp (x::(vs++dvs)) H2 Q E
def QZ (C:Addr) (sp:Sp) (dvs:List V) (E:XK) (t:TA):TE:=fun σ H Q=>t σ H fun vs H1=> ∀x dx,H1 x=none→H1 dx=none→dx≠x→
 sp (.ref x::(vs++dvs)) (upd (upd H1 dx (.own x)) x (.ins C dx [])) (fun v H2=>v= .au∧Q (.ref x) H2) E
def Binds (K:PySem.W.Frag) (fd:FuncData) (ps:List Str) (ds:List Value):Prop:=
 ∀(s:Shared) (us:List Value),K.In s.heap→(us++ds).length=ps.length→BindsTo s fd ⟨us, []⟩ (ps.zip (us++ds))
theorem Binds.all {K:PySem.W.Frag} {fd:FuncData} {ps:List Str} (h: ∀us:List Value,us.length=ps.length→bindArgs fd ⟨us, []⟩=pure (ps.zip us)):Binds K fd ps []:=fun s us _ hl=>by
 rw[List.append_nil] at hl⊢
 exact .of_eq (h us hl)
def Passes (CX:d5) (X:Cx) (E:XK):Prop:= ∀(pins:List (Addr×Obj)) (σ:St) (H:Hp) (s:Shared) (e:Value) (s':Shared),Inv X pins σ H s→CX X.stack H s E e s'→X.xe e s'
section
variable {X:Cx} {CX:d5} {k:Nat} {f C:Addr} {fd:FuncData} {ps:List Str} {sp:Sp} {dvs:List V} {ds:List Value} {E:XK} {x m:Str} {p pos apos:Pos} {e o:Expr} {es:List Expr} {ta:TE} {t:TA}
theorem vR {pins:List (Addr×Obj)} {σ:St} {H:Hp} {s:Shared} {Q:VK} {us:List Value} {vs:List V} (F:az X.prog X.w X.K X.mg X.base CX k f fd ps sp) (hr:aF k X.A) (hb:Binds X.K fd ps ds) (hd:Vals dvs ds) (hx:Passes CX X E)
  (I:Inv X pins σ H s) (r:Vals vs us) (h:sp (vs++dvs) H Q E):wpAny (model X.prog X.w) X.A (call (.ref f) us) (EP X pins σ Q) X.xe s:=by
 have r2:Vals (vs++dvs) (us++ds):=r.append hd
 have hl:(us++ds).length=ps.length:=by rw[←r2.length];exact F.len _ _ _ _ h
 refine wpAny_call (codeAny_mono (F.run X.A X.stack s H ⟨us, []⟩ (us++ds) (vs++dvs) Q E hr I.rF (hb s us I.bV hl) r2 h) fun r s' hq=>?_)
 cases r with
 |error e=>exact hx pins σ H s e s' I hq
 |ok fl=>
  cases fl with
  |ret u=>exact I.after hq
  |next=>exact False.elim hq
  |brk=>exact False.elim hq
  |cont=>exact False.elim hq
theorem aS (F:az X.prog X.w X.K X.mg X.base CX k f fd ps sp) (hr:aF k X.A) (hg:Gl X x) (hm:X.mg x=some (.ref f)) (hk:PySem.W.keepIn X.K (.ref f)=true) (hb:Binds X.K fd ps ds) (hd:Vals dvs ds) (hx:Passes CX X E)
  (ha:PA X (e::es) t) (hdb:(x==("__debug__" :Str))=false:=by decide) (he:starEach (e::es) X.env=(false,eval e X.env)::starEach es X.env:=by rfl) (hpl:(backTo pos (starEach es X.env)).any (·.1)=false:=by rfl):
  PE X (.Call (.Name x p) (e::es) [] pos) (Gd sp dvs E t):=by
 intro pins s σ H Q I h
 refine wpAny_Call_Name_kw (jw I hg hm ?_ hdb)
 refine PySem.W.callWith_K (h₀:=X.base) I.ok.mod.gZ hk (aE (ha pos pins s σ H _ I h) fun us s1 ⟨vs,H1,I1,r,q⟩=>⟨I1.bV,?_⟩) he hpl
 exact vR F hr hb hd hx I1 r q
theorem aP {pl:Sem Bool} (he:PE X o ta) (c:b8 X.K C) (hm:Meth X.K C m f) (F:az X.prog X.w X.K X.mg X.base CX k f fd ps sp) (hr:aF k X.A) (hb:Binds X.K fd ps ds) (hd:Vals dvs ds) (hx:Passes CX X E) (ha:PA X (e::es) t)
  (hst:starEach (e::es) X.env=(false,eval e X.env)::starEach es X.env:=by rfl) (hpl:(backTo pos (starEach es X.env)).any (·.1)=false:=by rfl)
  (ht:eval (.Call (.Attribute o m apos) (e::es) [] pos) X.env=(do
   let ov←eval o X.env
   standAt apos.atName
   let (f,first)←holding [ov] (getMethod ov m pl)
   callWith pos f first (backTo pos (starEach (e::es) X.env)) (backToKw pos (keywordEach [] X.env))):=by rfl):
  PE X (.Call (.Attribute o m apos) (e::es) [] pos) (rD C m sp dvs E ta t):=by
 intro pins s σ H Q I h
 refine PySem.W.methodCall_KW (pl:=pl) (aE (he pins s σ H _ I h) fun u s1 ⟨x,H1,I1,rx,a,dx,fs,ex,ea,l,q⟩=>?_) ht
 subst ex
 obtain rfl:u=Value.ref a:=rx
 refine ub I1 ea c hm l ?_
 refine PySem.W.callWith_K (first:= [.ref a]) (h₀:=X.base) I.ok.mod.gZ hm.kp (aE (ha pos pins s1 σ H1 _ I1 q) fun us s2 ⟨vs,H2,I2,r,q2⟩=>⟨I2.bV,?_⟩) hst hpl
 exact vR (us:= .ref a::us) (vs:= .ref a::vs) F hr hb hd hx I2 (.cons rfl r) q2
theorem Bj {pl:Sem Bool} (he:PE X o ta) (c:b8 X.K C) (hm:Meth X.K C m f) (F:az X.prog X.w X.K X.mg X.base CX k f fd ps sp) (hr:aF k X.A) (hb:Binds X.K fd ps ds) (hd:Vals dvs ds) (hx:Passes CX X E)
  (ht:eval (.Call (.Attribute o m apos) [] [] pos) X.env=(do
   let ov←eval o X.env
   standAt apos.atName
   let (f,first)←holding [ov] (getMethod ov m pl)
   callWith pos f first (backTo pos (starEach [] X.env)) (backToKw pos (keywordEach [] X.env))):=by rfl):
  PE X (.Call (.Attribute o m apos) [] [] pos) (rD C m sp dvs E ta sM):=by
 intro pins s σ H Q I h
 refine PySem.W.methodCall_KW (pl:=pl) (aE (he pins s σ H _ I h) fun u s1 ⟨x,H1,I1,rx,a,dx,fs,ex,ea,l,q⟩=>?_) ht
 subst ex
 obtain rfl:u=Value.ref a:=rx
 refine ub I1 ea c hm l ?_
 exact PySem.W.callWith_K0 (first:= [.ref a]) I1.bV hm.kp (vR (us:= [.ref a]) (vs:= [.ref a]) F hr hb hd hx I1 (.cons rfl .nil) q)
structure Mk (K:PySem.W.Frag) (C f:Addr):Prop where
 makes:PySem.W.makesIn K C=true
 init:PySem.W.findIn K (.ref C) "__init__" =some (some (.ref f))
 fn:PySem.W.isFn K (.ref f)=true
 kp:PySem.W.keepIn K (.ref C)=true
theorem JZ {pins:List (Addr×Obj)} {σ:St} {H:Hp} {s:Shared} {Q:VK} {us:List Value} {vs:List V} (M:Mk X.K C f) (F:az X.prog X.w X.K X.mg X.base CX k f fd ps sp) (hr:aF (k+1) X.A) (hb:Binds X.K fd ps ds) (hd:Vals dvs ds)
  (hx:Passes CX X E) (I:Inv X pins σ H s) (r:Vals vs us)
  (h: ∀x dx,H x=none→H dx=none→dx≠x→sp (.ref x::(vs++dvs)) (upd (upd H dx (.own x)) x (.ins C dx [])) (fun v H2=>v= .au∧Q (.ref x) H2) E):
  wpAny (model X.prog X.w) X.A (call (.ref C) us) (EP X pins σ Q) X.xe s:=by
 have hq:=h (s.heap.objs.size+1) s.heap.objs.size (I.ao.fresh (Nat.le_succ _)) (I.ao.fresh (Nat.le_refl _)) (Nat.ne_of_lt (Nat.lt_succ_self _))
 have I2:=Inv.made (C:=C) I
 have r2:Vals (V.ref (s.heap.objs.size+1)::(vs++dvs)) (Value.ref (s.heap.objs.size+1)::(us++ds)):= .cons rfl (r.append hd)
 have hl:(Value.ref (s.heap.objs.size+1)::us++ds).length=ps.length:=by
  have e:=r2.length
  rw[F.len _ _ _ _ hq] at e
  exact e.symm
 refine wpAny_call (RP (f:=f) I.bV M.makes M.init (beq_iff_eq.mp M.fn) (codeAny_mono (F.run _ X.stack _ _ ⟨Value.ref (s.heap.objs.size+1)::us, []⟩ (Value.ref (s.heap.objs.size+1)::(us++ds)) _ _ E (hr.make C us [])
  (I2.rF.make C us []) (hb _ (Value.ref (s.heap.objs.size+1)::us) I2.bV hl) r2 hq) fun r s' hq'=>?_))
 cases r with
 |error e=>exact hx pins σ _ _ e s' I2 hq'
 |ok fl=>
  cases fl with
  |ret u=>
   obtain ⟨v,H',I3,rv,ev,q3⟩:=I2.after hq'
   subst ev
   exact ⟨rv,⟨V.ref (s.heap.objs.size+1),H',I3,rfl,q3⟩⟩
  |next=>exact False.elim hq'
  |brk=>exact False.elim hq'
  |cont=>exact False.elim hq'
theorem fY (M:Mk X.K C f) (F:az X.prog X.w X.K X.mg X.base CX k f fd ps sp) (hr:aF (k+1) X.A) (hg:Gl X x) (hm:X.mg x=some (.ref C)) (hb:Binds X.K fd ps ds) (hd:Vals dvs ds) (hx:Passes CX X E)
  (ha:PA X (e::es) t) (hdb:(x==("__debug__" :Str))=false:=by decide) (he:starEach (e::es) X.env=(false,eval e X.env)::starEach es X.env:=by rfl) (hpl:(backTo pos (starEach es X.env)).any (·.1)=false:=by rfl):
  PE X (.Call (.Name x p) (e::es) [] pos) (QZ C sp dvs E t):=by
 intro pins s σ H Q I h
 refine wpAny_Call_Name_kw (jw I hg hm ?_ hdb)
 refine PySem.W.callWith_K (h₀:=X.base) I.ok.mod.gZ M.kp (aE (ha pos pins s σ H _ I h) fun us s1 ⟨vs,H1,I1,r,q⟩=>⟨I1.bV,?_⟩) he hpl
 exact JZ M F hr hb hd hx I1 r q
end
section
variable {X:Cx} {CX:d5} {k:Nat} {f C:Addr} {fd:FuncData} {ps ks:List Str} {sp:Sp} {E:XK} {x m:Str} {p pos apos kpos:Pos} {e o:Expr} {es:List Expr} {kws:List Keyword} {te ta:TE} {t tk:TA} {nm:Option Str}
variable {g:List Value→List Value→List Value} {gV:List V→List V→List V}
end
structure aK (N P:List Str) (sc:Scope):Prop where
 kind:sc.kind= .function
 co:sc.isCoroutine=false
 gen:sc.isGenerator=false
 nd:N.Nodup
 pre:N.take P.length=P
 par: ∀x∈P,sc.names.lookup x=some .local∨sc.names.lookup x=some .cell
 Il: ∀y∈sc.names,y.2≠ .free
theorem C1 {kindOf:Str→Option NameKind} {x:Str}: ∀{binds:List (Str×Value)} {m:Str→Option Value},(∀v,(x,v)∉binds)→bindL kindOf binds m x=m x
 | [],_,_=>rfl
 |(n,v)::r,m,h=>by
  unfold bindL
  rw[C1 fun w hw=>h w (List.mem_cons_of_mem _ hw)]
  split
  ·have:x≠n:=by rintro rfl;exact h v List.mem_cons_self
   simp [this]
  ·rfl
theorem Dm {kindOf:Str→Option NameKind} {x:Str}: ∀{binds:List (Str×Value)} {m:Str→Option Value},(∀v,(x,v)∉binds)→bindC kindOf binds m x=m x
 | [],_,_=>rfl
 |(n,v)::r,m,h=>by
  unfold bindC
  rw[Dm fun w hw=>h w (List.mem_cons_of_mem _ hw)]
  split
  ·rfl
  ·have:x≠n:=by rintro rfl;exact h v List.mem_cons_self
   simp [this]
theorem yo {kindOf:Str→Option NameKind} {x:Str} {v:Value}: ∀{P:List Str} {vs:List Value} {i:Nat} {m:Str→Option Value},P.Nodup→P[i]?=some x→vs[i]?=some v→kindOf x=some .local→
  bindL kindOf (P.zip vs) m x=some v
 | [],_,_,_,_,h,_,_=>by simp at h
 |_::_, [],_,_,_,_,h,_=>by simp at h
 |p::P,w::vs,0,m,nd,h1,h2,hk=>by
  simp at h1 h2;subst h1;subst h2
  show bindL kindOf ((p,w)::P.zip vs) m p=_
  unfold bindL
  rw[C1 fun v hv=>(List.nodup_cons.mp nd).1 (List.of_mem_zip hv).1,if_pos hk]
  simp
 |p::P,w::vs,i+1,m,nd,h1,h2,hk=>by
  show bindL kindOf ((p,w)::P.zip vs) m x=_
  unfold bindL
  exact yo (i:=i) (List.nodup_cons.mp nd).2 (by simpa using h1) (by simpa using h2) hk
theorem Ac {kindOf:Str→Option NameKind} {x:Str} {v:Value}: ∀{P:List Str} {vs:List Value} {i:Nat} {m:Str→Option Value},P.Nodup→P[i]?=some x→vs[i]?=some v→kindOf x≠some .local→
  bindC kindOf (P.zip vs) m x=some v
 | [],_,_,_,_,h,_,_=>by simp at h
 |_::_, [],_,_,_,_,h,_=>by simp at h
 |p::P,w::vs,0,m,nd,h1,h2,hk=>by
  simp at h1 h2;subst h1;subst h2
  show bindC kindOf ((p,w)::P.zip vs) m p=_
  unfold bindC
  rw[Dm fun v hv=>(List.nodup_cons.mp nd).1 (List.of_mem_zip hv).1,if_neg hk]
  simp
 |p::P,w::vs,i+1,m,nd,h1,h2,hk=>by
  show bindC kindOf ((p,w)::P.zip vs) m x=_
  unfold bindC
  exact Ac (i:=i) (List.nodup_cons.mp nd).2 (by simpa using h1) (by simpa using h2) hk
def start (N:List Str) (vs:List V):St:=vs.map some++List.replicate (N.length-vs.length) none
def fF (CX:d5) (P:Program) (w:World) (K:PySem.W.Frag) (mg:Str→Option Value) (base:Heap) (N:List Str) (qual:Str) (scope:Scope) (f:Addr) (cd:Value) (A:Around) (outer:List Env) (s:Shared) (H:Hp) (E:XK):Cx where
 prog:=P
 w:=w
 K:=K
 mg:=mg
 base:=base
 A:=A.deeper (envOfC qual scope s.heap.objs.size f cd)
 N:=N
 bx:=s
 km:=H
 env:=envOfC qual scope s.heap.objs.size f cd
 outer:=outer
 stack:=envOfC qual scope s.heap.objs.size f cd::outer
 ex:= []
 calm:=true
 fn:=fun _=>true
 pn:= []
 xe:=fun e s'=>wpAny (model P w) (A.deeper (envOfC qual scope s.heap.objs.size f cd)) (leaving (envOfC qual scope s.heap.objs.size f cd) e) (fun _ s''=>CX outer H s E e s'') (fun e' s''=>CX outer H s E e' s'') s'
theorem CG {sc:Scope} {n:Nat} {x:Str} (h:sc.names.lookup x=some .cell): ∃c,(cellsFrom n sc.names []).lookup x=some c:=by
 have q:=PySem.W.cellsFrom_some sc.names n [] (.inl h)
 exact Option.isSome_iff_exists.mp q
theorem CP {CX:d5} {P:Program} {w:World} {K:PySem.W.Frag} {mg:Str→Option Value} {base:Heap} {N ps:List Str} {qual:Str} {scope:Scope} {f:Addr} {cd:Value} {A:Around} {outer:List Env} {s s1:Shared} {H:Hp} {E:XK} {us:List Value} {vs:List V}
  (S:aK N ps scope) (hd:A.handled=none) (e0:iY P w K mg base A outer s H) (hl:vs.length=ps.length) (r:Vals vs us)
  (x:InCallC s s.heap.objs.size (bindL (envOfC qual scope s.heap.objs.size f cd).kindOf (ps.zip us) fun _=>none) (cellsFrom (s.heap.objs.size+1) scope.names []) (bindC (envOfC qual scope s.heap.objs.size f cd).kindOf (ps.zip us) fun _=>none) s1):
  Inv (fF CX P w K mg base N qual scope f cd A outer s H E) [] (start N vs) H s1:=by
 have hpl:ps.length≤N.length:=by have:=congrArg List.length S.pre;rw[List.length_take] at this;omega
 obtain ⟨h1,tk,rfl,hk⟩:=x.done
 have noA: ∀b:Addr,b∉(fF CX P w K mg base N qual scope f cd A outer s H E).ex:=fun b z=>absurd (show b∈([]:List Addr) from z) (by simp)
 refine ⟨⟨e0.mod,S.kind,rfl,rfl,Nat.le_refl _,fun y z c h1 h2=>?_,fun y hy=>?_,fun y c _ h=>?_,fun _=>hd,Around.frames_deeper e0.frames, .inr ⟨rfl,rfl⟩,fun b z=>absurd z (noA b),e0.bs,e0.ek,fun b _ _=>noA b,fun b z=>absurd z (noA b),e0.dc,e0.fN⟩,
  rfl,e0.bare,Un.kept hk,⟨_,x.toInCall.ns,fun i y v h1 h2 h3=>?_⟩,fun y c h=>⟨_,x.cell y c h⟩,e0.ao.fresh (Nat.le_refl _),fun y c h=>?_,fun p hp=>absurd (show p∈([]:List (Addr×Obj)) from hp) (by simp),e0.ao.kept hk,?_⟩
 ·exact name_of_addr x.apart (PySem.mem_of_lookup h1) (PySem.mem_of_lookup h2)
 ·have hy:scope.names.lookup y=some .cell∨scope.names.lookup y=some .free:=hy
  rcases hy with hy|hy
  ·exact CG hy
  ·exact absurd rfl (S.Il _ (PySem.mem_of_lookup hy))
 ·exact Nat.le_of_lt (x.above y c (PySem.mem_of_lookup h))
 ·have hi:i<vs.length:=by
   unfold start at h2
   by_cases hi:i<vs.length
   ·exact hi
   ·rw[List.getElem?_append_right (by simpa using hi)] at h2
    rw[List.getElem?_replicate] at h2
    split at h2<;>cases h2
  have ha:vs[i]?=some v:=by
   unfold start at h2
   rw[List.getElem?_append_left (by simpa using hi),List.getElem?_map] at h2
   cases e:vs[i]? with
   |none=>rw[e] at h2;cases h2
   |some a=>rw[e] at h2;cases h2;rfl
  obtain ⟨u,hu,rv⟩:=r.get ha
  have hp:ps[i]?=some y:=by
   rw[←S.pre,List.getElem?_take_of_lt (by omega)];exact h1
  have ndP:ps.Nodup:=by rw[←S.pre];exact S.nd.sublist (List.take_sublist _ _)
  refine ⟨u,rv,?_⟩
  rcases S.par y (List.mem_of_getElem? hp) with k|k
  ·exact .inl ⟨k,yo ndP hp hu k⟩
  ·obtain ⟨c,e⟩:=CG (n:=s.heap.objs.size+1) k
   refine .inr ⟨.inl k,c,e,?_⟩
   have q:=x.cell y c e
   rw[Ac ndP hp hu (by show scope.names.lookup y≠_;rw[k];decide)] at q
   exact q
 ·exact e0.ao.fresh (Nat.le_of_lt (x.above y c (PySem.mem_of_lookup h)))
 ·unfold start
  show _=N.length
  rw[List.length_append,List.length_map,List.length_replicate]
  omega
theorem B9 {CX:d5} {P:Program} {w:World} {K:PySem.W.Frag} {mg:Str→Option Value} {base:Heap} {k:Nat} {f:Addr} {name qual:Str} {params:Arguments} {body:List Stmt} {scope:Scope} {dV kV doc pm cdv ct oc:Value} {an od:Option Addr}
  {osl:Array (Option Value)} {N ps:List Str} {sp:Sp} (lk:K.lookup f=some ⟨oc,od, .func (PySem.W.fnOf name qual params body scope dV kV doc pm an cdv ct),osl⟩) (hcd:PySem.W.codeIn K cdv qual=true) (S:aK N ps scope)
  (len: ∀vs H Q E,sp vs H Q E→vs.length=ps.length)
  (hbody: ∀(A:Around) (outer:List Env) (s:Shared) (H:Hp) (vs:List V) (Q:VK) (E:XK),aF k (A.deeper (envOfC qual scope s.heap.objs.size f cdv))→sp vs H Q E→
   ∃t,cP (fF CX P w K mg base N qual scope f cdv A outer s H E) body t∧t {nx:=fun _ H'=>Q .au H',rt:=Q} (start N vs) H):
  az P w K mg base CX (k+1) f (PySem.W.fnOf name qual params body scope dV kV doc pm an cdv ct) ps sp:=by
 refine ⟨len,fun A outer s H args us vs Q E hr e0 hb r hsp=>?_⟩
 have hl:=len _ _ _ _ hsp
 have KX:K.In s.heap:=e0.mod.gZ.keeps fun b o e=>(e0.bs b o e).1
 have lim:s.heap.NoLimit:=e0.mod.nolimit.keeps fun b o e=>(e0.bs b o e).1
 have hkind: ∀y∈ps.zip us,scope.names.lookup y.1=some .local∨(scope.names.lookup y.1=some .cell∧((cellsFrom (s.heap.objs.size+1) scope.names []).lookup y.1).isSome=true):=fun ⟨n,v⟩ hy=>by
  rcases S.par n (List.of_mem_zip hy).1 with q|q
  ·exact .inl q
  ·exact .inr ⟨q,PySem.W.cellsFrom_some _ _ _ (.inl q)⟩
 refine codeAny_call_function hr.depth (KX _ _ lk) rfl S.co S.gen rfl (PySem.W.codeRec_of KX hcd) (hb _ _ _ _ ?_)
 refine wpAny_newFunctionEnv_cells S.kind hkind fun env he s1 x=>?_
 subst he
 refine ⟨lim.keeps x.toInCall.keep,codeAny_func ?_⟩
 obtain ⟨t,ht,hq⟩:=hbody A outer s H vs Q E (hr.deeper _) hsp
 have I:Inv (fF CX P w K mg base N qual scope f cdv A outer s H E) [] (start N vs) H s1:=CP S hr.hd e0 hl r x
 refine wpAny_mono (ht [] s1 (start N vs) H _ I hq) (fun fl s' hs=>?_) fun e s' hs=>hs
 have fin: ∀{σ':St} {H':Hp} {v:V} {u:Value},Inv (fF CX P w K mg base N qual scope f cdv A outer s H E) [] σ' H' s'→RelV v u→Q v H'→CE outer P w H s Q u s':=
  fun {σ' H' v u} J rv q=>⟨v,H',J.os,J.bare,J.base,J.ao,rv,q⟩
 cases fl with
 |ret u=>
  obtain ⟨v,σ',H',J,rv,q⟩:=hs
  exact fin J rv q
 |next=>
  obtain ⟨σ',H',J,q⟩:=hs
  exact fin (v:=V.au) (u:=Value.none) J rfl q
 |brk=>
  obtain ⟨_,_,_,q⟩:=hs
  exact False.elim q
 |cont=>
  obtain ⟨_,_,_,q⟩:=hs
  exact False.elim q
end L2
namespace L2
open PySem PySem.Spec PyProof.Rows
section
variable {X:Cx} {x:Str} {p pos:Pos} {e:Expr} {es:List Expr} {t:TA} {id T:String} {r:List V→Hp→VK→Prop}
def Ax (r:List V→Hp→VK→Prop) (t:TA):TE:=fun σ H Q=>t σ H fun vs H1=>r vs H1 Q
theorem cq (hc:iq X (.builtin id) r) (hg:Gl X x) (hm:X.mg x=none) (hv:bootBuiltins x=some (.builtin id)) (ha:PA X (e::es) t) (hn:x≠ "__name__" :=by decide) (hdb:(x==("__debug__" :Str))=false:=by decide)
  (he:starEach (e::es) X.env=(false,eval e X.env)::starEach es X.env:=by rfl) (hpl:(backTo pos (starEach es X.env)).any (·.1)=false:=by rfl):PE X (.Call (.Name x p) (e::es) [] pos) (Ax r t):=by
 intro pins s σ H Q I h
 refine wpAny_Call_Name_kw (iC I hg hm hv ?_ hn hdb)
 exact PyProof.Rows.callWith_builtin1 (aE (ha pos pins s σ H _ I h) fun us s1 ⟨vs,H1,I1,r1,q1⟩=>hc pins s1 σ H1 vs us Q I1 r1 q1) he hpl
theorem wg (hc:iq X (.type T) r) (hg:Gl X x) (hm:X.mg x=none) (hv:bootBuiltins x=some (.type T)) (ha:PA X (e::es) t) (hn:x≠ "__name__" :=by decide) (hdb:(x==("__debug__" :Str))=false:=by decide)
  (he:starEach (e::es) X.env=(false,eval e X.env)::starEach es X.env:=by rfl) (hpl:(backTo pos (starEach es X.env)).any (·.1)=false:=by rfl):PE X (.Call (.Name x p) (e::es) [] pos) (Ax r t):=by
 intro pins s σ H Q I h
 refine wpAny_Call_Name_kw (iC I hg hm hv ?_ hn hdb)
 exact PyProof.Rows.callWith_type1 (aE (ha pos pins s σ H _ I h) fun us s1 ⟨vs,H1,I1,r1,q1⟩=>hc pins s1 σ H1 vs us Q I1 r1 q1) he hpl
end
end L2
namespace HT
open PySem PyProof.Rows
section
open PySem.SeqAt
open PySem.AutoSeq1 (wpAny_loadPart')
open PySem.MeetsSeq PySem.MeetsSeq2 PySem.MeetsSeq3
end
section
variable {prog:Program} {w:World} {A:Around} {E:Value→Shared→Prop} {s:Shared}
def dz (n d:Nat):Option Int→Nat
 |none=>d
 |some v=>if v<0 then (v+(n:Int)).toNat else min v.toNat n
end
end HT
namespace L2
open PySem PySem.Spec PyProof.Rows
abbrev TO:=St→Hp→(Option Int→Hp→Prop)→Prop
def PO (X:Cx) (e:Option Expr) (t:TO):Prop:=
 ∀(pins:List (Addr×Obj)) (s:Shared) (σ:St) (H:Hp) (Q:Option Int→Hp→Prop),Inv X pins σ H s→t σ H Q→
  wpAny (model X.prog X.w) X.A (evalPart e X.env) (fun u s'=> ∃o H',Inv X pins σ H' s'∧IsPart u o∧Q o H') X.xe s
def ID:TO:=fun _ H Q=>Q none H
def Pj (t:TE):TO:=fun σ H Q=>t σ H fun x H1=> ∃i,x= .int i∧Q (some i) H1
section
variable {X:Cx} {e:Expr} {te:TE} {lo hi:Option Expr} {tl th:TO} {pos p2:Pos}
theorem qe:PO X none ID:=by
 intro pins s σ H Q I h
 rw[evalPart_none]
 exact wpAny_pure ⟨none,H,I, .none,h⟩
theorem cQ (h:PE X e te):PO X (some e) (Pj te):=by
 intro pins s σ H Q I hw
 rw[evalPart_some]
 refine aE (h pins s σ H _ I hw) fun u s1 ⟨x,H1,I1,r1,q1⟩=>?_
 obtain ⟨i,rfl,q⟩:=q1
 obtain ⟨t,rfl⟩:=r1
 exact ⟨some i,H1,I1, .int i t,q⟩
def v8 (X:Cx) (r:V→Option Int→Option Int→Hp→VK→Prop):Prop:=
 ∀(pins:List (Addr×Obj)) (s:Shared) (σ:St) (H:Hp) (x:V) (v vl vu:Value) (lo hi:Option Int) (sl:Addr) (Q:VK),Inv X pins σ H s→RelV x v→s.heap.IsSliceOf sl vl vu .none→IsPart vl lo→IsPart vu hi→r x lo hi H Q→
  ∃T id,typeLookup (.type T) "__getitem__" =pure (some (.builtin id))∧s.TypeIs v T∧wpAny (model X.prog X.w) X.A (getItem v (.ref sl)) (EP X pins σ Q) X.xe s
def KU (r:V→Option Int→Option Int→Hp→VK→Prop) (te:TE) (tl th:TO):TE:=fun σ H Q=>te σ H fun x H1=>tl σ H1 fun l H2=>th σ H2 fun u H3=>r x l u H3 Q
theorem eZ {r:V→Option Int→Option Int→Hp→VK→Prop} (hr:v8 X r) (he:PE X e te) (hl:PO X lo tl) (hu:PO X hi th):PE X (.Subscript e (.Slice lo hi none p2) pos) (KU r te tl th):=by
 intro pins s σ H Q I h
 refine Subscript_ (aE (he pins s σ H _ I h) fun v s1 ⟨x,H1,I1,r1,q1⟩=>?_)
 refine wpAny_Slice (aE (hl pins s1 σ H1 _ I1 q1) fun vl s2 ⟨l,H2,I2,pl,q2⟩=>aE (hu pins s2 σ H2 _ I2 q2) fun vu s3 ⟨u,H3,I3,pu,q3⟩=>?_)
 rw[evalPart_none]
 refine wpAny_pure ?_
 have I4:Inv X pins σ H3 {s3 with heap:=s3.heap.push {cls:= .type "slice",data:= .fields #[vl,vu, .none]}}:=I3.kept (t':=s3.toks) fun b ob q=>Heap.get?_push_of_some _ q
 obtain ⟨T,id,hT,ht,hg⟩:=hr pins {s3 with heap:=s3.heap.push {cls:= .type "slice",data:= .fields #[vl,vu, .none]}} σ H3 x v vl vu l u s3.heap.objs.size Q I4 r1 (Heap.IsSliceOf.new ..) pl pu q3
 show wpAny (model X.prog X.w) X.A (subscriptTail e (.Slice lo hi none p2) v (.ref s3.heap.objs.size)) (EP X pins σ Q) X.xe {s3 with heap:=s3.heap.push {cls:= .type "slice",data:= .fields #[vl,vu, .none]}}
 exact tail_any (ops:= [.ref s3.heap.objs.size,v]) ht hT hg (by with_unfolding_all rfl)
def dE (xs:List V) (lo hi:Option Int):List V:=(xs.drop (HT.dz xs.length 0 lo)).take (HT.dz xs.length xs.length hi-HT.dz xs.length 0 lo)
theorem M3 (xs:List V) (lo hi:Option Int):(dE xs lo hi).length≤xs.length:=by
 unfold dE
 rw[List.length_take,List.length_drop]
 omega
end
end L2
namespace L2
open PySem PySem.Spec PyProof.Rows
def iS (n:Nat) (i:Int):Option Nat:=if 0≤i then (if i<n then some i.toNat else none) else if-(n:Int)≤i then some (i+n).toNat else none
def fZ {α:Type} (xs:List α) (i:Int):Option α:=(iS xs.length i).bind fun j=>xs[j]?
theorem MT {n:Nat} {i:Int} {j:Nat} (h:iS n i=some j):seqIndex? i n=some j∧j<n∧ -(n:Int)≤i∧i<n:=by
 unfold iS at h
 by_cases h0:0≤i
 ·rw[if_pos h0] at h
  by_cases h1:i<n
  ·rw[if_pos h1] at h
   have e:i.toNat=j:=Option.some.inj h
   exact ⟨by rw[seqIndex_of h0 h1,e],by omega,by omega,h1⟩
  ·rw[if_neg h1] at h;cases h
 ·rw[if_neg h0] at h
  by_cases h1: -(n:Int)≤i
  ·rw[if_pos h1] at h
   have e:(i+n).toNat=j:=Option.some.inj h
   exact ⟨by rw[seqIndex_neg (by omega) h1,e],by omega,h1,by omega⟩
  ·rw[if_neg h1] at h;cases h
theorem CZ {α:Type} {xs:List α} {i:Int} {v:α} (h:fZ xs i=some v): ∃j,seqIndex? i xs.length=some j∧xs[j]?=some v∧j<xs.length∧ -(xs.length:Int)≤i∧i<xs.length:=by
 unfold fZ at h
 cases e:iS xs.length i with
 |none=>rw[e] at h;cases h
 |some j=>
  rw[e] at h
  obtain ⟨h1,h2,h3,h4⟩:=MT e
  exact ⟨j,h1,h,h2,h3,h4⟩
theorem cv {α:Type} {xs:List α} {j:Nat} {v:α} (h:xs[j]?=some v):fZ xs (j:Int)=some v:=by
 have hj:j<xs.length:=(List.getElem?_eq_some_iff.mp h).1
 have e:iS xs.length (j:Int)=some j:=by
  unfold iS
  rw[if_pos (by omega),if_pos (by omega)];simp
 unfold fZ;rw[e];exact h
theorem JV {α:Type} (xs:List α) (v:α):fZ (xs++ [v]) (-1)=some v:=by
 have hl:(xs++ [v]).length=xs.length+1:=by simp
 have e:iS (xs++ [v]).length (-1)=some xs.length:=by
  unfold iS
  rw[hl,if_neg (by decide),if_pos (by omega)]
  congr 1
  omega
 unfold fZ
 rw[e]
 show (xs++ [v])[xs.length]?=some v
 simp
def Of (b:Expr):Prop:= ∀o i,subscripted b false o i=operate [o,i] (getItem o i)
def lT (X:Cx) (r:R2):Prop:=
 ∀(value slice:Expr) (pins:List (Addr×Obj)) (s:Shared) (σ:St) (H:Hp) (x y:V) (v u:Value) (Q:VK),Inv X pins σ H s→RelV x v→RelV y u→r x y H Q→
  subscripted slice false v u=operate [v,u] (getItem v u)→wpAny (model X.prog X.w) X.A (subscriptTail value slice v u) (EP X pins σ Q) X.xe s
def BR (X:Cx) (id:String) (r:V→List V→Hp→VK→Prop):Prop:=
 ∀(pins:List (Addr×Obj)) (s:Shared) (σ:St) (H:Hp) (x:V) (xs:List V) (v:Value) (us:List Value) (Q:VK),Inv X pins σ H s→RelV x v→Vals xs us→r x xs H Q→
  wpAny (model X.prog X.w) X.A (call (.builtin id) (v::us)) (EP X pins σ Q) X.xe s
section
variable {X:Cx} {a b:Expr} {ta tb:TE} {pos:Pos}
theorem cH {r:R2} (hr:lT X r) (ha:PE X a ta) (hb:PE X b tb) (hs:Of b):PE X (.Subscript a b pos) (gW r ta tb):=by
 intro pins s σ H Q I h
 exact Subscript_ (xF ha hb I h fun v u s2 x y H2 I2 rx ry q=>hr a b pins s2 σ H2 x y v u Q I2 rx ry q (hs _ _))
def Co (K:PySem.W.Frag):R2:=fun x y H Q=> ∃p xs i v,x= .ref p∧y= .int i∧ah K H p xs∧fZ xs i=some v∧Q v H
def vJ (K:PySem.W.Frag):R2:=fun x y H Q=> ∃p xs i v,x= .ref p∧y= .int i∧aY K H p xs∧fZ xs i=some v∧Q v H
theorem dY:lT X (Co X.K):=by
 intro value slice pins s σ H x y v u Q I rx ry h hs
 obtain ⟨p,xs,i,z,rfl,rfl,hq,he,q⟩:=h
 cases rx
 obtain ⟨t,rfl⟩:=ry
 obtain ⟨its,r,pl,hz⟩:=I.list hq
 obtain ⟨j,h1,h2,h3,h4,h5⟩:=CZ he
 obtain ⟨w,ew,rw'⟩:=r.get h2
 have hl:=r.length
 have hn:=vX
 have fin:EP X pins σ Q w s:=⟨z,H,I,rw',q⟩
 by_cases h0:0≤i
 ·have hj:i.toNat=j:=by
   rw[seqIndex_of h0 h5] at h1
   exact Option.some.inj h1
  exact item_listR pl.isList h0 (by omega) (by rw[hj];simpa using ew) fin hs
 ·have hj:(i+(its.toArray.size:Int)).toNat=j:=by
   rw[seqIndex_neg (by omega) h4] at h1
   rw[List.size_toArray,←hl]
   exact Option.some.inj h1
  exact subscriptTail_builtinR (x:=w) pl.isList.typeIs slot_list_getitem.lookup
   (wpAny_getItem_list_neg (Q:=fun r s'=>r=w∧EP X pins σ Q r s') pl.isList (by omega) (by rw[List.size_toArray]<;>omega) (by omega) (by rw[hj];simpa using ew) ⟨rfl,fin⟩) hs
theorem sZ:lT X (vJ X.K):=by
 intro value slice pins s σ H x y v u Q I rx ry h hs
 obtain ⟨p,xs,i,z,rfl,rfl,hq,he,q⟩:=h
 cases rx
 obtain ⟨t,rfl⟩:=ry
 obtain ⟨its,r,pl,hz⟩:=I.tuple hq
 obtain ⟨j,h1,h2,h3,h4,h5⟩:=CZ he
 obtain ⟨w,ew,rw'⟩:=r.get h2
 have hl:=r.length
 have hn:=vX
 have fin:EP X pins σ Q w s:=⟨z,H,I,rw',q⟩
 exact subscriptTail_builtinR (x:=w) pl.typeIs slot_tuple_getitem.lookup
  (getItem_tuple (j:=j) (Q:=fun r s'=>r=w∧EP X pins σ Q r s') pl (by omega) (by omega) (by rw[List.size_toArray,←hl];exact h1) (by simpa using ew) ⟨rfl,fin⟩) hs
theorem GG (lo hi:Option Int) (n:Nat):(sliceBounds lo hi none n).1=((HT.dz n 0 lo:Nat):Int)∧(sliceBounds lo hi none n).2.1=((HT.dz n n hi:Nat):Int)∧(sliceBounds lo hi none n).2.2=1:=by
 refine ⟨?_,?_,rfl⟩
 ·cases lo with
  |none=>simp [sliceBounds,HT.dz]
  |some i=>
   simp only [sliceBounds,HT.dz,Option.getD_none,show (1:Int)>0 by decide,if_true]
   by_cases h:i<0
   ·simp only [h,if_true]<;>omega
   ·simp only [h,if_false]<;>omega
 ·cases hi with
  |none=>simp [sliceBounds,HT.dz]
  |some i=>
   simp only [sliceBounds,HT.dz,Option.getD_none,show (1:Int)>0 by decide,if_true]
   by_cases h:i<0
   ·simp only [h,if_true]<;>omega
   ·simp only [h,if_false]<;>omega
theorem Mb (its:List Value) (lo hi:Option Int):slicePick its.toArray lo hi none=((its.drop (HT.dz its.length 0 lo)).take (HT.dz its.length its.length hi-HT.dz its.length 0 lo)).toArray:=by
 obtain ⟨h1,h2,h3⟩:=GG lo hi its.toArray.size
 unfold slicePick
 rw[h1,h2,h3]
 simp only [sliceRange_one,pick_run,List.size_toArray]<;>rfl
def zf (K:PySem.W.Frag):V→Option Int→Option Int→Hp→VK→Prop:=fun x lo hi H Q=> ∃a xs,x= .ref a∧ah K H a xs∧ ∀p,H p=none→Q (.ref p) (upd H p (.lst (dE xs lo hi)))
theorem fu:v8 X (zf X.K):=by
 intro pins s σ H x v vl vu lo hi sl Q I rx hs pl pu h
 obtain ⟨a,xs,rfl,hx,q⟩:=h
 cases rx
 obtain ⟨its,r,ht,hz⟩:=I.list hx
 have hlen:=r.length
 refine ⟨"list",_,slot_list_getitem.lookup,ht.isList.typeIs,?_⟩
 refine wpAny_getItem_list_slice ht.isList hs pl pu .none (by simp) ?_ (by rw[List.size_toArray]<;>omega)
 rw[Mb,←hlen]
 refine ⟨.ref s.heap.objs.size,_,I.laid (t':=s.toks) (o:= .lst (dE xs lo hi)) (fun b ob q=>Heap.get?_push_of_some _ q) (Nat.le_refl _) ?_,rfl,q _ (I.ao.fresh (Nat.le_refl _))⟩
 exact ⟨Nat.le_trans (M3 xs lo hi) hz,_,0,(r.drop (HT.dz xs.length 0 lo)).take (HT.dz xs.length xs.length hi-HT.dz xs.length 0 lo),Heap.get?_push_size _ rfl⟩
def f9:V→Bool
 | .au=>true
 | .bl _=>true
 | .int _=>true
 | .str _=>true
 |_=>false
def fR:V→V→Bool
 | .au, .au=>true
 | .bl a, .bl b=>a==b
 | .bl a, .int b=>(if a then 1 else 0)==b
 | .int a, .bl b=>a==(if b then 1 else 0)
 | .int a, .int b=>a==b
 | .str a, .str b=>a==b
 |_,_=>false
theorem GC {A:Around} {s:Shared} {y x:V} {u v:Value} (ry:RelV y u) (rx:RelV x v) (fy:f9 y=true) (fx:f9 x=true):SeqAt.EqAt A s u v (fR y x):=by
 cases y with
 |au=>
  cases ry
  cases x with
  |au=>cases rx;exact SeqAt.EqAt.same _
  |bl b=>cases rx;exact SeqAt.EqAt.none_bool b
  |int b=>obtain ⟨t,rfl⟩:=rx;exact SeqAt.EqAt.none_int b t
  |str b=>obtain ⟨t,rfl⟩:=rx;exact SeqAt.EqAt.none_str b t
  |_=>exact absurd (show false=true from fx) Bool.false_ne_true
 |bl a=>
  cases ry
  cases x with
  |au=>cases rx;exact SeqAt.EqAt.bool_none a
  |bl b=>cases rx;exact SeqAt.EqAt.bool_bool a b
  |int b=>obtain ⟨t,rfl⟩:=rx;exact SeqAt.EqAt.bool_int a b t
  |str b=>obtain ⟨t,rfl⟩:=rx;exact SeqAt.EqAt.bool_str a b t
  |_=>exact absurd (show false=true from fx) Bool.false_ne_true
 |int a=>
  obtain ⟨t',rfl⟩:=ry
  cases x with
  |au=>cases rx;exact SeqAt.EqAt.int_none a t'
  |bl b=>cases rx;exact SeqAt.EqAt.int_bool a t' b
  |int b=>obtain ⟨t,rfl⟩:=rx;exact SeqAt.EqAt.int_int a t' b t
  |str b=>obtain ⟨t,rfl⟩:=rx;exact SeqAt.EqAt.int_str a t' b t
  |_=>exact absurd (show false=true from fx) Bool.false_ne_true
 |str a=>
  obtain ⟨t',rfl⟩:=ry
  cases x with
  |au=>cases rx;exact SeqAt.EqAt.str_none a t'
  |bl b=>cases rx;exact SeqAt.EqAt.str_bool a t' b
  |int b=>obtain ⟨t,rfl⟩:=rx;exact SeqAt.EqAt.str_int a t' b t
  |str b=>obtain ⟨t,rfl⟩:=rx;exact SeqAt.EqAt.str_str a t' b t
  |_=>exact absurd (show false=true from fx) Bool.false_ne_true
 |_=>exact absurd (show false=true from fy) Bool.false_ne_true
def xw (x:V) (u:Value):Bool:=match u with
 | .none=>fR .au x
 | .bool b=>fR (.bl b) x
 | .int i _=>fR (.int i) x
 | .str z _=>fR (.str z) x
 |_=>false
theorem wJ {x y:V} {u:Value} (r:RelV y u) (f:f9 y=true):xw x u=fR y x:=by
 cases y with
 |au=>cases r;rfl
 |bl b=>cases r;rfl
 |int i=>obtain ⟨t,rfl⟩:=r;rfl
 |str z=>obtain ⟨t,rfl⟩:=r;rfl
 |_=>exact absurd (show false=true from f) Bool.false_ne_true
theorem A8 {A:Around} {s:Shared} {x:V} {v:Value} (rx:RelV x v) (fx:f9 x=true): ∀{xs:List V} {us:List Value},Vals xs us→xs.all f9=true→ ∀u∈us,SeqAt.EqAt A s u v (xw x u)
 |_,_, .nil,_=>fun u hu=>by cases hu
 |y::xs,u::us, .cons r t,f=>fun u' hu=>by
  rw[List.all_cons,Bool.and_eq_true] at f
  rcases List.mem_cons.mp hu with rfl|hu
  ·rw[wJ r f.1];exact GC r rx f.1 fx
  ·exact A8 rx fx t f.2 u' hu
theorem di:iq X (.builtin "len") (fun xs H Q=> ∃p ys,xs= [.ref p]∧(ah X.K H p ys∨aY X.K H p ys)∧Q (.int ys.length) H):=by
 intro pins s σ H xs us Q I r h
 obtain ⟨p,ys,rfl,hq,q⟩:=h
 obtain ⟨u,rfl,rx⟩:=vals1 r
 cases rx
 have hn:=vX
 rcases hq with hq|hq
 ·obtain ⟨its,r',pl,hz⟩:=I.list hq
  have hlen:=r'.length
  exact Calls.call_len_list pl.isList (by simp only [List.size_toArray]<;>omega) ⟨.int ys.length,H,I.tok _,⟨s.toks+1,by rw[List.size_toArray,hlen]⟩,q⟩
 ·obtain ⟨its,r',pl,hz⟩:=I.tuple hq
  have hlen:=r'.length
  exact len_tuple pl (by simp only [List.size_toArray]<;>omega) ⟨.int ys.length,H,I.tok _,⟨s.toks+1,by rw[List.size_toArray,hlen]⟩,q⟩
theorem ve:iq X (.type "list") (fun xs H Q=> ∃p ys,xs= [.ref p]∧(ah X.K H p ys∨aY X.K H p ys)∧ ∀l,H l=none→Q (.ref l) (upd H l (.lst ys))):=by
 intro pins s σ H xs us Q I r h
 obtain ⟨p,ys,rfl,hq,q⟩:=h
 obtain ⟨u,rfl,rx⟩:=vals1 r
 cases rx
 have fin: ∀(its:List Value),Vals ys its→ys.length≤sizeLine→ ∀(h':Heap) (c':Nat),(∀b o',s.heap.get? b=some o'→h'.get? b=some o')→
   h'.get? s.heap.objs.size=some {cls:= .type "list",dict:=none,data:= .seq its.toArray c',slots:= #[]}→EP X pins σ Q (.ref s.heap.objs.size) {s with heap:=h'}:=fun its r' hz h' c' kp e=>
  ⟨.ref s.heap.objs.size,_,I.laid (t':=s.toks) kp (Nat.le_refl _) (show cS X.prog X.w _ h' _ (.lst ys) from ⟨hz,its,c',r',e⟩),rfl,q _ (I.ao.fresh (Nat.le_refl _))⟩
 rcases hq with hq|hq
 ·obtain ⟨its,r',pl,hz⟩:=I.list hq
  have hlen:=r'.length
  obtain ⟨o,ho,hc,n,hd⟩:=pl.isList
  exact call_list_seq p (.inl rfl) ho hc hd (fun h' c' kp e=>fin its r' hz h' c' kp e) (by simp only [List.size_toArray]<;>omega)
 ·obtain ⟨its,r',pl,hz⟩:=I.tuple hq
  have hlen:=r'.length
  obtain ⟨o,ho,hc,n,hd⟩:=pl
  exact call_list_seq p (.inr rfl) ho hc hd (fun h' c' kp e=>fin its r' hz h' c' kp e) (by simp only [List.size_toArray]<;>omega)
def Bv (K:PySem.W.Frag) (T:String) (x:V) (H:Hp):Prop:=match x with
 | .str _=>T= "str"
 | .int _=>T= "int"
 | .ref p=>(T= "list" ∧ ∃xs,ah K H p xs)∨(T= "tuple" ∧ ∃o,K.lookup p=some o∧o.cls= .type "tuple" ∧o.dict=none)∨
   (T= "dict" ∧((∃kvs,H p=some (.dK kvs))∨ ∃kvs,H p=some (.dT kvs)))∨(T= "set" ∧ ∃S n,H p=some (.set S n))
 |_=>False
theorem OB {pins:List (Addr×Obj)} {σ:St} {H:Hp} {s:Shared} {T:String} {x:V} {v:Value} (I:Inv X pins σ H s) (r:RelV x v) (ty:Bv X.K T x H):
  s.TypeIs v T∧ ∀a,v= .ref a→ ∃ob,s.heap.get? a=some ob∧ob.dict=none:=by
 cases x with
 |str z=>
  obtain ⟨t,rfl⟩:=r
  cases (show T= "str" from ty)
  exact ⟨typeIs_str s z t,fun _ e=>nomatch e⟩
 |int i=>
  obtain ⟨t,rfl⟩:=r
  cases (show T= "int" from ty)
  exact ⟨typeIs_int s i t,fun _ e=>nomatch e⟩
 |ref p=>
  cases r
  rcases ty with ⟨rfl,xs,hq⟩|⟨rfl,o,hk,hc,hd⟩|⟨rfl,hk⟩|⟨rfl,S,n,hk⟩
  ·obtain ⟨its,_,pl,_⟩:=I.list hq
   refine ⟨pl.isList.typeIs,fun a e=>?_⟩
   cases e
   obtain ⟨o,n,e,c,hd,_⟩:=pl
   exact ⟨o,e,hd⟩
  ·refine ⟨⟨o,I.bV p o hk,hc⟩,fun a e=>?_⟩
   cases e
   exact ⟨o,I.bV _ o hk,hd⟩
  ·have z: ∃o,s.heap.get? p=some o∧o.ExactDict:=by
    rcases hk with ⟨kvs,hk⟩|⟨kvs,hk⟩
    ·obtain ⟨_,_,_,_,o,_,_,e,ex,_⟩:=I.ao p _ hk
     exact ⟨o,e,ex⟩
    ·obtain ⟨_,_,_,_,o,_,_,e,ex,_⟩:=I.ao p _ hk
     exact ⟨o,e,ex⟩
   obtain ⟨o,e,ex⟩:=z
   refine ⟨⟨o,e,ex.1⟩,fun a e2=>?_⟩
   cases e2
   exact ⟨o,e,ex.2.1⟩
  ·obtain ⟨o,_,_,_,e,ex,_⟩:=I.ao p _ hk
   refine ⟨⟨o,e,ex.1⟩,fun a e2=>?_⟩
   cases e2
   exact ⟨o,e,ex.2.1⟩
 |_=>exact False.elim ty
def zK (K:PySem.W.Frag) (T:String) (r:V→List V→Hp→VK→Prop) (to:TE) (t:TA):TE:=fun σ H Q=>to σ H fun x H1=>Bv K T x H1∧t σ H1 fun xs H2=>r x xs H2 Q
variable {o e:Expr} {es:List Expr} {to:TE} {t:TA} {name:Str} {apos cpos:Pos} {T id:String} {r:V→List V→Hp→VK→Prop}
theorem gg (pa:PlainAttrs T) (slot:Slot T name id) (hty:typeOf (.builtin id)=pure (.type "method_descriptor")) (hm:BR X id r) (ho:PE X o to) (ha:PA X (e::es) t)
  (hbase:attributeBase o name X.env (eval o X.env)=eval o X.env:=by rfl)
  (hfew:((backTo cpos (starEach (e::es) X.env)).all (fun x=>!x.1)&&(backToKw cpos (keywordEach [] X.env)).all (fun x=>x.1.isSome)
   &&decide ((e::es).length+([]:List Keyword).length+(if ([]:List Keyword).isEmpty then 0 else 1)<30))=true:=by rfl)
  (hline:(apos.endLine==cpos.line)=true:=by rfl) (hs:starEach (e::es) X.env=(false,eval e X.env)::starEach es X.env:=by rfl) (hplain:(backTo cpos (starEach es X.env)).any (·.1)=false:=by rfl):
  PE X (.Call (.Attribute o name apos) (e::es) [] cpos) (zK X.K T r to t):=by
 intro pins s σ H Q I h
 refine wpAny_Call_method_late hbase hfew hline rfl (aE (ho pins s σ H _ I h) fun v s1 ⟨x,H1,I1,r1,ty,q1⟩=>?_)
 obtain ⟨h1,h2⟩:=OB I1 r1 ty
 refine ⟨T,id,pa,slot,hty,h1,h2,?_⟩
 have hA:=ha cpos pins s1 σ H1 _ I1 q1
 rw[hs] at hA⊢
 refine Calls.callWith_builtin (by show (false||(backTo cpos (starEach es X.env)).any (·.1))=false;rw[hplain]<;>rfl) (Calls.evalArgs_plain ?_)
 exact aE hA fun us s2 ⟨vs,H2,I2,r2,q2⟩=>hm pins s2 σ H2 x vs v us Q I2 r1 r2 q2
end
end L2
namespace L2
open PySem PySem.Spec PyProof.Rows
def Bc (X:Cx) (id:String) (r:V→List V→Hp→VK→Prop):Prop:=
 ∀(pins:List (Addr×Obj)) (s:Shared) (σ:St) (H:Hp) (x:V) (xs:List V) (v:Value) (us:List Value) (Q:VK),Inv X pins σ H s→RelV x v→Vals xs us→r x xs H Q→
  wpAny (model X.prog X.w) X.A (call (.builtin id) (v::us)) (EP X pins σ Q) X.xe s
theorem Vals.one: ∀{x:V} {us:List Value},Vals [x] us→ ∃u,us= [u]∧RelV x u
 |_,_, .cons r .nil=>⟨_,rfl,r⟩
theorem Vals.rep {xs:List V} {us:List Value} (h:Vals xs us): ∀k:Nat,Vals (List.replicate k xs).flatten (List.replicate k us).flatten
 |0=> .nil
 |k+1=>by
  rw[List.replicate_succ,List.replicate_succ,List.flatten_cons,List.flatten_cons]
  exact Vals.append h (Vals.rep h k)
theorem foldl_rep (its:List Value): ∀(k:Nat) (acc:List Value),
  List.foldl (fun x1 x2=>x1++x2) acc.toArray (List.replicate k its.toArray)=(acc++(List.replicate k its).flatten).toArray
 |0,acc=>by simp
 |k+1,acc=>by
  have e:acc.toArray++its.toArray=(acc++its).toArray:=by simp
  have e2:(acc++its)++(List.replicate k its).flatten=acc++(List.replicate (k+1) its).flatten:=by
   rw[List.replicate_succ,List.flatten_cons,List.append_assoc]
  rw[←e2,←foldl_rep its k (acc++its),←e,List.replicate_succ,List.foldl_cons]
section
variable {X:Cx} {pins:List (Addr×Obj)} {σ:St} {H:Hp} {s:Shared} {l b:Addr} {xs ys zs:List V}
theorem Inv.DB {its its':List Value} {n:Nat} {f:Array Value→Array Value} {t':Nat} (I:Inv X pins σ H s) (hH:H l=some (.lst xs))
  (e:s.heap.get? l=some {cls:= .type "list",data:= .seq its.toArray n}) (hf:f its.toArray=its'.toArray) (hv:Vals ys its') (hz:ys.length≤sizeLine):
  Inv X pins σ (upd H l (.lst ys)) {s with heap:=s.heap.update l (Obj.mapSeq f),toks:=t'}:=by
 have q:=PySem.IsL.update e f
 rw[hf] at q
 refine I.write (x:=l) (e:=l) (by rw[hH];exact trivial) (.inl rfl) (fun b' u hb hu=>(Heap.get?_update_other s.heap (Obj.mapSeq f) (Ne.symm hb)).trans hu) ⟨_,q⟩ ?_
 exact ⟨hz,its',_,hv,q⟩
theorem Inv.wc {its:List Value} {t':Nat} (I:Inv X pins σ H s) (hv:Vals ys its) (hz:ys.length≤sizeLine):
  Inv X pins σ (upd H s.heap.objs.size (.lst ys)) {s with heap:=s.heap.push {cls:= .type "list",data:= .seq its.toArray},toks:=t'}:=
 I.laid (fun _ _ q=>Heap.get?_push_of_some _ q) (Nat.le_refl _) ⟨hz,its,0,hv,Heap.get?_push_size _ rfl⟩
theorem Inv.fresh (I:Inv X pins σ H s):H s.heap.objs.size=none:=I.ao.fresh (Nat.le_refl _)
theorem Inv.ku (I:Inv X pins σ H s) (hH:H l=some (.lst xs)):xs.length≤sizeLine∧ ∃(its:List Value) (n:Nat),Vals xs its∧xs.length=its.length∧s.heap.get? l=some {cls:= .type "list",data:= .seq its.toArray n}:=by
 obtain ⟨z,its,n,r,e⟩:=I.ao l _ hH
 exact ⟨z,its,n,r,r.length,e⟩
theorem yh {n:Nat} (h:n≤sizeLine):Builtin.List.listTooLong n=false:=by
 unfold Builtin.List.listTooLong
 exact decide_eq_false (by omega)
end
section
variable {X:Cx}
def Au:V→List V→Hp→VK→Prop:=fun x vs H Q=> ∃l xs y,x= .ref l∧vs= [y]∧H l=some (.lst xs)∧xs.length<sizeLine∧Q .au (upd H l (.lst (xs++ [y])))
theorem l7:Bc X "list.append" Au:=by
 intro pins s σ H x vs v us Q I rx rv h
 obtain ⟨l,xs,y,rfl,rfl,hH,hz,q⟩:=h
 cases rx
 obtain ⟨u,rfl,ru⟩:=rv.one
 obtain ⟨z,its,n,r,hl,e⟩:=I.ku hH
 refine call_meets F.slot_list_append ⟨_,e,rfl⟩ F.entry_list_append (F.args_list_append_2 _ _) (PySem.list_append l its.toArray n u (by rw[List.size_toArray];omega)) ⟨e,?_⟩
 refine ⟨.au,_,I.DB (its':=its++ [u]) hH e (by simp) (r.append (.cons ru .nil)) ?_,rfl,q⟩
 rw[List.length_append,List.length_singleton]
 omega
def Nu:V→List V→Hp→VK→Prop:=fun x vs H Q=> ∃l b xs zs,x= .ref l∧vs= [.ref b]∧H l=some (.lst xs)∧H b=some (.lst zs)∧xs.length+zs.length≤sizeLine∧Q .au (upd H l (.lst (xs++zs)))
theorem q0:Bc X "list.extend" Nu:=by
 intro pins s σ H x vs v us Q I rx rv h
 obtain ⟨l,b,xs,zs,rfl,rfl,hH,hB,hz,q⟩:=h
 cases rx
 obtain ⟨u,rfl,ru⟩:=rv.one
 cases ru
 obtain ⟨z,its,n,r,hl,e⟩:=I.ku hH
 obtain ⟨z2,its2,n2,r2,hl2,e2⟩:=I.ku hB
 have hsz:its.toArray.size+its2.toArray.size≤sizeLine:=by rw[List.size_toArray,List.size_toArray];omega
 have hlong: ¬(!its.toArray.isEmpty&&Builtin.List.listTooLong (its.toArray.size+its2.toArray.size))=true:=by
  rw[yh hsz,Bool.and_false]
  exact Bool.false_ne_true
 refine call_meets F.slot_list_extend ⟨_,e,rfl⟩ F.entry_list_extend (F.args_list_extend_2 _ _)
  (AutoSeq1.list_extend_list_list_0 l its.toArray n b its2.toArray n2 hlong (by rw[List.size_toArray];omega) (by omega)) ⟨e,e2,?_⟩
 refine ⟨.au,_,I.DB (its':=its++its2) hH e (by simp) (r.append r2) ?_,rfl,q⟩
 rw[List.length_append]
 omega
def Rb:R2:=fun x y H Q=> ∃l b xs zs,x= .ref l∧y= .ref b∧H l=some (.lst xs)∧H b=some (.lst zs)∧xs.length+zs.length≤sizeLine∧ ∀p,H p=none→Q (.ref p) (upd H p (.lst (xs++zs)))
theorem jv:bA X (binaryOp .Add) Rb:=by
 intro pins s σ H x y v u Q I rx ry h
 obtain ⟨l,b,xs,zs,rfl,rfl,hH,hB,hz,q⟩:=h
 cases rx
 cases ry
 obtain ⟨z,its,n,r,hl,e⟩:=I.ku hH
 obtain ⟨z2,its2,n2,r2,hl2,e2⟩:=I.ku hB
 refine PySem.P.add_list e e2 ?_ (by rw[List.size_toArray,List.size_toArray];omega)
 have ea:its.toArray++its2.toArray=(its++its2).toArray:=by simp
 rw[ea]
 exact ⟨.ref _,_,I.wc (t':=s.toks) (r.append r2) (by rw[List.length_append];omega),rfl,q _ I.fresh⟩
def NB:R2:=fun x y H Q=> ∃l k xs,x= .ref l∧y= .int k∧H l=some (.lst xs)∧ -(2^63)≤k∧k<2^63∧xs.length*k.toNat≤sizeLine∧
 ∀p,H p=none→Q (.ref p) (upd H p (.lst (List.replicate k.toNat xs).flatten))
theorem len_rep {α:Type} (xs:List α) (k:Nat):(List.replicate k xs).flatten.length=k*xs.length:=by
 induction k with
 |zero=>simp
 |succ k ih=>rw[List.replicate_succ,List.flatten_cons,List.length_append,ih,Nat.succ_mul,Nat.add_comm]
theorem BC:bA X (binaryOp .Mult) NB:=by
 intro pins s σ H x y v u Q I rx ry h
 obtain ⟨l,k,xs,rfl,rfl,hH,h1,h2,hz,q⟩:=h
 cases rx
 obtain ⟨t,rfl⟩:=ry
 obtain ⟨z,its,n,r,hl,e⟩:=I.ku hH
 have hlen:its.toArray.size*k.toNat≤sizeLine:=by rw[List.size_toArray,←hl];exact hz
 have hcap: ¬its.toArray.size*k.toNat>(2^63-1)/8:=by
  have:(sizeLine:Nat)≤(2^63-1)/8:=by decide
  omega
 have hfit: ¬(!Builtin.List.listFitsIndex k)=true:=by
  rw[fitsIndex_both h1 h2]
  exact Bool.false_ne_true
 have hlong: ¬Builtin.List.listTooLong (its.toArray.size*k.toNat)=true:=by
  rw[yh hlen]
  exact Bool.false_ne_true
 have hnew:List.foldl (fun x1 x2=>x1++x2) #[] (List.replicate (if its.toArray.isEmpty=true then 0 else k.toNat) its.toArray)=(List.replicate k.toNat its).flatten.toArray:=by
  have f0: ∀m:Nat,List.foldl (fun x1 x2=>x1++x2) #[] (List.replicate m its.toArray)=(List.replicate m its).flatten.toArray:=fun m=>by
   have:=foldl_rep its m []
   rw[List.nil_append] at this
   exact this
  rw[f0]
  cases its with
  |nil=>simp
  |cons a r'=>rw[if_neg (by simp)]
 refine wpAny_binaryOp_repeat_ref (T:= "list") (U:= "int") (by decide) ⟨_,e,rfl⟩ (fun s'=>typeIs_int s' k t) noFill_list_mul F.fills_int_mul F.slot_int_rmul repeat_list F.slot_int_index.lookup
  (call_meets F.slot_int_rmul (typeIs_int s k t) F.entry_int_rmul (F.args_int_rmul_2 _ _) (int___rmul___int_list k t l its.toArray n)
   ⟨e,rfl,⟨_,e,rfl⟩,call_meets F.slot_list_mul ⟨_,e,rfl⟩ F.entry_list_mul (F.args_list_mul_2 _ _) (AutoListH.list___mul___list_int_3 l its.toArray n k t hfit hcap hlong) ⟨e,?_⟩⟩)
 rw[hnew]
 exact ⟨.ref _,_,I.wc (t':=s.toks) (r.rep k.toNat) (by rw[len_rep,Nat.mul_comm];exact hz),rfl,q _ I.fresh⟩
end
section
variable {prog:Program} {w:World} {A:Around} {E:Value→Shared→Prop} {s:Shared}
end
section
variable {X:Cx}
end
end L2
namespace L2
open PySem PySem.Spec PyProof.Rows
theorem Vals.ints: ∀{ns:List Int} {us:List Value},Vals (ns.map V.int) us→IntsAre us ns
 | [],us,h=>by
  rw[List.map_nil] at h
  cases h
  exact IntsAre.nil
 |n::ns,us,h=>by
  rw[List.map_cons] at h
  cases h with
  |cons r t=>
   obtain ⟨k,rfl⟩:=r
   exact IntsAre.cons n k (Vals.ints t)
theorem Vals.vS: ∀{bs:List Bool} {us:List Value},Vals (bs.map V.bl) us→us=bs.map Value.bool
 | [],us,h=>by
  rw[List.map_nil] at h
  cases h
  rfl
 |b::bs,us,h=>by
  rw[List.map_cons] at h
  cases h with
  |cons r t=>
   cases r
   rw[Vals.vS t,List.map_cons]
theorem Vals.we {a:Addr} {us:List Value} (r:Vals [V.ref a] us):us= [Value.ref a]:=by
 cases r with
 |cons r t=>
  cases t
  cases r
  rfl
section
variable {prog:Program} {w:World} {A:Around} {E:Value→Shared→Prop} {s:Shared} {l:Addr} {its:List Value} {ns:List Int} {Q:Value→Shared→Prop}
theorem G3 (hh:A.handled=none) (hl:s.heap.IsList l its.toArray) (hi:IntsAre its ns) (hne:0<ns.length)
  (h: ∀h' tk M t',(∀b o,s.heap.get? b=some o→h'.get? b=some o)→M∈ns→(∀a,a∈ns→a≤M)→Q (.int M t') {s with heap:=h',toks:=tk}):wpAny (model prog w) A (call (.builtin "max") [.ref l]) Q E s:=by
 obtain ⟨xs,e⟩:=hi.allInts.items
 have hn:numsOf (intItems xs).toList=ns:=by rw[←e];exact hi.numsOf
 rw[nums_intItems] at hn
 subst hn
 rw[e] at hl
 have hsz:0<xs.size:=by simpa using hne
 refine PySem.max_intList hh hl hsz fun v h' tk hv hk=>?_
 obtain ⟨t,rfl⟩:=intItems_at hv
 obtain ⟨h1,h2⟩:=argBest_gt (numAt xs) (xs.size-1)
 refine h h' tk _ t hk ?_ fun a ha=>?_
 ·rw[numAt_eq];exact PySem.getD_mem (by rw[List.length_map,Array.length_toList];omega)
 ·obtain ⟨j,hj,rfl⟩:=mem_getD ha
  rw[List.length_map,Array.length_toList] at hj
  rw[←numAt_eq];exact h2 j (by omega)
end
section
variable {X:Cx}
def Q2 (K:PySem.W.Frag):List V→Hp→VK→Prop:=fun vs H Q=> ∃(a:Addr) (ns:List Int),vs= [V.ref a]∧ah K H a (ns.map V.int)∧0<ns.length∧ ∀m,m∈ns→(∀y,y∈ns→y≤m)→Q (.int m) H
theorem MS (hc:X.calm=true):iq X (.builtin "max") (Q2 X.K):=by
 intro pins s σ H vs us Q I r h
 obtain ⟨a,ns,rfl,hs,hne,q⟩:=h
 obtain ⟨its,rv,hl,_⟩:=I.list hs
 rw[Vals.we r]
 exact G3 (I.ok.hd hc) hl.isList rv.ints hne fun h' tk m t' hk h1 h2=>⟨.int _,H,I.kept hk,⟨_,rfl⟩,q m h1 h2⟩
end
section
variable {X:Cx}
def RM (K:PySem.W.Frag):V→List V→Hp→VK→Prop:=fun x xs H Q=> ∃(a:Addr) (ys:List V) (y:V) (j:Nat) (z:V),x=V.ref a∧xs= [y]∧ah K H a ys∧f9 y=true∧ys.all f9=true∧ys[j]?=some z∧fR z y=true∧
 (∀(m:Nat) (z':V),m<j→ys[m]?=some z'→fR z' y=false)∧Q (.int (j:Nat)) H
theorem B8 {ys:List V} (f:ys.all f9=true) {j:Nat} {z:V} (h:ys[j]?=some z):f9 z=true:=List.all_eq_true.mp f z (List.mem_of_getElem? h)
theorem Iz:BR X "list.index" (RM X.K):=by
 intro pins s σ H x xs v us Q I rx rxs h
 obtain ⟨a,ys,y,j,z,rfl,rfl,hs,fy,fys,hz,hzj,hno,q⟩:=h
 cases rx
 cases rxs with
 |cons ry rt=>
  rename_i uy ut
  cases rt
  obtain ⟨its,rv,⟨⟨cls,dd,data,sl⟩,n,ho,hc,hdn,hd⟩,hlen⟩:=I.list hs
  simp only at hc hd
  subst hc hd
  obtain ⟨u,hu,ru⟩:=rv.get hz
  obtain ⟨hjl,hje⟩:=List.getElem?_eq_some_iff.mp hu
  have hvl:=rv.length
  have hj:j<its.toArray.size:=by simpa using hjl
  have hsl:=sizeLine_eq
  refine call_meets PySem.F.slot_list_index ⟨_,ho,rfl⟩ PySem.F.entry_list_index (PySem.F.args_list_index_2 _ _)
   (SeqAt.list_indexAt a its.toArray n dd sl uy (xw y) j hj (by omega) ?_ ?_) ⟨ho,fun u' hu'=>A8 ry fy rv fys u' (by simpa using hu'),?_⟩
  ·have e1:its.toArray[j]=u:=by simpa using hje
   rw[e1,wJ ru (B8 fys hz)]
   exact hzj
  ·intro m hm hmj
   have hml:m<its.length:=by simpa using hm
   have hmy:m<ys.length:=by omega
   have hy':ys[m]?=some ys[m]:=List.getElem?_eq_getElem hmy
   obtain ⟨u2,hu2,ru2⟩:=rv.get hy'
   obtain ⟨_,hme⟩:=List.getElem?_eq_some_iff.mp hu2
   have e1:its.toArray[m]=u2:=by simpa using hme
   rw[e1,wJ ru2 (B8 fys hy')]
   exact hno m _ hmj hy'
  ·exact ⟨.int (j:Nat),H,I.tok _,⟨_,rfl⟩,q⟩
end
section
variable {X:Cx}
end
theorem Bg {prog:Program} {w:World} {A:Around} {E:Value→Shared→Prop} {s:Shared} {l:Addr} {items:Array Value} {Q:Value→Shared→Prop} (hl:s.heap.IsList l items)
  (h: ∀s₂:Shared,s₂={s with heap:=s.heap.push {cls:= .type "list_iterator",data:= .fields #[.ref l, .int 0 0]}}→
   (s₂.heap.IsListIter s.heap.objs.size l 0∧s₂.heap.IsList l items)→l≠s.heap.objs.size→Q (.ref s.heap.objs.size) s₂):wpAny (model prog w) A (pyIter (.ref l)) Q E s:=by
 have hlt:l<s.heap.objs.size:=by obtain ⟨_,e,_⟩:=hl;exact Heap.lt_size e
 exact wpAny_pyIter_list hl (h _ rfl ⟨⟨_,Heap.get?_push_size _ rfl,rfl,rfl⟩,hl.push _⟩ (Nat.ne_of_lt hlt))
theorem EI {prog:Program} {w:World} {A:Around} {bs:List Bool} {its:List Value} (e:its=bs.map Value.bool):
  TruthOf prog w A (fun i v=>its.toArray[i]?=some v) (fun i=>bs.getD i false):=fun i v s Q E hv hq=>by
 have hv':its[i]?=some v:=by simpa using hv
 rw[e,List.getElem?_map] at hv'
 obtain ⟨b,hb,rfl⟩:=Option.map_eq_some_iff.mp hv'
 have hg:bs.getD i false=b:=by rw[List.getD_eq_getElem?_getD,hb]<;>rfl
 have hq':Q (bs.getD i false) s:=hq
 rw[hg] at hq'
 exact wpAny_truthy_bool hq'
theorem any_range: ∀bs:List Bool,(List.range bs.length).any (fun i=>bs.getD i false)=bs.any id
 | []=>rfl
 |b::bs=>by
  rw[List.length_cons,List.range_succ_eq_map,List.any_cons,List.any_map,List.any_cons,←any_range bs]
  all_goals rfl
theorem all_range: ∀bs:List Bool,(List.range bs.length).all (fun i=>bs.getD i false)=bs.all id
 | []=>rfl
 |b::bs=>by
  rw[List.length_cons,List.range_succ_eq_map,List.all_cons,List.all_map,List.all_cons,←all_range bs]
  all_goals rfl
section
variable {X:Cx}
def OU (K:PySem.W.Frag):List V→Hp→VK→Prop:=fun vs H Q=> ∃(a:Addr) (bs:List Bool),vs= [V.ref a]∧ah K H a (bs.map V.bl)∧Q (.bl (bs.any id)) H
def QD (K:PySem.W.Frag):List V→Hp→VK→Prop:=fun vs H Q=> ∃(a:Addr) (bs:List Bool),vs= [V.ref a]∧ah K H a (bs.map V.bl)∧Q (.bl (bs.all id)) H
theorem LO (hc:X.calm=true):iq X (.builtin "any") (OU X.K):=by
 intro pins s σ H vs us Q I r h
 obtain ⟨a,bs,rfl,hs,q⟩:=h
 obtain ⟨its,rv,hl,_⟩:=I.list hs
 rw[Vals.we r]
 have hb:=rv.vS
 refine call_any_walk (Bg hl.isList fun s₂ e2 st hne=>?_)
 subst e2
 refine ⟨_,_,_,_,_,_,_,rfl,Walks.list (A:=X.A.in1) (I.ok.hd hc) _ a hne its.toArray,st,EI hb,fun h' tk hk=>?_⟩
 refine ⟨.bl _,H,I.kept fun b o eo=>hk b o (fun hmem=>?_) (Heap.get?_push_of_some _ eo),?_,q⟩
 ·rcases List.mem_cons.mp hmem with e1|hmem
  ·exact absurd (e1▸Heap.lt_size eo) (Nat.lt_irrefl _)
  ·cases hmem
 ·show Value.bool _=Value.bool _
  rw[←any_range,hb,List.size_toArray,List.length_map]
theorem zx (hc:X.calm=true):iq X (.builtin "all") (QD X.K):=by
 intro pins s σ H vs us Q I r h
 obtain ⟨a,bs,rfl,hs,q⟩:=h
 obtain ⟨its,rv,hl,_⟩:=I.list hs
 rw[Vals.we r]
 have hb:=rv.vS
 refine call_all_walk (Bg hl.isList fun s₂ e2 st hne=>?_)
 subst e2
 refine ⟨_,_,_,_,_,_,_,rfl,Walks.list (A:=X.A.in1) (I.ok.hd hc) _ a hne its.toArray,st,EI hb,fun h' tk hk=>?_⟩
 refine ⟨.bl _,H,I.kept fun b o eo=>hk b o (fun hmem=>?_) (Heap.get?_push_of_some _ eo),?_,q⟩
 ·rcases List.mem_cons.mp hmem with e1|hmem
  ·exact absurd (e1▸Heap.lt_size eo) (Nat.lt_irrefl _)
  ·cases hmem
 ·show Value.bool _=Value.bool _
  rw[←all_range,hb,List.size_toArray,List.length_map]
end
mutual
inductive Dp (K:PySem.W.Frag) (H:Hp):V→PyData→Prop
 |au:Dp K H .au .none
 |bl (b:Bool):Dp K H (.bl b) (.bool b)
 |int (i:Int):Dp K H (.int i) (.int i)
 |str (x:Str):Dp K H (.str x) (.str x)
 |lst {a:Addr} {xs:List V} {ds:List PyData}:ah K H a xs→jx K H xs ds→Dp K H (.ref a) (.list ds)
 |tup {a:Addr} {xs:List V} {ds:List PyData}:aY K H a xs→jx K H xs ds→Dp K H (.ref a) (.tuple ds)
inductive jx (K:PySem.W.Frag) (H:Hp):List V→List PyData→Prop
 |nil:jx K H [] []
 |cons {v:V} {vs:List V} {d:PyData} {ds:List PyData}:Dp K H v d→jx K H vs ds→jx K H (v::vs) (d::ds)
end
section
variable {X:Cx} {pins:List (Addr×Obj)} {σ:St} {H:Hp} {s:Shared}
mutual
theorem Dp.reads (I:Inv X pins σ H s): ∀(d:PyData) (v:V) (u:Value),Dp X.K H v d→RelV v u→ ∃as,Reads s.heap u d as
 | .none,_,_,h,r=>by
  cases h
  cases r
  exact ⟨_,Reads.none⟩
 | .bool b,_,_,h,r=>by
  cases h
  cases r
  exact ⟨_,Reads.bool b⟩
 | .int i,_,_,h,r=>by
  cases h
  obtain ⟨t,rfl⟩:=r
  exact ⟨_,Reads.int i t⟩
 | .str x,_,_,h,r=>by
  cases h
  obtain ⟨t,rfl⟩:=r
  exact ⟨_,Reads.str x t⟩
 | .list ds,_,_,h,r=>by
  cases h with
  |lst hs ha=>
   cases r
   obtain ⟨its,rv,⟨o,n,ho,hc,_,hd⟩,_⟩:=I.list hs
   obtain ⟨as,hr⟩:=Dp.readsAll I ds _ its ha rv
   exact ⟨_,Reads.list ho hc hd hr⟩
 | .tuple ds,_,_,h,r=>by
  cases h with
  |tup hs ha=>
   cases r
   obtain ⟨its,rv,⟨o,ho,hc,n,hd⟩,_⟩:=I.tuple hs
   obtain ⟨as,hr⟩:=Dp.readsAll I ds _ its ha rv
   exact ⟨_,Reads.tuple ho hc hd hr⟩
 | .dict _,_,_,h,_=>by cases h
theorem Dp.readsAll (I:Inv X pins σ H s): ∀(ds:List PyData) (vs:List V) (us:List Value),jx X.K H vs ds→Vals vs us→ ∃as,ReadsAll s.heap us ds as
 | [],_,_,h,r=>by
  cases h
  cases r
  exact ⟨_,ReadsAll.nil⟩
 |d::ds,_,_,h,r=>by
  cases h with
  |cons h1 h2=>
   cases r with
   |cons r1 r2=>
    obtain ⟨as,q1⟩:=Dp.reads I d _ _ h1 r1
    obtain ⟨bs,q2⟩:=Dp.readsAll I ds _ _ h2 r2
    exact ⟨_,ReadsAll.cons q1 q2⟩
end
end
section
variable {X:Cx}
def FV (K:PySem.W.Frag):R2:=fun x y H Q=> ∃d e,Dp K H x d∧Dp K H y e∧SeqAt.shaped d=true∧SeqAt.shaped e=true∧Q (.bl (PyData.eqv d e)) H
def Nk (K:PySem.W.Frag):R2:=fun x y H Q=> ∃d e,Dp K H x d∧Dp K H y e∧SeqAt.shaped d=true∧SeqAt.shaped e=true∧Q (.bl (!PyData.eqv d e)) H
theorem Fc (hu:X.A.units+64<cLine):bA X (compareOp .Eq) (FV X.K):=by
 intro pins s σ H x y v u Q I rx ry h
 obtain ⟨d,e,hd,he,sd,se,q⟩:=h
 obtain ⟨as,r1⟩:=Dp.reads I d x v hd rx
 obtain ⟨bs,r2⟩:=Dp.reads I e y u he ry
 exact SeqAt.compareEq_shaped r1 r2 sd se hu ⟨.bl _,H,I,rfl,q⟩
theorem QV (hu:X.A.units+64<cLine):bA X (compareOp .NotEq) (Nk X.K):=by
 intro pins s σ H x y v u Q I rx ry h
 obtain ⟨d,e,hd,he,sd,se,q⟩:=h
 obtain ⟨as,r1⟩:=Dp.reads I d x v hd rx
 obtain ⟨bs,r2⟩:=Dp.reads I e y u he ry
 exact SeqAt.compareNe_shaped r1 r2 sd se hu ⟨.bl _,H,I,rfl,q⟩
end
end L2
namespace L2
open PySem PySem.Spec PyProof.Rows
abbrev EB (h:Heap) (c:Addr) (v:Option Value):Prop:=h.IsCell c v
def QT (scope sc:Scope):Scope:=
 {scope with names:=scope.names.map fun (n,k)=>if (k== .free&&sc.kind== .function&&sc.names.lookup n==some .cell) then (n, .cell) else (n,k)}
def bS (cells:List (Str×Addr)):List (Str×NameKind)→List (Str×Addr)→List (Str×Addr)
 | [],acc=>acc
 |(n,k)::r,acc=>if k== .free then bS cells r ((n,(cells.lookup n).getD 0)::acc) else bS cells r acc
theorem BE (env:Env) (f:Str×NameKind→List (Str×Addr)→Sem (ForInStep (List (Str×Addr))))
  (hf: ∀n k c,f (n,k) c=if k== .free then (do let a←cellOf env n;pure (.yield ((n,a)::c))) else pure (.yield c)):
  ∀(names:List (Str×NameKind)) (acc:List (Str×Addr)),(∀y∈names,y.2= .free→ ∃c,env.cells.lookup y.1=some c)→forIn names acc f=pure (bS env.cells names acc)
 | [],acc,_=>by rw[List.forIn_nil];rfl
 |(n,k)::r,acc,h=>by
  rw[List.forIn_cons,hf]
  have ih:=fun acc=>BE env f hf r acc fun y hy=>h y (List.mem_cons_of_mem _ hy)
  unfold bS
  by_cases hk:(k==NameKind.free)=true
  ·rw[if_pos hk,if_pos hk]
   obtain ⟨c,hc⟩:=h (n,k) List.mem_cons_self (by simpa using hk)
   have e:cellOf env n=pure c:=by unfold cellOf;rw[hc]
   rw[e]
   have e2:(env.cells.lookup n).getD 0=c:=by rw[hc];rfl
   rw[e2]
   exact ih _
  ·rw[if_neg hk,if_neg hk]
   exact ih _
theorem ED {scope:Scope} {env:Env} (h: ∀y∈scope.names,y.2= .free→ ∃c,env.cells.lookup y.1=some c):closureFor scope env=pure (bS env.cells scope.names []):=by
 simp only [closureFor]
 rw[BE env _ (fun n k c=>rfl) scope.names [] h]
 rfl
theorem mem_lookup {α:Type}: ∀{l:List (Str×α)} {n:Str} {c:α},(n,c)∈l→ ∃c',l.lookup n=some c'
 |(k,v)::r,n,c,h=>by
  rw[List.lookup_cons]
  cases hb:n==k with
  |true=>exact ⟨_,rfl⟩
  |false=>
   rcases List.mem_cons.mp h with e|h
   ·cases e;simp at hb
   ·exact mem_lookup h
theorem sY {cells:List (Str×Addr)}: ∀{names:List (Str×NameKind)} {acc:List (Str×Addr)} {n:Str} {c:Addr},(n,c)∈bS cells names acc→(n,c)∈acc∨((n, .free)∈names∧c=(cells.lookup n).getD 0)
 | [],_,_,_,h=> .inl h
 |(m,k)::r,acc,n,c,h=>by
  unfold bS at h
  split at h
  ·rename_i hk
   have hk:k= .free:=by simpa using hk
   rcases sY h with h|⟨h1,h2⟩
   ·rcases List.mem_cons.mp h with e|h
    ·cases e;exact .inr ⟨hk▸List.mem_cons_self,rfl⟩
    ·exact .inl h
   ·exact .inr ⟨List.mem_cons_of_mem _ h1,h2⟩
  ·rcases sY h with h|⟨h1,h2⟩
   ·exact .inl h
   ·exact .inr ⟨List.mem_cons_of_mem _ h1,h2⟩
theorem vW {cells:List (Str×Addr)}: ∀{names:List (Str×NameKind)} {acc:List (Str×Addr)} {p:Str×Addr},p∈acc→p∈bS cells names acc
 | [],_,_,h=>h
 |(m,k)::r,acc,p,h=>by
  unfold bS
  split
  ·exact vW (List.mem_cons_of_mem _ h)
  ·exact vW h
theorem wa {cells:List (Str×Addr)}: ∀{names:List (Str×NameKind)} {acc:List (Str×Addr)} {n:Str},(n, .free)∈names→(n,(cells.lookup n).getD 0)∈bS cells names acc
 |(m,k)::r,acc,n,h=>by
  unfold bS
  rcases List.mem_cons.mp h with e|h
  ·cases e
   exact vW List.mem_cons_self
  ·split
   ·exact wa h
   ·exact wa h
theorem qr: ∀{names:List (Str×NameKind)} {h:Heap} {acc:List (Str×Addr)} {x:Str} {c:Addr},(x,c)∈cellsFrom h.objs.size names acc→
  (x,c)∈acc∨((x, .cell)∈names∧h.objs.size≤c∧EB (pushCells h names) c none)
 | [],_,_,_,_,h=> .inl h
 |(n,k)::r,h,acc,x,c,hm=>by
  unfold cellsFrom at hm
  unfold pushCells
  split at hm
  ·rename_i hk
   rw[if_pos hk]
   have hk:k= .cell:=by simpa using hk
   rw[←Heap.size_push h {cls:= .type "cell",data:= .cell none}] at hm
   rcases qr hm with hm|⟨h1,h2,h3⟩
   ·rcases List.mem_cons.mp hm with e|hm
    ·cases e
     exact .inr ⟨hk▸List.mem_cons_self,Nat.le_refl _,_,pushCells_keeps r _ _ _ (Heap.get?_push_size _ rfl),rfl⟩
    ·exact .inl hm
   ·rw[Heap.size_push] at h2
    exact .inr ⟨List.mem_cons_of_mem _ h1,Nat.le_of_succ_le h2,h3⟩
  ·rename_i hk
   rw[if_neg hk]
   rcases qr hm with hm|⟨h1,h2,h3⟩
   ·exact .inl hm
   ·exact .inr ⟨List.mem_cons_of_mem _ h1,h2,h3⟩
theorem rk: ∀{names:List (Str×NameKind)} {n:Nat} {acc:List (Str×Addr)} {p:Str×Addr},p∈acc→p∈cellsFrom n names acc
 | [],_,_,_,h=>h
 |(m,k)::r,n,acc,p,h=>by
  unfold cellsFrom
  split
  ·exact rk (List.mem_cons_of_mem _ h)
  ·exact rk h
theorem uz: ∀{names:List (Str×NameKind)} {n:Nat} {acc:List (Str×Addr)} {x:Str},(x, .cell)∈names→ ∃c,(x,c)∈cellsFrom n names acc
 |(m,k)::r,n,acc,x,h=>by
  unfold cellsFrom
  rcases List.mem_cons.mp h with e|h
  ·cases e
   exact ⟨n,rk List.mem_cons_self⟩
  ·split
   ·exact uz h
   ·exact uz h
theorem u9: ∀{names:List (Str×NameKind)} {h:Heap} {acc:List (Str×Addr)} {x y:Str} {c:Addr},(∀p∈acc,p.2<h.objs.size)→(∀x y c,(x,c)∈acc→(y,c)∈acc→x=y)→
  (x,c)∈cellsFrom h.objs.size names acc→(y,c)∈cellsFrom h.objs.size names acc→x=y
 | [],_,_,_,_,_,_,hi,h1,h2=>hi _ _ _ h1 h2
 |(n,k)::r,h,acc,x,y,c,hl,hi,h1,h2=>by
  unfold cellsFrom at h1 h2
  split at h1
  ·rename_i hk
   rw[if_pos hk] at h2
   rw[←Heap.size_push h {cls:= .type "cell",data:= .cell none}] at h1 h2
   refine u9 (h:=h.push _) (fun p hp=>?_) (fun x y c a b=>?_) h1 h2
   ·rw[Heap.size_push]
    rcases List.mem_cons.mp hp with rfl|hp
    ·exact Nat.lt_succ_self _
    ·exact Nat.lt_succ_of_lt (hl p hp)
   ·rcases List.mem_cons.mp a with e|a<;>rcases List.mem_cons.mp b with e'|b
    ·cases e;cases e';rfl
    ·cases e;exact absurd (hl _ b) (Nat.lt_irrefl _)
    ·cases e';exact absurd (hl _ a) (Nat.lt_irrefl _)
    ·exact hi _ _ _ a b
  ·rename_i hk
   rw[if_neg hk] at h2
   exact u9 hl hi h1 h2
theorem Dl {M:Model} {A:Around} {E:Value→Shared→Prop} {s:Shared} {scope:Scope} {globals:Addr} {closure:List (Str×Addr)} {qual:Str} {func:Option Addr} {code:Value} {around:Env} {builtins:Addr} {Q:Env→Shared→Prop}
  (h:Q (newEnv scope s.heap.objs.size globals (cellsFrom (s.heap.objs.size+1) scope.names closure) qual func code (some around) builtins)
   {s with heap:=pushCells (s.heap.push {cls:= .type "dict",data:= .dict #[]}) scope.names}):
  wpAny M A (newFunctionEnv scope globals closure [] qual func code (some around) builtins) Q E s:=by
 simp only [newFunctionEnv,Option.isSome_some,if_true]
 refine wpAny_bind (wpAny_alloc ?_)
 refine wpAny_bind (wpAny_layCells _ (fun n k c=>rfl) scope.names closure _ _ ?_)
 rw[show ({s with heap:=s.heap.push {cls:= .type "dict",data:= .dict #[]}}:Shared).heap.objs.size=s.heap.objs.size+1 from Heap.size_push ..]
 rw[List.forIn_nil]
 exact wpAny_bind (wpAny_pure (wpAny_pure h))
theorem uJ {sc:Scope}: ∀{names:List (Str×NameKind)} {x:Str} {k:NameKind},
  (names.map fun (n,k)=>if (k==NameKind.free&&sc.kind== .function&&sc.names.lookup n==some .cell) then (n,NameKind.cell) else (n,k)).lookup x=some k→
  ∃k',names.lookup x=some k'∧(k=k'∨(k'= .free∧k= .cell))
 | [],_,_,h=>by simp at h
 |(n,k₀)::r,x,k,h=>by
  have ih:= @uJ sc r x k
  have h':List.lookup x ((if (k₀==NameKind.free&&sc.kind== .function&&sc.names.lookup n==some .cell)=true then (n,NameKind.cell) else (n,k₀))::(r.map _))=some k:=h
  cases hx:x==n with
  |true=>
   simp only [List.lookup_cons,hx]
   by_cases hc:(k₀==NameKind.free&&sc.kind== .function&&sc.names.lookup n==some .cell)=true
   ·rw[if_pos hc] at h'
    simp only [List.lookup_cons,hx] at h'
    cases h'
    simp only [Bool.and_eq_true,beq_iff_eq] at hc
    exact ⟨k₀,rfl, .inr ⟨hc.1.1,rfl⟩⟩
   ·rw[if_neg hc] at h'
    simp only [List.lookup_cons,hx] at h'
    cases h'
    exact ⟨_,rfl, .inl rfl⟩
  |false=>
   simp only [List.lookup_cons,hx]
   by_cases hc:(k₀==NameKind.free&&sc.kind== .function&&sc.names.lookup n==some .cell)=true
   ·rw[if_pos hc] at h'
    simp only [List.lookup_cons,hx] at h'
    exact ih h'
   ·rw[if_neg hc] at h'
    simp only [List.lookup_cons,hx] at h'
    exact ih h'
structure iy (N:List Str) (sc scope:Scope) (own:List (Str×Nat)):Prop where
 kind:scope.kind= .function
 uniq: ∀y∈scope.names,scope.names.lookup y.1=some y.2
 ix: ∀p∈own,N[p.2]?=some p.1
 free: ∀y∈scope.names,y.2= .free→sc.names.lookup y.1=some .cell∨sc.names.lookup y.1=some .free
 own: ∀y∈scope.names,y.2= .local∨y.2= .cell→y.1∈own.map (·.1)∨y.1∉N
def wipe (σ:St):List Nat→St
 | []=>σ
 |v::vs=>(wipe σ vs).set v none
theorem rH (σ:St): ∀vs:List Nat,(wipe σ vs).length=σ.length
 | []=>rfl
 |v::vs=>by unfold wipe;rw[List.length_set,rH σ vs]
theorem tW {σ:St} {i:Nat} {x:V}: ∀{vs:List Nat},(wipe σ vs)[i]?=some (some x)→σ[i]?=some (some x)∧i∉vs
 | [],h=>⟨h,by simp⟩
 |v::vs,h=>by
  unfold wipe at h
  by_cases hi:v=i
  ·subst hi
   by_cases hv:v<(wipe σ vs).length
   ·rw[List.getElem?_set_self hv] at h;cases h
   ·rw[List.getElem?_eq_none (by simpa using hv)] at h;cases h
  ·rw[List.getElem?_set_ne hi] at h
   obtain ⟨h1,h2⟩:=tW h
   exact ⟨h1,by simp only [List.mem_cons,not_or];exact ⟨fun e=>hi e.symm,h2⟩⟩
abbrev Cx.bw (X:Cx) (s:Shared) (H:Hp) (scope:Scope) (cenv:Env) (fp:List Addr):Cx:={X with bx:=s,km:=H,env:=cenv,outer:=X.stack,ex:=fp,fn:=fun x=>scope.names.lookup x==some .cell,pn:= [],xe:=fun _ _=>False}
section
variable {X:Cx} {pins:List (Addr×Obj)} {σ:St} {H:Hp} {s:Shared}
theorem yd {scope:Scope} {own:List (Str×Nat)} {fp:List Addr} (I:Inv X pins σ H s) (ok:iy X.N X.env.scope scope own) (hN:X.N.Nodup) (hfp: ∀b∈fp,dX X pins H b∧b<s.heap.objs.size):
  Inv (X.bw s H scope (compEnvC scope (cellsFrom (s.heap.objs.size+1) scope.names (bS X.env.cells scope.names [])) s.heap.objs.size X.env) fp) [] (wipe σ (own.map (·.2))) H {s with heap:=pushCells (s.heap.push {cls:= .type "dict",data:= .dict #[]}) scope.names}:=by
 have hfree: ∀y∈scope.names,y.2= .free→ ∃c,X.env.cells.lookup y.1=some c:=fun y hy e=>by
  rcases ok.free y hy e with k|k
  ·exact I.ok.has _ (.inl k)
  ·exact I.ok.has _ (.inr k)
 generalize hcenv:compEnvC scope (cellsFrom (s.heap.objs.size+1) scope.names (bS X.env.cells scope.names [])) s.heap.objs.size X.env=cenv
 have kp: ∀b o,s.heap.get? b=some o→(pushCells (s.heap.push {cls:= .type "dict",data:= .dict #[]}) scope.names).get? b=some o:=fun b o e=>pushCells_keeps _ _ _ _ (Heap.get?_push_of_some _ e)
 have hL:cenv.locals=s.heap.objs.size:=by rw[←hcenv];rfl
 have hcl:cenv.cells=cellsFrom (s.heap.objs.size+1) scope.names (bS X.env.cells scope.names []):=by rw[←hcenv];rfl
 have hsc:cenv.scope=QT scope X.env.scope:=by rw[←hcenv];rfl
 rw[←Heap.size_push s.heap {cls:= .type "dict",data:= .dict #[]}] at hcl
 have cm: ∀{y c},(y,c)∈bS X.env.cells scope.names []→X.env.cells.lookup y=some c∧c<s.heap.objs.size:=fun {y c} hm=>by
  rcases sY hm with hm|⟨h1,rfl⟩
  ·cases hm
  ·obtain ⟨c,hc⟩:=hfree _ h1 rfl
   rw[hc]
   obtain ⟨w,z⟩:=I.cell _ _ hc
   exact ⟨rfl,z.lt⟩
 have mem: ∀{y c},cenv.cells.lookup y=some c→(X.env.cells.lookup y=some c∧c<s.heap.objs.size)∨(s.heap.objs.size+1≤c∧EB (pushCells (s.heap.push {cls:= .type "dict",data:= .dict #[]}) scope.names) c none):=fun {y c} e=>by
  rw[hcl] at e
  rcases qr (PySem.mem_of_lookup e) with hm|⟨_,h2,h3⟩
  ·exact .inl (cm hm)
  ·rw[Heap.size_push] at h2;exact .inr ⟨h2,h3⟩
 have look: ∀{y},scope.names.lookup y=some .free→ ∃c,cenv.cells.lookup y=some c∧X.env.cells.lookup y=some c:=fun {y} hl=>by
  have hy:(y,NameKind.free)∈scope.names:=PySem.mem_of_lookup hl
  obtain ⟨c',e'⟩:=mem_lookup (rk (names:=scope.names) (n:=(s.heap.push {cls:= .type "dict",data:= .dict #[]}).objs.size) (wa (cells:=X.env.cells) (acc:= []) hy))
  rw[←hcl] at e'
  refine ⟨c',e',?_⟩
  rw[hcl] at e'
  rcases qr (PySem.mem_of_lookup e') with hm|⟨h1,_,_⟩
  ·exact (cm hm).1
  ·have:=ok.uniq _ h1
   rw[hl] at this;cases this
 have okB:(X.bw s H scope cenv fp).Ok:=by
  refine ⟨I.ok.mod,by show cenv.scope.kind=_;rw[hsc];exact ok.kind,by show cenv.globals=_;rw[←hcenv];exact I.ok.glob,by show cenv.builtins=_;rw[←hcenv];exact I.ok.blt,by show s.heap.objs.size≤cenv.locals;rw[hL];exact Nat.le_refl _,
   fun y z c e1 e2=>?_,fun y hy=>?_,fun y c z e=>?_,I.ok.hd,I.ok.frames, .inl rfl,fun b hb=>⟨?_,fun y c e z=>?_⟩,I.bs,Nat.le_trans I.ok.ek I.sz,fun b o e hb=>?_,fun b hb z=>?_,I.stack,I.tJ⟩
  ·have e1:cenv.cells.lookup y=some c:=e1
   have e2:cenv.cells.lookup z=some c:=e2
   rw[hcl] at e1 e2
   refine u9 (fun p hp=>?_) (fun y z c a b=>I.ok.inj y z c (cm a).1 (cm b).1) (PySem.mem_of_lookup e1) (PySem.mem_of_lookup e2)
   rw[Heap.size_push]
   exact Nat.lt_succ_of_lt (cm (y:=p.1) (c:=p.2) hp).2
  ·show∃c,cenv.cells.lookup y=some c
   have key: ∀k,cenv.kindOf y=some k→(k= .cell∨k= .free)→ ∃c,cenv.cells.lookup y=some c:=fun k hk hk'=>by
    unfold Env.kindOf at hk
    rw[hsc] at hk
    obtain ⟨k',e,r⟩:=uJ hk
    have:k'= .cell∨k'= .free:=by
     rcases r with rfl|⟨rfl,_⟩
     ·exact hk'
     ·exact .inr rfl
    rcases this with rfl|rfl
    ·obtain ⟨c,hm⟩:=uz (n:=(s.heap.push {cls:= .type "dict",data:= .dict #[]}).objs.size) (acc:=bS X.env.cells scope.names []) (PySem.mem_of_lookup e)
     obtain ⟨c',e'⟩:=mem_lookup hm
     exact ⟨c',by rw[hcl];exact e'⟩
    ·obtain ⟨c,h1,_⟩:=look e
     exact ⟨c,h1⟩
   rcases hy with hy|hy
   ·exact key _ hy (.inl rfl)
   ·exact key _ hy (.inr rfl)
  ·have z:(scope.names.lookup y==some NameKind.cell)=true:=z
   have z:scope.names.lookup y=some .cell:=by simpa using z
   have e:cenv.cells.lookup y=some c:=e
   rw[hcl] at e
   rcases qr (PySem.mem_of_lookup e) with hm|⟨_,h2,_⟩
   ·rcases sY hm with hm|⟨h1,_⟩
    ·cases hm
    ·have q:=ok.uniq _ h1
     rw[z] at q;cases q
   ·rw[Heap.size_push] at h2
    exact Nat.le_of_succ_le h2
  ·show b≠cenv.locals
   rw[hL];exact Nat.ne_of_lt (hfp b hb).2
  ·have e:cenv.cells.lookup y=some c:=e
   rcases mem e with ⟨h1,_⟩|⟨h1,_⟩
   ·exact (hfp b hb).1.2.2.2.2.1 y c h1 z
   ·have h2:s.heap.objs.size+1≤b:=by rw[←z];exact h1
    exact absurd (Nat.lt_of_lt_of_le (hfp b hb).2 (Nat.le_of_succ_le h2)) (Nat.lt_irrefl _)
  ·rcases (hfp b hb).1.2.2.2.1 with z|z
   ·exact I.ok.eE b o e z
   ·exact absurd (Nat.lt_of_lt_of_le (Heap.lt_size e) (Nat.le_trans I.ok.ek z)) (Nat.lt_irrefl _)
  ·rcases List.mem_cons.mp (I.qm b z) with z|z
   ·exact (hfp b hb).1.2.1 z
   ·exact (hfp b hb).1.2.2.1 z
 refine ⟨okB,rfl,I.bare,Un.kept kp,⟨fun _=>none,?_,fun i y av e1 e2 e3=>?_⟩,fun y c e=>?_,?_,fun y c e=>?_,fun p hp=>?_,I.ao.kept kp,by rw[rH];exact I.len⟩
 ·show Heap.Ns _ cenv.locals _
  rw[hL]
  exact Heap.Ns.keeps (Heap.Ns.new ..) fun b o e=>pushCells_keeps _ _ _ _ e
 ·obtain ⟨e2,hne⟩:=tW e2
  have hfr:scope.names.lookup y=some .free∧(cenv.kindOf y=some .cell∨cenv.kindOf y=some .free):=by
   have key: ∀k,cenv.scope.names.lookup y=some k→k= .local∨k= .cell∨k= .free→scope.names.lookup y=some .free∧(cenv.kindOf y=some .cell∨cenv.kindOf y=some .free):=fun k hk hk'=>by
    have hk0:=hk
    rw[hsc] at hk
    obtain ⟨k',e,r⟩:=uJ hk
    have no: ¬(k'= .local∨k'= .cell):=fun hh=>by
     rcases ok.own _ (PySem.mem_of_lookup e) hh with e'|e'
     ·obtain ⟨p,hp,hpy⟩:=List.mem_map.mp e'
      have e3:=ok.ix p hp
      have:p.1=y:=hpy
      rw[this] at e3
      exact hne (List.mem_map.mpr ⟨p,hp,wW hN e3 e1⟩)
     ·exact e' (List.mem_of_getElem? e1)
    rcases r with rfl|⟨rfl,rfl⟩
    ·rcases hk' with rfl|rfl|rfl
     ·exact absurd (.inl rfl) no
     ·exact absurd (.inr rfl) no
     ·exact ⟨e, .inr hk0⟩
    ·exact ⟨e, .inl hk0⟩
   have e3:kY cenv.scope y:=e3
   rcases e3 with e3|e3|e3
   ·exact key _ e3 (.inl rfl)
   ·exact key _ e3 (.inr (.inl rfl))
   ·exact key _ e3 (.inr (.inr rfl))
  obtain ⟨m,hn,hl⟩:=I.loc
  have hvis:kY X.env.scope y:=(ok.free _ (PySem.mem_of_lookup hfr.1) rfl).elim (fun k=> .inr (.inl k)) (fun k=> .inr (.inr k))
  obtain ⟨w,r,q⟩:=hl i y av e1 e2 hvis
  refine ⟨w,r, .inr ⟨hfr.2,?_⟩⟩
  obtain ⟨c,h1,h2⟩:=look hfr.1
  rcases q with ⟨k,_⟩|⟨_,c',e',z⟩
  ·have k:X.env.scope.names.lookup y=some .local:=k
   rcases ok.free _ (PySem.mem_of_lookup hfr.1) rfl with k'|k'<;>rw[show X.env.scope.names.lookup y=_ from k'] at k<;>cases k
  ·rw[h2] at e';cases e'
   exact ⟨c,h1,z.keeps kp⟩
 ·have e:cenv.cells.lookup y=some c:=e
  rcases mem e with ⟨h1,_⟩|⟨_,z⟩
  ·obtain ⟨w,z⟩:=I.cell y c h1
   exact ⟨w,z.keeps kp⟩
  ·exact ⟨_,z⟩
 ·show H cenv.locals=none
  rw[hL];exact I.ao.fresh (Nat.le_refl _)
 ·have e:cenv.cells.lookup y=some c:=e
  rcases mem e with ⟨h1,_⟩|⟨h1,_⟩
  ·exact I.dG y c h1
  ·exact I.ao.fresh (Nat.le_of_succ_le h1)
 ·exact absurd (show p∈([]:List (Addr×Obj))++ [] from hp) (by simp)
theorem yK {E:Value→Shared→Prop} {D:Addr} {xs:List V} {y:V} {v:Value} {Q:Value→Shared→Prop} (I:Inv X pins σ H s) (hD:H D=some (.lst xs)) (hz:xs.length<sizeLine) (r:RelV y v)
  (h: ∀s',Inv X pins σ (upd H D (.lst (xs++ [y]))) s'→Q .none s'):wpAny (model X.prog X.w) X.A (call (.builtin "list.append") [.ref D,v]) Q E s:=by
 obtain ⟨hz',its,n,ri,e⟩:=I.ao D _ hD
 have hl:=ri.length
 refine append_at (hsz:=by rw[List.size_toArray];omega) e fun h' sb ho'=>?_
 refine h {s with heap:=h'} (I.write (t':=s.toks) (by rw[hD];trivial) (.inl rfl) (fun b u hb q=>(sb.2 b hb).trans q) ⟨_,ho'⟩ ⟨by rw[List.length_append];exact hz,its++ [v],n+1,ri.append (.cons r .nil),?_⟩)
 rw[ho']
 simp
def jL (X:Cx) (ifs:List Expr) (t:TT):Prop:=
 ∀(pins:List (Addr×Obj)) (s:Shared) (σ:St) (H:Hp) (Q:Bool→Hp→Prop),Inv X pins σ H s→t σ H Q→
  wpAny (model X.prog X.w) X.A (forIn ifs true fun c r=>if r=true then do let ok←isTrue c X.env (eval c X.env);pure (ForInStep.yield ok) else pure (ForInStep.yield r)) (TP X pins σ Q) X.xe s
def oo:TT:=fun _ H Q=>Q true H
theorem dJ:jL X [] oo:=fun _ _ _ H _ I h=>wpAny_tests_nil ⟨H,I,h⟩
end
theorem ia {α:Type} {t:Sem α} {Q Q':α→Shared→Prop} {M:Model} {A:Around} {E:Value→Shared→Prop} {s:Shared} (h:wpAny M A t Q (fun _ _=>False) s) (hQ: ∀a s,Q a s→Q' a s):wpAny M A t Q' E s:=wpAny_mono h hQ fun _ _ z=>False.elim z
theorem yI {prog:Program} {w:World} {A:Around} {R:Result→Shared→Prop} {s:Shared} {elt target iter:Expr} {ifs:List Expr} {scope:Scope} {pos:Pos} {it acc:Value} {env:Env} (I:Nat→Shared→Prop)
  (turn: ∀n s,I n s→wpAny (model prog w) A (pyNext it) (fun r s₁=>match r with
   |none=>R (.ok .next) s₁
   |some v=>wpAny (model prog w) A (letOwnedTupleGo target it v) (fun _ s₁'=>wpAny (model prog w) A (assign target env v) (fun _ s₂=>
     wpAny (model prog w) A (forIn ifs true fun c r=>if r=true then do let ok←isTrue c env (eval c env);pure (ForInStep.yield ok) else pure (ForInStep.yield r)) (fun ok s₃=>
      if ok=true then wpAny (model prog w) A (eval elt env) (fun x s₄=>
       wpAny (model prog w) A (call (.builtin "list.append") [acc,x]) (fun _ s₅=> ∃m,m<n∧I m s₅) (notedBy (model prog w) A env fun e s'=>R (.error e) s') s₄) (notedBy (model prog w) A env fun e s'=>R (.error e) s') s₃
      else∃m,m<n∧I m s₃) (notedBy (model prog w) A env fun e s'=>R (.error e) s') s₂) (notedBy (model prog w) A env fun e s'=>R (.error e) s') s₁') (notedBy (model prog w) A env fun e s'=>R (.error e) s') s₁) (notedBy (model prog w) A env fun e s'=>R (.error e) s') s)
  (n:Nat) (h:I n s):
  codeAny (model prog w) A (.compLoop (.ListComp elt [⟨target,iter,ifs,0⟩] scope pos) 0 it acc env) R s:=by
 refine codeAny_loop rfl I (fun n s hI=>?_) n h
 show wpAny _ A ((compTurn (.ListComp elt [⟨target,iter,ifs,0⟩] scope pos) 0 it acc env).onRaise (fun x=>do noteFrame x env;theTreesLotGoes x)) _ _ s
 refine wpAny_noted ?_
 rw[compTurn_list]
 refine wpAny_bind (wpAny_standAt (wpAny_bind (wpAny_mono (turn n s hI) (fun r s₁ h₁=>?_) fun _ _ h'=>h')))
 cases r with
 |none=>exact wpAny_pure h₁
 |some v=>
  refine wpAny_bind (wpAny_mono h₁ (fun _ s₁' h₁'=>?_) fun _ _ h'=>h')
  refine wpAny_bind (wpAny_mono h₁' (fun _ s₂ h₂=>wpAny_bind (wpAny_mono h₂ (fun ok s₃ h₃=>?_) fun _ _ h'=>h')) fun _ _ h'=>h')
  cases ok with
  |false=>exact wpAny_pure ⟨rfl,h₃⟩
  |true=>
   exact wpAny_bind (wpAny_bind (wpAny_mono h₃ (fun x s₄ h₄=>wpAny_bind (wpAny_mono h₄ (fun _ s₅ h₅=>wpAny_pure (wpAny_pure ⟨rfl,h₅⟩)) fun _ _ h'=>h')) fun _ _ h'=>h'))
section
variable {X:Cx}
def gY (wi:TI) (g:TG) (tt:TT) (te:TE) (vs:List Nat):TE:=fun σ H Q=>wi σ H fun J H1=> ∀D,H1 D=none→ ∃W:Nat→Nat→Hp→Prop,(∃m,W 0 m (upd H1 D (.lst [])))∧ ∀i m H,W i m H→
 (J.stop i H∧Q (.ref D) H)∨(J.go i H∧ ∃Nx:Hp→Prop,(∀H',Nx H'→ ∃m',m'<m∧W (i+1) m' H')∧ ∀x H',J.eP i H x H'→g x (wipe σ vs) H' fun σ2 H2=>wipe σ2 vs=wipe σ vs∧tt σ2 H2 fun b H3=>
  if b=true then te σ2 H3 fun y H4=> ∃acc,H4 D=some (.lst acc)∧acc.length<sizeLine∧Nx (upd H4 D (.lst (acc++ [y]))) else Nx H3)
theorem A4 {pins:List (Addr×Obj)} {s:Shared} {σ:St} {H:Hp} {Q:VK} {elt tg iter:Expr} {ifs:List Expr} {scope:Scope} {own:List (Str×Nat)} {pos pos':Pos} {wi:TI} {g:TG} {tt:TT} {te:TE} {use:Option (Value→Sem Unit)} {Qf:Value→Shared→Prop}
  (hc:X.calm=true) (hN:X.N.Nodup) (I:Inv X pins σ H s) (hi:PI X tg iter wi) (ok:iy X.N X.env.scope scope own)
  (hg: ∀(s:Shared) (H:Hp) (C:Addr) (cl:List (Str×Addr)) (fp:List Addr),PG (X.bw s H scope (compEnvC scope cl C X.env) fp) tg g) (ht: ∀(s:Shared) (H:Hp) (C:Addr) (cl:List (Str×Addr)) (fp:List Addr),jL (X.bw s H scope (compEnvC scope cl C X.env) fp) ifs tt)
  (he: ∀(s:Shared) (H:Hp) (C:Addr) (cl:List (Str×Addr)) (fp:List Addr),PE (X.bw s H scope (compEnvC scope cl C X.env) fp) elt te) (hs: ∀x,foldedSetIterable iter X.env x=pure x)
  (h:gY wi g tt te (own.map (·.2)) σ H Q)
  (hRR: ∀D C s' m H',Inv X pins σ H' s'→Q (.ref D) H'→s'.heap.Ns C m→dX X pins H' C→compPost (model X.prog X.w) X.A X.xe use Qf (.ref D) C (.ok .next) s'):
  wpAny (model X.prog X.w) X.A (comprehension (.ListComp elt [⟨tg,iter,ifs,0⟩] scope pos) scope X.env pos' (newList []) false (eval iter X.env) use) Qf X.xe s:=by
 have hfree: ∀y∈scope.names,y.2= .free→ ∃c,X.env.cells.lookup y.1=some c:=fun y hy e=>by
  rcases ok.free y hy e with k|k
  ·exact I.ok.has _ (.inl k)
  ·exact I.ok.has _ (.inr k)
 refine wpAny_comprehension_free (use:=use) rfl hs (ED hfree) ok.kind (fun y hy e=>by rw[ok.uniq y hy,e])
  (aE (hi pins s σ H _ I h) fun xv s1 hx=>aE hx fun itv s2 h2=>?_)
 obtain ⟨it,fp,tn,J,H2,e,I2,T,st2,f2,q⟩:=h2
 subst e
 refine wpAny_newObj_type (Dl ?_) (by show 0≤sizeLine;decide)
 generalize hD:s2.heap.objs.size=D
 have hDn:H2 D=none:=I2.ao.fresh (Nat.le_of_eq hD)
 obtain ⟨W,⟨m0,w0⟩,turn⟩:=q D hDn
 generalize hs3:({s2 with heap:=s2.heap.push {cls:= .type "list",data:= .seq ([]:List Value).toArray}}:Shared)=s3
 have I3:Inv X pins σ (upd H2 D (.lst [])) s3:=by
  rw[←hs3]
  refine I2.laid (t':=s2.toks) (fun b o e=>Heap.get?_push_of_some _ e) (Nat.le_of_eq hD) ⟨Nat.zero_le _, [],0, .nil,?_⟩
  rw[←hD]
  exact Heap.get?_push_size _ rfl
 have h3:s3.heap=s2.heap.push {cls:= .type "list",data:= .seq ([]:List Value).toArray}:=by rw[←hs3]
 have sz: ∀b∈fp,b<s2.heap.objs.size:=fun b hb=>by
  obtain ⟨o,e,_⟩:=T.obj _ _ st2 b hb
  exact Heap.lt_size e
 have f3: ∀b∈fp,dX X pins (upd H2 D (.lst [])) b∧b<s3.heap.objs.size:=fun b hb=>by
  have hlt:=sz b hb
  refine ⟨⟨?_,(f2 b hb).2⟩,by rw[h3,Heap.size_push];exact Nat.lt_succ_of_lt hlt⟩
  rw[aG (by rw[←hD];exact Nat.ne_of_lt hlt)]
  exact (f2 b hb).1
 have st3:tn 0 s3.heap:=T.keep _ _ _ st2 fun b _ o e=>by rw[h3];exact Heap.get?_push_of_some _ e
 have I4:=yd I3 ok hN f3
 have pg:=hg s3 (upd H2 D (.lst [])) s3.heap.objs.size (cellsFrom (s3.heap.objs.size+1) scope.names (bS X.env.cells scope.names [])) fp
 have pt:=ht s3 (upd H2 D (.lst [])) s3.heap.objs.size (cellsFrom (s3.heap.objs.size+1) scope.names (bS X.env.cells scope.names [])) fp
 have pe:=he s3 (upd H2 D (.lst [])) s3.heap.objs.size (cellsFrom (s3.heap.objs.size+1) scope.names (bS X.env.cells scope.names [])) fp
 show codeAny _ _ (.compStart (.ListComp elt [⟨tg,iter,ifs,0⟩] scope pos) 0 (.ref it) (.ref D) (compEnvC scope (cellsFrom (s3.heap.objs.size+1) scope.names (bS X.env.cells scope.names [])) s3.heap.objs.size X.env)) (compPost (model X.prog X.w) X.A X.xe use Qf (.ref D) s3.heap.objs.size) {s3 with heap:=pushCells (s3.heap.push {cls:= .type "dict",data:= .dict #[]}) scope.names}
 have nfp: ∀b∈fp,(upd H2 D (.lst [])) b=none:=fun b hb=>(f3 b hb).1.1
 generalize hce:compEnvC scope (cellsFrom (s3.heap.objs.size+1) scope.names (bS X.env.cells scope.names [])) s3.heap.objs.size X.env=ce at I4 pg pt pe⊢
 have cL:ce.locals=s3.heap.objs.size:=by subst hce;rfl
 generalize hH3:upd H2 D (.lst [])=H3 at I3 I4 pg pt pe w0 nfp f3
 generalize hs4:({s3 with heap:=pushCells (s3.heap.push {cls:= .type "dict",data:= .dict #[]}) scope.names}:Shared)=s4 at I4⊢
 have st4:tn 0 s4.heap:=T.keep _ _ _ st3 fun b _ o e=>by rw[←hs4];exact pushCells_keeps _ _ _ _ (Heap.get?_push_of_some _ e)
 have stat: ∀{σ':St} {H':Hp} {s':Shared},Inv (X.bw s3 H3 scope ce fp) [] σ' H' s'→(∀b∈fp,H' b=none)→ ∀b∈fp,dX (X.bw s3 H3 scope ce fp) [] H' b:=fun {σ' H' s'} I' hn b hb=>
  ⟨hn b hb,(I'.ok.gJ b hb).1,I'.ok.gI b hb, .inl hb,fun x c e=>(I'.ok.gJ b hb).2 x c e,fun p hp=>absurd (show p∈([]:List (Addr×Obj))++ [] from hp) (by simp)⟩
 have loop:codeAny (model X.prog X.w) X.A (.compLoop (.ListComp elt [⟨tg,iter,ifs,0⟩] scope pos) 0 (.ref it) (.ref D) ce) (compPost (model X.prog X.w) X.A X.xe use Qf (.ref D) s3.heap.objs.size) s4:=by
  refine yI (fun n s'=> ∃i H',Inv (X.bw s3 H3 scope ce fp) [] (wipe σ (own.map (·.2))) H' s'∧tn i s'.heap∧(∀b∈fp,H' b=none)∧W i n H') ?_ m0 ⟨0,H3,I4,st4,nfp,w0⟩
  rintro n s5 ⟨i,H5,I5,st5,n5,w5⟩
  rcases turn i n H5 w5 with ⟨stop,qq⟩|⟨go,Nx,hNx,step⟩
  ·have td:=T.done (X.bw s3 H3 scope ce fp) rfl rfl rfl hc i [] s5 _ H5 (fun _ _=>False) I5 (stat I5 n5) st5 stop
   refine ia td fun r s6 ⟨hr,I6⟩=>?_
   subst hr
   have I7:Inv X pins σ H5 s6:=I3.jj (ch:=fp) I6.os I6.base I6.ao I6.bare fun b hb=>⟨(f3 b hb).1.2.2.2.1,(f3 b hb).1.2.1,(f3 b hb).1.2.2.2.2.1,(f3 b hb).1.2.2.2.2.2⟩
   have nC:H5 s3.heap.objs.size=none:=by
    have z:H5 ce.locals=none:=I6.free
    rw[cL] at z
    exact z
   obtain ⟨m,hn,_⟩:=I6.loc
   have hn:s6.heap.Ns ce.locals m:=hn
   rw[cL] at hn
   exact hRR D s3.heap.objs.size s6 m H5 I7 qq hn (I3.gn (Nat.le_refl _) nC)
  ·have ti:=T.item (X.bw s3 H3 scope ce fp) rfl rfl rfl hc i [] s5 _ H5 (fun _ _=>False) I5 (stat I5 n5) st5 go
   refine ia ti fun r s6 ⟨u,hr,h6⟩=>?_
   subst hr
   refine ia h6 fun _ s7 ⟨x,H7,I7,r7,y7,st7,n7⟩=>?_
   have I7':=I7.pinned (stat I7 n7) (T.obj _ _ st7)
   refine ia (pg _ s7 _ H7 x u _ I7' r7 (step x H7 y7)) fun _ s8 ⟨σ8,H8,I8,hw8,q8⟩=>?_
   refine ia (pt _ s8 σ8 H8 _ I8 q8) fun b s9 ⟨H9,I9,q9⟩=>?_
   have fin: ∀{s':Shared} {H':Hp},Inv (X.bw s3 H3 scope ce fp) ([]++kQ fp s7.heap) σ8 H' s'→Nx H'→ ∃m,m<n∧ ∃i H',Inv (X.bw s3 H3 scope ce fp) [] (wipe σ (own.map (·.2))) H' s'∧tn i s'.heap∧(∀b∈fp,H' b=none)∧W i m H':=fun {s' H'} I' nx=>by
    obtain ⟨m',hm,w'⟩:=hNx H' nx
    have pin': ∀b∈fp,∀o,s7.heap.get? b=some o→s'.heap.get? b=some o∧H' b=none:=fun b hb o e=>
     let z:=I'.pin (b,o) (List.mem_append_right _ (List.mem_append_right _ (tf hb e)))
     ⟨z.1,z.2.1⟩
    have hl:(wipe σ (own.map (·.2))).length=σ8.length:=by rw[←hw8,rH]
    refine ⟨m',hm,i+1,H',(I'.nG (pins:= [])).weak hl (fun j v e=>?_),T.keep _ _ _ st7 fun b hb o e=>(pin' b hb o e).1,fun b hb=>?_,w'⟩
    ·rw[←hw8] at e
     exact (tW e).1
    ·obtain ⟨o,e,_⟩:=T.obj _ _ st7 b hb
     exact (pin' b hb o e).2
   cases b with
   |false=>
    simp only [Bool.false_eq_true,if_false] at q9⊢
    exact fin I9 q9
   |true=>
    simp only [if_true] at q9⊢
    refine ia (pe _ s9 σ8 H9 _ I9 q9) fun z s10 ⟨yv,H10,I10,r10,acc,hD10,hz10,nx⟩=>?_
    exact yK (X:=X.bw s3 H3 scope ce fp) I10 hD10 hz10 r10 fun s11 I11=>fin I11 nx
 exact codeAny_compStart_list loop (T.self X.A 0 _ _ _ st4 loop)
theorem fh {elt tg iter:Expr} {ifs:List Expr} {scope:Scope} {own:List (Str×Nat)} {pos:Pos} {wi:TI} {g:TG} {tt:TT} {te:TE} (hc:X.calm=true) (hN:X.N.Nodup) (hi:PI X tg iter wi) (ok:iy X.N X.env.scope scope own)
  (hg: ∀(s:Shared) (H:Hp) (C:Addr) (cl:List (Str×Addr)) (fp:List Addr),PG (X.bw s H scope (compEnvC scope cl C X.env) fp) tg g) (ht: ∀(s:Shared) (H:Hp) (C:Addr) (cl:List (Str×Addr)) (fp:List Addr),jL (X.bw s H scope (compEnvC scope cl C X.env) fp) ifs tt)
  (he: ∀(s:Shared) (H:Hp) (C:Addr) (cl:List (Str×Addr)) (fp:List Addr),PE (X.bw s H scope (compEnvC scope cl C X.env) fp) elt te) (hs: ∀x,foldedSetIterable iter X.env x=pure x:=by intro _;rfl):
  PE X (.ListComp elt [⟨tg,iter,ifs,0⟩] scope pos) (gY wi g tt te (own.map (·.2))):=by
 intro pins s σ H Q I h
 rw[eval_ListComp]
 refine A4 hc hN I hi ok hg ht he hs h fun D C s' m H' I' q hn f=>⟨m,hn,fun h'' sb=>?_⟩
 obtain ⟨f0,f1,f2,f3,f4,f5⟩:=f
 exact ⟨.ref D,H',I'.turned (t':=s'.toks) (fun b o hb e=>(sb.2 b hb).trans e) f0 f1 f3 f4 f5,rfl,q⟩
theorem Iv {i:Nat} {y:Str} {py:Pos} {elt tg iter:Expr} {ifs:List Expr} {scope:Scope} {own:List (Str×Nat)} {pos spos:Pos} {wi:TI} {g:TG} {tt:TT} {te:TE} (hc:X.calm=true) (hN:X.N.Nodup) (hy:X.N[i]?=some y) (hyl:X.env.scope.names.lookup y=some .local)
  (hsw:swapsWith (.ListComp elt [⟨tg,iter,ifs,0⟩] scope pos) (some (.Name y py)) spos.line X.env=pure true) (hi:PI X tg iter wi) (ok:iy X.N X.env.scope scope own)
  (hg: ∀(s:Shared) (H:Hp) (C:Addr) (cl:List (Str×Addr)) (fp:List Addr),PG (X.bw s H scope (compEnvC scope cl C X.env) fp) tg g) (ht: ∀(s:Shared) (H:Hp) (C:Addr) (cl:List (Str×Addr)) (fp:List Addr),jL (X.bw s H scope (compEnvC scope cl C X.env) fp) ifs tt)
  (he: ∀(s:Shared) (H:Hp) (C:Addr) (cl:List (Str×Addr)) (fp:List Addr),PE (X.bw s H scope (compEnvC scope cl C X.env) fp) elt te) (hs: ∀x,foldedSetIterable iter X.env x=pure x:=by intro _;rfl):
  PS X (.Assign [.Name y py] (.ListComp elt [⟨tg,iter,ifs,0⟩] scope pos) spos) (uE (gY wi g tt te (own.map (·.2))) (jX i)):=by
 intro pins s σ H D I h
 rw[exec_Assign_Name_used _ _ _ _ hsw]
 refine wpAny_bind (wpAny_standAt (wpAny_bind ?_))
 show wpAny _ X.A (do let _←comprehension (.ListComp elt [⟨tg,iter,ifs,0⟩] scope pos) scope X.env (firstIterPos [⟨tg,iter,ifs,0⟩] pos) (newList []) false (eval iter X.env) (some (assign (.Name y py) X.env))) _ _ s
 have h:gY wi g tt te (own.map (·.2)) σ H (fun x H1=>jX i x σ H1 D.nx):=h
 refine wpAny_bind (aE (A4 (Qf:=fun _ s'=>SP X pins D .next s') hc hN I hi ok hg ht he hs h fun L C s' m H' I' q hn f=>?_) fun _ s' hq=>wpAny_pure (wpAny_pure hq))
 show wpAny _ _ (assign (.Name y py) X.env (.ref L)) _ _ _
 refine wpAny_assign_Name (xJ (v:=V.ref L) I' hN hy (.inl hyl) rfl (fun s2 I2 ⟨a,sb,ha⟩=>?_) (.inr hyl))
 obtain ⟨f0,f1,f2,f3,f4,f5⟩:=f
 have haC:C≠a:=by
  rcases ha with z|z
  ·rw[z];exact f1
  ·exact fun e=>f4 y a z e.symm
 refine ⟨m,hn.sameBut sb haC,fun h3 sb3=>?_⟩
 exact ⟨_,H',I2.turned (t':=s2.toks) (fun b o hb e=>(sb3.2 b hb).trans e) f0 f1 f3 f4 f5,q⟩
end
def C5 (N:List Str) (sc scope:Scope) (own:List (Str×Nat)):Bool:=
 (match scope.kind with| .function=>true|_=>false)&&(scope.names.all fun y=>decide (scope.names.lookup y.1=some y.2))&&(own.all fun p=>decide (N[p.2]?=some p.1))&&
  (scope.names.all fun y=>match y.2 with
   | .free=>(match sc.names.lookup y.1 with|some .cell=>true|some .free=>true|_=>false)
   | .local=>decide (y.1∈own.map (·.1))||decide (y.1∉N)
   | .cell=>decide (y.1∈own.map (·.1))||decide (y.1∉N)
   |_=>true)
theorem dM {N:List Str} {sc scope:Scope} {own:List (Str×Nat)} (h:C5 N sc scope own=true):iy N sc scope own:=by
 unfold C5 at h
 simp only [Bool.and_eq_true,List.all_eq_true,decide_eq_true_eq] at h
 obtain ⟨⟨⟨h1,h2⟩,h3⟩,h4⟩:=h
 refine ⟨?_,h2,h3,fun y hy e=>?_,fun y hy e=>?_⟩
 ·split at h1
  ·assumption
  ·cases h1
 ·have q:=h4 y hy
  simp only [e] at q
  split at q<;>first|exact .inl (by assumption)|exact .inr (by assumption)|cases q
 ·have q:=h4 y hy
  rcases e with e|e<;>(simp only [e,Bool.or_eq_true,decide_eq_true_eq] at q;exact q)
end L2
namespace L2
open PySem PySem.Spec PyProof.Rows
section
variable {prog:Program} {w:World} {A:Around} {R:Result→Shared→Prop} {s:Shared} {elt t0 i0 t1 i1:Expr} {ifs0 ifs1:List Expr} {scope:Scope} {pos:Pos} {it acc:Value} {env:Env}
end
section
variable {X:Cx}
end
end L2
namespace L2
open PySem PySem.Spec PyProof.Rows
section
variable {κ:Type} [DecidableEq κ]
end
section
variable {P:Program} {w:World} {H:Hp} {h:Heap} {a:Addr}
end
section
variable {X:Cx} {pins:List (Addr×Obj)} {σ:St} {H:Hp} {s:Shared} {a:Addr} {y v:V} {u r:Value} {o:Option V} {A:Around} {E:Value→Shared→Prop}
end
section
variable {X:Cx} {pins:List (Addr×Obj)} {σ:St} {H:Hp} {s:Shared} {a:Addr} {kvs:List (Key×V)} {k:Key} {u:Value} {A:Around} {E:Value→Shared→Prop}
end
section
variable {X:Cx} {o i e value:Expr} {pos pos' tpos:Pos} {td ty tv:TE}
end
section
variable {X:Cx} {pos:Pos}
end
section
variable {X:Cx} {pins:List (Addr×Obj)} {σ:St} {H:Hp} {s:Shared} {a:Addr} {y d:V} {u r:Value} {o:Option V} {A:Around} {E:Value→Shared→Prop}
end
section
variable {X:Cx} {o e f:Expr} {apos cpos:Pos} {td ty tx:TE}
end
section
variable {X:Cx} {pins:List (Addr×Obj)} {σ:St} {H:Hp} {s:Shared} {a:Addr} {kvs:List (Key×V)} {A:Around} {E:Value→Shared→Prop}
end
section
variable {X:Cx} {pins:List (Addr×Obj)} {σ:St} {H:Hp} {s:Shared} {a:Addr} {y:V} {u:Value} {A:Around} {E:Value→Shared→Prop}
end
end L2
namespace L2
open PySem PySem.Spec PyProof.Rows
section
variable {prog:Program} {w:World} {A:Around} {E:Value→Shared→Prop}
end
section
variable {X:Cx}
end
end L2
namespace L2
open PySem PySem.Spec PyProof.Rows
section
variable {X:Cx} {pins:List (Addr×Obj)} {σ:St} {H:Hp} {s:Shared} {h':Heap}
theorem Inv.C7 {t':Nat} {ch:List Addr} (I:Inv X pins σ H s) (k: ∀b o,b∉ch→s.heap.get? b=some o→h'.get? b=some o) (hf: ∀b∈ch,dX X pins H b):Inv X pins σ H {s with heap:=h',toks:=t'}:=by
 have nit: ∀b u,H b=some u→b∉ch:=fun b u e z=>by
  have q:=(hf b z).1
  rw[q] at e;cases e
 refine I.step (g':=s.gens) (d':=s.drawn) (ch:=ch) (fun b hb=>⟨(hf b hb).2.2.2.1,(hf b hb).2.1,(hf b hb).2.2.2.2.1,(hf b hb).2.2.2.2.2⟩) (fun b o _ _ hc e _=>k b o hc e) (fun b o _ _ hc e _=>⟨o.slots,k b o hc e⟩)
  (fun _ _ _ _ n=>n) (fun b o hc e=>⟨o,k b o hc e⟩) (fun _ _ e=>e) (fun _ _ _ e=>e) (fun b ps e=>⟨#[],by rw[e];simp⟩) (fun m hm=>?_) (fun b u e=>?_) I.bare
 ·obtain ⟨o,es,ep,ho,r⟩:=hm
  exact ⟨o,es,ep,k _ o (fun z=>(hf _ z).2.1 rfl) ho,r⟩
 ·refine (I.ao b u e).fD (fun c v hc q=>k c v ?_ q) (fun _ q=>q) fun _ _ q=>q
  rcases hc with z|z
  ·rw[z];exact nit b u e
  ·exact nit c _ z
theorem Inv.xj {t':Nat} {ch:List Addr} {T:Addr} {ob:HO} (I:Inv X pins σ H s) (k: ∀b o,b∉ch→s.heap.get? b=some o→h'.get? b=some o) (hf: ∀b∈ch,dX X pins H b) (hT:s.heap.objs.size≤T)
  (new:cS X.prog X.w (upd H T ob) h' T ob):Inv X pins σ (upd H T ob) {s with heap:=h',toks:=t'}:=by
 have hn:H T=none:=I.ao.fresh hT
 have nit: ∀b u,H b=some u→b∉ch:=fun b u e z=>by
  have q:=(hf b z).1
  rw[q] at e;cases e
 refine I.step (g':=s.gens) (d':=s.drawn) (ch:=ch) (fun b hb=>⟨(hf b hb).2.2.2.1,(hf b hb).2.1,(hf b hb).2.2.2.2.1,(hf b hb).2.2.2.2.2⟩) (fun b o _ _ hc e _=>k b o hc e) (fun b o _ _ hc e _=>⟨o.slots,k b o hc e⟩)
  (fun b o _ e n=>?_) (fun b o hc e=>⟨o,k b o hc e⟩) (fun b xs e=>?_) (fun b o u e=>?_) (fun b ps e=>⟨#[],?_⟩) (fun m hm=>?_) (fun b u e=>?_) I.bare
 ·rw[aG (Nat.ne_of_lt (Nat.lt_of_lt_of_le (Heap.lt_size e) hT))];exact n
 ·rw[aG (cw e hn)];exact e
 ·rw[aG (cw e hn)];exact e
 ·rw[aG (cw e hn),e];simp
 ·obtain ⟨o,es,ep,ho,r⟩:=hm
  exact ⟨o,es,ep,k _ o (fun z=>(hf _ z).2.1 rfl) ho,r⟩
 ·by_cases hb:b=T
  ·subst hb
   rw[ak] at e
   cases e
   exact new
  ·rw[aG hb] at e
   refine (I.ao b u e).fD (fun c v hc q=>k c v ?_ q) (fun c q=>by rw[aG (cw q hn)];exact q) fun c xs q=>by rw[aG (cw q hn)];exact q
   rcases hc with z|z
   ·rw[z];exact nit b u e
   ·exact nit c _ z
end
section
variable {X:Cx}
theorem Ju {tg:Expr} {pins:List (Addr×Obj)} {σ:St} {H:Hp} {s:Shared} {R:It→Hp→Prop} {J:It} {tn:Nat→Heap→Prop} {tk:Nat} (I:Inv X pins σ H s) (o:Obj)
  (T:Turn X.prog X.w X.K tg J [s.heap.objs.size] s.heap.objs.size tn) (st:tn 0 (s.heap.push o)) (q:R J H):wX X pins σ tg R (.ref s.heap.objs.size) {s with heap:=s.heap.push o,toks:=tk}:=by
 refine ⟨s.heap.objs.size, [s.heap.objs.size],tn,J,H,rfl,I.kept fun b ob e=>Heap.get?_push_of_some _ e,T,st,fun b hb=>?_,q⟩
 have e:b=s.heap.objs.size:=by simpa using hb
 subst e
 exact I.gn (Nat.le_refl _) (I.ao.fresh (Nat.le_refl _))
end
def rS (lo c:Int) (n:Nat):It:=⟨fun i _=>i<n,fun i H x H'=>H'=H∧x= .int (lo+(i:Nat)*c),fun i _=>n≤i⟩
theorem FX {P:Program} {w:World} {K:PySem.W.Frag} {tg:Expr} (it:Addr) (lo c:Int) (n:Nat):Turn P w K tg (rS lo c n) [it] it (fun i h=>IsRangeIter h it (lo+(i:Nat)*c) ((n:Int)-(i:Nat)) c) where
 mem:=by simp
 obj:=fun i h st b hb=>by
  have e:b=it:=by simpa using hb
  subst e
  exact ⟨_,st,fun v z=>nomatch z⟩
 keep:=fun i h h' st k=>k it (by simp) _ st
 item:=by
  intro X hP hw hK hc i pins s σ H E I hf st hg
  subst hP hw hK
  obtain ⟨f0,f1,f2,f3,f4,f5⟩:=hf it (by simp)
  have W:=Walks.range (prog:=X.prog) (w:=X.w) (I.ok.hd hc) it lo c n
  refine W.item i s _ _ hg st fun v h' tk hv st' kk=>?_
  obtain ⟨t,rfl⟩:=hv
  have I1:Inv X pins σ H {s with heap:=h',toks:=tk}:=I.turned (fun b o hb e=>kk b o (by simpa using hb) e) f0 f1 f3 f4 f5
  exact ⟨_,rfl,sN (s:={s with heap:=h',toks:=tk}) (n:= "range_iterator") st' rfl rfl (by decide) ⟨.int (lo+(i:Nat)*c),H,I1,⟨t,rfl⟩,⟨rfl,rfl⟩,st',fun b hb=>(hf b hb).1⟩⟩
 done:=by
  intro X hP hw hK hc i pins s σ H E I hf st hg
  subst hP hw hK
  obtain ⟨f0,f1,f2,f3,f4,f5⟩:=hf it (by simp)
  exact wpAny_pyNext_range_end (I.ok.hd hc) st (by have:n≤i:=hg;omega) fun h' eb=>⟨rfl,I.turned (t':=s.toks) (fun b o hb e=>eb b o hb e) f0 f1 f3 f4 f5⟩
 self:=fun A i s Q E st h=>wpAny_pyIter_rangeiter st h
def rT (i j c:Int) (n:Nat):Prop:=c≠0∧c.natAbs<1073741824∧Builtin.Range.small i j c=true∧Builtin.Range.rangeSize i j c=n
def Rx (ta:TA):TI:=fun σ H R=>ta σ H fun vs H1=> ∃(i j c:Int) (n:Nat),vs= [.int i, .int j, .int c]∧rT i j c n∧R (rS i c n) H1
section
variable {X:Cx} {tg:Expr}
theorem zq {a b c:Expr} {ta:TA} {p pos:Pos} (hg:Gl X "range") (hm:X.mg "range" =none) (ha:PA X [a,b,c] ta)
  (hs:starEach [a,b,c] X.env=(false,eval a X.env)::starEach [b,c] X.env:=by rfl) (hpl:(backTo pos (starEach [b,c] X.env)).any (·.1)=false:=by rfl):
  PI X tg (.Call (.Name "range" p) [a,b,c] [] pos) (Rx ta):=by
 intro pins s σ H R I h
 refine Call_ (iC I hg hm boot_range (PyProof.Rows.callWith_type1 (aE (ha pos pins s σ H _ I h) fun us s1 ⟨vs,H1,I1,r1,q1⟩=>?_) hs hpl))
 obtain ⟨i,j,k,n,e,⟨c0,c1,c2,c3⟩,q⟩:=q1
 subst e
 cases r1 with
 |cons r rr=>
  cases rr with
  |cons r' rr=>
   cases rr with
   |cons r'' rr=>
    cases rr
    obtain ⟨t,rfl⟩:=r
    obtain ⟨t',rfl⟩:=r'
    obtain ⟨t'',rfl⟩:=r''
    refine call_range_3 c0 ?_ (.inl (PyProof.noPylong_small c1))
    refine wpAny_pyIter_range (IsRange.new ..) c2 ?_
    have I2:Inv X pins σ H1 {s1 with heap:=s1.heap.push {cls:= .type "range",data:= .fields #[.int i t, .int j t', .int k t'']}}:=I1.kept (t':=s1.toks) fun b o e=>Heap.get?_push_of_some _ e
    refine Ju (tk:=s1.toks) I2 _ (FX _ i k n) ?_ q
    have e1:i+((0:Nat):Int)*k=i:=by simp
    have e2:(n:Int)-((0:Nat):Int)=Builtin.Range.rangeSize i j k:=by rw[c3];simp
    show IsRangeIter _ _ (i+((0:Nat):Int)*k) ((n:Int)-((0:Nat):Int)) k
    rw[e1,e2]
    exact Heap.get?_push_size _ rfl
end
section
variable {X:Cx} {tg:Expr}
end
section
variable {prog:Program} {w:World} {A:Around} {E:Value→Shared→Prop} {s:Shared}
end
section
variable {X:Cx} {pins:List (Addr×Obj)} {σ:St} {H:Hp} {s:Shared} {d:Addr} {o:Obj}
end
section
variable {P:Program} {w:World} {K:PySem.W.Frag} {tg:Expr} {d:Addr} {o:Obj} {es:Array DictEntry} {ep:Nat}
end
section
variable {X:Cx} {tg e:Expr} {td:TE} {apos cpos:Pos}
end
def rR (K:PySem.W.Frag) (a:Addr):It:=
 ⟨fun i H=> ∃(xs:List V) (x:V),ah K H a xs∧xs[i]?=some x,fun i H v H'=> ∃T x,v= .ref T∧H T=none∧H'=upd H T (.tup [.int (i:Nat),x])∧ ∀xs,ah K H a xs→xs[i]?=some x,fun i H=> ∃xs:List V,ah K H a xs∧xs.length≤i⟩
theorem NP {P:Program} {w:World} {K:PySem.W.Frag} {elts:List Expr} {kk:Nat} {tpos:Pos} (a e it:Addr):
  Turn P w K (.Tuple elts kk tpos) (rR K a) [e,it] e (fun i h=>(∃old,IsEnum h e it ((i:Nat):Int) old)∧h.IsListIter it a i∧e≠it) where
 mem:=by simp
 obj:=fun i h st b hb=>by
  obtain ⟨⟨old,he⟩,⟨o,ho,hc,hd⟩,_⟩:=st
  have e':b=e∨b=it:=by simpa using hb
  rcases e' with z|z
  ·rw[z];exact ⟨_,he,fun v q=>nomatch q⟩
  ·rw[z];exact ⟨o,ho,fun v q=>by rw[hd] at q;cases q⟩
 keep:=fun i h h' st k=>let ⟨⟨old,he⟩,hi,hne⟩:=st;⟨⟨old,k e (by simp) _ he⟩,hi.at fun o q=>k it (by simp) o q,hne⟩
 item:=by
  intro X hP hw hK hc i pins s σ H E I hf st hg
  subst hP hw hK
  obtain ⟨⟨old,he⟩,hit,hne⟩:=st
  obtain ⟨xs,x,hq,hx⟩:=hg
  obtain ⟨its,rv,p,hz⟩:=I.list hq
  obtain ⟨u,hu,ru⟩:=rv.get hx
  have hel:e<s.heap.objs.size:=Heap.lt_size he
  have hil:it<s.heap.objs.size:=by obtain ⟨_,q,_⟩:=hit;exact Heap.lt_size q
  refine wpAny_pyNext_enum_item he hit p.isList (x:=u) (by simpa using hu) hne fun h' ho hit' hT hsz hk=>?_
  refine ⟨_,rfl,wpAny_letOwnedTupleGo_enum (s:={s with heap:=h',toks:=s.toks+1}) ho fun h'' he' sb=>?_⟩
  have hT2:h''.get? s.heap.objs.size=some {cls:= .type "tuple",data:= .seq #[.int i s.toks,u]}:=(sb.2 _ (Nat.ne_of_gt hel)).trans hT
  have new:cS X.prog X.w (upd H s.heap.objs.size (.tup [.int (i:Nat),x])) h'' s.heap.objs.size (.tup [.int (i:Nat),x]):=
   ⟨by show 2≤sizeLine;decide, [.int i s.toks,u], .cons ⟨_,rfl⟩ (.cons ru .nil),⟨_,hT2,rfl,_,rfl⟩⟩
  have I1:Inv X pins σ (upd H s.heap.objs.size (.tup [.int (i:Nat),x])) {s with heap:=h'',toks:=s.toks+1}:=
   I.xj (ch:= [e,it]) (fun b ob hb q=>(sb.2 b (fun z=>hb (by simp [z]))).trans (hk b ob (fun z=>hb (by simp [z])) (fun z=>hb (by simp [z])) q)) hf (Nat.le_refl _) new
  refine ⟨.ref s.heap.objs.size,_,I1,rfl,⟨_,x,rfl,I.ao.fresh (Nat.le_refl _),rfl,fun ys hy=>by rw[I.mE hy hq];exact hx⟩,⟨⟨u,?_⟩,hit'.at fun o q=>(sb.2 it (Ne.symm hne)).trans q,hne⟩,fun b hb=>?_⟩
  ·have e1:((i+1:Nat):Int)=(i:Int)+1:=by omega
   rw[e1];exact he'
  ·have hb':b<s.heap.objs.size:=by
    have e':b=e∨b=it:=by simpa using hb
    rcases e' with z|z
    ·rw[z];exact hel
    ·rw[z];exact hil
   rw[aG (Nat.ne_of_lt hb')]
   exact (hf b hb).1
 done:=by
  intro X hP hw hK hc i pins s σ H E I hf st hg
  subst hP hw hK
  obtain ⟨⟨old,he⟩,hit,hne⟩:=st
  obtain ⟨xs,hq,hx⟩:=hg
  obtain ⟨its,rv,p,hz⟩:=I.list hq
  obtain ⟨f0,f1,f2,f3,f4,f5⟩:=hf it (by simp)
  have hl:=rv.length
  exact wpAny_pyNext_enum_end (I.ok.hd hc) he hit p.isList (by simp;omega) fun h' eb=>⟨rfl,I.turned (t':=s.toks) (fun b o hb q=>eb b o hb q) f0 f1 f3 f4 f5⟩
 self:=fun A i s Q E st h=>let ⟨⟨_,he⟩,_⟩:=st;wpAny_pyIter_enum he h
def F8 (K:PySem.W.Frag) (ta:TA):TI:=fun σ H R=>ta σ H fun vs H1=> ∃a xs,vs= [.ref a]∧ah K H1 a xs∧R (rR K a) H1
theorem DQ {X:Cx} {e:Expr} {ta:TA} {p pos tpos:Pos} {elts:List Expr} {kk:Nat} (hg:Gl X "enumerate") (hm:X.mg "enumerate" =none) (ha:PA X [e] ta) (hs:starEach [e] X.env= [(false,eval e X.env)]:=by rfl):
  PI X (.Tuple elts kk tpos) (.Call (.Name "enumerate" p) [e] [] pos) (F8 X.K ta):=by
 intro pins s σ H R I h
 refine Call_ (iC I hg hm boot_enumerate (PyProof.Rows.callWith_type1 (aE (ha pos pins s σ H _ I h) fun us s1 ⟨vs,H1,I1,r1,q1⟩=>?_) hs rfl))
 obtain ⟨a,xs,ex,hq,q⟩:=q1
 subst ex
 cases r1 with
 |cons r rr=>
  cases rr
  cases r
  obtain ⟨its,rv,p',hz⟩:=I1.list hq
  refine call_enumerate_list p'.isList fun h' he hit hsz hk=>wpAny_pyIter_enum he ?_
  have I2:Inv X pins σ H1 {s1 with heap:=h'}:=I1.kept (t':=s1.toks) hk
  refine ⟨s1.heap.objs.size+1, [s1.heap.objs.size+1,s1.heap.objs.size],_,_,H1,rfl,I2,NP a (s1.heap.objs.size+1) s1.heap.objs.size,⟨⟨.none,he⟩,hit,Nat.succ_ne_self _⟩,fun b hb=>?_,q⟩
  have e':b=s1.heap.objs.size+1∨b=s1.heap.objs.size:=by simpa using hb
  have hle:s1.heap.objs.size≤b:=by
   rcases e' with z|z
   ·rw[z];exact Nat.le_add_right _ _
   ·rw[z];exact Nat.le_refl _
  exact I1.gn hle (I1.ao.fresh hle)
theorem DC:bootBuiltins "zip" =some (.type "zip"):=by decide+kernel
def rN (K:PySem.W.Frag) (a b:Addr):It:=
 ⟨fun i H=> ∃(xs ys:List V) (x y:V),ah K H a xs∧ah K H b ys∧xs[i]?=some x∧ys[i]?=some y,
  fun i H v H'=> ∃T x y,v= .ref T∧H T=none∧H'=upd H T (.tup [x,y])∧(∀xs,ah K H a xs→xs[i]?=some x)∧ ∀ys,ah K H b ys→ys[i]?=some y,
  fun i H=> ∃xs ys:List V,ah K H a xs∧ah K H b ys∧(xs.length≤i∨ys.length≤i)⟩
theorem Fe {P:Program} {w:World} {K:PySem.W.Frag} {elts:List Expr} {kk:Nat} {tpos:Pos} {a b z TI TO i1 i2:Addr} (D:ZipApart z TI TO i1 i2 a b):
  Turn P w K (.Tuple elts kk tpos) (rN K a b) [z,TI,TO,i1,i2] z (fun i h=>IsZip h z TI TO .none∧IsPair h TI (.ref i1) (.ref i2)∧(∃x y,IsPair h TO x y)∧h.IsListIter i1 a i∧h.IsListIter i2 b i) where
 mem:=by simp
 obj:=fun i h st c hc=>by
  obtain ⟨hz,hTI,⟨x,y,hTO⟩,⟨o1,e1,_,d1⟩,⟨o2,e2,_,d2⟩⟩:=st
  have e':c=z∨c=TI∨c=TO∨c=i1∨c=i2:=by simpa using hc
  rcases e' with q|q|q|q|q
  ·rw[q];exact ⟨_,hz,fun v q=>nomatch q⟩
  ·rw[q];exact ⟨_,hTI,fun v q=>nomatch q⟩
  ·rw[q];exact ⟨_,hTO,fun v q=>nomatch q⟩
  ·rw[q];exact ⟨o1,e1,fun v q=>by rw[d1] at q;cases q⟩
  ·rw[q];exact ⟨o2,e2,fun v q=>by rw[d2] at q;cases q⟩
 keep:=fun i h h' st k=>by
  obtain ⟨hz,hTI,⟨x,y,hTO⟩,h1,h2⟩:=st
  exact ⟨k z (by simp) _ hz,k TI (by simp) _ hTI,⟨x,y,k TO (by simp) _ hTO⟩,h1.at fun o q=>k i1 (by simp) o q,h2.at fun o q=>k i2 (by simp) o q⟩
 item:=by
  intro X hP hw hK hc i pins s σ H E I hf st hg
  subst hP hw hK
  obtain ⟨hz,hTI,⟨x0,y0,hTO⟩,h1,h2⟩:=st
  obtain ⟨xs,ys,x,y,hqx,hqy,hx,hy⟩:=hg
  obtain ⟨its,rv,p,_⟩:=I.list hqx
  obtain ⟨its2,rv2,p2,_⟩:=I.list hqy
  obtain ⟨u,hu,ru⟩:=rv.get hx
  obtain ⟨u2,hu2,ru2⟩:=rv2.get hy
  have hzl:z<s.heap.objs.size:=Heap.lt_size hz
  refine wpAny_pyNext_zip_item D hz hTI hTO h1 h2 p.isList p2.isList (x:=u) (y:=u2) (by simpa using hu) (by simpa using hu2) fun h' z' TO' h1' h2' hT hsz hk=>?_
  refine ⟨_,rfl,wpAny_letOwnedTupleGo_zip (s:={s with heap:=h'}) z' fun h'' z'' sb=>?_⟩
  have hT2:h''.get? s.heap.objs.size=some {cls:= .type "tuple",data:= .seq #[u,u2]}:=(sb.2 _ (Nat.ne_of_gt hzl)).trans hT
  have new:cS X.prog X.w (upd H s.heap.objs.size (.tup [x,y])) h'' s.heap.objs.size (.tup [x,y]):=
   ⟨by show 2≤sizeLine;decide, [u,u2], .cons ru (.cons ru2 .nil),⟨_,hT2,rfl,_,rfl⟩⟩
  have I1:Inv X pins σ (upd H s.heap.objs.size (.tup [x,y])) {s with heap:=h''}:=
   I.xj (t':=s.toks) (ch:= [z,TI,TO,i1,i2]) (fun c o hb q=>(sb.2 c (fun q'=>hb (by simp [q']))).trans (hk c o (fun q'=>hb (by simp [q'])) (fun q'=>hb (by simp [q'])) (fun q'=>hb (by simp [q'])) (fun q'=>hb (by simp [q'])) q)) hf (Nat.le_refl _) new
  refine ⟨.ref s.heap.objs.size,_,I1,rfl,⟨_,x,y,rfl,I.ao.fresh (Nat.le_refl _),rfl,fun l hl=>by rw[I.mE hl hqx];exact hx,fun l hl=>by rw[I.mE hl hqy];exact hy⟩,⟨z'',?_,⟨u,u2,?_⟩,?_,?_⟩,fun c hcm=>?_⟩
  ·exact (sb.2 _ D.TIz).trans (hk _ _ D.TIz D.TITO D.TIi1 D.TIi2 hTI)
  ·exact (sb.2 _ D.TOz).trans TO'
  ·exact h1'.at fun o q=>(sb.2 _ D.i1z).trans q
  ·exact h2'.at fun o q=>(sb.2 _ D.i2z).trans q
  ·have hlt:c<s.heap.objs.size:=by
    have e':c=z∨c=TI∨c=TO∨c=i1∨c=i2:=by simpa using hcm
    rcases e' with q|q|q|q|q
    ·rw[q];exact hzl
    ·rw[q];exact Heap.lt_size hTI
    ·rw[q];exact Heap.lt_size hTO
    ·rw[q];obtain ⟨_,e1,_⟩:=h1;exact Heap.lt_size e1
    ·rw[q];obtain ⟨_,e2,_⟩:=h2;exact Heap.lt_size e2
   rw[aG (Nat.ne_of_lt hlt)]
   exact (hf c hcm).1
 done:=by
  intro X hP hw hK hc i pins s σ H E I hf st hg
  subst hP hw hK
  obtain ⟨hz,hTI,⟨x0,y0,hTO⟩,h1,h2⟩:=st
  obtain ⟨xs,ys,hqx,hqy,hend⟩:=hg
  obtain ⟨its,rv,p,_⟩:=I.list hqx
  obtain ⟨its2,rv2,p2,_⟩:=I.list hqy
  have l1:=rv.length
  have l2:=rv2.length
  have he:its.toArray[i]?=none∨its2.toArray[i]?=none:=by
   rcases hend with q|q
   ·exact .inl (by simp;omega)
   ·exact .inr (by simp;omega)
  exact wpAny_pyNext_zip_end (I.ok.hd hc) D hz hTI hTO h1 h2 p.isList p2.isList he fun h' hk=>⟨rfl,I.C7 (t':=s.toks) (ch:= [z,TI,TO,i1,i2]) (fun c o hb q=>
   hk c o (fun q'=>hb (by simp [q'])) (fun q'=>hb (by simp [q'])) (fun q'=>hb (by simp [q'])) (fun q'=>hb (by simp [q'])) q) hf⟩
 self:=fun A i s Q E st h=>wpAny_pyIter_zip st.1 h
def Nr (K:PySem.W.Frag) (ta:TA):TI:=fun σ H R=>ta σ H fun vs H1=> ∃a b xs ys,vs= [.ref a, .ref b]∧ah K H1 a xs∧ah K H1 b ys∧R (rN K a b) H1
theorem Ap {X:Cx} {e e2:Expr} {ta:TA} {p pos tpos:Pos} {elts:List Expr} {kk:Nat} (hg:Gl X "zip") (hm:X.mg "zip" =none) (ha:PA X [e,e2] ta)
  (hs:starEach [e,e2] X.env=(false,eval e X.env)::starEach [e2] X.env:=by rfl) (hpl:(backTo pos (starEach [e2] X.env)).any (·.1)=false:=by rfl):
  PI X (.Tuple elts kk tpos) (.Call (.Name "zip" p) [e,e2] [] pos) (Nr X.K ta):=by
 intro pins s σ H R I h
 refine Call_ (iC I hg hm DC (PyProof.Rows.callWith_type1 (aE (ha pos pins s σ H _ I h) fun us s1 ⟨vs,H1,I1,r1,q1⟩=>?_) hs hpl))
 obtain ⟨a,b,xs,ys,ex,hqx,hqy,q⟩:=q1
 subst ex
 cases r1 with
 |cons r rr=>
  cases rr with
  |cons r' rr=>
   cases rr
   cases r
   cases r'
   obtain ⟨its,rv,p1,_⟩:=I1.list hqx
   obtain ⟨its2,rv2,p2,_⟩:=I1.list hqy
   have la:a<s1.heap.objs.size:=p1.lt
   have lb:b<s1.heap.objs.size:=p2.lt
   refine call_zip_2 p1.isList p2.isList fun h' hz hTI hTO h1 h2 hsz hk=>wpAny_pyIter_zip hz ?_
   have I2:Inv X pins σ H1 {s1 with heap:=h'}:=I1.kept (t':=s1.toks) hk
   refine ⟨s1.heap.objs.size+4, [s1.heap.objs.size+4,s1.heap.objs.size+2,s1.heap.objs.size+3,s1.heap.objs.size,s1.heap.objs.size+1],_,_,H1,rfl,I2,Fe (PySem.W.ktu_apart s1.heap.objs.size a b la lb),⟨hz,hTI,⟨_,_,hTO⟩,h1,h2⟩,fun c hcm=>?_,q⟩
   have e':c=s1.heap.objs.size+4∨c=s1.heap.objs.size+2∨c=s1.heap.objs.size+3∨c=s1.heap.objs.size∨c=s1.heap.objs.size+1:=by simpa using hcm
   have hle:s1.heap.objs.size≤c:=by
    rcases e' with z|z|z|z|z
    ·rw[z];exact Nat.le_add_right _ _
    ·rw[z];exact Nat.le_add_right _ _
    ·rw[z];exact Nat.le_add_right _ _
    ·rw[z];exact Nat.le_refl _
    ·rw[z];exact Nat.le_add_right _ _
   exact I1.gn hle (I1.ao.fresh hle)
end L2
section
namespace Bits
open PySem PyProof.Rows
end Bits
end
section
namespace TL
open PySem PySem.Builtin PySem.Builtin.Str PySem.StrLaws
end TL
end
namespace L2
open PySem PySem.Spec PyProof.Rows
section
variable {X:Cx} {pins:List (Addr×Obj)} {σ:St} {H:Hp} {s:Shared} {Q:VK}
end
section
variable {X:Cx}
end
section
variable {X:Cx} {o e:Expr} {to te:TE}
end
end L2
namespace L2
open PySem PySem.Spec PyProof.Rows
section
variable {X:Cx}
end
end L2
namespace Att
open PySem PySem.W PySem.Calls PyProof.Rows
section
variable {prog:Program} {w:World} {A:Around} {E:Value→Shared→Prop} {s:Shared} {K:Frag}
end
end Att
namespace L2
open PySem PySem.Spec PyProof.Rows
end L2
namespace L2
open PySem PySem.Spec PyProof.Rows
abbrev BJ {K:PySem.W.Frag} {h:Heap} (_:K.In h):PySem.W.Frag:=K
end L2
namespace L2
open PySem PySem.Spec PyProof.Rows
def inClass (s:Stmt) (j:Nat):Stmt:=match s with
 | .ClassDef _ _ _ body _ _ _ _ _ _ _=>body.getD j (.Pass ⟨0,0,0,0⟩)
 |_=> .Pass ⟨0,0,0,0⟩
def uR (s:Stmt):Arguments:=match s with
 | .FunctionDef _ a _ _ _ _ _ _ _ _=>a
 |_=>{posonlyargs:= [],args:= [],vararg:=none,kwonlyargs:= [],kw_defaults:= [],kwarg:=none,defaults:= []}
def kS (s:Stmt):List Stmt:=match s with
 | .FunctionDef _ _ b _ _ _ _ _ _ _=>b
 |_=> []
def aD (s:Stmt):Scope:=match s with
 | .FunctionDef _ _ _ _ _ _ sc _ _ _=>sc
 |_=>{kind:= .function,names:= [],isGenerator:=false,isCoroutine:=false}
abbrev ba:d5:=fun _ _ _ _ _ _=>False
abbrev E0:XK:=fun _ _ _=>False
theorem aU {X:Cx}:Passes ba X E0:=fun _ _ _ _ _ _ _ h=>h.elim
structure aH (K:PySem.W.Frag) (x qual:Str) (st:Stmt) (f:Addr) (fd:FuncData):Prop where
 ex: ∃(oc:Value) (od:Option Addr) (kV doc pm:Value) (an:Option Addr) (cdv ct:Value) (osl:Array (Option Value)),
  fd=PySem.W.fnOf x qual (uR st) (kS st) (aD st) .none kV doc pm an cdv ct∧K.lookup f=some ⟨oc,od, .func fd,osl⟩∧PySem.W.codeIn K cdv qual=true
 kp:PySem.W.keepIn K (.ref f)=true
section
variable {P:Program} {w:World} {K:PySem.W.Frag} {mg:Str→Option Value} {base:Heap}
theorem aH.ok {x qual:Str} {st:Stmt} {f:Addr} {fd:FuncData} {N ps:List Str} {k:Nat} {sp:Sp} (F:aH K x qual st f fd) (S:aK N ps (aD st)) (len: ∀vs H Q E,sp vs H Q E→vs.length=ps.length)
  (hbody: ∀(cdv:Value) (A:Around) (outer:List Env) (s:Shared) (H:Hp) (vs:List V) (Q:VK) (E:XK),aF k (A.deeper (envOfC qual (aD st) s.heap.objs.size f cdv))→sp vs H Q E→
   ∃t,cP (fF ba P w K mg base N qual (aD st) f cdv A outer s H E).tH (kS st) t∧t {nx:=fun _ H'=>Q .au H',rt:=Q} (start N vs) H):az P w K mg base ba (k+1) f fd ps sp:=by
 obtain ⟨oc,od,kV,doc,pm,an,cdv,ct,osl,rfl,lk,hcd⟩:=F.ex
 refine B9 lk hcd S len fun A outer s H vs Q E hr hsp=>?_
 obtain ⟨t,h,q⟩:=hbody cdv A outer s H vs Q E hr hsp
 exact ⟨t,h.tH,q⟩
theorem QR {x qual:Str} {st:Stmt} {f:Addr} {oc:Value} {od an:Option Addr} {osl:Array (Option Value)} {kV doc pm cdv ct:Value} (l:K.lookup f=some ⟨oc,od, .func (PySem.W.fnOf x qual (uR st) (kS st) (aD st) .none kV doc pm an cdv ct),osl⟩)
  (c:PySem.W.codeIn K cdv qual=true) (k:PySem.W.keepIn K (.ref f)=true):aH K x qual st f (PySem.W.fnOf x qual (uR st) (kS st) (aD st) .none kV doc pm an cdv ct):=⟨⟨oc,od,kV,doc,pm,an,cdv,ct,osl,rfl,l,c⟩,k⟩
end
section
variable {X:Cx}
theorem pv (i:Nat) {x:Str} {pos:Pos} (hN:X.N[i]?=some x:=by rfl) (hv:kY X.env.scope x:=by first|exact Or.inl rfl|exact Or.inr (Or.inl rfl)|exact Or.inr (Or.inr rfl)) (hd:(x==("__debug__" :Str))=false:=by decide)
  (hcd:(x==("__classdict__" :Str))=false:=by decide):PE X (.Name x pos) (gh i):=Py hN hv hd hcd
end
theorem bB {A B:Prop} (h:B):if false=true then A else B:=by
 rw[if_neg Bool.false_ne_true]
 exact h
theorem bt {A B:Prop} (h:A):if true=true then A else B:=by
 rw[if_pos rfl]
 exact h
theorem bZ {c A B:Prop} [Decidable c] (h1:c→A) (h2: ¬c→B):if c then A else B:=by
 by_cases h:c
 ·rw[if_pos h]
  exact h1 h
 ·rw[if_neg h]
  exact h2 h
def ae (H H':Hp):Prop:= ∀b o,H b=some o→H' b=some o
theorem ae.refl (H:Hp):ae H H:=fun _ _ h=>h
theorem ae.trans {H H1 H2:Hp} (a:ae H H1) (b:ae H1 H2):ae H H2:=fun c o h=>b c o (a c o h)
theorem ae.seq {K:PySem.W.Frag} {H H':Hp} {a:Addr} {xs:List V} (e:ae H H') (h:ah K H a xs):ah K H' a xs:=by
 rcases h with (h|⟨o,h⟩)|h
 ·exact .inl (.inl (e _ _ h))
 ·exact .inl (.inr ⟨o,e _ _ h⟩)
 ·exact .inr h
section
variable {κ:Type} [DecidableEq κ]
end
theorem at_of {xs:List V} {z:Int} {j:Nat} {v:V} (e:z=(j:Int)) (h:xs[j]?=some v):fZ xs z=some v:=by
 rw[e]
 exact cv h
end L2
set_option maxHeartbeats 2000000
namespace L2
open PySem PySem.Spec PyProof.Rows
open PySem.W (WData Codec OpenSpec Well WellAll ReadsW ReadsAllW)
mutual
inductive Dw (K:PySem.W.Frag) (H:Hp):V→WData→Prop
 |au:Dw K H .au .none
 |bl (b:Bool):Dw K H (.bl b) (.bool b)
 |int (i:Int):Dw K H (.int i) (.int i)
 |str (x:Str):Dw K H (.str x) (.str x)
 |dB (b:Array UInt8):Dw K H (.dB b) (.bytes b.toList)
 |lst {a:Addr} {xs:List V} {ds:List WData}:ah K H a xs→fM K H xs ds→Dw K H (.ref a) (.list ds)
 |tup {a:Addr} {xs:List V} {ds:List WData}:aY K H a xs→fM K H xs ds→Dw K H (.ref a) (.tuple ds)
inductive fM (K:PySem.W.Frag) (H:Hp):List V→List WData→Prop
 |nil:fM K H [] []
 |cons {v:V} {vs:List V} {d:WData} {ds:List WData}:Dw K H v d→fM K H vs ds→fM K H (v::vs) (d::ds)
end
theorem Bt {K:PySem.W.Frag} {H:Hp}: ∀ns:List Int,fM K H (ns.map V.int) (ns.map WData.int)
 | []=> .nil
 |n::r=> .cons (.int n) (Bt r)
theorem DJ {K:PySem.W.Frag} {H:Hp}: ∀(ns:List Int) (xs:List V),fM K H xs (ns.map WData.int)→xs=ns.map V.int
 | [],xs,h=>by
  cases h
  rfl
 |n::r,xs,h=>by
  cases h with
  |cons h1 h2=>
   cases h1
   rw[DJ r _ h2]<;>rfl
section
variable {P:Program} {w:World} {K:PySem.W.Frag} {H:Hp} {h:Heap} {R:PySem.W.WRecords} {cl:Str→Option Addr}
theorem Ot {a:Addr} {xs:List V} (ao:bO P w H h) (KX:K.In h) (q:ah K H a xs): ∃(its:List Value) (o:Obj) (n:Nat),Vals xs its∧h.get? a=some o∧o.cls= .type "list" ∧o.data= .seq its.toArray n:=by
 rcases q with q|⟨o,its,n,e,hc,_,hd,_,hv⟩
 ·obtain ⟨_,its,n,hv,e⟩:=(show cS P w H h a (.lst xs) from q.ok ao)
  exact ⟨its,_,n,hv,e,rfl,rfl⟩
 ·exact ⟨its.toList,o,n,hv,KX _ _ e,hc,by simp [hd]⟩
theorem Fd {a:Addr} {xs:List V} (ao:bO P w H h) (KX:K.In h) (q:aY K H a xs): ∃(its:List Value) (o:Obj) (n:Nat),Vals xs its∧h.get? a=some o∧o.cls= .type "tuple" ∧o.data= .seq its.toArray n:=by
 rcases q with q|⟨o,its,n,e,hc,hd,_,hv⟩
 ·obtain ⟨_,its,hv,o,e,hc,n,hd⟩:=(show cS P w H h a (.tup xs) from q.ok ao)
  exact ⟨its,o,n,hv,e,hc,hd⟩
 ·exact ⟨its.toList,o,n,hv,KX _ _ e,hc,by simp [hd]⟩
mutual
theorem Dw.reads (ao:bO P w H h) (KX:K.In h): ∀(d:WData) (v:V) (u:Value),Dw K H v d→RelV v u→ ∃as,ReadsW R cl h u d as
 | .none,_,_,x,r=>by
  cases x
  cases r
  exact ⟨_,ReadsW.none⟩
 | .bool b,_,_,x,r=>by
  cases x
  cases r
  exact ⟨_,ReadsW.bool b⟩
 | .int i,_,_,x,r=>by
  cases x
  obtain ⟨t,rfl⟩:=r
  exact ⟨_,ReadsW.int i t⟩
 | .str s,_,_,x,r=>by
  cases x
  obtain ⟨t,rfl⟩:=r
  exact ⟨_,ReadsW.str s t⟩
 | .bytes b,_,_,x,r=>by
  cases x
  obtain ⟨t,rfl⟩:=r
  exact ⟨_,ReadsW.bytes _ t⟩
 | .list ds,_,_,x,r=>by
  cases x with
  |lst hs ha=>
   cases r
   obtain ⟨its,o,n,rv,ho,hc,hd⟩:=Ot ao KX hs
   obtain ⟨as,hr⟩:=Dw.readsAll ao KX ds _ its ha rv
   exact ⟨_,ReadsW.list ho hc hd hr⟩
 | .tuple ds,_,_,x,r=>by
  cases x with
  |tup hs ha=>
   cases r
   obtain ⟨its,o,n,rv,ho,hc,hd⟩:=Fd ao KX hs
   obtain ⟨as,hr⟩:=Dw.readsAll ao KX ds _ its ha rv
   exact ⟨_,ReadsW.tuple ho hc hd hr⟩
 | .float _,_,_,x,_=>by cases x
 | .dict _,_,_,x,_=>by cases x
 | .bytearray _,_,_,x,_=>by cases x
 | .set _,_,_,x,_=>by cases x
 | .frozenset _,_,_,x,_=>by cases x
 | .obj _ _,_,_,x,_=>by cases x
theorem Dw.readsAll (ao:bO P w H h) (KX:K.In h): ∀(ds:List WData) (vs:List V) (us:List Value),fM K H vs ds→Vals vs us→ ∃as,ReadsAllW R cl h us ds as
 | [],_,_,x,r=>by
  cases x
  cases r
  exact ⟨_,ReadsAllW.nil⟩
 |d::ds,_,_,x,r=>by
  cases x with
  |cons h1 h2=>
   cases r with
   |cons r1 r2=>
    obtain ⟨as,q1⟩:=Dw.reads ao KX d _ _ h1 r1
    obtain ⟨bs,q2⟩:=Dw.readsAll ao KX ds _ _ h2 r2
    exact ⟨_,ReadsAllW.cons q1 q2⟩
end
end
mutual
def eH:WData→Bool
 | .none=>true
 | .bool _=>true
 | .int _=>true
 | .str _=>true
 | .bytes _=>true
 | .list xs=>fL xs
 | .tuple xs=>fL xs
 |_=>false
def fL:List WData→Bool
 | []=>true
 |x::r=>eH x&&fL r
end
theorem yO {α:Type} {f:α→WData} (h: ∀a,eH (f a)=true): ∀l:List α,fL (l.map f)=true
 | []=>rfl
 |x::r=>by
  show (eH (f x)&&fL (r.map f))=true
  rw[h x,yO h r]<;>rfl
theorem jf: ∀(c:Codec) (a:c.denote),eH (c.enc a)=true
 | .unit,_=>rfl
 | .bool,_=>rfl
 | .int _ _,_=>rfl
 | .nat _ _,_=>rfl
 | .u8,_=>rfl
 | .bytes _ _,_=>rfl
 | .text _ _ _ _,_=>rfl
 | .list _ _ c,a=>yO (fun x=>jf c x) a
 | .pair c d,a=>by
  show (eH (c.enc a.1)&&(eH (d.enc a.2)&&true))=true
  rw[jf c a.1,jf d a.2]<;>rfl
 | .triple c d e,a=>by
  show (eH (c.enc a.1)&&(eH (d.enc a.2.1)&&(eH (e.enc a.2.2)&&true)))=true
  rw[jf c a.1,jf d a.2.1,jf e a.2.2]<;>rfl
 | .option c,none=>rfl
 | .option c,some x=>jf c x
theorem Ej: ∀(cs:List Codec) (a:Codec.denoteAll cs),fL (Codec.encAll cs a)=true
 | [],_=>rfl
 |c::cs,a=>by
  show (eH (c.enc a.1)&&fL (Codec.encAll cs a.2))=true
  rw[jf c a.1,Ej cs a.2]<;>rfl
theorem vy: ∀{xs:List WData} {d:WData},d∈xs→d.weight≤WData.weightAll xs
 | [],d,h=>absurd h (by simp)
 |x::r,d,h=>by
  show d.weight≤x.weight+1+WData.weightAll r
  rcases List.mem_cons.mp h with e|m
  ·rw[e]
   omega
  ·have z:=vy m
   omega
def toV:Value→V
 | .none=> .au
 | .bool b=> .bl b
 | .int i _=> .int i
 | .str x _=> .str x
 | .bytes b _=> .dB b
 | .ref a=> .ref a
 |_=> .au
def fe (A:List Addr):Value→Prop
 | .none=>True
 | .bool _=>True
 | .int _ _=>True
 | .str _ _=>True
 | .bytes _ _=>True
 | .ref a=>a∈A
 |_=>False
theorem fe.mono {A B:List Addr} (h: ∀a∈A,a∈B): ∀{u:Value},fe A u→fe B u:=fun {u} x=>by
 cases u with
 |ref a=>exact h a x
 |none=>trivial
 |bool b=>trivial
 |int i t=>trivial
 |str s t=>trivial
 |bytes b t=>trivial
 |_=>exact False.elim x
theorem OG {A:List Addr} {u:Value} (x:fe A u):RelV (toV u) u:=by
 cases u with
 |ref a=>rfl
 |none=>rfl
 |bool b=>rfl
 |int i t=>exact ⟨t,rfl⟩
 |str s t=>exact ⟨t,rfl⟩
 |bytes b t=>exact ⟨t,rfl⟩
 |_=>exact False.elim x
theorem k7 {A:List Addr}: ∀{vs:List Value},(∀u∈vs,fe A u)→Vals (vs.map toV) vs
 | [],_=> .nil
 |u::r,h=> .cons (OG (h u (List.mem_cons_self ..))) (k7 fun x hx=>h x (List.mem_cons_of_mem _ hx))
def fw (h:Heap) (A:List Addr) (a:Addr):Prop:= ∃vs:List Value,vs.length≤sizeLine∧(∀u∈vs,fe A u)∧
 (h.get? a=some {cls:= .type "list",data:= .seq vs.toArray}∨h.get? a=some {cls:= .type "tuple",data:= .seq vs.toArray})
theorem fw.mono {h:Heap} {A B:List Addr} {a:Addr} (k: ∀a∈A,a∈B) (x:fw h A a):fw h B a:=by
 obtain ⟨vs,h1,h2,h3⟩:=x
 exact ⟨vs,h1,fun u hu=>(h2 u hu).mono k,h3⟩
theorem tZ {P:Params} {h:Heap}: ∀{vs:List Value} {ds:List WData},WellAll P h vs ds→vs.length=ds.length
 |_,_, .nil=>rfl
 |_,_, .cons _ b=>by
  show _+1=_+1
  rw[tZ b]
theorem Cv {P:Params} {h:Heap} {v:Value} {ds:List WData} (x:Well P h v (.list ds)): ∃(a:Addr) (vs:List Value),v= .ref a∧h.get? a=some {cls:= .type "list",data:= .seq vs.toArray}∧WellAll P h vs ds:=by
 cases x with
 |list ho hall=>exact ⟨_,_,rfl,ho,hall⟩
theorem yb {P:Params} {h:Heap} {v:Value} {ds:List WData} (x:Well P h v (.tuple ds)): ∃(a:Addr) (vs:List Value),v= .ref a∧h.get? a=some {cls:= .type "tuple",data:= .seq vs.toArray}∧WellAll P h vs ds:=by
 cases x with
 |tuple ho hall=>exact ⟨_,_,rfl,ho,hall⟩
theorem AH {P:Params} {h:Heap} {us:List Value} {d:WData} {ds:List WData} (x:WellAll P h us (d::ds)): ∃(v:Value) (vs:List Value),us=v::vs∧Well P h v d∧WellAll P h vs ds:=by
 cases x with
 |cons a b=>exact ⟨_,_,rfl,a,b⟩
theorem ET {n:Nat} (h:n≤1048576):n≤sizeLine:=Nat.le_trans h (by decide)
section
variable {P:Params} {h:Heap}
mutual
theorem Ry: ∀(d:WData) (v:Value),Well P h v d→eH d=true→d.weight≤1048576→ ∃A:List Addr,fe A v∧ ∀a∈A,fw h A a
 | .none,_,x,_,_=>by
  cases x
  exact ⟨[],trivial,fun a m=>absurd m (by simp)⟩
 | .bool b,_,x,_,_=>by
  cases x
  exact ⟨[],trivial,fun a m=>absurd m (by simp)⟩
 | .int i,_,x,_,_=>by
  cases x
  exact ⟨[],trivial,fun a m=>absurd m (by simp)⟩
 | .str s,_,x,_,_=>by
  cases x
  exact ⟨[],trivial,fun a m=>absurd m (by simp)⟩
 | .bytes b,_,x,_,_=>by
  cases x
  exact ⟨[],trivial,fun a m=>absurd m (by simp)⟩
 | .list ds,_,x,p,z=>by
  obtain ⟨a,vs,rfl,ho,hall⟩:=Cv x
  have z2:WData.weightAll ds≤1048576:=z
  obtain ⟨A,h1,h2⟩:=sO ds _ hall p fun d hd=>Nat.le_trans (vy hd) z2
  have k: ∀b∈A,b∈a::A:=fun b hb=>List.mem_cons_of_mem _ hb
  refine ⟨a::A,List.mem_cons_self ..,fun b hb=>?_⟩
  rcases List.mem_cons.mp hb with e|m
  ·rw[e]
   exact ⟨vs,ET (by rw[tZ hall];exact Nat.le_trans (PySem.W.length_le_weightAllW ds) z2),fun u hu=>(h1 u hu).mono k, .inl ho⟩
  ·exact (h2 b m).mono k
 | .tuple ds,_,x,p,z=>by
  obtain ⟨a,vs,rfl,ho,hall⟩:=yb x
  have z2:WData.weightAll ds≤1048576:=z
  obtain ⟨A,h1,h2⟩:=sO ds _ hall p fun d hd=>Nat.le_trans (vy hd) z2
  have k: ∀b∈A,b∈a::A:=fun b hb=>List.mem_cons_of_mem _ hb
  refine ⟨a::A,List.mem_cons_self ..,fun b hb=>?_⟩
  rcases List.mem_cons.mp hb with e|m
  ·rw[e]
   exact ⟨vs,ET (by rw[tZ hall];exact Nat.le_trans (PySem.W.length_le_weightAllW ds) z2),fun u hu=>(h1 u hu).mono k, .inr ho⟩
  ·exact (h2 b m).mono k
 | .float _,_,_,p,_=>Bool.noConfusion (show false=true from p)
 | .dict _,_,_,p,_=>Bool.noConfusion (show false=true from p)
 | .bytearray _,_,_,p,_=>Bool.noConfusion (show false=true from p)
 | .set _,_,_,p,_=>Bool.noConfusion (show false=true from p)
 | .frozenset _,_,_,p,_=>Bool.noConfusion (show false=true from p)
 | .obj _ _,_,_,p,_=>Bool.noConfusion (show false=true from p)
theorem sO: ∀(ds:List WData) (vs:List Value),WellAll P h vs ds→fL ds=true→(∀d∈ds,d.weight≤1048576)→ ∃A:List Addr,(∀u∈vs,fe A u)∧ ∀a∈A,fw h A a
 | [],_,x,_,_=>by
  cases x
  exact ⟨[],fun u m=>absurd m (by simp),fun a m=>absurd m (by simp)⟩
 |d::ds,_,x,p,z=>by
  obtain ⟨v,vs,rfl,x1,x2⟩:=AH x
  have q:eH d=true∧fL ds=true:=Bool.and_eq_true_iff.mp p
  obtain ⟨A,a1,a2⟩:=Ry d v x1 q.1 (z d (List.mem_cons_self ..))
  obtain ⟨B,b1,b2⟩:=sO ds vs x2 q.2 fun e he=>z e (List.mem_cons_of_mem _ he)
  have kA: ∀b∈A,b∈A++B:=fun b hb=>List.mem_append.mpr (.inl hb)
  have kB: ∀b∈B,b∈A++B:=fun b hb=>List.mem_append.mpr (.inr hb)
  refine ⟨A++B,fun u hu=>?_,fun b hb=>?_⟩
  ·rcases List.mem_cons.mp hu with e|m
   ·rw[e]
    exact a1.mono kA
   ·exact (b1 u m).mono kB
  ·rcases List.mem_append.mp hb with m|m
   ·exact (a2 b m).mono kA
   ·exact (b2 b m).mono kB
end
end
def sv (o:Obj):Option HO:=match o.data with
 | .seq vs _=>if (o.cls==Value.type "list")=true then some (.cY o (.lst (vs.toList.map toV))) else some (.cY o (.tup (vs.toList.map toV)))
 |_=>none
def dh (K:PySem.W.Frag) (h:Heap) (A:List Addr):Hp:=fun b=>if b∈A then (if (K.lookup b).isNone=true then (h.get? b).bind sv else none) else none
def l9 (H:Hp):Prop:= ∀b,H b=none∨ ∃o u,H b=some (.cY o u)
theorem C8 (vs:List Value):sv {cls:= .type "list",data:= .seq vs.toArray}=some (.cY {cls:= .type "list",data:= .seq vs.toArray} (.lst (vs.map toV))):=by
 show (if (Value.type "list" ==Value.type "list")=true then some (HO.cY {cls:= .type "list",data:= .seq vs.toArray} (.lst (vs.toArray.toList.map toV))) else some (HO.cY {cls:= .type "list",data:= .seq vs.toArray} (.tup (vs.toArray.toList.map toV))))=_
 rw[if_pos (beq_self_eq_true _)]
theorem Bf (vs:List Value):sv {cls:= .type "tuple",data:= .seq vs.toArray}=some (.cY {cls:= .type "tuple",data:= .seq vs.toArray} (.tup (vs.map toV))):=by
 show (if (Value.type "tuple" ==Value.type "list")=true then some (HO.cY {cls:= .type "tuple",data:= .seq vs.toArray} (.lst (vs.toArray.toList.map toV))) else some (HO.cY {cls:= .type "tuple",data:= .seq vs.toArray} (.tup (vs.toArray.toList.map toV))))=_
 rw[if_neg (by decide)]
section
variable {P:Program} {w:World} {K:PySem.W.Frag} {h:Heap} {A:List Addr}
theorem qQ {b:Addr} {o:Obj} (hb:b∈A) (hk:K.lookup b=none) (e:h.get? b=some o):dh K h A b=sv o:=by
 unfold dh
 rw[if_pos hb,hk,if_pos (show (none:Option Obj).isNone=true from rfl),e]<;>rfl
theorem Fy {b:Addr} {u:HO} (q:dh K h A b=some u):b∈A∧K.lookup b=none:=by
 unfold dh at q
 by_cases hb:b∈A
 ·rw[if_pos hb] at q
  cases hk:K.lookup b with
  |none=>exact ⟨hb,rfl⟩
  |some o=>
   rw[hk,if_neg (by simp)] at q
   cases q
 ·rw[if_neg hb] at q
  cases q
theorem qV (ar: ∀a∈A,fw h A a) {b:Addr} {u:HO} (q:dh K h A b=some u):K.lookup b=none∧ ∃vs:List Value,vs.length≤sizeLine∧(∀u∈vs,fe A u)∧
  ((h.get? b=some {cls:= .type "list",data:= .seq vs.toArray}∧u= .cY {cls:= .type "list",data:= .seq vs.toArray} (.lst (vs.map toV)))∨
   (h.get? b=some {cls:= .type "tuple",data:= .seq vs.toArray}∧u= .cY {cls:= .type "tuple",data:= .seq vs.toArray} (.tup (vs.map toV)))):=by
 obtain ⟨hb,hk⟩:=Fy q
 obtain ⟨vs,h1,h2,h3⟩:=ar b hb
 refine ⟨hk,vs,h1,h2,?_⟩
 rcases h3 with e|e
 ·rw[qQ hb hk e,C8] at q
  exact .inl ⟨e,(Option.some.inj q).symm⟩
 ·rw[qQ hb hk e,Bf] at q
  exact .inr ⟨e,(Option.some.inj q).symm⟩
theorem IF (ar: ∀a∈A,fw h A a):l9 (dh K h A):=fun b=>by
 cases q:dh K h A b with
 |none=>exact .inl rfl
 |some u=>
  obtain ⟨_,vs,_,_,⟨_,e⟩|⟨_,e⟩⟩:=qV ar q
  ·exact .inr ⟨_,_,by rw[e]⟩
  ·exact .inr ⟨_,_,by rw[e]⟩
theorem Fl (ar: ∀a∈A,fw h A a):bO P w (dh K h A) h:=fun b u q=>by
 obtain ⟨_,vs,h1,h2,⟨e,rfl⟩|⟨e,rfl⟩⟩:=qV ar q
 ·exact ⟨e,by rw[List.length_map];exact h1,vs,_,k7 h2,e⟩
 ·exact ⟨e,by rw[List.length_map];exact h1,vs,k7 h2,_,e,rfl,_,rfl⟩
theorem qU {c c':Value} {vs us:List Value} (e:(some {cls:=c,data:= .seq vs.toArray}:Option Obj)=some {cls:=c',data:= .seq us.toArray}):c=c'∧vs=us:=by
 have e1:=Option.some.inj e
 have e2:c=c':=congrArg Obj.cls e1
 have e3:Data.seq vs.toArray=Data.seq us.toArray:=congrArg Obj.data e1
 injection e3 with e4
 refine ⟨e2,?_⟩
 have e5:=congrArg Array.toList e4
 simpa using e5
theorem Ob (KX:K.In h) (ar: ∀a∈A,fw h A a) {a:Addr} {vs:List Value} (ha:a∈A) (e:h.get? a=some {cls:= .type "list",data:= .seq vs.toArray}):(∀u∈vs,fe A u)∧ah K (dh K h A) a (vs.map toV):=by
 obtain ⟨us,h1,h2,h3⟩:=ar a ha
 have hu:us=vs:=by
  rcases h3 with q|q
  ·rw[e] at q
   exact (qU q).2.symm
  ·rw[e] at q
   exact absurd (Value.type.inj (qU q).1) (by decide)
 subst hu
 refine ⟨h2,?_⟩
 cases hk:K.lookup a with
 |none=>exact .inl (.inr ⟨_,by rw[qQ ha hk e,C8]⟩)
 |some o=>
  have e2:=KX a o hk
  rw[e] at e2
  obtain rfl:=Option.some.inj e2
  exact .inr ⟨_,us.toArray,_,hk,rfl,rfl,rfl,by rw[List.size_toArray];exact h1,by simpa using k7 h2⟩
theorem JL (KX:K.In h) (ar: ∀a∈A,fw h A a) {a:Addr} {vs:List Value} (ha:a∈A) (e:h.get? a=some {cls:= .type "tuple",data:= .seq vs.toArray}):(∀u∈vs,fe A u)∧aY K (dh K h A) a (vs.map toV):=by
 obtain ⟨us,h1,h2,h3⟩:=ar a ha
 have hu:us=vs:=by
  rcases h3 with q|q
  ·rw[e] at q
   exact absurd (Value.type.inj (qU q).1) (by decide)
  ·rw[e] at q
   exact (qU q).2.symm
 subst hu
 refine ⟨h2,?_⟩
 cases hk:K.lookup a with
 |none=>exact .inl (.inr ⟨_,by rw[qQ ha hk e,Bf]⟩)
 |some o=>
  have e2:=KX a o hk
  rw[e] at e2
  obtain rfl:=Option.some.inj e2
  exact .inr ⟨_,us.toArray,_,hk,rfl,rfl,by rw[List.size_toArray];exact h1,by simpa using k7 h2⟩
mutual
theorem Jr {Pm:Params} (KX:K.In h) (ar: ∀a∈A,fw h A a): ∀(d:WData) (v:Value),Well Pm h v d→eH d=true→fe A v→Dw K (dh K h A) (toV v) d
 | .none,_,x,_,_=>by
  cases x
  exact .au
 | .bool b,_,x,_,_=>by
  cases x
  exact .bl b
 | .int i,_,x,_,_=>by
  cases x
  exact .int i
 | .str s,_,x,_,_=>by
  cases x
  exact .str s
 | .bytes b,_,x,_,_=>by
  cases x
  have z:=Dw.dB (K:=K) (H:=dh K h A) b.toArray
  exact z
 | .list ds,_,x,p,hu=>by
  obtain ⟨a,vs,rfl,ho,hall⟩:=Cv x
  obtain ⟨h2,hs⟩:=Ob KX ar hu ho
  exact .lst hs (tY KX ar ds _ hall p h2)
 | .tuple ds,_,x,p,hu=>by
  obtain ⟨a,vs,rfl,ho,hall⟩:=yb x
  obtain ⟨h2,hs⟩:=JL KX ar hu ho
  exact .tup hs (tY KX ar ds _ hall p h2)
 | .float _,_,_,p,_=>Bool.noConfusion (show false=true from p)
 | .dict _,_,_,p,_=>Bool.noConfusion (show false=true from p)
 | .bytearray _,_,_,p,_=>Bool.noConfusion (show false=true from p)
 | .set _,_,_,p,_=>Bool.noConfusion (show false=true from p)
 | .frozenset _,_,_,p,_=>Bool.noConfusion (show false=true from p)
 | .obj _ _,_,_,p,_=>Bool.noConfusion (show false=true from p)
theorem tY {Pm:Params} (KX:K.In h) (ar: ∀a∈A,fw h A a): ∀(ds:List WData) (vs:List Value),WellAll Pm h vs ds→fL ds=true→(∀u∈vs,fe A u)→fM K (dh K h A) (vs.map toV) ds
 | [],_,x,_,_=>by
  cases x
  exact .nil
 |d::ds,_,x,p,hu=>by
  obtain ⟨v,vs,rfl,x1,x2⟩:=AH x
  have q:eH d=true∧fL ds=true:=Bool.and_eq_true_iff.mp p
  exact .cons (Jr KX ar d v x1 q.1 (hu _ (List.mem_cons_self ..))) (tY KX ar ds vs x2 q.2 fun u m=>hu u (List.mem_cons_of_mem _ m))
end
end
theorem Fj {P:Program} {w:World} {K:PySem.W.Frag} {mg mb:Str→Option Value} {CX:d5} {k:Nat} {fa:Addr} {fd:FuncData} {ps:List Str} {sp:Sp} {s₁:Shared} {vals:List Value} {ds:List WData} {R:PySem.W.WRecords} {cl:Str→Option Addr} {d0:WData}
  (KX:K.In s₁.heap) (hns:s₁.heap.Ns mainGlobals mg) (hb:s₁.heap.Ns builtinsNs mb) (hbb: ∀x:Str,x≠ "__name__" →mb x=bootBuiltins x) (hlim:s₁.heap.NoLimit) (hg:s₁.gens= #[])
  (hwl:WellAll w.params s₁.heap vals ds) (hpl:fL ds=true) (hwt: ∀d∈ds,d.weight≤1048576) (hr:aF k callerA)
  (F: ∀base:Heap,K.In base→base.Ns mainGlobals mg→az P w K mg base CX k fa fd ps sp) (hbind: ∀(s:Shared) (us:List Value),us.length=ps.length→BindsTo s fd ⟨us, []⟩ (ps.zip us)) (hlen:ds.length=ps.length)
  (hsp: ∀(H:Hp) (xs:List V),l9 H→fM K H xs ds→sp xs H (fun v H'=>Dw K H' v d0) fun _ _ _=>False)
  (hCX: ∀H e s',CX [] H s₁ (fun _ _ _=>False) e s'→False):
  codeAny (model P w) callerA (.call (.ref fa) ⟨vals, []⟩) (fun r s'=> ∃u as,r= .ok (.ret u)∧ReadsW R cl s'.heap u d0 as∧OldK s₁.heap s'.heap∧s'.os=s₁.os∧AllBare s'.gens) s₁:=by
 obtain ⟨A,ho,ar⟩:=sO ds vals hwl hpl hwt
 have hO:l9 (dh K s₁.heap A):=IF ar
 have ao:bO P w (dh K s₁.heap A) s₁.heap:=Fl ar
 have hS:=tY KX ar ds vals hwl hpl ho
 have hV:=k7 ho
 have hK: ∀b u,dh K s₁.heap A b=some u→K.lookup b=none:=fun b u q=>(qV ar q).1
 have noA: ∀{b:Addr} {o:Obj} {es:Array DictEntry} {ep:Nat},s₁.heap.get? b=some o→o.data= .dict es ep→dh K s₁.heap A b=none:=fun {b o es ep} e d=>by
  cases q:dh K s₁.heap A b with
  |none=>rfl
  |some u=>
   obtain ⟨_,vs,_,_,⟨e2,_⟩|⟨e2,_⟩⟩:=qV ar q
   ·rw[e2] at e
    cases e
    have d':Data.seq vs.toArray _=Data.dict es ep:=d
    cases d'
   ·rw[e2] at e
    cases e
    have d':Data.seq vs.toArray _=Data.dict es ep:=d
    cases d'
 generalize dh K s₁.heap A=H at hO ao hS hK noA
 have base_of: ∀{b:Addr} {o:Obj},s₁.heap.get? b=some o→H b=none→(gO s₁.heap H).get? b=some o:=fun e n=>JT e n
 have nsK: ∀{b:Addr} {m:Str→Option Value},s₁.heap.Ns b m→(gO s₁.heap H).Ns b m:=fun {b m} ⟨o,es,ep,e,d,r⟩=>⟨o,es,ep,base_of e (noA e d),d,r⟩
 have nK: ∀b o,K.lookup b=some o→H b=none:=fun b o e=>by
  cases q:H b with
  |none=>rfl
  |some u=>
   rw[hK b u q] at e
   cases e
 have hKb:K.In (gO s₁.heap H):=fun b o e=>base_of (KX b o e) (nK b o e)
 have hM:Mod K mg (gO s₁.heap H):=⟨hKb,nsK hns,⟨mb,nsK hb,hbb⟩,let ⟨mc,h1,h2⟩:=hlim;⟨mc,nsK h1,h2⟩⟩
 have e0:iY P w K mg (gO s₁.heap H) callerA [] s₁ H:=⟨rfl,hM,fun b o e=>Ii e,Nat.le_of_eq (Qt _ _),trivial,fun b hb=>absurd (show b∈([]:List Addr) from hb) (by simp),ao, .of_eq hg⟩
 have hl:vals.length=ps.length:=by rw[tZ hwl];exact hlen
 refine codeAny_mono ((F _ hKb (nsK hns)).run callerA [] s₁ H ⟨vals, []⟩ vals (vals.map toV) _ _ hr e0 (hbind s₁ vals hl) hV (hsp H _ hO hS)) fun r s' x=>?_
 cases r with
 |error e=>exact (hCX H e s' x).elim
 |ok fl=>
  cases fl with
  |next=>exact False.elim x
  |brk=>exact False.elim x
  |cont=>exact False.elim x
  |ret u=>
   obtain ⟨v,H',os,bare,un,hok',r',q⟩:=x
   have kept: ∀b o,s₁.heap.get? b=some o→s'.heap.get? b=some o:=fun b o e=>by
    cases q2:H b with
    |none=>exact un.keep b o e q2 (by intro z;exact absurd (show b∈([]:List Addr) from z) (by simp)) (by simp)
    |some u2=>
     rcases hO b with z|⟨ob,u3,z⟩
     ·rw[q2] at z
      cases z
     ·have z2:=un.fO b ob _ z
      obtain ⟨e1,_⟩:=ao b _ z
      obtain ⟨e2,_⟩:=hok' b _ z2
      rw[e] at e1
      cases e1
      exact e2
   have KX':K.In s'.heap:=fun b o e=>kept b o (KX b o e)
   obtain ⟨as,hrd⟩:=Dw.reads (R:=R) (cl:=cl) hok' KX' d0 v u q r'
   exact ⟨u,as,rfl,hrd,OldK.of_keep kept,os,bare⟩
theorem FH {ds:List WData} (h:WData.layableAll ds=true): ∀d∈ds,d.weight≤1048576:=fun d hd=>
 (PySem.W.layableW_iff.mp (List.all_eq_true.mp h d hd)).2.2
theorem CN: ∀(cs:List Codec) (a:Codec.denoteAll cs),(Codec.encAll cs a).length=cs.length
 | [],_=>rfl
 |c::cs,a=>by
  show (Codec.encAll cs a.2).length+1=cs.length+1
  rw[CN cs a.2]
theorem RB {r:OpenSpec} {k:Nat} {q:Program} {loose:List Str} {XP:(Str→Option Value)→Heap→Prop} {YP:World→Heap→Prop} {d:DefRec} {K:Params→PySem.W.Frag} {CX:World→d5} {ps:List Str} {sp:World→Sp}
  (hwell:r.wellSaid=true) (kU:d.params.defaults= []) (hlen:r.args.length=ps.length) (hr:aF k callerA)
  (hY: ∀(w:World) (h:Heap),YP w h→(K w.params).In h)
  (F: ∀(w:World) (mg:Str→Option Value) (fa:Addr) (h:Heap),YP w h→(K w.params).In h→h.Ns mainGlobals mg→mg d.name=some (.ref fa)→
   ∃fd:FuncData,(∀(s:Shared) (us:List Value),us.length=ps.length→BindsTo s fd ⟨us, []⟩ (ps.zip us))∧
    ∀base:Heap,(K w.params).In base→base.Ns mainGlobals mg→az r.prog w (K w.params) mg base (CX w) k fa fd ps (sp w))
  (hsp: ∀(w:World) (H:Hp) (xs:List V) (a:Codec.denoteAll r.args),l9 H→Codec.withinAll r.args a=true→Codec.app r.args r.asked a=true→fM (K w.params) H xs (Codec.encAll r.args a)→
   sp w xs H (fun v H'=>Dw (K w.params) H' v (r.ret.enc (Codec.app r.args r.f a))) fun _ _ _=>False)
  (hCX: ∀(w:World) (H:Hp) (s:Shared) (e:Value) (s':Shared),CX w [] H s (fun _ _ _=>False) e s'→False):
  PySem.W.WalkOS q loose XP YP r d [] (fun f vs=>PySem.call f vs):=by
 intro w bx s₁ mg mb G Y fa o pm cd doc dV kV ho hd hcd hD hmg hg args vals as hpre hlay hrd hwl hlo
 obtain ⟨a,e1,e2⟩:=PySem.W.os_pre_some hpre
 obtain ⟨e3,hwi⟩:=Codec.encAll_of_decAll r.args args a e1
 subst e3
 have KX:=hY w _ Y
 obtain ⟨fd,hb,hF⟩:=F w mg fa _ Y KX G.T.g hmg
 refine PySem.W.enter_call (codeAny_mono (Fj (R:= []) (cl:=classAt bx.heap) (d0:=r.ret.enc (Codec.app r.args r.f a)) KX G.T.g G.T.b G.T.builtins G.T.nolimit hg hwl (Ej _ _) (FH hlay) hr hF hb (by rw[CN];exact hlen)
  (fun H xs hO hS=>hsp w H xs a hO hwi e2 hS) fun H e s'=>hCX w H s₁ e s') fun r' s' hq=>?_)
 obtain ⟨u,as',rfl,h1,h2,h3,h4⟩:=hq
 exact ⟨.inl ⟨u,_,as',rfl,fun _=>rfl,h1,(OpenSpec.post_iff hwell hwi _ _).mpr rfl,fun z=>Bool.noConfusion (show false=true from z)⟩,h2,h3,h4⟩
theorem J8 {r:OpenSpec} {k:Nat} {q:Program} {loose:List Str} {XP:(Str→Option Value)→Heap→Prop} {YP:World→Heap→Prop} {d:DefRec} {K:Params→PySem.W.Frag} {CX:d5} {ps:List Str} {sp:PySem.W.Frag→Sp}
  (hwell:r.wellSaid=true) (kU:d.params.defaults= []) (hlen:r.args.length=ps.length) (hr:aF k callerA)
  (hY: ∀(w:World) (h:Heap),YP w h→(K w.params).In h)
  (F: ∀(w:World) (mg:Str→Option Value) (fa:Addr) (h:Heap),YP w h→(K w.params).In h→h.Ns mainGlobals mg→mg d.name=some (.ref fa)→
   ∃fd:FuncData,(∀(s:Shared) (us:List Value),us.length=ps.length→BindsTo s fd ⟨us, []⟩ (ps.zip us))∧
    ∀base:Heap,(K w.params).In base→base.Ns mainGlobals mg→az r.prog w (K w.params) mg base CX k fa fd ps (sp (K w.params)))
  (hsp: ∀(K:PySem.W.Frag) (H:Hp) (xs:List V) (a:Codec.denoteAll r.args),l9 H→Codec.withinAll r.args a=true→Codec.app r.args r.asked a=true→fM K H xs (Codec.encAll r.args a)→
   sp K xs H (fun v H'=>Dw K H' v (r.ret.enc (Codec.app r.args r.f a))) fun _ _ _=>False)
  (hCX: ∀(H:Hp) (s:Shared) (e:Value) (s':Shared),CX [] H s (fun _ _ _=>False) e s'→False):
  PySem.W.WalkOS q loose XP YP r d [] (fun f vs=>PySem.call f vs):=
 RB (K:=K) (CX:=fun _=>CX) (sp:=fun w=>sp (K w.params)) hwell kU hlen hr hY F (fun w H xs a h1 h2 h3 h4=>hsp (K w.params) H xs a h1 h2 h3 h4) fun _ H s e s'=>hCX H s e s'
end L2
namespace Mx
open PySem
open Sem (wp)
end Mx
namespace L2
open PySem PySem.Spec PyProof.Rows
section
variable {X:Cx}
def LC (i j:Int):Prop:=0≤j∧(Builtin.Int.intBits i:Int)+j≤2^27
theorem rn:bA X (binaryOp .LShift) (rI LC fun i j=> .int (i*2^j.toNat)):=jP fun _ _ _ _ _ _ _ hc q=>PyProof.Rows.lshift_int hc.1 hc.2 q
end
end L2
namespace PySem
open Sem (wp)
namespace Zt
section
variable {prog:Program} {w:World} {A:Around} {E:Value→Shared→Prop} {s:Shared}
theorem E6 {j t:Addr} {n:Nat} {ys} {y:Value} {Q:Value→Shared→Prop} (hj:s.heap.IsTupleIter j t n) (ht:s.heap.IsTuple t ys) (hy:ys[n]?=some y)
  (k: ∀h',h'.IsTupleIter j t (n+1)→Heap.SameBut j s.heap h'→Q y {s with heap:=h'}):wpAny (model prog w) A (Builtin.SmallTypes.nextOf (.ref j)) Q E s:=by
 obtain ⟨o,go,gc,gd⟩:=id hj
 obtain ⟨ot,gt,_,nt,gdt⟩:=ht
 unfold Builtin.SmallTypes.nextOf
 refine wpAny_bind (wpAny_callSpecial?_slot (name:=Str.ofString "__next__") hj.typeIs F.slot_tuple_iterator_next (wpAny_call_entry F.slot_tuple_iterator_next hj.typeIs F.entry_tuple_iterator_next ?_ (F.args_tuple_iterator_next_1 _)))
 show wpAny _ _ (field (.ref j) 0>>=_) _ _ s
 refine wpAny_bind (wpAny_field go gd (x:= .ref t) rfl ?_)
 show wpAny _ _ (if (Value.ref t==Value.none)=true then _ else _) _ _ s
 rw[if_neg (by intro z;cases z)]
 show wpAny _ _ (field (.ref j) 1>>=_) _ _ s
 refine wpAny_bind (wpAny_field go gd (x:= .int n 0) rfl ?_)
 show wpAny _ _ (seqItems? (.ref t)>>=_) _ _ s
 refine wpAny_bind (wpAny_seqItems gt gdt ?_)
 simp only [Int.toNat_natCast,hy]
 refine wpAny_bind (wpAny_setField go gd (by simp) (wpAny_pure ⟨y,rfl,wpAny_pure (k _ ?_ (Heap.SameBut.update ..))⟩))
 exact ⟨_,Heap.get?_update_self _ go (Obj.isFreed_of_fields (Obj.data_mapFields gd _)),(Obj.cls_mapFields ..).trans gc,by rw[Obj.data_mapFields gd];simp [rawInt]⟩
theorem KL {j t:Addr} {n:Nat} {ys} {Q:Value→Shared→Prop} (hh:A.handled=none) (hj:s.heap.IsTupleIter j t n) (ht:s.heap.IsTuple t ys) (hy:ys[n]?=none)
  (k: ∀h' e,Heap.ExtBut j s.heap h'→(∃o,h'.get? e=some o∧o.cls= .type "StopIteration")→E (.ref e) {s with heap:=h'}):wpAny (model prog w) A (Builtin.SmallTypes.nextOf (.ref j)) Q E s:=by
 obtain ⟨o,go,gc,gd⟩:=id hj
 obtain ⟨ot,gt,_,nt,gdt⟩:=ht
 unfold Builtin.SmallTypes.nextOf
 refine wpAny_bind (wpAny_callSpecial?_slot (name:=Str.ofString "__next__") hj.typeIs F.slot_tuple_iterator_next (wpAny_call_entry F.slot_tuple_iterator_next hj.typeIs F.entry_tuple_iterator_next ?_ (F.args_tuple_iterator_next_1 _)))
 show wpAny _ _ (field (.ref j) 0>>=_) _ _ s
 refine wpAny_bind (wpAny_field go gd (x:= .ref t) rfl ?_)
 show wpAny _ _ (if (Value.ref t==Value.none)=true then _ else _) _ _ s
 rw[if_neg (by intro z;cases z)]
 show wpAny _ _ (field (.ref j) 1>>=_) _ _ s
 refine wpAny_bind (wpAny_field go gd (x:= .int n 0) rfl ?_)
 show wpAny _ _ (seqItems? (.ref t)>>=_) _ _ s
 refine wpAny_bind (wpAny_seqItems gt gdt ?_)
 simp only [Int.toNat_natCast,hy]
 refine wpAny_bind (wpAny_rule (wpAny_bind (wpAny_setField go gd (by simp) ?_)))
 show wpAny _ _ (newExc (.type "StopIteration") []>>=_) _ _ _
 refine wpAny_bind ?_
 simp only [newExc,newTuple]
 refine wpAny_bind (wpAny_newObj_type ?_ (by size_fits))
 refine wpAny_bind (m:=firstArgMember _ _) (wpAny_of_eq (a:=Value.none) (by first|rfl|(simp only [firstArgMember];rfl)) ?_)
 refine wpAny_newObj_type ?_ (by size_fits)
 simp only [raiseNew]
 refine wpAny_bind (wpAny_handled ?_)
 first|rw[show A.in1.handled=none from hh]|rw[hh]
 refine wpAny_bind (wpAny_pure (wpAny_throw ?_))
 exact k _ _ (((Heap.SameBut.update ..).extBut.push _).push _) ⟨_,Heap.get?_push_size _ rfl,rfl⟩
theorem both {z I O i j l t:Addr} {n m:Nat} {xs ys:Array Value} {x y a b:Value} {Q:Value→Shared→Prop} (D:ZipApart z I O i j l t) (qz:IsZip s.heap z I O .none) (qI:IsPair s.heap I (.ref i) (.ref j)) (qO:IsPair s.heap O a b)
  (q1:s.heap.IsListIter i l n) (q2:s.heap.IsTupleIter j t m) (ql:s.heap.IsList l xs) (qt:s.heap.IsTuple t ys) (hx:xs[n]?=some x) (hy:ys[m]?=some y)
  (k: ∀h',IsZip h' z I O (rawInt s.heap.objs.size)→IsPair h' O x y→h'.IsListIter i l (n+1)→h'.IsTupleIter j t (m+1)→IsPair h' s.heap.objs.size x y→h'.objs.size=s.heap.objs.size+1→
   (∀c o,c≠z→c≠O→c≠i→c≠j→s.heap.get? c=some o→h'.get? c=some o)→Q (.ref s.heap.objs.size) {s with heap:=h'}):
  wpAny (model prog w) A (Builtin.«zip.__next__» ⟨[.ref z], []⟩) (fun fin s'=> ∃v,fin= .done (.ret v)∧Q v s') E s:=by
 show wpAny _ _ (field (.ref z) 2>>=_) _ _ _
 refine wpAny_bind (wpAny_field qz rfl (x:= .bool false) rfl ?_)
 show wpAny _ _ (field (.ref z) 3>>=_) _ _ _
 refine wpAny_bind (wpAny_field qz rfl (x:= .ref I) rfl ?_)
 refine wpAny_bind (wpAny_seqItems qI rfl ?_)
 show wpAny _ _ (Builtin.SmallTypes.ownedTupleIsFree (.ref z)>>=_) _ _ _
 refine wpAny_bind ?_
 unfold Builtin.SmallTypes.ownedTupleIsFree
 refine wpAny_bind (wpAny_field qz rfl (x:= .none) rfl (wpAny_pure ?_))
 simp only [if_true]
 refine wpAny_bind (wpAny_rule ?_)
 refine wpAny_bind (wpAny_field qz rfl (x:= .ref O) rfl ?_)
 refine wpAny_bind (wpAny_setField_rec qz (by simp) fun h1 qz1 s1=>?_)
 replace qz1:IsZip h1 z I O .ellipsis:=qz1
 refine wpAny_bind ?_
 simp only [List.forIn_cons,List.forIn_nil,List.zipIdx_cons,List.zipIdx_nil]
 refine wpAny_bind (wpAny_bind (wpAny_onRaise ?_))
 show wpAny _ _ (Builtin.SmallTypes.nextOf (.ref i)>>=_) _ _ _
 refine wpAny_bind (wpAny_nextOf_list_item (q1.extBut s1.extBut D.i1z) (ql.extBut s1.extBut D.l1z) hx fun h2 q12 s2=>wpAny_pure ?_)
 have qO2:IsPair h2 O a b:=s2.extBut _ _ D.TOi1 (s1.extBut _ _ D.TOz qO)
 refine wpAny_bind (wpAny_seqItems qO2 rfl ?_)
 refine wpAny_bind (wpAny_updateSeq_pair qO2 fun h3 qO3 s3=>?_)
 replace qO3:IsPair h3 O x b:=qO3
 refine wpAny_bind (wpAny_letGo (wpAny_pure ?_))
 refine wpAny_bind (wpAny_bind (wpAny_onRaise ?_))
 show wpAny _ _ (Builtin.SmallTypes.nextOf (.ref j)>>=_) _ _ _
 refine wpAny_bind (E6 (((q2.extBut s1.extBut D.i2z).extBut s2.extBut D.i12.symm).extBut s3.extBut D.TOi2.symm) (((qt.extBut s1.extBut D.l2z).extBut s2.extBut D.l2i1).extBut s3.extBut D.l2TO) hy fun h4 q24 s4=>wpAny_pure ?_)
 have qO4:IsPair h4 O x b:=s4.extBut _ _ D.TOi2 qO3
 refine wpAny_bind (wpAny_seqItems qO4 rfl ?_)
 refine wpAny_bind (wpAny_updateSeq_pair qO4 fun h5 qO5 s5=>?_)
 replace qO5:IsPair h5 O x y:=qO5
 refine wpAny_bind (wpAny_letGo (wpAny_pure (wpAny_pure ?_)))
 refine wpAny_bind (wpAny_seqItems qO5 rfl ?_)
 refine wpAny_bind (wpAny_newTuple ?_)
 have hsz:h5.objs.size=s.heap.objs.size:=by rw[s5.1,s4.1,s3.1,s2.1,s1.1]
 have qz5:IsZip h5 z I O .ellipsis:=s5.extBut _ _ D.TOz.symm (s4.extBut _ _ D.i2z.symm (s3.extBut _ _ D.TOz.symm (s2.extBut _ _ D.i1z.symm qz1)))
 have old: ∀c o,c≠z→c≠O→c≠i→c≠j→s.heap.get? c=some o→h5.get? c=some o:=fun c o c1 c2 c3 c4 e=>s5.extBut _ _ c2 (s4.extBut _ _ c4 (s3.extBut _ _ c2 (s2.extBut _ _ c3 (s1.extBut _ _ c1 e))))
 have q15:h5.IsListIter i l (n+1):=((q12.extBut s3.extBut D.TOi1.symm).extBut s4.extBut D.i12).extBut s5.extBut D.TOi1.symm
 have q25:h5.IsTupleIter j t (m+1):=q24.extBut s5.extBut D.TOi2.symm
 have zl:z<h5.objs.size:=Heap.lt_size qz5
 show wpAny _ _ (Builtin.SmallTypes.ownedTupleHandOut (.ref z) (.ref h5.objs.size)>>=_) _ _ _
 refine wpAny_bind ?_
 unfold Builtin.SmallTypes.ownedTupleHandOut
 have qz6:IsZip (h5.push {cls:= .type "tuple",data:= .seq #[x,y]}) z I O .ellipsis:=Heap.get?_push_of_some _ qz5
 refine wpAny_bind (wpAny_setField_rec qz6 (by simp) fun h7 qz7 s7=>?_)
 replace qz7:IsZip h7 z I O (rawInt h5.objs.size):=qz7
 refine wpAny_setField_rec qz7 (by simp) fun h8 qz8 s8=>?_
 replace qz8:IsZip h8 z I O (rawInt h5.objs.size):=qz8
 have up: ∀c o,c≠z→h5.get? c=some o→h8.get? c=some o:=fun c o c1 e=>s8.extBut _ _ c1 (s7.extBut _ _ c1 (Heap.get?_push_of_some _ e))
 have qT:IsPair h8 h5.objs.size x y:=s8.extBut _ _ (Nat.ne_of_gt zl) (s7.extBut _ _ (Nat.ne_of_gt zl) (Heap.get?_push_size _ rfl))
 have sz8:h8.objs.size=h5.objs.size+1:=by rw[s8.1,s7.1,Heap.size_push]
 rw[hsz] at qz8 qT sz8
 refine wpAny_pure ⟨_,rfl,?_⟩
 show Q (.ref h5.objs.size) _
 rw[hsz]
 obtain ⟨oj,ej,rj⟩:=q25
 exact k h8 qz8 (up _ _ D.TOz qO5) (q15.at fun o e=>up _ o D.i1z e) ⟨oj,up _ _ D.i2z ej,rj⟩ qT sz8 fun c o c1 c2 c3 c4 e=>up c o c1 (old c o c1 c2 c3 c4 e)
theorem stop {z I O i j l t:Addr} {n m:Nat} {xs ys:Array Value} {a b:Value} {Q:Fin→Shared→Prop} (hh:A.handled=none) (D:ZipApart z I O i j l t) (qz:IsZip s.heap z I O .none) (qI:IsPair s.heap I (.ref i) (.ref j)) (qO:IsPair s.heap O a b)
  (q1:s.heap.IsListIter i l n) (q2:s.heap.IsTupleIter j t m) (ql:s.heap.IsList l xs) (qt:s.heap.IsTuple t ys) (hend:xs[n]?=none∨ys[m]?=none)
  (k: ∀h' e,(∀c o,c≠z→c≠O→c≠i→c≠j→s.heap.get? c=some o→h'.get? c=some o)→(∃o,h'.get? e=some o∧o.cls= .type "StopIteration")→E (.ref e) {s with heap:=h'}):
  wpAny (model prog w) A (Builtin.«zip.__next__» ⟨[.ref z], []⟩) Q E s:=by
 show wpAny _ _ (field (.ref z) 2>>=_) _ _ _
 refine wpAny_bind (wpAny_field qz rfl (x:= .bool false) rfl ?_)
 show wpAny _ _ (field (.ref z) 3>>=_) _ _ _
 refine wpAny_bind (wpAny_field qz rfl (x:= .ref I) rfl ?_)
 refine wpAny_bind (wpAny_seqItems qI rfl ?_)
 show wpAny _ _ (Builtin.SmallTypes.ownedTupleIsFree (.ref z)>>=_) _ _ _
 refine wpAny_bind ?_
 unfold Builtin.SmallTypes.ownedTupleIsFree
 refine wpAny_bind (wpAny_field qz rfl (x:= .none) rfl (wpAny_pure ?_))
 simp only [if_true]
 refine wpAny_bind (wpAny_rule ?_)
 refine wpAny_bind (wpAny_field qz rfl (x:= .ref O) rfl ?_)
 refine wpAny_bind (wpAny_setField_rec qz (by simp) fun h1 qz1 s1=>?_)
 replace qz1:IsZip h1 z I O .ellipsis:=qz1
 refine wpAny_bind ?_
 simp only [List.forIn_cons,List.forIn_nil,List.zipIdx_cons,List.zipIdx_nil]
 refine wpAny_bind (wpAny_bind (wpAny_onRaise ?_))
 show wpAny _ _ (Builtin.SmallTypes.nextOf (.ref i)>>=_) _ _ _
 cases hx:xs[n]? with
 |none=>
  refine wpAny_bind (wpAny_nextOf_list_end hh (q1.extBut s1.extBut D.i1z) (ql.extBut s1.extBut D.l1z) hx fun h2 e s2 he=>?_)
  obtain ⟨oe,ge,ce⟩:=he
  have qz2:IsZip h2 z I O .ellipsis:=s2 _ _ D.i1z.symm qz1
  have ez:e≠z:=fun q=>by subst q;rw[qz2] at ge;cases ge;simp at ce
  exact wpAny_setField_rec qz2 (by simp) fun h3 _ s3=>k h3 e (fun c o c1 _ c3 _ q=>s3.extBut _ _ c1 (s2 _ _ c3 (s1.extBut _ _ c1 q))) ⟨oe,s3.extBut _ _ ez ge,ce⟩
 |some x=>
  have hy:ys[m]?=none:=by
   rcases hend with q|q
   ·rw[hx] at q;cases q
   ·exact q
  refine wpAny_bind (wpAny_nextOf_list_item (q1.extBut s1.extBut D.i1z) (ql.extBut s1.extBut D.l1z) hx fun h2 q12 s2=>wpAny_pure ?_)
  have qO2:IsPair h2 O a b:=s2.extBut _ _ D.TOi1 (s1.extBut _ _ D.TOz qO)
  refine wpAny_bind (wpAny_seqItems qO2 rfl ?_)
  refine wpAny_bind (wpAny_updateSeq_pair qO2 fun h3 qO3 s3=>?_)
  refine wpAny_bind (wpAny_letGo (wpAny_pure ?_))
  refine wpAny_bind (wpAny_bind (wpAny_onRaise ?_))
  show wpAny _ _ (Builtin.SmallTypes.nextOf (.ref j)>>=_) _ _ _
  refine wpAny_bind (KL hh (((q2.extBut s1.extBut D.i2z).extBut s2.extBut D.i12.symm).extBut s3.extBut D.TOi2.symm) (((qt.extBut s1.extBut D.l2z).extBut s2.extBut D.l2i1).extBut s3.extBut D.l2TO) hy fun h4 e s4 he=>?_)
  obtain ⟨oe,ge,ce⟩:=he
  have qz4:IsZip h4 z I O .ellipsis:=s4 _ _ D.i2z.symm (s3.extBut _ _ D.TOz.symm (s2.extBut _ _ D.i1z.symm qz1))
  have ez:e≠z:=fun q=>by subst q;rw[qz4] at ge;cases ge;simp at ce
  exact wpAny_setField_rec qz4 (by simp) fun h5 _ s5=>k h5 e (fun c o c1 c2 c3 c4 q=>s5.extBut _ _ c1 (s4 _ _ c4 (s3.extBut _ _ c2 (s2.extBut _ _ c3 (s1.extBut _ _ c1 q))))) ⟨oe,s5.extBut _ _ ez ge,ce⟩
theorem nextOne {z I O i j l t:Addr} {n m:Nat} {xs ys:Array Value} {x y a b:Value} {Q:Option Value→Shared→Prop} (D:ZipApart z I O i j l t) (qz:IsZip s.heap z I O .none) (qI:IsPair s.heap I (.ref i) (.ref j)) (qO:IsPair s.heap O a b)
  (q1:s.heap.IsListIter i l n) (q2:s.heap.IsTupleIter j t m) (ql:s.heap.IsList l xs) (qt:s.heap.IsTuple t ys) (hx:xs[n]?=some x) (hy:ys[m]?=some y)
  (k: ∀h',IsZip h' z I O (rawInt s.heap.objs.size)→IsPair h' O x y→h'.IsListIter i l (n+1)→h'.IsTupleIter j t (m+1)→IsPair h' s.heap.objs.size x y→h'.objs.size=s.heap.objs.size+1→
   (∀c o,c≠z→c≠O→c≠i→c≠j→s.heap.get? c=some o→h'.get? c=some o)→Q (some (.ref s.heap.objs.size)) {s with heap:=h'}):wpAny (model prog w) A (pyNext (.ref z)) Q E s:=by
 have ty:s.TypeIs (.ref z) "zip" :=⟨_,qz,rfl⟩
 unfold pyNext
 exact wpAny_bind (wpAny_attempt (wpAny_callSpecial?_slot (name:=Str.ofString "__next__") ty F.slot_zip_next (wpAny_call_entry F.slot_zip_next ty F.entry_zip_next
  (both D qz qI qO q1 q2 ql qt hx hy fun h' a1 a2 a3 a4 a5 a6 a7=>wpAny_pure (k h' a1 a2 a3 a4 a5 a6 a7)) (F.args_zip_next_1 _))))
theorem Jw {z I O i j l t:Addr} {n m:Nat} {xs ys:Array Value} {a b:Value} {Q:Option Value→Shared→Prop} (hh:A.handled=none) (D:ZipApart z I O i j l t) (qz:IsZip s.heap z I O .none) (qI:IsPair s.heap I (.ref i) (.ref j)) (qO:IsPair s.heap O a b)
  (q1:s.heap.IsListIter i l n) (q2:s.heap.IsTupleIter j t m) (ql:s.heap.IsList l xs) (qt:s.heap.IsTuple t ys) (hend:xs[n]?=none∨ys[m]?=none)
  (k: ∀h',(∀c o,c≠z→c≠O→c≠i→c≠j→s.heap.get? c=some o→h'.get? c=some o)→Q none {s with heap:=h'}):wpAny (model prog w) A (pyNext (.ref z)) Q E s:=by
 have ty:s.TypeIs (.ref z) "zip" :=⟨_,qz,rfl⟩
 unfold pyNext
 refine wpAny_bind (wpAny_attempt (wpAny_callSpecial?_slot (name:=Str.ofString "__next__") ty F.slot_zip_next (wpAny_call_entry F.slot_zip_next ty F.entry_zip_next
  (stop hh D qz qI qO q1 q2 ql qt hend fun h' e hk he=>?_) (F.args_zip_next_1 _))))
 obtain ⟨o,ho,hc⟩:=he
 refine wpAny_bind (wpAny_isInstance (T:= "StopIteration") (b:=true) ⟨o,ho,hc⟩ isSubtype_stop ?_)
 exact wpAny_pure (k _ hk)
end
abbrev m1 (h:Heap) (l:Addr):Heap:=h.push {cls:= .type "list_iterator",data:= .fields #[.ref l, .int 0 0]}
abbrev m2 (h:Heap) (l t:Addr):Heap:=(m1 h l).push {cls:= .type "tuple_iterator",data:= .fields #[.ref t, .int 0 0]}
abbrev m3 (h:Heap) (l t:Addr):Heap:=(m2 h l t).push {cls:= .type "tuple",data:= .seq #[.ref h.objs.size, .ref (m1 h l).objs.size]}
abbrev m4 (h:Heap) (l t:Addr):Heap:=(m3 h l t).push {cls:= .type "tuple",data:= .seq #[.none, .none]}
abbrev m5 (h:Heap) (l t:Addr):Heap:=(m4 h l t).push {cls:= .type "zip",data:= .fields #[.none, .bool false, .bool false, .ref (m2 h l t).objs.size, .ref (m3 h l t).objs.size]}
theorem made (l t:Addr) (xs ys:Array Value):Meets (Builtin.«zip.__new__» ⟨[.type "zip", .ref l, .ref t], []⟩) (fun _ R s=>s.heap.IsList l xs∧s.heap.IsTuple t ys∧R (.ok (.ret (.ref (m4 s.heap l t).objs.size))) {s with heap:=m5 s.heap l t}):=
 .of_wp fun prog w A R s h=>by
  obtain ⟨hp,g,d,tk,os⟩:=s
  obtain ⟨ql,qt,h⟩:=h
  have hsub:=sub_zip
  have hL1:Heap.IsList (Shared.heap ⟨hp,g,d,tk,os⟩) l xs:=ql
  have hL2:Heap.IsTuple (Shared.heap ⟨hp.push {cls:= .type "list_iterator",data:= .fields #[.ref l, .int 0 0]},g,d,tk,os⟩) t ys:=Heap.IsTuple.push qt _
  wp_walk using wpAny_pyIter_list hL1,wpAny_pyIter_tuple hL2
  exact ⟨_,rfl,h⟩
theorem called {prog:Program} {w:World} {A:Around} {E:Value→Shared→Prop} {s:Shared} {l t:Addr} {xs ys:Array Value} {Q:Value→Shared→Prop} (ql:s.heap.IsList l xs) (qt:s.heap.IsTuple t ys)
  (k: ∀h',IsZip h' (s.heap.objs.size+4) (s.heap.objs.size+2) (s.heap.objs.size+3) .none→IsPair h' (s.heap.objs.size+2) (.ref s.heap.objs.size) (.ref (s.heap.objs.size+1))→IsPair h' (s.heap.objs.size+3) .none .none→
   h'.IsListIter s.heap.objs.size l 0→h'.IsTupleIter (s.heap.objs.size+1) t 0→h'.objs.size=s.heap.objs.size+5→(∀c o,s.heap.get? c=some o→h'.get? c=some o)→Q (.ref (s.heap.objs.size+4)) {s with heap:=h'}):
  wpAny (model prog w) A (call (.type "zip") [.ref l, .ref t]) Q E s:=by
 refine callType_new F.called_zip (by decide) (F.typeCall_zip_2 _ _) (F.newCall_zip_2 _ _) (fun obj=>F.args_object_init_3 obj _ _) F.entry_zip_new (made l t xs ys) ⟨ql,qt,?_⟩
 have n1:(m1 s.heap l).objs.size=s.heap.objs.size+1:=Heap.size_push ..
 have n2:(m2 s.heap l t).objs.size=s.heap.objs.size+2:=by rw[Heap.size_push,n1]
 have n3:(m3 s.heap l t).objs.size=s.heap.objs.size+3:=by rw[Heap.size_push,n2]
 have n4:(m4 s.heap l t).objs.size=s.heap.objs.size+4:=by rw[Heap.size_push,n3]
 have n5:(m5 s.heap l t).objs.size=s.heap.objs.size+5:=by rw[Heap.size_push,n4]
 have up:=fun (h:Heap) (o:Obj) (c:Addr) (x:Obj) (e:h.get? c=some x)=>Heap.get?_push_of_some o e
 have g5:(m5 s.heap l t).get? (m4 s.heap l t).objs.size=some _:=Heap.get?_push_size _ rfl
 have g4:(m5 s.heap l t).get? (m3 s.heap l t).objs.size=some _:=up _ _ _ _ (Heap.get?_push_size _ rfl)
 have g3:(m5 s.heap l t).get? (m2 s.heap l t).objs.size=some _:=up _ _ _ _ (up _ _ _ _ (Heap.get?_push_size _ rfl))
 have g2:(m5 s.heap l t).get? (m1 s.heap l).objs.size=some _:=up _ _ _ _ (up _ _ _ _ (up _ _ _ _ (Heap.get?_push_size _ rfl)))
 have g1:(m5 s.heap l t).get? s.heap.objs.size=some _:=up _ _ _ _ (up _ _ _ _ (up _ _ _ _ (up _ _ _ _ (Heap.get?_push_size _ rfl))))
 show _∧_
 rw[n2,n3,n4] at g5
 rw[n1,n2] at g3
 rw[n3] at g4
 rw[n1] at g2
 rw[n4]
 exact ⟨⟨_,g5,rfl⟩,k _ g5 g3 g4 ⟨_,g1,rfl,rfl⟩ ⟨_,g2,rfl,rfl⟩ n5 fun c o x=>up _ _ _ _ (up _ _ _ _ (up _ _ _ _ (up _ _ _ _ (up _ _ _ _ x))))⟩
end Zt
end PySem
namespace L2
open PySem PySem.Spec PyProof.Rows
def vO (K:PySem.W.Frag) (a b:Addr):It:=
 ⟨fun i H=> ∃(xs ys:List V) (x y:V),ah K H a xs∧aY K H b ys∧xs[i]?=some x∧ys[i]?=some y,
  fun i H v H'=> ∃p x y,v= .ref p∧H p=none∧H'=upd H p (.tup [x,y])∧(∀xs,ah K H a xs→xs[i]?=some x)∧ ∀ys,aY K H b ys→ys[i]?=some y,
  fun i H=> ∃xs ys:List V,ah K H a xs∧aY K H b ys∧(xs.length≤i∨ys.length≤i)⟩
theorem Rk {P:Program} {w:World} {K:PySem.W.Frag} {elts:List Expr} {kk:Nat} {tpos:Pos} {a b z I O i1 i2:Addr} (D:ZipApart z I O i1 i2 a b):
  Turn P w K (.Tuple elts kk tpos) (vO K a b) [z,I,O,i1,i2] z (fun i h=>IsZip h z I O .none∧IsPair h I (.ref i1) (.ref i2)∧(∃x y,IsPair h O x y)∧h.IsListIter i1 a i∧h.IsTupleIter i2 b i) where
 mem:=by simp
 obj:=fun i h st c hc=>by
  obtain ⟨qz,qI,⟨x,y,qO⟩,⟨o1,e1,_,d1⟩,⟨o2,e2,_,d2⟩⟩:=st
  have e':c=z∨c=I∨c=O∨c=i1∨c=i2:=by simpa using hc
  rcases e' with rfl|rfl|rfl|rfl|rfl
  ·exact ⟨_,qz,fun v q=>nomatch q⟩
  ·exact ⟨_,qI,fun v q=>nomatch q⟩
  ·exact ⟨_,qO,fun v q=>nomatch q⟩
  ·exact ⟨o1,e1,fun v q=>by rw[d1] at q;cases q⟩
  ·exact ⟨o2,e2,fun v q=>by rw[d2] at q;cases q⟩
 keep:=fun i h h' st k=>by
  obtain ⟨qz,qI,⟨x,y,qO⟩,h1,o2,e2,r2⟩:=st
  exact ⟨k z (by simp) _ qz,k I (by simp) _ qI,⟨x,y,k O (by simp) _ qO⟩,h1.at fun o q=>k i1 (by simp) o q,o2,k i2 (by simp) _ e2,r2⟩
 item:=by
  intro X hP hw hK hc i pins s σ H E II hf st hg
  subst hP hw hK
  obtain ⟨qz,qI,⟨x0,y0,qO⟩,h1,h2⟩:=st
  obtain ⟨xs,ys,x,y,hqx,hqy,hx,hy⟩:=hg
  obtain ⟨its,rv,p,_⟩:=II.list hqx
  obtain ⟨its2,rv2,p2,_⟩:=II.tuple hqy
  obtain ⟨u,hu,ru⟩:=rv.get hx
  obtain ⟨u2,hu2,ru2⟩:=rv2.get hy
  have zl:z<s.heap.objs.size:=Heap.lt_size qz
  refine Zt.nextOne D qz qI qO h1 h2 p.isList p2 (x:=u) (y:=u2) (by simpa using hu) (by simpa using hu2) fun h' z' O' h1' h2' hT hsz hk=>?_
  refine ⟨_,rfl,wpAny_letOwnedTupleGo_zip (s:={s with heap:=h'}) z' fun h'' z'' sb=>?_⟩
  have hT2:h''.get? s.heap.objs.size=some {cls:= .type "tuple",data:= .seq #[u,u2]}:=(sb.2 _ (Nat.ne_of_gt zl)).trans hT
  have new:cS X.prog X.w (upd H s.heap.objs.size (.tup [x,y])) h'' s.heap.objs.size (.tup [x,y]):=⟨by show 2≤sizeLine;decide, [u,u2], .cons ru (.cons ru2 .nil),⟨_,hT2,rfl,_,rfl⟩⟩
  have I1:Inv X pins σ (upd H s.heap.objs.size (.tup [x,y])) {s with heap:=h''}:=II.xj (t':=s.toks) (ch:= [z,I,O,i1,i2])
   (fun c o hb q=>(sb.2 c (fun q'=>hb (by simp [q']))).trans (hk c o (fun q'=>hb (by simp [q'])) (fun q'=>hb (by simp [q'])) (fun q'=>hb (by simp [q'])) (fun q'=>hb (by simp [q'])) q)) hf (Nat.le_refl _) new
  refine ⟨.ref s.heap.objs.size,_,I1,rfl,⟨_,x,y,rfl,II.ao.fresh (Nat.le_refl _),rfl,fun l hl=>by rw[II.mE hl hqx];exact hx,fun l hl=>?_⟩,⟨z'',?_,⟨u,u2,?_⟩,?_,?_⟩,fun c hcm=>?_⟩
  ·rw[II.Du hl hqy];exact hy
  ·exact (sb.2 _ D.TIz).trans (hk _ _ D.TIz D.TITO D.TIi1 D.TIi2 qI)
  ·exact (sb.2 _ D.TOz).trans O'
  ·exact h1'.at fun o q=>(sb.2 _ D.i1z).trans q
  ·obtain ⟨o2,e2,r2⟩:=h2'
   exact ⟨o2,(sb.2 _ D.i2z).trans e2,r2⟩
  ·have hlt:c<s.heap.objs.size:=by
    have e':c=z∨c=I∨c=O∨c=i1∨c=i2:=by simpa using hcm
    rcases e' with q|q|q|q|q
    ·rw[q];exact zl
    ·rw[q];exact Heap.lt_size qI
    ·rw[q];exact Heap.lt_size qO
    ·rw[q];obtain ⟨_,e1,_⟩:=h1;exact Heap.lt_size e1
    ·rw[q];obtain ⟨_,e2,_⟩:=h2;exact Heap.lt_size e2
   rw[aG (Nat.ne_of_lt hlt)]
   exact (hf c hcm).1
 done:=by
  intro X hP hw hK hc i pins s σ H E II hf st hg
  subst hP hw hK
  obtain ⟨qz,qI,⟨x0,y0,qO⟩,h1,h2⟩:=st
  obtain ⟨xs,ys,hqx,hqy,hend⟩:=hg
  obtain ⟨its,rv,p,_⟩:=II.list hqx
  obtain ⟨its2,rv2,p2,_⟩:=II.tuple hqy
  have l1:=rv.length
  have l2:=rv2.length
  have he:its.toArray[i]?=none∨its2.toArray[i]?=none:=by
   rcases hend with q|q
   ·exact .inl (by simp;omega)
   ·exact .inr (by simp;omega)
  exact Zt.Jw (II.ok.hd hc) D qz qI qO h1 h2 p.isList p2 he fun h' hk=>⟨rfl,II.C7 (t':=s.toks) (ch:= [z,I,O,i1,i2])
   (fun c o hb q=>hk c o (fun q'=>hb (by simp [q'])) (fun q'=>hb (by simp [q'])) (fun q'=>hb (by simp [q'])) (fun q'=>hb (by simp [q'])) q) hf⟩
 self:=fun A i s Q E st h=>wpAny_pyIter_zip st.1 h
def Ph (K:PySem.W.Frag) (ta:TA):TI:=fun σ H R=>ta σ H fun vs H1=> ∃a b xs ys,vs= [.ref a, .ref b]∧ah K H1 a xs∧aY K H1 b ys∧R (vO K a b) H1
theorem Ia {X:Cx} {e e2:Expr} {ta:TA} {p pos tpos:Pos} {elts:List Expr} {kk:Nat} (hg:Gl X "zip") (hm:X.mg "zip" =none) (ha:PA X [e,e2] ta)
  (hs:starEach [e,e2] X.env=(false,eval e X.env)::starEach [e2] X.env:=by rfl) (hpl:(backTo pos (starEach [e2] X.env)).any (·.1)=false:=by rfl):
  PI X (.Tuple elts kk tpos) (.Call (.Name "zip" p) [e,e2] [] pos) (Ph X.K ta):=by
 intro pins s σ H R I h
 refine Call_ (iC I hg hm DC (PyProof.Rows.callWith_type1 (aE (ha pos pins s σ H _ I h) fun us s1 ⟨vs,H1,I1,r1,q1⟩=>?_) hs hpl))
 obtain ⟨a,b,xs,ys,ex,hqx,hqy,q⟩:=q1
 subst ex
 cases r1 with
 |cons r rr=>
  cases rr with
  |cons r' rr=>
   cases rr;cases r;cases r'
   obtain ⟨its,rv,p1,_⟩:=I1.list hqx
   obtain ⟨its2,rv2,p2,_⟩:=I1.tuple hqy
   have la:a<s1.heap.objs.size:=p1.lt
   have lb:b<s1.heap.objs.size:=by obtain ⟨_,e2,_⟩:=id p2;exact Heap.lt_size e2
   refine Zt.called p1.isList p2 fun h' qz qI qO h1 h2 hsz hk=>wpAny_pyIter_zip qz ?_
   have I2:Inv X pins σ H1 {s1 with heap:=h'}:=I1.kept (t':=s1.toks) hk
   refine ⟨s1.heap.objs.size+4, [s1.heap.objs.size+4,s1.heap.objs.size+2,s1.heap.objs.size+3,s1.heap.objs.size,s1.heap.objs.size+1],_,_,H1,rfl,I2,Rk (PySem.W.ktu_apart s1.heap.objs.size a b la lb),⟨qz,qI,⟨_,_,qO⟩,h1,h2⟩,fun c hcm=>?_,q⟩
   have hle:s1.heap.objs.size≤c:=by
    have e':c=s1.heap.objs.size+4∨c=s1.heap.objs.size+2∨c=s1.heap.objs.size+3∨c=s1.heap.objs.size∨c=s1.heap.objs.size+1:=by simpa using hcm
    rcases e' with z|z|z|z|z
    ·rw[z];exact Nat.le_add_right _ _
    ·rw[z];exact Nat.le_add_right _ _
    ·rw[z];exact Nat.le_add_right _ _
    ·rw[z];exact Nat.le_refl _
    ·rw[z];exact Nat.le_add_right _ _
   exact I1.gn hle (I1.ao.fresh hle)
theorem sR {X:Cx} {K:PySem.W.Frag} (h:X.K=K):lT X (vJ K):=by subst h;exact sZ
end L2
namespace L2
open PySem PySem.Spec PyProof.Rows
theorem PH {P:Program} {w:World} {H:Hp} {h:Heap} {a:Addr} {o:HO} (x:cS P w H h a o): ∃ob,h.get? a=some ob:=by
 cases o with
 |lst xs=>obtain ⟨_,_,_,_,e⟩:=x;exact ⟨_,e⟩
 |tup xs=>obtain ⟨_,_,_,ob,e,_⟩:=x;exact ⟨ob,e⟩
 |dK kvs=>obtain ⟨_,_,_,_,o,_,_,e,_⟩:=x;exact ⟨o,e⟩
 |dT kvs=>obtain ⟨_,_,_,_,o,_,_,e,_⟩:=x;exact ⟨o,e⟩
 |set S n=>obtain ⟨o,_,_,_,e,_⟩:=x;exact ⟨o,e⟩
 |ins C dx fs=>obtain ⟨_,_,_,e,_⟩:=x;exact ⟨_,e⟩
 |own y=>exact x
 |xd fs=>obtain ⟨_,⟨o,_,_,e,_⟩,_⟩:=x;exact ⟨o,e⟩
 |sE lo hi=>obtain ⟨_,_,_,e⟩:=x;exact ⟨_,e⟩
 |cY ob u=>obtain ⟨e,_⟩:=x;exact ⟨_,e⟩
 |iX ps=>exact ⟨_,x⟩
 |met f y=>exact ⟨_,x⟩
 |ext φ=>obtain ⟨_,e,_⟩:=x;exact e
theorem kz {P:Program} {w:World} {H:Hp} {h:Heap} (x:bO P w H h) {a:Addr} (e:h.get? a=none):H a=none:=by
 cases q:H a with
 |none=>rfl
 |some o=>
  obtain ⟨ob,z⟩:=PH (x a o q)
  rw[e] at z;cases z
inductive b9 (h:Heap) (H:Hp) (av:List Addr):Nat→Value→Prop
 |nil:b9 h H av 0 .none
 |cons {n:Nat} {a:Addr} {o:Obj} {vs:Array Value} {c:Value}:h.get? a=some o→o.data= .fields vs→vs[2]?=some c→H a=none→a∉av→b9 h H av n c→b9 h H av (n+1) (.ref a)
theorem b9.move {h h':Heap} {H H':Hp} {av av':List Addr} {n:Nat} {c:Value} (x:b9 h H av n c) (k: ∀a o vs,h.get? a=some o→o.data= .fields vs→H a=none→a∉av→h'.get? a=some o∧H' a=none∧a∉av'):b9 h' H' av' n c:=by
 induction x with
 |nil=>exact .nil
 |cons h1 h2 h3 h4 h5 _ ih=>
  obtain ⟨k1,k2,k3⟩:=k _ _ _ h1 h2 h4 h5
  exact .cons k1 h2 h3 k2 k3 ih
def M4 (h base:Heap) (e:Addr) (cls c fl:Value):Prop:=
 ∃oe vs T oT ts,h.get? e=some oe∧(oe.cls=cls∧vs[2]?=some c)∧oe.data= .fields vs∧vs[1]?=some (.ref T)∧base.get? T=none∧T≠e∧h.get? T=some oT∧oT.data= .fields ts∧ts[3]?=some fl
def f6 (base:Heap) (l:List Env) (e:Addr) (cls c fl:Value) (h:Heap):Prop:=base.StaysIn h∧base.get? e=none∧h.FunFrames base l∧M4 h base e cls c fl
section
variable {M:Model} {A:Around} {E:Value→Shared→Prop} {s:Shared}
theorem y6 {base:Heap} {env:Env} {outer:List Env} {L e:Addr} {oe:Obj} {vs:Array Value} {hd c:Value} {nx:Bool} {Q:Unit→Shared→Prop} (hfr:A.frames=some (env::outer)) (hl:s.heap.FunFrames base (env::outer)) (hf:env.frame=some L)
  (ge:s.heap.get? e=some oe) (st:base.StaysIn s.heap) (ne:base.get? e=none) (de:oe.data= .fields vs) (z1:1<vs.size) (h2:vs[2]?=some c) (k: ∀h',f6 base (env::outer) e oe.cls c (rawInt L) h'→s.heap.UpToSlots h'→Q () {s with heap:=h'}):
  wpAny M A (do let fo←frameOf env;let pc←entryPlaceOf L nx;let tb←EntryCells.newEntry hd fo .none (rawInt L) .none pc;setField (.ref e) 1 tb) Q E s:=by
 have nfr:e∉(env::outer).filterMap (·.frame):=fun m=>by
  obtain ⟨_,q,hq,nf⟩:=hl.mem m
  rw[ge] at hq;cases hq;exact nf vs de
 refine wpAny_bind (wpAny_frameOf_fun hfr hl hf fun g ⟨_,sg,tg⟩=>wpAny_bind (wpAny_entryPlaceOf fun pc hp=>?_))
 have e1:g.get? e=some oe:=(sg e nfr).trans ge
 have b1:base.StaysIn g:=fun b q hb=>(sg b fun m=>by rw[(hl.mem m).1] at hb;cases hb).trans (st b q hb)
 have Te:g.objs.size≠e:=Nat.ne_of_gt (Heap.lt_size e1)
 unfold EntryCells.newEntry newFields
 refine wpAny_bind (wpAny_newObj_type ?_ (hp.sizeOk5 _ _ _ _ _))
 generalize hts:([hd,Value.ref L, .none,rawInt L, .none]++(if pc.isEmpty then List.replicate 6 Value.none else pc)).toArray=ts
 have t3:ts[3]?=some (rawInt L):=by rw[←hts];simp
 have e2:(g.push {cls:= .type "traceback",data:= .fields ts}).get? e=some oe:=Heap.get?_push_of_some _ e1
 refine wpAny_setField e2 de z1 (k _ ?_ ?_)
 ·have d3:=Obj.data_mapFields de (·.setIfInBounds 1 (Value.ref g.objs.size))
  refine ⟨fun b q hb=>?_,ne,hl.of_keeps fun b q hb nf=>?_,_,_,g.objs.size,_,ts,Heap.get?_update_self _ e2 (Obj.isFreed_of_fields d3),⟨Obj.cls_mapFields _ _,?_⟩,d3,by simp [z1],b1.fresh,Te,(Heap.get?_update_other _ _ (Ne.symm Te)).trans (Heap.get?_push_size _ rfl),rfl,t3⟩
  ·rw[Heap.get?_update_other _ _ (fun z=>by rw[←z,ne] at hb;cases hb)]
   exact Heap.get?_push_of_some _ (b1 b q hb)
  ·obtain ⟨sl,hs⟩:=tg b q hb
   refine ⟨{q with slots:=sl},?_,rfl⟩
   rw[Heap.get?_update_other _ _ (fun z=>by rw[←z,ge] at hb;cases hb;exact nf vs de)]
   exact Heap.get?_push_of_some _ hs
  ·rw[Array.getElem?_setIfInBounds_ne (by decide)];exact h2
 ·intro b q hb nf
  obtain ⟨sl,hs⟩:=tg b q hb
  refine ⟨sl,?_⟩
  rw[Heap.get?_update_other _ _ (fun z=>by rw[←z,ge] at hb;cases hb;exact nf vs de)]
  exact Heap.get?_push_of_some _ hs
theorem CY {base:Heap} {env:Env} {outer:List Env} {L e:Addr} {oe:Obj} {vs:Array Value} {c:Value} {Q:Unit→Shared→Prop} (hfr:A.frames=some (env::outer)) (hf:env.frame=some L) (hl:s.heap.FunFrames base (env::outer)) (ge:s.heap.get? e=some oe) (st:base.StaysIn s.heap) (ne:base.get? e=none) (de:oe.data= .fields vs) (h1:vs[1]?=some .none) (h2:vs[2]?=some c)
  (k: ∀h',f6 base (env::outer) e oe.cls c (rawInt L) h'→s.heap.UpToSlots h'→Q () {s with heap:=h'}):wpAny M A (noteFrame (.ref e) env) Q E s:=by
 unfold noteFrame
 simp only [hf]
 refine wpAny_bind (wpAny_field ge de h1 ?_)
 rw[if_neg (by decide)]
 exact y6 hfr hl hf ge st ne de (Array.getElem?_eq_some_iff.mp h1).1 h2 k
theorem vp {base:Heap} {env:Env} {outer:List Env} {L e:Addr} {cls c fl:Value} {Q:Unit→Shared→Prop} (hfr:A.frames=some (env::outer)) (hf:env.frame=some L) (h:f6 base (env::outer) e cls c fl s.heap)
  (k: ∀h',f6 base (env::outer) e cls c (rawInt L) h'→s.heap.UpToSlots h'→Q () {s with heap:=h'}):wpAny M A (noteFrame (.ref e) env) Q E s:=by
 obtain ⟨st,ne,hl,oe,vs,T,oT,ts,ge,⟨hcls,h2⟩,de,h1,nT,Te,gT,dT,h3⟩:=id h
 subst hcls
 unfold noteFrame
 simp only [hf]
 refine wpAny_bind (wpAny_field ge de h1 ?_)
 rw[if_pos (by simp)]
 refine wpAny_bind (wpAny_field gT dT h3 ?_)
 by_cases q:fl=rawInt L
 ·subst q
  rw[if_pos (by simp)]
  exact wpAny_pure (k s.heap h (.refl _))
 ·rw[if_neg (by simpa using q)]
  refine wpAny_bind (wpAny_setField gT dT (Array.getElem?_eq_some_iff.mp h3).1 ?_)
  have oth: ∀b,b≠T→(s.heap.update T (Obj.mapFields (·.setIfInBounds 3 Value.none))).get? b=s.heap.get? b:=fun b hb=>Heap.get?_update_other _ _ (Ne.symm hb)
  have nrec: ∀b o,s.heap.get? b=some o→(∀vs,o.data≠ .fields vs)→b≠T:=fun b o hb hnf z=>by
   rw[z,gT] at hb;cases hb;exact hnf ts dT
  refine y6 hfr (hl.of_keeps fun b o hb hnf=>⟨o,(oth b (nrec b o hb hnf)).trans hb,rfl⟩) hf ((oth e (Ne.symm Te)).trans ge)
   (fun b o hbo=>(oth b fun z=>by rw[z,nT] at hbo;cases hbo).trans (st b o hbo)) ne de (Array.getElem?_eq_some_iff.mp h1).1 h2 fun h' x up=>k h' x fun b o hb hnf=>up b o ((oth b (nrec b o hb hnf)).trans hb) hnf
theorem uN {base:Heap} {l:List Env} {e:Addr} {cls c fl:Value} {fo:Option Addr} {Q:Unit→Shared→Prop} (h:f6 base l e cls c fl s.heap) (k: ∀h',f6 base l e cls c (fo.elim Value.none fun f=>rawInt f) h'→s.heap.UpToSlots h'→Q () {s with heap:=h'}):wpAny M A (setFlight (.ref e) fo) Q E s:=by
 obtain ⟨st,ne,hl,oe,vs,T,oT,ts,ge,hc,de,h1,nT,Te,gT,dT,h3⟩:=h
 have z3:3<ts.size:=(Array.getElem?_eq_some_iff.mp h3).1
 have oth: ∀b,b≠T→(s.heap.update T (Obj.mapFields (·.setIfInBounds 3 (fo.elim Value.none fun f=>rawInt f)))).get? b=s.heap.get? b:=fun b hb=>Heap.get?_update_other _ _ (Ne.symm hb)
 have nrec: ∀b o,s.heap.get? b=some o→(∀vs,o.data≠ .fields vs)→b≠T:=fun b o hb hnf z=>by
  rw[z,gT] at hb;cases hb;exact hnf ts dT
 unfold setFlight
 refine wpAny_bind (wpAny_field ge de h1 ?_)
 rw[if_pos (by simp)]
 refine wpAny_setField gT dT z3 (k _ ⟨fun b o hb=>(oth b fun z=>by rw[z,nT] at hb;cases hb).trans (st b o hb),ne,hl.of_keeps fun b o hb nf=>⟨o,(oth b (nrec b o hb nf)).trans hb,rfl⟩,oe,vs,T,_,_,(oth e (Ne.symm Te)).trans ge,hc,de,h1,nT,Te,Heap.get?_update_self _ gT (Obj.isFreed_of_fields (Obj.data_mapFields dT _)),Obj.data_mapFields dT _,by simp [z3]⟩ fun b o hb nf=>⟨o.slots,(oth b (nrec b o hb nf)).trans hb⟩)
theorem Qo {base:Heap} {env:Env} {outer:List Env} {L e:Addr} {cls c fl:Value} {Q:Unit→Shared→Prop} (hfr:A.frames=some (env::outer)) (hf:env.frame=some L) (h:f6 base (env::outer) e cls c fl s.heap)
  (k: ∀h',f6 base outer e cls c .none h'→s.heap.UpToSlots h'→Q () {s with heap:=h'}):wpAny M A (leaving env (.ref e)) Q E s:=by
 unfold leaving
 refine wpAny_bind (vp hfr hf h fun h1 hh up=>?_)
 refine uN (s:={s with heap:=h1}) hh fun h2 fl2 up2=>?_
 obtain ⟨k1,k2,⟨_,_,k3⟩,k4⟩:=fl2
 exact k h2 ⟨k1,k2,k3,k4⟩ (up.trans up2)
theorem Jf {e:Value} {env env':Env} (h:env.frame=env'.frame):noteFrame e env=noteFrame e env':=by
 unfold noteFrame PySem.frameOf
 rw[h]
end
def sj (h:Heap) (x T:Addr) (cls c fl:Value):Prop:= ∃oe vs oT ts,h.get? x=some oe∧(oe.cls=cls∧vs[2]?=some c)∧oe.data= .fields vs∧vs[1]?=some (.ref T)∧T≠x∧h.get? T=some oT∧oT.data= .fields ts∧ts[3]?=some fl
def aR (P:Program) (w:World):d5:=fun outer H s E e s'=> ∃(x T:Addr) (cls c:Value) (n:Nat) (H':Hp),e= .ref x∧s'.os=s.os∧AllBare s'.gens∧Un (bj outer) [] H H' s.heap s'.heap∧bO P w H' s'.heap∧
 (s.heap.get? x=none∧s.heap.get? T=none∧H' x=none∧H' T=none)∧(sj s'.heap x T cls c .none∧b9 s'.heap H' [x,T] n c)∧E cls none H'
section
variable {X:Cx} {pins:List (Addr×Obj)} {σ:St} {H:Hp} {s:Shared} {h':Heap}
theorem Inv.jK (I:Inv X pins σ H s) (hex:X.ex= []) {b:Addr} (e:s.heap.get? b=none):X.bx.heap.get? b=none:=by
 cases q:X.bx.heap.get? b with
 |none=>rfl
 |some o=>
  obtain ⟨o',z⟩:=I.base.there b o q (by rw[hex];simp)
  rw[e] at z;cases z
theorem Inv.apart (I:Inv X pins σ H s) (hex:X.ex= []) {b:Addr} (e:s.heap.get? b=none):X.bx.heap.get? b=none∧b≠X.env.locals∧(∀x c,X.env.cells.lookup x=some c→c≠b)∧ ∀p∈X.pn++pins,p.1≠b:=by
 refine ⟨I.jK hex e,fun z=>?_,fun x c q z=>?_,fun p hp z=>?_⟩
 ·obtain ⟨m,⟨o,_,_,ho,_⟩,_⟩:=I.loc
  rw[←z,e] at ho;cases ho
 ·obtain ⟨v,o,ho,_⟩:=I.cell x c q
  rw[z,e] at ho;cases ho
 ·have:=(I.pin p hp).1
  rw[z,e] at this;cases this
theorem A9 (I:Inv X pins σ H s) (hex:X.ex= []) (hs:X.stack=X.env::X.outer) (hfr:X.env.frame=some X.env.locals) (hd:List Addr) (hh: ∀b∈hd,X.bx.heap.get? b=none∧H b=none)
  (keep: ∀b o,s.heap.get? b=some o→b∉bj X.stack→b∉hd→h'.get? b=some o) (slot: ∀b o,s.heap.get? b=some o→b∈bj X.stack→ ∃sl,h'.get? b=some {o with slots:=sl}):
  Un X.fs [] X.km H X.bx.heap h'∧bO X.prog X.w H h':=by
 have eE: ∀b:Addr,b∉X.ex:=fun b=>by rw[hex];simp
 have est:bj X.stack=X.env.locals::X.fs:=by rw[hs];unfold bj;rw[List.filterMap_cons,hfr];rfl
 have hL:X.bx.heap.get? X.env.locals=none:=Heap.get?_none_of_le I.ok.above
 have nst: ∀b o,X.bx.heap.get? b=some o→b∉X.fs→b∉bj X.stack:=fun b o e hb hm=>by
  rw[est] at hm
  rcases List.mem_cons.mp hm with z|z
  ·rw[z,hL] at e;cases e
  ·exact hb z
 have nhd: ∀b o,X.bx.heap.get? b=some o→b∉hd:=fun b o e hm=>by rw[(hh b hm).1] at e;cases e
 refine ⟨⟨fun b o e n hb _=>keep b o (I.base.keep b o e n hb (eE b)) (nst b o e hb) (nhd b o e),fun b o e n hb _=>?_,fun b o e n _=>I.base.free b o e n (eE b),fun b o e _=>?_,I.base.gm,I.base.fO,I.base.gL⟩,fun a o e=>?_⟩
 ·obtain ⟨sl,q⟩:=I.base.slot b o e n hb (eE b)
  obtain ⟨sl',q'⟩:=slot b _ q (by rw[est];exact List.mem_cons_of_mem _ hb)
  exact ⟨sl',q'⟩
 ·obtain ⟨o',q⟩:=I.base.there b o e (eE b)
  by_cases hm:b∈bj X.stack
  ·obtain ⟨sl,z⟩:=slot b _ q hm
   exact ⟨_,z⟩
  ·exact ⟨o',keep b o' q hm (nhd b o e)⟩
 ·have tracked: ∀b u,H b=some u→b∉bj X.stack∧b∉hd:=fun b u q=>⟨fun hm=>(by rw[I.tJ b hm] at q;cases q),fun hm=>(by rw[(hh b hm).2] at q;cases q)⟩
  refine (I.ao a o e).fD (fun b u hb q=>?_) (fun _ q=>q) fun _ _ q=>q
  rcases hb with rfl|hb
  ·exact keep _ _ q (tracked _ _ e).1 (tracked _ _ e).2
  ·exact keep _ _ q (tracked _ _ hb).1 (tracked _ _ hb).2
theorem wZ {l:List Env} {env:Env} (he:env∈l) {a:Addr} (ha:env.frame=some a):a∈bj l:=List.mem_filterMap.mpr ⟨env,he,ha⟩
theorem lO {P:Addr→Prop} {x T:Addr} (h1:P x) (h2:P T): ∀b∈ [x,T],P b:=fun b hb=>by
 rcases List.mem_cons.mp hb with rfl|hb
 ·exact h1
 ·rcases List.mem_cons.mp hb with rfl|hb
  ·exact h2
  ·cases hb
theorem Inv.moved (I:Inv X pins σ H s) (ch:List Addr) (hch: ∀b∈ch,X.bx.heap.get? b=none∧b≠X.env.locals∧(∀x c,X.env.cells.lookup x=some c→c≠b)∧(∀p∈X.pn++pins,p.1≠b)∧H b=none)
  (keep: ∀b o,s.heap.get? b=some o→b∉bj X.stack→b∉ch→h'.get? b=some o) (slot: ∀b o,s.heap.get? b=some o→b∈bj X.stack→ ∃sl,h'.get? b=some {o with slots:=sl}):Inv X pins σ H {s with heap:=h'}:=by
 have neL: ∀b o,X.bx.heap.get? b=some o→b≠X.env.locals:=fun b o e=>Nat.ne_of_lt (Nat.lt_of_lt_of_le (Heap.lt_size e) I.ok.above)
 have neC: ∀b o,X.bx.heap.get? b=some o→b∉ch:=fun b o e hb=>by rw[(hch b hb).1] at e;cases e
 have nst: ∀b o,X.bx.heap.get? b=some o→b∉X.fs→b∉bj X.stack:=fun b o e hb hm=>(List.mem_cons.mp (I.qm b hm)).elim (neL b o e) hb
 have any: ∀b o,s.heap.get? b=some o→b∉ch→ ∃sl,h'.get? b=some {o with slots:=sl}:=fun b o e hb=>by
  by_cases hm:b∈bj X.stack
  ·exact slot b o e hm
  ·exact ⟨o.slots,keep b o e hm hb⟩
 have cellK: ∀x c,X.env.cells.lookup x=some c→ ∀v,s.heap.IsCell c v→h'.IsCell c v:=fun x c e v ⟨o,ho,hd⟩=>by
  obtain ⟨sl,q⟩:=any c o ho fun z=>(hch c z).2.2.1 x c e rfl
  exact ⟨_,q,hd⟩
 have tracked: ∀b u,H b=some u→b∉bj X.stack∧b∉ch:=fun b u q=>⟨fun hm=>(by rw[I.tJ b hm] at q;cases q),fun hm=>(by rw[(hch b hm).2.2.2.2] at q;cases q)⟩
 refine ⟨I.ok,I.os,I.bare,⟨fun b o e n hb hx=>?_,fun b o e n hb hx=>?_,fun b o e n hx=>I.base.free b o e n hx,fun b o e hx=>?_,I.base.gm,I.base.fO,I.base.gL⟩,?_,fun x c e=>?_,I.free,I.dG,fun p hp=>?_,fun a o e=>?_,I.len⟩
 ·exact keep b o (I.base.keep b o e n hb hx) (nst b o e hb) (neC b o e)
 ·obtain ⟨sl,e1⟩:=I.base.slot b o e n hb hx
  obtain ⟨sl',e2⟩:=any b _ e1 (neC b o e)
  exact ⟨sl',e2⟩
 ·obtain ⟨o',e1⟩:=I.base.there b o e hx
  obtain ⟨sl,e2⟩:=any b o' e1 (neC b o e)
  exact ⟨_,e2⟩
 ·obtain ⟨m,⟨o,es,ep,ho,r⟩,hl⟩:=I.loc
  obtain ⟨sl,q⟩:=any _ o ho fun z=>(hch _ z).2.1 rfl
  refine ⟨m,⟨_,es,ep,q,r⟩,fun i x v e1 e2 e3=>?_⟩
  obtain ⟨u,rr,l⟩:=hl i x v e1 e2 e3
  refine ⟨u,rr,?_⟩
  rcases l with l|⟨k,c,e,z⟩
  ·exact .inl l
  ·exact .inr ⟨k,c,e,cellK x c e _ z⟩
 ·obtain ⟨v,z⟩:=I.cell x c e
  exact ⟨v,cellK x c e v z⟩
 ·obtain ⟨e,n,ne,nf,d⟩:=I.pin p hp
  exact ⟨keep p.1 p.2 e (fun hm=>(List.mem_cons.mp (I.qm _ hm)).elim ne nf) (fun z=>(hch p.1 z).2.2.2.1 p hp rfl),n,ne,nf,d⟩
 ·refine (I.ao a o e).fD (fun b u hb q=>?_) (fun _ q=>q) fun _ _ q=>q
  rcases hb with rfl|hb
  ·exact keep _ _ q (tracked _ _ e).1 (tracked _ _ e).2
  ·exact keep _ _ q (tracked _ _ hb).1 (tracked _ _ hb).2
theorem tq (I:Inv X pins σ H s) {x T:Addr} {cls c fl:Value} (ht:sj s.heap x T cls c fl):f6 (PySem.W.hideAll s.heap (x::T::bj X.stack)) X.stack x cls c fl s.heap:=by
 obtain ⟨oe,vs,oT,ts,g1,g2,g3,g4,g5,g6,g7,g8⟩:=ht
 exact ⟨fun b o q=>PySem.W.of_hideAll _ q,PySem.W.hideAll_none _ (by simp),PySem.W.funFrames_hide I.stack (fun env henv a ha=>List.mem_cons_of_mem _ (List.mem_cons_of_mem _ (wZ henv ha))),oe,vs,T,oT,ts,g1,g2,g3,g4,PySem.W.hideAll_none _ (by simp),g5,g6,g7,g8⟩
theorem tI (I:Inv X pins σ H s) (up:s.heap.UpToSlots h'): ∀b o,s.heap.get? b=some o→b∈bj X.stack→(∀vs,o.data≠ .fields vs)∧ ∃sl,h'.get? b=some {o with slots:=sl}:=fun b o q hm=>by
 obtain ⟨_,o2,q2,nf⟩:=I.stack.mem hm
 rw[q] at q2;cases q2
 exact ⟨nf,up b o q nf⟩
theorem tS {x T:Addr} (k1:(PySem.W.hideAll s.heap (x::T::bj X.stack)).StaysIn h'): ∀b o,s.heap.get? b=some o→b∉bj X.stack→b∉ [x,T]→h'.get? b=some o:=fun b o q nb nd=>k1 b o (PySem.W.hideAll_get _ q fun hm=>by
 rcases List.mem_cons.mp hm with z|hm
 ·exact nd (by rw[z];simp)
 ·rcases List.mem_cons.mp hm with z|hm
  ·exact nd (by rw[z];simp)
  ·exact nb hm)
theorem wm (I:Inv X pins σ H s) {x T T':Addr} {oT':Obj} {ts':Array Value} (up:s.heap.UpToSlots h') (t5:(PySem.W.hideAll s.heap (x::T::bj X.stack)).get? T'=none) (t6:T'≠x) (t7:h'.get? T'=some oT') (t8:oT'.data= .fields ts'):s.heap.get? T'=none∨T'=T:=by
 cases q:s.heap.get? T' with
 |none=>exact .inl rfl
 |some o=>
  by_cases hm:T'∈x::T::bj X.stack
  ·rcases List.mem_cons.mp hm with z|hm
   ·exact absurd z t6
   ·rcases List.mem_cons.mp hm with z|hm
    ·exact .inr z
    ·obtain ⟨nf,sl,z⟩:=tI I up T' o q hm
     rw[t7] at z
     cases z
     exact absurd t8 (nf ts')
  ·have:=PySem.W.hideAll_get _ q hm
   rw[t5] at this;cases this
theorem xQ (I:Inv X pins σ H s) {x T T':Addr} {n:Nat} {c:Value} (k1:(PySem.W.hideAll s.heap (x::T::bj X.stack)).StaysIn h') (e:s.heap.get? T'=none∨T'=T) (q:b9 s.heap H [x,T] n c):b9 h' H [x,T'] n c:=
 q.move fun a o vs g1 g2 g3 g4=>⟨tS k1 a o g1 (fun hm=>by obtain ⟨_,o2,q2,nf⟩:=I.stack.mem hm;rw[g1] at q2;cases q2;exact nf vs g2) g4,g3,fun hm=>by
  rcases List.mem_cons.mp hm with z|hm
  ·exact g4 (by rw[z];simp)
  ·rcases List.mem_cons.mp hm with z|hm
   ·rcases e with e|e
    ·rw[←z,g1] at e;cases e
    ·exact g4 (by rw[z,e];simp)
   ·cases hm⟩
end
def gz (X:Cx) (E:XK):Prop:= ∀(pins:List (Addr×Obj)) (σ:St) (H:Hp) (s:Shared) (x T:Addr) (cls c fl:Value) (n:Nat),Inv X pins σ H s→(X.bx.heap.get? x=none∧X.bx.heap.get? T=none∧H x=none∧H T=none)→sj s.heap x T cls c fl→b9 s.heap H [x,T] n c→E cls none H→X.xe (.ref x) s
def kN (X:Cx) (E:XK):Prop:= ∀(pins:List (Addr×Obj)) (σ:St) (H:Hp) (s:Shared) (h1:Heap) (e:Addr) (oe:Obj) (vs:Array Value) (c:Value) (n:Nat),Inv X pins σ H s→(∀b o,s.heap.get? b=some o→h1.get? b=some o)→s.heap.get? e=none→h1.get? e=some oe→oe.data= .fields vs→vs[1]?=some .none→vs[2]?=some c→b9 s.heap H [] n c→E oe.cls none H→X.xe (.ref e) {s with heap:=h1}
abbrev d7 (P:Program) (w:World) (K:PySem.W.Frag) (mg:Str→Option Value) (base:Heap) (N:List Str) (qual:Str) (scope:Scope) (f:Addr) (cd:Value) (A:Around) (outer:List Env) (s0:Shared) (H0:Hp) (E:XK) (cb:Bool) (ps:List (Addr×Obj)):Cx:={fF (aR P w) P w K mg base N qual scope f cd A outer s0 H0 E with calm:=cb,pn:=ps}
section
variable {P:Program} {w:World} {K:PySem.W.Frag} {mg:Str→Option Value} {base:Heap} {N:List Str} {qual:Str} {scope:Scope} {f:Addr} {cd:Value} {A:Around} {outer:List Env} {s0:Shared} {H0:Hp} {E:XK} {cb:Bool} {ps:List (Addr×Obj)}
theorem zu:gz (d7 P w K mg base N qual scope f cd A outer s0 H0 E cb ps) E:=by
 intro pins σ H s x T cls c fl n I hh ht hq he
 refine Qo I.ok.frames rfl (tq I ht) fun h' fl up=>?_
 obtain ⟨k1,k2,k3,oe',vs',T',oT',ts',t1,t2,t3,t4,t5,t6,t7,t8,t9⟩:=fl
 have hd:=lO (P:=fun b=>s0.heap.get? b=none∧H b=none) ⟨hh.1,hh.2.2.1⟩ ⟨hh.2.1,hh.2.2.2⟩
 obtain ⟨un',hok'⟩:=A9 (h':=h') I rfl rfl rfl [x,T] hd (tS k1) (fun b o q hm=>(tI I up b o q hm).2)
 have ent:=wm I up t5 t6 t7 t8
 have hT':s0.heap.get? T'=none∧H T'=none:=by
  rcases id ent with q|rfl
  ·exact ⟨I.jK rfl q,kz I.ao q⟩
  ·exact hd T' (by simp)
 exact ⟨x,T',cls,c,n,H,rfl,I.os,I.bare,un',hok',⟨hh.1,hT'.1,hh.2.2.1,hT'.2⟩,⟨⟨oe',vs',oT',ts',t1,t2,t3,t4,t6,t7,t8,t9⟩,xQ I k1 ent hq⟩,he⟩
theorem zt:Passes (aR P w) (d7 P w K mg base N qual scope f cd A outer s0 H0 E cb ps) E:=by
 intro pins σ H s e s' I hx
 obtain ⟨x,T,cls,c,n,H',rfl,hos,hbare,un,ao,⟨hx0,hT0,hxn,hTn⟩,⟨ht,hq⟩,he⟩:=hx
 have I1:Inv (d7 P w K mg base N qual scope f cd A outer s0 H0 E cb ps) pins σ H' s':=I.jj (ch:= []) hos un ao hbare (fun b hb=>absurd hb (by simp))
 exact zu pins σ H' s' x T cls c .none n I1 ⟨I.jK rfl hx0,I.jK rfl hT0,hxn,hTn⟩ ht hq he
theorem Et:kN (d7 P w K mg base N qual scope f cd A outer s0 H0 E cb ps) E:=by
 intro pins σ H s h1 e oe vs c n I kp ne ge de f1 f2 hq he
 have hff:=I.stack
 show wpAny _ _ (leaving _ (.ref e)) _ _ _
 unfold leaving
 have nh:(PySem.W.hideAll s.heap (bj (d7 P w K mg base N qual scope f cd A outer s0 H0 E cb ps).stack)).get? e=none:=by
  cases q:(PySem.W.hideAll s.heap (bj (d7 P w K mg base N qual scope f cd A outer s0 H0 E cb ps).stack)).get? e with
  |none=>rfl
  |some o=>rw[PySem.W.of_hideAll _ q] at ne;cases ne
 refine wpAny_bind (CY (s:={s with heap:=h1}) (base:=PySem.W.hideAll s.heap (bj (d7 P w K mg base N qual scope f cd A outer s0 H0 E cb ps).stack)) I.ok.frames rfl ((PySem.W.funFrames_hide hff (fun env henv a ha=>wZ henv ha)).of_keeps fun b o q nf=>⟨o,kp b o q,rfl⟩) ge (fun b o q=>kp b o (PySem.W.of_hideAll _ q)) nh de f1 f2 fun h2 o2 up1=>?_)
 refine uN (s:={s with heap:=h2}) o2 fun h' fl up2=>?_
 obtain ⟨k1,k2,k3,oe',vs',T',oT',ts',t1,t2,t3,t4,t5,t6,t7,t8,t9⟩:=fl
 have slot: ∀b o,s.heap.get? b=some o→b∈bj (d7 P w K mg base N qual scope f cd A outer s0 H0 E cb ps).stack→(∀vs,o.data≠ .fields vs)∧ ∃sl,h'.get? b=some {o with slots:=sl}:=fun b o q hm=>by
  obtain ⟨_,o2,q2,nf⟩:=hff.mem hm
  rw[q] at q2;cases q2
  exact ⟨nf,(up1.trans up2) b o (kp b o q) nf⟩
 have keep: ∀b o,s.heap.get? b=some o→b∉bj (d7 P w K mg base N qual scope f cd A outer s0 H0 E cb ps).stack→h'.get? b=some o:=fun b o q nb=>k1 b o (PySem.W.hideAll_get _ q nb)
 obtain ⟨un',hok'⟩:=A9 (h':=h') I rfl rfl rfl [] (fun b hb=>absurd hb (by simp)) (fun b o q nb _=>keep b o q nb) (fun b o q hm=>(slot b o q hm).2)
 have new:s.heap.get? T'=none:=by
  cases q:s.heap.get? T' with
  |none=>rfl
  |some o=>
   by_cases hm:T'∈bj (d7 P w K mg base N qual scope f cd A outer s0 H0 E cb ps).stack
   ·obtain ⟨nf,sl,z⟩:=slot T' o q hm
    rw[t7] at z
    cases z
    exact absurd t8 (nf ts')
   ·have:=PySem.W.hideAll_get _ q hm
    rw[t5] at this;cases this
 exact ⟨e,T',oe.cls,c,n,H,rfl,I.os,I.bare,un',hok',⟨I.jK rfl ne,I.jK rfl new,kz I.ao ne,kz I.ao new⟩,⟨⟨oe',vs',oT',ts',t1,t2,t3,t4,t6,t7,t8,t9⟩,hq.move fun a o vs g1 g2 g3 g4=>⟨keep a o g1 (fun hm=>by obtain ⟨_,o2,q2,nf⟩:=hff.mem hm;rw[g1] at q2;cases q2;exact nf vs g2),g3,fun hm=>by
  rcases List.mem_cons.mp hm with z|hm
  ·rw[←z,g1] at ne;cases ne
  ·rcases List.mem_cons.mp hm with z|hm
   ·rw[←z,g1] at new;cases new
   ·cases hm⟩⟩,he⟩
end
section
variable {P:Program} {w:World} {K:PySem.W.Frag} {mg:Str→Option Value} {base:Heap} {N:List Str} {qual:Str} {scope:Scope} {f:Addr} {cd:Value} {A:Around} {outer:List Env} {s0:Shared} {H0:Hp} {E:XK}
theorem jk:gz (fF (aR P w) P w K mg base N qual scope f cd A outer s0 H0 E) E:=zu (cb:=true) (ps:= [])
theorem aN:Passes (aR P w) (fF (aR P w) P w K mg base N qual scope f cd A outer s0 H0 E) E:=zt (cb:=true) (ps:= [])
theorem fq:kN (fF (aR P w) P w K mg base N qual scope f cd A outer s0 H0 E) E:=Et (cb:=true) (ps:= [])
end
def kd:List Value:= [.type "Exception", .type "BaseException", .type "object"]
def gS (K:PySem.W.Frag) (C:Addr):Prop:=PySem.W.excIn K C kd "Exception.__new__" =true
theorem gS.obj {K:PySem.W.Frag} {h:Heap} {C:Addr} (X:K.In h) (q:gS K C): ∃bm N nm qn bs hdct sn sub ab col dd k0 k1 k2 k3 k5 mN,h.get? C=some (excClassObj nm qn C N bs bm hdct sn sub ab col dd k0 k1 k2 k3 k5 "Exception.__new__")∧h.Ns N mN∧mN "__init__" =none∧OwnTail h kd bm:=by
 unfold gS PySem.W.excIn at q
 split at q
 ·rename_i dd cd sl ho
  split at q
  ·rename_i C' bm k0 k1 k2 k3 n k5 hm hs
   simp only [Bool.and_eq_true,beq_iff_eq,Bool.not_eq_true'] at q
   obtain ⟨⟨⟨⟨⟨rfl,rfl⟩,hdel⟩,ht⟩,ao⟩,hni⟩:=q
   obtain ⟨nm,bs,mro,ns,qn,hd,sn,sub,ab,col,del⟩:=cd
   dsimp only at hm hdel ao hni
   subst hm hdel
   have hsl:sl= #[k0,k1,k2,k3,some (.builtin "Exception.__new__"),k5]:=by
    obtain ⟨l⟩:=sl
    simp only at hs
    rw[hs]
   subst hsl
   exact ⟨bm,ns,nm,qn,bs,hd,sn,sub,ab,col,dd,k0,k1,k2,k3,k5,_,X _ _ ho, .of_isNs (PySem.W.isNs_of_in X ao),PySem.W.nsMap_none_of_in X ao hni,PySem.W.tail_of_in X ht⟩
  ·cases q
 ·cases q
def u7 (E:XK) (C:Addr):TS:=fun _ _ H=>E (.ref C) none H
theorem fg {X:Cx} {x:Str} {C:Addr} {E:XK} {np cpos pos:Pos} (hc:X.calm=true) (hg:Gl X x) (hm:X.mg x=some (.ref C)) (hC:gS X.K C) (hr:kN X E) (hd:(x==("__debug__" :Str))=false:=by decide):
  PS X (.Raise (some (.Call (.Name x np) [] [] cpos)) none pos) (u7 E C):=by
 intro pins s σ H D I h
 obtain ⟨bm,N,nm,qn,bs,hdct,sn,sub,ab,col,dd,k0,k1,k2,k3,k5,mN,g1,g2,g3,g4⟩:=hC.obj I.bV
 exact wpAny_Raise_call_subT (C:=C) (nm:=nm) (q:=qn) (N:=N) (bs:=bs) (bm:=bm) (hdct:=hdct) (sn:=sn) (sub:=sub) (ab:=ab) (col:=col) (dd:=dd) (k0:=k0) (k1:=k1) (k2:=k2) (k3:=k3) (k5:=k5)
  F.excBase_Exception (mN:=mN) (g4.hasType F.excBase_Exception.hasBase) (I.ok.hd hc) rfl g3 (jw I hg hm ⟨rfl,evalArgs_empty ⟨rfl,Nat.zero_le _,g1,g2,g4,fun h' e hx=>by
   obtain ⟨t,ht,_⟩:=hx.there
   exact hr pins σ H s h' e _ _ .none 0 I hx.keeps hx.new ht rfl rfl rfl .nil h⟩⟩ hd)
theorem aH.bN {P:Program} {w:World} {K:PySem.W.Frag} {mg:Str→Option Value} {base:Heap} {x qual:Str} {st:Stmt} {f:Addr} {fd:FuncData} {N ps:List Str} {k:Nat} {sp:Sp} (F:aH K x qual st f fd) (S:aK N ps (aD st)) (len: ∀vs H Q E,sp vs H Q E→vs.length=ps.length)
  (hbody: ∀(cdv:Value) (A:Around) (outer:List Env) (s:Shared) (H:Hp) (vs:List V) (Q:VK) (E:XK),aF k (A.deeper (envOfC qual (aD st) s.heap.objs.size f cdv))→sp vs H Q E→
   ∃t,cP (fF (aR P w) P w K mg base N qual (aD st) f cdv A outer s H E) (kS st) t∧t {nx:=fun _ H'=>Q .au H',rt:=Q} (start N vs) H):az P w K mg base (aR P w) (k+1) f fd ps sp:=by
 obtain ⟨oc,od,kV,doc,pm,an,cdv,ct,osl,rfl,lk,hcd⟩:=F.ex
 exact B9 lk hcd S len fun A outer s H vs Q E hr hsp=>hbody cdv A outer s H vs Q E hr hsp
end L2
namespace L2
open PySem PySem.Spec PyProof.Rows
section
variable {X:Cx} {pins:List (Addr×Obj)} {σ:St} {H:Hp} {s:Shared}
theorem IS {α:Type} {M:Model} {A:Around} {E:Value→Shared→Prop} {what:String} {s:Shared} {x T:Addr} {oe oT:Obj} {vs ts:Array Value} {cenv:Env} {Q:α→Shared→Prop} (g1:s.heap.get? x=some oe) (g3:oe.data= .fields vs) (g4:vs[1]?=some (.ref T)) (g7:s.heap.get? T=some oT) (g8:oT.data= .fields ts) (h3:3<ts.size)
  (k:E (.ref x) {s with heap:=s.heap.update T (Obj.mapFields (·.setIfInBounds 3 (cenv.frame.elim Value.none fun f=>rawInt f)))}):wpAny M A (PySem.passOn what (.ref x) cenv) Q E s:=by
 unfold PySem.passOn
 refine wpAny_bind (wpAny_field g1 g3 g4 ?_)
 rw[if_neg (by simp)]
 unfold setFlight
 refine wpAny_bind (wpAny_bind (wpAny_field g1 g3 g4 ?_))
 rw[if_pos (by simp)]
 exact wpAny_setField g7 g8 h3 (wpAny_throw k)
end
section
variable {X:Cx}
theorem DM {E:XK} {pins:List (Addr×Obj)} {s:Shared} {σ:St} {H:Hp} {Q:VK} {elt tg iter:Expr} {ifs:List Expr} {scope:Scope} {own:List (Str×Nat)} {pos pos':Pos} {wi:TI} {g:TG} {tt:TT} {te:TE} {use:Option (Value→Sem Unit)} {Qf:Value→Shared→Prop}
  (hex:X.ex= []) (hst:X.stack=X.env::X.outer) (hfr:X.env.frame=some X.env.locals) (hair:gz X E) (hc:X.calm=true) (hN:X.N.Nodup) (I:Inv X pins σ H s) (hi:PI X tg iter wi) (ok:iy X.N X.env.scope scope own)
  (hg: ∀(s:Shared) (H:Hp) (C:Addr) (cl:List (Str×Addr)) (fp:List Addr) (xb:Value→Shared→Prop),PG ((X.bw s H scope (compEnvC scope cl C X.env) fp).bM xb) tg g) (ht: ∀(s:Shared) (H:Hp) (C:Addr) (cl:List (Str×Addr)) (fp:List Addr) (xb:Value→Shared→Prop),jL ((X.bw s H scope (compEnvC scope cl C X.env) fp).bM xb) ifs tt)
  (he: ∀(s:Shared) (H:Hp) (C:Addr) (cl:List (Str×Addr)) (fp:List Addr) (xb:Value→Shared→Prop),Passes (aR X.prog X.w) ((X.bw s H scope (compEnvC scope cl C X.env) fp).bM xb) E→PE ((X.bw s H scope (compEnvC scope cl C X.env) fp).bM xb) elt te) (hs: ∀x,foldedSetIterable iter X.env x=pure x)
  (h:gY wi g tt te (own.map (·.2)) σ H Q)
  (hRR: ∀D C s' m H',Inv X pins σ H' s'→Q (.ref D) H'→s'.heap.Ns C m→dX X pins H' C→compPost (model X.prog X.w) X.A X.xe use Qf (.ref D) C (.ok .next) s'):
  wpAny (model X.prog X.w) X.A (comprehension (.ListComp elt [⟨tg,iter,ifs,0⟩] scope pos) scope X.env pos' (newList []) false (eval iter X.env) use) Qf X.xe s:=by
 have hfree: ∀y∈scope.names,y.2= .free→ ∃c,X.env.cells.lookup y.1=some c:=fun y hy e=>by
  rcases ok.free y hy e with k|k
  ·exact I.ok.has _ (.inl k)
  ·exact I.ok.has _ (.inr k)
 refine wpAny_comprehension_free (use:=use) rfl hs (ED hfree) ok.kind (fun y hy e=>by rw[ok.uniq y hy,e])
  (aE (hi pins s σ H _ I h) fun xv s1 hx=>aE hx fun itv s2 h2=>?_)
 obtain ⟨it,fp,tn,J,H2,e,I2,T,st2,f2,q⟩:=h2
 subst e
 refine wpAny_newObj_type (Dl ?_) (by show 0≤sizeLine;decide)
 generalize hD:s2.heap.objs.size=D
 have hDn:H2 D=none:=I2.ao.fresh (Nat.le_of_eq hD)
 obtain ⟨W,⟨m0,w0⟩,turn⟩:=q D hDn
 generalize hs3:({s2 with heap:=s2.heap.push {cls:= .type "list",data:= .seq ([]:List Value).toArray}}:Shared)=s3
 have I3:Inv X pins σ (upd H2 D (.lst [])) s3:=by
  rw[←hs3]
  refine I2.laid (t':=s2.toks) (fun b o e=>Heap.get?_push_of_some _ e) (Nat.le_of_eq hD) ⟨Nat.zero_le _, [],0, .nil,?_⟩
  rw[←hD]
  exact Heap.get?_push_size _ rfl
 have h3:s3.heap=s2.heap.push {cls:= .type "list",data:= .seq ([]:List Value).toArray}:=by rw[←hs3]
 have sz: ∀b∈fp,b<s2.heap.objs.size:=fun b hb=>by
  obtain ⟨o,e,_⟩:=T.obj _ _ st2 b hb
  exact Heap.lt_size e
 have f3: ∀b∈fp,dX X pins (upd H2 D (.lst [])) b∧b<s3.heap.objs.size:=fun b hb=>by
  have hlt:=sz b hb
  refine ⟨⟨?_,(f2 b hb).2⟩,by rw[h3,Heap.size_push];exact Nat.lt_succ_of_lt hlt⟩
  rw[aG (by rw[←hD];exact Nat.ne_of_lt hlt)]
  exact (f2 b hb).1
 have st3:tn 0 s3.heap:=T.keep _ _ _ st2 fun b _ o e=>by rw[h3];exact Heap.get?_push_of_some _ e
 have I4:=(yd I3 ok hN f3).bM (notedBy (model X.prog X.w) X.A (compEnvC scope (cellsFrom (s3.heap.objs.size+1) scope.names (bS X.env.cells scope.names [])) s3.heap.objs.size X.env) fun e s'=>compPost (model X.prog X.w) X.A X.xe use Qf (.ref D) s3.heap.objs.size (.error e) s')
 have pg:=hg s3 (upd H2 D (.lst [])) s3.heap.objs.size (cellsFrom (s3.heap.objs.size+1) scope.names (bS X.env.cells scope.names [])) fp (notedBy (model X.prog X.w) X.A (compEnvC scope (cellsFrom (s3.heap.objs.size+1) scope.names (bS X.env.cells scope.names [])) s3.heap.objs.size X.env) fun e s'=>compPost (model X.prog X.w) X.A X.xe use Qf (.ref D) s3.heap.objs.size (.error e) s')
 have pt:=ht s3 (upd H2 D (.lst [])) s3.heap.objs.size (cellsFrom (s3.heap.objs.size+1) scope.names (bS X.env.cells scope.names [])) fp (notedBy (model X.prog X.w) X.A (compEnvC scope (cellsFrom (s3.heap.objs.size+1) scope.names (bS X.env.cells scope.names [])) s3.heap.objs.size X.env) fun e s'=>compPost (model X.prog X.w) X.A X.xe use Qf (.ref D) s3.heap.objs.size (.error e) s')
 have pe:=he s3 (upd H2 D (.lst [])) s3.heap.objs.size (cellsFrom (s3.heap.objs.size+1) scope.names (bS X.env.cells scope.names [])) fp (notedBy (model X.prog X.w) X.A (compEnvC scope (cellsFrom (s3.heap.objs.size+1) scope.names (bS X.env.cells scope.names [])) s3.heap.objs.size X.env) fun e s'=>compPost (model X.prog X.w) X.A X.xe use Qf (.ref D) s3.heap.objs.size (.error e) s')
 show codeAny _ _ (.compStart (.ListComp elt [⟨tg,iter,ifs,0⟩] scope pos) 0 (.ref it) (.ref D) (compEnvC scope (cellsFrom (s3.heap.objs.size+1) scope.names (bS X.env.cells scope.names [])) s3.heap.objs.size X.env)) (compPost (model X.prog X.w) X.A X.xe use Qf (.ref D) s3.heap.objs.size) {s3 with heap:=pushCells (s3.heap.push {cls:= .type "dict",data:= .dict #[]}) scope.names}
 have nfp: ∀b∈fp,(upd H2 D (.lst [])) b=none:=fun b hb=>(f3 b hb).1.1
 generalize hce:compEnvC scope (cellsFrom (s3.heap.objs.size+1) scope.names (bS X.env.cells scope.names [])) s3.heap.objs.size X.env=ce at I4 pg pt pe⊢
 have cL:ce.locals=s3.heap.objs.size:=by subst hce;rfl
 have cF:ce.frame=X.env.frame:=by subst hce;rfl
 generalize hH3:upd H2 D (.lst [])=H3 at I3 I4 pg pt pe w0 nfp f3
 generalize hs4:({s3 with heap:=pushCells (s3.heap.push {cls:= .type "dict",data:= .dict #[]}) scope.names}:Shared)=s4 at I4⊢
 generalize hxb:(notedBy (model X.prog X.w) X.A ce fun e s'=>compPost (model X.prog X.w) X.A X.xe use Qf (.ref D) s3.heap.objs.size (.error e) s')=xb at I4 pg pt pe
 have hp:Passes (aR X.prog X.w) ((X.bw s3 H3 scope ce fp).bM xb) E:=by
  intro pins' σ' Hb sb e s' Ib hx
  obtain ⟨x,T0,cls,a0,n0,H',rfl,hos,hbare,un,ao,⟨hx0,hT0,hxn,hTn⟩,⟨ht,hq⟩,he'⟩:=hx
  have I1:Inv ((X.bw s3 H3 scope ce fp).bM xb) pins' σ' H' s':=Ib.jj (ch:= []) hos un ao hbare (fun b hb=>absurd hb (by simp))
  have hfc: ∀b∈fp,(b∈X.ex∨X.bx.heap.objs.size≤b)∧b≠X.env.locals∧(∀x c,X.env.cells.lookup x=some c→c≠b)∧ ∀p∈X.pn++pins,p.1≠b:=fun b hb=>⟨(f3 b hb).1.2.2.2.1,(f3 b hb).1.2.1,(f3 b hb).1.2.2.2.2.1,(f3 b hb).1.2.2.2.2.2⟩
  have Id0:Inv X pins σ Hb sb:=I3.jj (ch:=fp) Ib.os Ib.base Ib.ao Ib.bare hfc
  have Id:Inv X pins σ H' s':=I3.jj (ch:=fp) I1.os I1.base I1.ao I1.bare hfc
  have nC:H' s3.heap.objs.size=none:=by
   have z:H' ce.locals=none:=I1.free
   rw[cL] at z
   exact z
  obtain ⟨mC,hnC,_⟩:=I1.loc
  have hnC:s'.heap.Ns ce.locals mC:=hnC
  rw[cL] at hnC
  rw[←hxb]
  show wpAny (model X.prog X.w) X.A (noteFrame (.ref x) ce) _ _ s'
  rw[Jf cF]
  refine vp (by rw[Id.ok.frames,hst]) hfr (by rw[←hst];exact tq (fl:= .none) Id ht) fun h1 hh up=>?_
  obtain ⟨k1,k2,k3,oe',vs',T',oT',ts',t1,t2,t3,t4,t5,t6,t7,t8,t9⟩:=hh
  have hn1:h1.Ns s3.heap.objs.size mC:=up.ns hnC
  have hxC:x≠s3.heap.objs.size:=fun z=>by
   obtain ⟨o,es,ep,ho,hd,_⟩:=hn1
   rw[←z,t1] at ho;cases ho;rw[t3] at hd;cases hd
  have hTC:T'≠s3.heap.objs.size:=fun z=>by
   obtain ⟨o,es,ep,ho,hd,_⟩:=hn1
   rw[←z,t7] at ho;cases ho;rw[t8] at hd;cases hd
  refine ⟨mC,hn1,fun h2 sb2 cenv _=>?_⟩
  have g1:h2.get? x=some oe':=(sb2.2 x hxC).trans t1
  have g7:h2.get? T'=some oT':=(sb2.2 T' hTC).trans t7
  have hs3:3<ts'.size:=(Array.getElem?_eq_some_iff.mp t9).1
  refine IS (s:={s' with heap:=h2}) g1 t3 t4 g7 t8 hs3 ?_
  have hent:=wm Id up t5 t6 t7 t8
  have ap: ∀b∈ [x,T0,T',s3.heap.objs.size],X.bx.heap.get? b=none∧b≠X.env.locals∧(∀x c,X.env.cells.lookup x=some c→c≠b)∧(∀p∈X.pn++pins,p.1≠b)∧H' b=none:=fun b hb=>by
   have old: ∀{b:Addr},sb.heap.get? b=none→H' b=none→X.bx.heap.get? b=none∧b≠X.env.locals∧(∀x c,X.env.cells.lookup x=some c→c≠b)∧(∀p∈X.pn++pins,p.1≠b)∧H' b=none:=fun {b} q n=>by
    obtain ⟨z1,z2,z3,z4⟩:=Id0.apart hex q
    exact ⟨z1,z2,z3,z4,n⟩
   rcases List.mem_cons.mp hb with rfl|hb
   ·exact old hx0 hxn
   ·rcases List.mem_cons.mp hb with rfl|hb
    ·exact old hT0 hTn
    ·rcases List.mem_cons.mp hb with rfl|hb
     ·rcases hent with q|rfl
      ·obtain ⟨z1,z2,z3,z4⟩:=Id.apart hex q
       exact ⟨z1,z2,z3,z4,kz Id.ao q⟩
      ·exact old hT0 hTn
     ·rcases List.mem_cons.mp hb with rfl|hb
      ·obtain ⟨_,z2,_,_,z5,z6⟩:=I3.gn (Nat.le_refl _) nC
       exact ⟨I3.jK hex (Heap.get?_none_of_le (Nat.le_refl _)),z2,z5,z6,nC⟩
      ·cases hb
  have frC: ∀b∈bj X.stack,b≠s3.heap.objs.size:=fun b hb z=>by
   obtain ⟨_,o,ho,_⟩:=I3.stack.mem hb
   rw[z] at ho
   exact absurd (Heap.lt_size ho) (Nat.lt_irrefl _)
  have Im:=Id.moved (h':=h2.update T' (Obj.mapFields (·.setIfInBounds 3 (cenv.frame.elim Value.none fun f=>rawInt f)))) [x,T0,T',s3.heap.objs.size] ap
   (fun b o q nb nd=>by
    have n1:b∉ [x,T0]:=fun z=>nd (by
     rcases List.mem_cons.mp z with rfl|z
     ·simp
     ·rcases List.mem_cons.mp z with rfl|z
      ·simp
      ·cases z)
    have n2:b≠T':=fun z=>nd (by rw[z];simp)
    have n3:b≠s3.heap.objs.size:=fun z=>nd (by rw[z];simp)
    rw[Heap.get?_update_other _ _ (Ne.symm n2),sb2.2 b n3]
    exact tS k1 b o q nb n1)
   (fun b o q hm=>by
    obtain ⟨nf,sl,z⟩:=tI Id up b o q hm
    have n2:b≠T':=fun w=>by
     rw[w,t7] at z
     cases z
     exact nf ts' t8
    refine ⟨sl,?_⟩
    rw[Heap.get?_update_other _ _ (Ne.symm n2),sb2.2 b (frC b hm)]
    exact z)
  refine hair pins σ H' _ x T' cls a0 (cenv.frame.elim Value.none fun f=>rawInt f) n0 Im ⟨(ap x (by simp)).1,(ap T' (by simp)).1,hxn,(ap T' (by simp)).2.2.2.2⟩ ?_ ((xQ Id k1 hent hq).move fun a o vs q1 q2 q3 q4=>⟨?_,q3,q4⟩) he'
  rotate_left
  ·rw[Heap.get?_update_other _ _ (fun z=>q4 (by rw[z];simp)),sb2.2 a (fun z=>by
    obtain ⟨o2,es,ep,ho,hd,_⟩:=hn1
    rw[←z,q1] at ho;cases ho;rw[q2] at hd;cases hd)]
   exact q1
  exact ⟨oe',vs',_,_,(Heap.get?_update_other _ _ t6).trans g1,t2,t3,t4,t6,Heap.get?_update_self _ g7 (Obj.isFreed_of_fields (Obj.data_mapFields t8 _)),Obj.data_mapFields t8 _,by simp [hs3]⟩
 subst hxb
 have st4:tn 0 s4.heap:=T.keep _ _ _ st3 fun b _ o e=>by rw[←hs4];exact pushCells_keeps _ _ _ _ (Heap.get?_push_of_some _ e)
 have stat: ∀{σ':St} {H':Hp} {s':Shared},Inv ((X.bw s3 H3 scope ce fp).bM (notedBy (model X.prog X.w) X.A ce fun e s'=>compPost (model X.prog X.w) X.A X.xe use Qf (.ref D) s3.heap.objs.size (.error e) s')) [] σ' H' s'→(∀b∈fp,H' b=none)→ ∀b∈fp,dX ((X.bw s3 H3 scope ce fp).bM (notedBy (model X.prog X.w) X.A ce fun e s'=>compPost (model X.prog X.w) X.A X.xe use Qf (.ref D) s3.heap.objs.size (.error e) s')) [] H' b:=fun {σ' H' s'} I' hn b hb=>
  ⟨hn b hb,(I'.ok.gJ b hb).1,I'.ok.gI b hb, .inl hb,fun x c e=>(I'.ok.gJ b hb).2 x c e,fun p hp=>absurd (show p∈([]:List (Addr×Obj))++ [] from hp) (by simp)⟩
 have loop:codeAny (model X.prog X.w) X.A (.compLoop (.ListComp elt [⟨tg,iter,ifs,0⟩] scope pos) 0 (.ref it) (.ref D) ce) (compPost (model X.prog X.w) X.A X.xe use Qf (.ref D) s3.heap.objs.size) s4:=by
  refine yI (fun n s'=> ∃i H',Inv ((X.bw s3 H3 scope ce fp).bM (notedBy (model X.prog X.w) X.A ce fun e s'=>compPost (model X.prog X.w) X.A X.xe use Qf (.ref D) s3.heap.objs.size (.error e) s')) [] (wipe σ (own.map (·.2))) H' s'∧tn i s'.heap∧(∀b∈fp,H' b=none)∧W i n H') ?_ m0 ⟨0,H3,I4,st4,nfp,w0⟩
  rintro n s5 ⟨i,H5,I5,st5,n5,w5⟩
  rcases turn i n H5 w5 with ⟨stop,qq⟩|⟨go,Nx,hNx,step⟩
  ·have td:=T.done ((X.bw s3 H3 scope ce fp).bM (notedBy (model X.prog X.w) X.A ce fun e s'=>compPost (model X.prog X.w) X.A X.xe use Qf (.ref D) s3.heap.objs.size (.error e) s')) rfl rfl rfl hc i [] s5 _ H5 (fun _ _=>False) I5 (stat I5 n5) st5 stop
   refine ia td fun r s6 ⟨hr,I6⟩=>?_
   subst hr
   have I7:Inv X pins σ H5 s6:=I3.jj (ch:=fp) I6.os I6.base I6.ao I6.bare fun b hb=>⟨(f3 b hb).1.2.2.2.1,(f3 b hb).1.2.1,(f3 b hb).1.2.2.2.2.1,(f3 b hb).1.2.2.2.2.2⟩
   have nC:H5 s3.heap.objs.size=none:=by
    have z:H5 ce.locals=none:=I6.free
    rw[cL] at z
    exact z
   obtain ⟨m,hn,_⟩:=I6.loc
   have hn:s6.heap.Ns ce.locals m:=hn
   rw[cL] at hn
   exact hRR D s3.heap.objs.size s6 m H5 I7 qq hn (I3.gn (Nat.le_refl _) nC)
  ·have ti:=T.item ((X.bw s3 H3 scope ce fp).bM (notedBy (model X.prog X.w) X.A ce fun e s'=>compPost (model X.prog X.w) X.A X.xe use Qf (.ref D) s3.heap.objs.size (.error e) s')) rfl rfl rfl hc i [] s5 _ H5 (fun _ _=>False) I5 (stat I5 n5) st5 go
   refine ia ti fun r s6 ⟨u,hr,h6⟩=>?_
   subst hr
   refine ia h6 fun _ s7 ⟨x,H7,I7,r7,y7,st7,n7⟩=>?_
   have I7':=I7.pinned (stat I7 n7) (T.obj _ _ st7)
   refine aE (pg _ s7 _ H7 x u _ I7' r7 (step x H7 y7)) fun _ s8 ⟨σ8,H8,I8,hw8,q8⟩=>?_
   refine aE (pt _ s8 σ8 H8 _ I8 q8) fun b s9 ⟨H9,I9,q9⟩=>?_
   have fin: ∀{s':Shared} {H':Hp},Inv ((X.bw s3 H3 scope ce fp).bM (notedBy (model X.prog X.w) X.A ce fun e s'=>compPost (model X.prog X.w) X.A X.xe use Qf (.ref D) s3.heap.objs.size (.error e) s')) ([]++kQ fp s7.heap) σ8 H' s'→Nx H'→ ∃m,m<n∧ ∃i H',Inv ((X.bw s3 H3 scope ce fp).bM (notedBy (model X.prog X.w) X.A ce fun e s'=>compPost (model X.prog X.w) X.A X.xe use Qf (.ref D) s3.heap.objs.size (.error e) s')) [] (wipe σ (own.map (·.2))) H' s'∧tn i s'.heap∧(∀b∈fp,H' b=none)∧W i m H':=fun {s' H'} I' nx=>by
    obtain ⟨m',hm,w'⟩:=hNx H' nx
    have pin': ∀b∈fp,∀o,s7.heap.get? b=some o→s'.heap.get? b=some o∧H' b=none:=fun b hb o e=>
     let z:=I'.pin (b,o) (List.mem_append_right _ (List.mem_append_right _ (tf hb e)))
     ⟨z.1,z.2.1⟩
    have hl:(wipe σ (own.map (·.2))).length=σ8.length:=by rw[←hw8,rH]
    refine ⟨m',hm,i+1,H',(I'.nG (pins:= [])).weak hl (fun j v e=>?_),T.keep _ _ _ st7 fun b hb o e=>(pin' b hb o e).1,fun b hb=>?_,w'⟩
    ·rw[←hw8] at e
     exact (tW e).1
    ·obtain ⟨o,e,_⟩:=T.obj _ _ st7 b hb
     exact (pin' b hb o e).2
   cases b with
   |false=>
    simp only [Bool.false_eq_true,if_false] at q9⊢
    exact fin I9 q9
   |true=>
    simp only [if_true] at q9⊢
    refine aE (pe hp _ s9 σ8 H9 _ I9 q9) fun z s10 ⟨yv,H10,I10,r10,acc,hD10,hz10,nx⟩=>?_
    exact yK (X:=(X.bw s3 H3 scope ce fp).bM (notedBy (model X.prog X.w) X.A ce fun e s'=>compPost (model X.prog X.w) X.A X.xe use Qf (.ref D) s3.heap.objs.size (.error e) s')) I10 hD10 hz10 r10 fun s11 I11=>fin I11 nx
 exact codeAny_compStart_list loop (T.self X.A 0 _ _ _ st4 loop)
theorem FF {E:XK} {elt tg iter:Expr} {ifs:List Expr} {scope:Scope} {own:List (Str×Nat)} {pos:Pos} {wi:TI} {g:TG} {tt:TT} {te:TE} (hex:X.ex= []) (hst:X.stack=X.env::X.outer) (hfr:X.env.frame=some X.env.locals) (hair:gz X E) (hc:X.calm=true) (hN:X.N.Nodup) (hi:PI X tg iter wi) (ok:iy X.N X.env.scope scope own)
  (hg: ∀(s:Shared) (H:Hp) (C:Addr) (cl:List (Str×Addr)) (fp:List Addr) (xb:Value→Shared→Prop),PG ((X.bw s H scope (compEnvC scope cl C X.env) fp).bM xb) tg g) (ht: ∀(s:Shared) (H:Hp) (C:Addr) (cl:List (Str×Addr)) (fp:List Addr) (xb:Value→Shared→Prop),jL ((X.bw s H scope (compEnvC scope cl C X.env) fp).bM xb) ifs tt)
  (he: ∀(s:Shared) (H:Hp) (C:Addr) (cl:List (Str×Addr)) (fp:List Addr) (xb:Value→Shared→Prop),Passes (aR X.prog X.w) ((X.bw s H scope (compEnvC scope cl C X.env) fp).bM xb) E→PE ((X.bw s H scope (compEnvC scope cl C X.env) fp).bM xb) elt te) (hs: ∀x,foldedSetIterable iter X.env x=pure x:=by intro _;rfl):
  PE X (.ListComp elt [⟨tg,iter,ifs,0⟩] scope pos) (gY wi g tt te (own.map (·.2))):=by
 intro pins s σ H Q I h
 rw[eval_ListComp]
 refine DM hex hst hfr hair hc hN I hi ok hg ht he hs h fun D C s' m H' I' q hn f=>⟨m,hn,fun h'' sb=>?_⟩
 obtain ⟨f0,f1,f2,f3,f4,f5⟩:=f
 exact ⟨.ref D,H',I'.turned (t':=s'.toks) (fun b o hb e=>(sb.2 b hb).trans e) f0 f1 f3 f4 f5,rfl,q⟩
end
end L2
namespace L2
open PySem PySem.Spec PyProof.Rows
def cz (X:Cx) (pins:List (Addr×Obj)) (σ:St) (E:XK) (ev:Value) (s:Shared):Prop:= ∃(x T:Addr) (cls c fl:Value) (n:Nat) (H:Hp),ev= .ref x∧Inv X pins σ H s∧
 (∀b∈ [x,T],X.bx.heap.get? b=none∧b≠X.env.locals∧(∀y c,X.env.cells.lookup y=some c→c≠b)∧(∀p∈X.pn++pins,p.1≠b)∧H b=none)∧sj s.heap x T cls c fl∧b9 s.heap H [x,T] n c∧E cls none H
section
variable {X:Cx} {pins:List (Addr×Obj)} {σ:St} {H:Hp} {s s':Shared} {E:XK}
theorem Eo (I:Inv X pins σ H s) (hex:X.ex= []) {e:Value} (h:aR X.prog X.w X.stack H s E e s'):cz X pins σ E e s':=by
 obtain ⟨x,T,cls,c,n,H',rfl,hos,hbare,un,ao,⟨hx0,hT0,hxn,hTn⟩,⟨ht,hq⟩,he⟩:=h
 have I1:Inv X pins σ H' s':=I.jj (ch:= []) hos un ao hbare (fun b hb=>absurd hb (by simp))
 obtain ⟨z1,z2,z3,z4⟩:=I.apart hex hx0
 obtain ⟨y1,y2,y3,y4⟩:=I.apart hex hT0
 exact ⟨x,T,cls,c, .none,n,H',rfl,I1,lO ⟨z1,z2,z3,z4,hxn⟩ ⟨y1,y2,y3,y4,hTn⟩,ht,hq,he⟩
theorem AI {x T:Addr} {cls c fl:Value} {n:Nat} {l:List Env} {h2:Heap} (hex:X.ex= []) (I:Inv X pins σ H s) (ap: ∀b∈ [x,T],X.bx.heap.get? b=none∧b≠X.env.locals∧(∀y c,X.env.cells.lookup y=some c→c≠b)∧(∀p∈X.pn++pins,p.1≠b)∧H b=none) (hq:b9 s.heap H [x,T] n c) (he:E cls none H)
  (o:f6 (PySem.W.hideAll s.heap (x::T::bj X.stack)) l x cls c fl h2) (up:s.heap.UpToSlots h2):cz X pins σ E (.ref x) {s with heap:=h2}:=by
 obtain ⟨k1,k2,k3,oe',vs',T',oT',ts',t1,t2,t3,t4,t5,t6,t7,t8,t9⟩:=o
 have hent:=wm I up t5 t6 t7 t8
 have apx:=ap x (by simp)
 have apT:=ap T (by simp)
 have apT':X.bx.heap.get? T'=none∧T'≠X.env.locals∧(∀y c,X.env.cells.lookup y=some c→c≠T')∧(∀p∈X.pn++pins,p.1≠T')∧H T'=none:=by
  rcases id hent with q|rfl
  ·obtain ⟨z1,z2,z3,z4⟩:=I.apart hex q
   exact ⟨z1,z2,z3,z4,kz I.ao q⟩
  ·exact apT
 have Im:Inv X pins σ H {s with heap:=h2}:=I.moved [x,T] (lO apx apT) (tS k1) (fun b o q hm=>(tI I up b o q hm).2)
 exact ⟨x,T',cls,c,fl,n,H,rfl,Im,lO apx apT',⟨oe',vs',oT',ts',t1,t2,t3,t4,t6,t7,t8,t9⟩,xQ I k1 hent hq,he⟩
theorem wb {M:Model} {Ee:Value→Shared→Prop} {Q:Unit→Shared→Prop} {A:Around} {ev:Value} (hex:X.ex= []) (hst:X.stack=X.env::X.outer) (hfr:X.env.frame=some X.env.locals) (hA:A.frames=X.A.frames) (h:cz X pins σ E ev s) (k: ∀s3,cz X pins σ E ev s3→Q () s3):
  wpAny M A (noteFrame ev X.env) Q Ee s:=by
 obtain ⟨x,T,cls,c,fl,n,H,rfl,I,ap,ht,hq,he⟩:=h
 exact vp (by rw[hA,I.ok.frames,hst]) hfr (by rw[←hst];exact tq I ht) fun h1 hh up=>k _ (AI hex I ap hq he hh up)
theorem rK {M:Model} {Ee:Value→Shared→Prop} {Q:Unit→Shared→Prop} {A:Around} {ev:Value} {fo:Option Addr} (hex:X.ex= []) (h:cz X pins σ E ev s) (k: ∀s3,cz X pins σ E ev s3→Q () s3):wpAny M A (setFlight ev fo) Q Ee s:=by
 obtain ⟨x,T,cls,c,fl,n,H,rfl,I,ap,ht,hq,he⟩:=h
 exact uN (tq I ht) fun h2 o up=>k _ (AI hex I ap hq he o up)
theorem xi {M:Model} {Q:Value→Shared→Prop} {A:Around} {ev:Value} (hex:X.ex= []) (h:cz X pins σ E ev s) (k: ∀s3,cz X pins σ E ev s3→Q ev s3):cameBackBy M A X.env Q ev s:=by
 obtain ⟨x,T,cls,c,fl,n,H,rfl,I,ap,ht,hq,he⟩:=id h
 obtain ⟨oe,vs,oT,ts,g1,g2,g3,g4,_⟩:=ht
 unfold cameBackBy
 refine wpAny_bind (wpAny_field g1 g3 g4 ?_)
 rw[if_neg (by simp)]
 exact rK hex h k
theorem cz.imp {E':XK} {ev:Value} (h:cz X pins σ E ev s) (k: ∀cls d H,E cls d H→E' cls d H):cz X pins σ E' ev s:=by
 obtain ⟨x,T,cls,c,fl,n,H,e,I,ap,ht,hq,he⟩:=h
 exact ⟨x,T,cls,c,fl,n,H,e,I,ap,ht,hq,k _ _ _ he⟩
end
theorem Mv {M:Model} {A:Around} {E:Value→Shared→Prop} {h:Heap} {g:Array GenState} {d:Drawn} {t:Nat} {os:OsState} {e C C2:Addr} {oe:Obj} {Q:Bool→Shared→Prop}
  {nm q:Str} {N:Addr} {bs bm:List Value} {hdct:Bool} {sn:List Str} {sub:List Value} {ab:Bool} {col:Option Bool} {dd:Option Addr} {k0 k1 k2 k3 k5:Option Value} {newId:String}
  {nm' q':Str} {N':Addr} {bs' bm':List Value} {hdct':Bool} {sn':List Str} {sub':List Value} {ab':Bool} {col':Option Bool} {dd':Option Addr} {j0 j1 j2 j3 j5:Option Value} {newId':String}
  (hC:h.get? C=some (excClassObj nm q C N bs bm hdct sn sub ab col dd k0 k1 k2 k3 k5 newId)) (hC2:h.get? C2=some (excClassObj nm' q' C2 N' bs' bm' hdct' sn' sub' ab' col' dd' j0 j1 j2 j3 j5 newId')) (he:h.get? e=some oe) (hcls:oe.cls= .ref C) (hbase:bm'.contains (.type "BaseException")=true)
  (hq:Q ((Value.ref C::bm).contains (.ref C2)) ⟨h,g,d,t,os⟩):wpAny M A (excMatches (.ref e) (.ref C2)) Q E ⟨h,g,d,t,os⟩:=by
 have hcB:(Value.ref C2::bm').contains (.type "BaseException")=true:=by rw[List.contains_cons,hbase,Bool.or_true]
 have f:=tc_notTuple
 unfold excMatches
 repeat (first|(with_reducible refine wpAny_loadPart_at he ?_;rw[hcls])|with_reducible refine wpAny_loadPart_at hC2 ?_|(with_reducible refine wpAny_isSubtype_exc hC2 ?_;rw[hcB])|with_reducible refine wpAny_isSubtype_exc hC ?_|wp_step)
 cases hb:(Value.ref C::bm).contains (.ref C2)<;>(rw[hb] at hq;wp_walk;exact hq)
def vz (K:PySem.W.Frag) (C:Addr):Bool:=match K.lookup C with
 |some ⟨_,_, .cls cd,_⟩=>cd.mro== .ref C::kd
 |_=>false
theorem AY {K:PySem.W.Frag} {h:Heap} {C:Addr} (X:K.In h) (hb:vz K C=true) {nm q:Str} {N:Addr} {bs bm:List Value} {hdct:Bool} {sn:List Str} {sub:List Value} {ab:Bool} {col:Option Bool} {dd:Option Addr} {k0 k1 k2 k3 k5:Option Value} {newId:String}
  (hC:h.get? C=some (excClassObj nm q C N bs bm hdct sn sub ab col dd k0 k1 k2 k3 k5 newId)):bm=kd:=by
 unfold vz at hb
 split at hb
 ·rename_i ho
  have:=X _ _ ho
  rw[hC] at this
  cases this
  have z:=beq_iff_eq.mp hb
  cases z
  rfl
 ·cases hb
structure Own (K:PySem.W.Frag) (C:Addr):Prop where
 exc:gS K C
 base:vz K C=true
inductive eR:List (Addr×Obj)→Nat→Value→Prop
 |nil:eR [] 0 .none
 |cons {a:Addr} {o:Obj} {vs:Array Value} {c:Value} {n:Nat} {ps:List (Addr×Obj)}:o.data= .fields vs→vs[2]?=some c→eR ps n c→eR ((a,o)::ps) (n+1) (.ref a)
theorem b9.pins {h:Heap} {H:Hp} {av:List Addr} {n:Nat} {c:Value} (x:b9 h H av n c): ∃ps,eR ps n c∧ ∀p∈ps,h.get? p.1=some p.2∧H p.1=none∧ ∃vs,p.2.data= .fields vs:=by
 induction x with
 |nil=>exact ⟨[], .nil,fun p hp=>absurd hp (by simp)⟩
 | @cons n a o vs c h1 h2 h3 h4 h5 _ ih=>
  obtain ⟨ps,k1,k2⟩:=ih
  refine ⟨(a,o)::ps, .cons h2 h3 k1,fun p hp=>?_⟩
  rcases List.mem_cons.mp hp with rfl|hp
  ·exact ⟨h1,h4,vs,h2⟩
  ·exact k2 p hp
theorem eR.wM {ps:List (Addr×Obj)} {n:Nat} {c:Value} (x:eR ps n c) {h:Heap} {H:Hp} {av:List Addr} (k: ∀p∈ps,h.get? p.1=some p.2∧H p.1=none∧p.1∉av):b9 h H av n c:=by
 induction x with
 |nil=>exact .nil
 |cons h1 h2 _ ih=>
  obtain ⟨k1,k2,k3⟩:=k _ (List.mem_cons_self ..)
  exact .cons k1 h1 h2 k2 k3 (ih fun p hp=>k p (List.mem_cons_of_mem _ hp))
def iA (X:Cx):Prop:= ∃h ps n,X.A.handled=some (.ref h)∧eR ps n (.ref h)∧ ∀p∈ps,p∈X.pn
abbrev Cx.dm (X:Cx) (x:Addr) (ps:List (Addr×Obj)):Cx:={X with A:=X.A.mark (some (.ref x)),calm:=false,pn:=X.pn++ps,xe:=notedBy (model X.prog X.w) (X.A.mark (some (.ref x))) X.env (cameBackBy (model X.prog X.w) X.A X.env X.xe)}
section
variable {X:Cx} {pins ps:List (Addr×Obj)} {σ:St} {H:Hp} {s:Shared} {x:Addr} {E:XK}
theorem Cx.Ok.dm (ok:X.Ok) (x:Addr) (ps:List (Addr×Obj)):(X.dm x ps).Ok:=⟨ok.mod,ok.kind,ok.glob,ok.blt,ok.above,ok.inj,ok.has,ok.gR,(fun z=>nomatch z),ok.frames,ok.iO,ok.gJ,ok.bs,ok.ek,ok.eE,ok.gI,ok.dc,ok.fN⟩
theorem Inv.dm (I:Inv X pins σ H s) (x:Addr) (hp: ∀p∈ps,s.heap.get? p.1=some p.2∧H p.1=none∧ ∃vs,p.2.data= .fields vs):Inv (X.dm x ps) pins σ H s:=by
 refine ⟨I.ok.dm x ps,I.os,I.bare,I.base,I.loc,I.cell,I.free,I.dG,fun p hm=>?_,I.ao,I.len⟩
 rcases List.mem_append.mp hm with hm|hm
 ·rcases List.mem_append.mp hm with hm|hm
  ·exact I.pin p (List.mem_append_left _ hm)
  ·obtain ⟨g1,g2,vs,g3⟩:=hp p hm
   refine ⟨g1,g2,fun z=>?_,fun z=>?_,fun v q=>by rw[g3] at q;cases q⟩
   ·obtain ⟨m,⟨o,es,ep,ho,hd,_⟩,_⟩:=I.loc
    rw[←z,g1] at ho;cases ho;rw[g3] at hd;cases hd
   ·obtain ⟨_,o,ho,nf⟩:=I.dc.mem z
    rw[g1] at ho;cases ho;exact nf vs g3
 ·exact I.pin p (List.mem_append_right _ hm)
theorem Inv.iL (ok:X.Ok) (I:Inv (X.dm x ps) pins σ H s):Inv X pins σ H s:=⟨ok,I.os,I.bare,I.base,I.loc,I.cell,I.free,I.dG,fun p hm=>I.pin p (by
 rcases List.mem_append.mp hm with hm|hm
 ·exact List.mem_append_left _ (List.mem_append_left _ hm)
 ·exact List.mem_append_right _ hm),I.ao,I.len⟩
theorem SP.iL (ok:X.Ok) {D:Ends} {f:Flow} {s':Shared} (h:SP (X.dm x ps) pins D f s'):SP X pins D f s':=by
 cases f with
 |next=>obtain ⟨σ',H',I,q⟩:=h;exact ⟨σ',H',I.iL ok,q⟩
 |brk=>obtain ⟨σ',H',I,q⟩:=h;exact ⟨σ',H',I.iL ok,q⟩
 |cont=>obtain ⟨σ',H',I,q⟩:=h;exact ⟨σ',H',I.iL ok,q⟩
 |ret u=>obtain ⟨v,σ',H',I,r,q⟩:=h;exact ⟨v,σ',H',I.iL ok,r,q⟩
theorem sP {n:Nat} (q:eR ps n (.ref x)):iA (X.dm x ps):=⟨x,ps,n,rfl,q,fun p hp=>List.mem_append_right _ hp⟩
theorem clause {C:Addr} {y:Str} {np pos:Pos} {b0:Stmt} {suite:List Stmt} {rest:List ExceptHandler} {t:TS} {D:Ends} {ev:Value} (hex:X.ex= []) (hC:Own X.K C) (hg:Gl X y) (hm:X.mg y=some (.ref C)) (hsu: ∀x ps n,eR ps n (.ref x)→cP (X.dm x ps) (b0::suite) t)
  (own: ∀cls d H,E cls d H→ ∃C',cls= .ref C'∧Own X.K C') (hit: ∀d H,E (.ref C) d H→t D σ H) (h:cz X pins σ E ev s)
  (miss: ∀s3,cz X pins σ (fun cls d H=>E cls d H∧cls≠ .ref C) ev s3→wpAny (model X.prog X.w) X.A (handleBy ev X.env rest) (SP X pins D) X.xe s3) (hd:(y==("__debug__" :Str))=false:=by decide):
  wpAny (model X.prog X.w) X.A (handleBy ev X.env (.ExceptHandler (some (.Name y np)) none (b0::suite) pos::rest)) (SP X pins D) X.xe s:=by
 obtain ⟨x,T,cls,c,fl,n,H,rfl,I,ap,ht,hq,he⟩:=id h
 refine wpAny_handleBy_cons (codeAny_handlers_test (jw (X:=X.dm x []) (I.dm x fun p hp=>absurd hp (by simp)) hg hm ?_ hd)) (by intro q;cases q)
 obtain ⟨C',rfl,oC⟩:=own _ _ _ he
 obtain ⟨bm,N,nm,qn,bs,hdct,sn,sub,ab,col,dd,k0,k1,k2,k3,k5,mN,g1,g2,g3,g4⟩:=oC.exc.obj I.bV
 obtain ⟨bm',N',nm',qn',bs',hdct',sn',sub',ab',col',dd',j0,j1,j2,j3,j5,mN',g1',g2',g3',g4'⟩:=hC.exc.obj I.bV
 obtain rfl:=AY I.bV oC.base g1
 obtain rfl:=AY I.bV hC.base g1'
 obtain ⟨oe,vs,oT,ts,e1,e2,_⟩:=id ht
 obtain ⟨hh,g,d,tk,os⟩:=s
 refine Mv g1 g1' e1 e2.1 (by decide) ?_
 by_cases hc:C'=C
 ·subst hc
  have:(Value.ref C'::kd).contains (.ref C')=true:=by simp
  rw[this]
  have h0:cz X pins σ (fun cls d H=>E cls d H∧cls= .ref C') (.ref x) ⟨hh,g,d,tk,os⟩:=⟨x,T,_,c,fl,n,H,rfl,I,ap,ht,hq,he,rfl⟩
  refine codeAny_handlers_suite (rK hex h0 fun s3 h3=>?_)
  obtain ⟨x3,T3,cls3,c3,fl3,n3,H3,q3,I3,ap3,ht3,hq3,he3,rfl⟩:=h3
  cases q3
  obtain ⟨oe3,vs3,_,_,z1,z2,z3,_⟩:=ht3
  have ch:b9 s3.heap H3 [] (n3+1) (.ref x):= .cons z1 z3 z2.2 (ap3 x (by simp)).2.2.2.2 (by simp) (hq3.move fun a o vs q1 _ q3 _=>⟨q1,q3,by simp⟩)
  obtain ⟨ps,p1,p2⟩:=ch.pins
  exact wpAny_mono (hsu x ps _ p1 pins s3 σ H3 D (I3.dm x p2) (hit _ _ he3)) (fun f s' q=>q.iL I.ok) (fun _ _ z=>z)
 ·have:(Value.ref C'::kd).contains (.ref C)=false:=by
   have e:(Value.ref C==Value.ref C')=false:=by simp;exact fun z=>hc z.symm
   rw[List.contains_cons,e];rfl
  rw[this]
  exact miss _ ⟨x,T,_,c,fl,n,H,rfl,I,ap,ht,hq,he,fun z=>hc (by cases z;rfl)⟩
def c1 (C:Addr) (u:TS):Ends→St→XK:=fun D σ cls _ H=>cls= .ref C∧u D σ H
def c2 (C:Addr) (u:TS) (C':Addr) (u':TS):Ends→St→XK:=fun D σ cls _ H=>(cls= .ref C∧u D σ H)∨(cls= .ref C'∧u' D σ H)
abbrev Cx.tr (X:Cx) (pn:List (Addr×Obj)) (xe:Value→Shared→Prop):Cx:={X with pn:=pn,xe:=xe}
def qk (X:Cx) (E:St→XK):Prop:= ∀(pins:List (Addr×Obj)) (σ:St) (H:Hp) (s:Shared) (e:Value) (s':Shared),Inv X pins σ H s→aR X.prog X.w X.stack H s (E σ) e s'→X.xe e s'
def Gb (tb:(St→XK)→TS) (cl:Ends→St→XK):TS:=fun D σ H=>tb (cl D) D σ H
theorem Inv.tr {xe:Value→Shared→Prop} (I:Inv X pins σ H s):Inv (X.tr (X.pn++pins) xe) [] σ H s:=
 ⟨⟨I.ok.mod,I.ok.kind,I.ok.glob,I.ok.blt,I.ok.above,I.ok.inj,I.ok.has,I.ok.gR,I.ok.hd,I.ok.frames,I.ok.iO,I.ok.gJ,I.ok.bs,I.ok.ek,I.ok.eE,I.ok.gI,I.ok.dc,I.ok.fN⟩,I.os,I.bare,I.base,I.loc,I.cell,I.free,I.dG,fun p hp=>I.pin p (by rw[List.append_nil] at hp;exact hp),I.ao,I.len⟩
theorem Inv.ji {xe:Value→Shared→Prop} {pins':List (Addr×Obj)} (ok:X.Ok) (I:Inv (X.tr (X.pn++pins) xe) pins' σ H s):Inv X pins σ H s:=⟨ok,I.os,I.bare,I.base,I.loc,I.cell,I.free,I.dG,fun p hp=>I.pin p (List.mem_append_left _ hp),I.ao,I.len⟩
theorem SP.ji {xe:Value→Shared→Prop} {pins':List (Addr×Obj)} (ok:X.Ok) {D:Ends} {f:Flow} {s':Shared} (h:SP (X.tr (X.pn++pins) xe) pins' D f s'):SP X pins D f s':=by
 cases f with
 |next=>obtain ⟨σ',H',I,q⟩:=h;exact ⟨σ',H',I.ji ok,q⟩
 |brk=>obtain ⟨σ',H',I,q⟩:=h;exact ⟨σ',H',I.ji ok,q⟩
 |cont=>obtain ⟨σ',H',I,q⟩:=h;exact ⟨σ',H',I.ji ok,q⟩
 |ret u=>obtain ⟨v,σ',H',I,r,q⟩:=h;exact ⟨v,σ',H',I.ji ok,r,q⟩
theorem xH {tb:(St→XK)→TS} {cl:Ends→St→XK} {body:List Stmt} {h0:ExceptHandler} {hs:List ExceptHandler} {pos:Pos} (hex:X.ex= []) (hst:X.stack=X.env::X.outer) (hfr:X.env.frame=some X.env.locals)
  (hb: ∀(E:St→XK) (pn:List (Addr×Obj)) (xe:Value→Shared→Prop),qk (X.tr pn xe) E→PassesOwn (model X.prog X.w) X.A X.env xe→cP (X.tr pn xe) body (tb E))
  (hh: ∀(pins:List (Addr×Obj)) (σ:St) (D:Ends) (ev:Value) (s3:Shared),cz X pins σ (cl D σ) ev s3→wpAny (model X.prog X.w) X.A (handleBy ev X.env (h0::hs)) (SP X pins D) X.xe s3):
  PS X (.Try body (h0::hs) [] [] pos) (Gb tb cl):=by
 intro pins s σ H D I h
 have hp:qk (X.tr (X.pn++pins) fun ev s=> ∃σ',cz X pins σ' (cl D σ') ev s) (cl D):=fun pins' σ' H' s1 e s' I' q=>⟨σ',Eo (I'.ji I.ok) hex q⟩
 have ho:PassesOwn (model X.prog X.w) X.A X.env fun ev s=> ∃σ',cz X pins σ' (cl D σ') ev s:=fun ev s1 ⟨σ',q⟩=>wb hex hst hfr rfl q fun s2 q2=>xi hex q2 fun s3 q3=>⟨σ',q3⟩
 refine wpAny_Try_except (wpAny_mono (hb (cl D) _ _ hp ho [] s σ H D I.tr h) (fun f s1 q=>?_) fun ev s1 ⟨σ',q⟩=>wb hex hst hfr rfl q fun s2 q2=>rK hex q2 fun s3 q3=>hh pins σ' D ev s3 q3)
 have q:=q.ji I.ok
 cases f with
 |next=>exact wpAny_execs_nil q
 |brk=>exact q
 |cont=>exact q
 |ret u=>exact q
theorem Gh {C:Addr} {y:Str} {np pos:Pos} {b0:Stmt} {suite:List Stmt} {u:TS} (hex:X.ex= []) (hC:Own X.K C) (hg:Gl X y) (hm:X.mg y=some (.ref C)) (hsu: ∀x ps n,eR ps n (.ref x)→cP (X.dm x ps) (b0::suite) u) (hd:(y==("__debug__" :Str))=false:=by decide):
  ∀(pins:List (Addr×Obj)) (σ:St) (D:Ends) (ev:Value) (s3:Shared),cz X pins σ (c1 C u D σ) ev s3→wpAny (model X.prog X.w) X.A (handleBy ev X.env [.ExceptHandler (some (.Name y np)) none (b0::suite) pos]) (SP X pins D) X.xe s3:=fun pins σ D ev s3 h=>by
 refine clause (t:=u) hex hC hg hm hsu (fun cls d H ⟨z,_⟩=>⟨C,z,hC⟩) (fun d H ⟨_,z⟩=>z) h (fun s3 h3=>?_) hd
 obtain ⟨_,_,_,_,_,_,_,_,_,_,_,_,⟨z,_⟩,n⟩:=h3
 exact absurd z n
theorem Mm {C C':Addr} {y y':Str} {np pos np' pos':Pos} {b0 b0':Stmt} {suite suite':List Stmt} {u u':TS} (hex:X.ex= []) (hC:Own X.K C) (hg:Gl X y) (hm:X.mg y=some (.ref C)) (hsu: ∀x ps n,eR ps n (.ref x)→cP (X.dm x ps) (b0::suite) u)
  (hC':Own X.K C') (hg':Gl X y') (hm':X.mg y'=some (.ref C')) (hsu': ∀x ps n,eR ps n (.ref x)→cP (X.dm x ps) (b0'::suite') u') (hne:C≠C') (hd:(y==("__debug__" :Str))=false:=by decide) (hd':(y'==("__debug__" :Str))=false:=by decide):
  ∀(pins:List (Addr×Obj)) (σ:St) (D:Ends) (ev:Value) (s3:Shared),cz X pins σ (c2 C u C' u' D σ) ev s3→wpAny (model X.prog X.w) X.A (handleBy ev X.env [.ExceptHandler (some (.Name y np)) none (b0::suite) pos, .ExceptHandler (some (.Name y' np')) none (b0'::suite') pos']) (SP X pins D) X.xe s3:=fun pins σ D ev s3 h=>by
 refine clause (t:=u) hex hC hg hm hsu (fun cls d H z=>z.elim (fun z=>⟨C,z.1,hC⟩) fun z=>⟨C',z.1,hC'⟩) (fun d H z=>z.elim (fun z=>z.2) fun z=>absurd (by injection z.1) hne) h (fun s3 h3=>?_) hd
 refine clause (t:=u') hex hC' hg' hm' hsu' (fun cls d H z=>z.1.elim (fun w=>absurd w.1 z.2) fun w=>⟨C',w.1,hC'⟩) (fun d H z=>z.1.elim (fun w=>absurd w.1 z.2) fun w=>w.2) h3 (fun s4 h4=>?_) hd'
 obtain ⟨_,_,_,_,_,_,_,_,_,_,_,_,⟨z,n1⟩,n⟩:=h4
 rcases z with z|z
 ·exact absurd z.1 n1
 ·exact absurd z.1 n
end
section
variable {X:Cx} {k:Nat} {f:Addr} {fd:FuncData} {ps:List Str} {sp:Sp} {dvs:List V} {ds:List Value} {E:St→XK} {x:Str} {p pos:Pos} {e:Expr} {es:List Expr} {t:TA}
def Gr (sp:Sp) (dvs:List V) (E:St→XK) (t:TA):TE:=fun σ H Q=>t σ H fun vs H1=>sp (vs++dvs) H1 Q (E σ)
theorem xW {pins:List (Addr×Obj)} {σ:St} {H:Hp} {s:Shared} {Q:VK} {us:List Value} {vs:List V} (F:az X.prog X.w X.K X.mg X.base (aR X.prog X.w) k f fd ps sp) (hr:aF k X.A) (hb:Binds X.K fd ps ds) (hd:Vals dvs ds) (hx:qk X E)
  (I:Inv X pins σ H s) (r:Vals vs us) (h:sp (vs++dvs) H Q (E σ)):wpAny (model X.prog X.w) X.A (call (.ref f) us) (EP X pins σ Q) X.xe s:=by
 have r2:Vals (vs++dvs) (us++ds):=r.append hd
 have hl:(us++ds).length=ps.length:=by rw[←r2.length];exact F.len _ _ _ _ h
 refine wpAny_call (codeAny_mono (F.run X.A X.stack s H ⟨us, []⟩ (us++ds) (vs++dvs) Q (E σ) hr I.rF (hb s us I.bV hl) r2 h) fun r s' hq=>?_)
 cases r with
 |error e=>exact hx pins σ H s e s' I hq
 |ok fl=>
  cases fl with
  |ret u=>exact I.after hq
  |next=>exact False.elim hq
  |brk=>exact False.elim hq
  |cont=>exact False.elim hq
theorem EN (F:az X.prog X.w X.K X.mg X.base (aR X.prog X.w) k f fd ps sp) (hr:aF k X.A) (hg:Gl X x) (hm:X.mg x=some (.ref f)) (hk:PySem.W.keepIn X.K (.ref f)=true) (hb:Binds X.K fd ps ds) (hd:Vals dvs ds) (hx:qk X E)
  (ha:PA X (e::es) t) (hdb:(x==("__debug__" :Str))=false:=by decide) (he:starEach (e::es) X.env=(false,eval e X.env)::starEach es X.env:=by rfl) (hpl:(backTo pos (starEach es X.env)).any (·.1)=false:=by rfl):
  PE X (.Call (.Name x p) (e::es) [] pos) (Gr sp dvs E t):=by
 intro pins s σ H Q I h
 refine wpAny_Call_Name_kw (jw I hg hm ?_ hdb)
 refine PySem.W.callWith_K (h₀:=X.base) I.ok.mod.gZ hk (aE (ha pos pins s σ H _ I h) fun us s1 ⟨vs,H1,I1,r,q⟩=>⟨I1.bV,?_⟩) he hpl
 exact xW F hr hb hd hx I1 r q
end
end L2
namespace L2
open PySem PySem.Spec PyProof.Rows
theorem DK:entryFor table "proto.unchain" =some Builtin.«proto.unchain»:=entryFor_of_fast (by kernel_rfl)
section
variable {prog:Program} {w:World} {A:Around} {s:Shared} {H:Hp} {a:Addr}
theorem P5 {R:Result→Shared→Prop} (hR:R (.ok (.ret .none)) s): ∀(m:Nat) (o slow:Value) (tg:Bool) (ns:Nat),b9 s.heap H [a] (m+1) o→b9 s.heap H [a] ns slow→m+1≤ns→codeAny (model prog w) A (.builtin "proto.unchain" ⟨[.ref a,o,slow, .bool tg], []⟩) R s:=by
 intro m
 induction m with
 |zero=>
  intro o slow tg ns ho hs hm
  cases ho with
  |cons g d f2 hn nav t=>
   cases t
   refine codeAny_builtin DK ?_
   unfold Builtin.«proto.unchain»
   refine wpAny_bind (wpAny_field g d f2 ?_)
   rw[if_pos (by decide)]
   wp_walk
   exact hR
 |succ m ih=>
  intro o slow tg ns ho hs hm
  cases ho with
  |cons g d f2 hn nav t=>
   cases id t with
   | @cons _ a2 _ _ _ g2 d2 f22 hn2 nav2 t2=>
    refine codeAny_builtin DK ?_
    unfold Builtin.«proto.unchain»
    refine wpAny_bind (wpAny_field g d f2 ?_)
    rw[if_neg (by simp)]
    have n1:(Value.ref a2==Value.ref a)=false:=by simp;intro z;exact nav2 (by rw[z];simp)
    rw[n1,if_neg (by decide)]
    by_cases q:(Value.ref a2==slow)=true
    ·rw[q,if_pos rfl]
     wp_walk
     exact hR
    ·rw[if_neg q]
     cases tg with
     |false=>
      rw[if_neg (by decide)]
      refine wpAny_bind (wpAny_pure (wpAny_pure ⟨Code.quiet_builtin _ (by decide+kernel),?_⟩))
      exact ih _ slow true ns t hs (by omega)
     |true=>
      rw[if_pos rfl]
      cases hs with
      |nil=>omega
      |cons j1 j2 j3 j4 j5 j6=>
       refine wpAny_bind (wpAny_field j1 j2 j3 (wpAny_pure ⟨Code.quiet_builtin _ (by decide+kernel),?_⟩))
       exact ih _ _ false _ t j6 (by omega)
theorem xZ {α:Type} {E:Value→Shared→Prop} {Q:α→Shared→Prop} {h:Addr} {oa:Obj} {vs:Array Value} {n:Nat} (hh:A.handled=some (.ref h)) (ga:s.heap.get? a=some oa) (da:oa.data= .fields vs) (z2:2<vs.size) (ch:b9 s.heap H [a] n (.ref h)) (k:E (.ref a) {s with heap:=s.heap.update a (Obj.mapFields (·.setIfInBounds 2 (.ref h)))}):
  wpAny (model prog w) A (raiseNew (.ref a):Sem α) Q E s:=by
 unfold raiseNew
 refine wpAny_bind (wpAny_handled ?_)
 rw[hh]
 have ne:(Value.ref h !=Value.ref a)=true:=by
  cases ch with
  |cons _ _ _ _ nav _=>
   simp
   intro z
   exact nav (by rw[z];simp)
 simp only [ne,if_true]
 refine wpAny_bind (wpAny_holding (wpAny_runValue ?_))
 cases ch with
 |cons j1 j2 j3 j4 j5 j6=>
  refine P5 ?_ _ _ _ _ _ (.cons j1 j2 j3 j4 j5 j6) (.cons j1 j2 j3 j4 j5 j6) (Nat.le_refl _)
  exact wpAny_bind (wpAny_setField (x:= .ref h) ga da z2 (wpAny_throw k))
end
theorem AD {h:Heap} {a:Addr} {o:Obj} {e:Addr} (g:h.get? a=some o) (n:h.get? e=none):a∉ [e]:=fun z=>by
 rcases List.mem_cons.mp z with z|z
 ·rw[←z,g] at n;cases n
 ·cases z
section
variable {X:Cx} {E:XK}
theorem EO {pins:List (Addr×Obj)} {σ:St} {H:Hp} {s:Shared} {x:Str} {C:Addr} {np cpos:Pos} {Q:Value→Shared→Prop} {Ee:Value→Shared→Prop} (I:Inv X pins σ H s) (hg:Gl X x) (hm:X.mg x=some (.ref C)) (hC:gS X.K C)
  (k: ∀h' e,Heap.MadeExcOf s.heap h' e (.ref C) []→Q (.ref e) {s with heap:=h'}) (hd:(x==("__debug__" :Str))=false:=by decide):wpAny (model X.prog X.w) X.A (eval (.Call (.Name x np) [] [] cpos) X.env) Q Ee s:=by
 obtain ⟨bm,N,nm,qn,bs,hdct,sn,sub,ab,col,dd,k0,k1,k2,k3,k5,mN,g1,g2,g3,g4⟩:=hC.obj I.bV
 refine wpAny_Call_ofName (jw I hg hm ?_ hd)
 unfold callWith
 refine wpAny_bind (wpAny_holding (evalArgs_empty (wpAny_bind (wpAny_standAt ?_))))
 obtain ⟨hp,g,d,tk,os⟩:=s
 simp only [starEach,backTo,List.any_nil]
 refine wpAny_bind (wpAny_keeperOf_exc g1 ?_)
 refine wpAny_bind (wpAny_call_exc_subT F.excBase_Exception g4 g1 g2 g3 fun h' e hx=>wpAny_bind (wpAny_holding (wpAny_point (wpAny_pure ?_))))
 exact k h' e hx
theorem Gu {x:Str} {C:Addr} {np cpos pos:Pos} (hh:iA X) (hg:Gl X x) (hm:X.mg x=some (.ref C)) (hC:gS X.K C) (hr:kN X E) (hd:(x==("__debug__" :Str))=false:=by decide):
  PS X (.Raise (some (.Call (.Name x np) [] [] cpos)) none pos) (u7 E C):=by
 intro pins s σ H D I h
 rw[arm_exec_Raise]
 simp only [evalOpt,Option.map]
 refine wpAny_bind (wpAny_standAt ?_)
 unfold raiseStmt
 refine wpAny_bind (wpAny_bind (EO I hg hm hC (fun h1 e hx=>wpAny_bind (wpAny_standAt (wpAny_pure ?_))) hd))
 obtain ⟨bm,N,nm,qn,bs,hdct,sn,sub,ab,col,dd,k0,k1,k2,k3,k5,mN,g1,g2,g3,g4⟩:=hC.obj I.bV
 have hcB:(Value.ref C::bm).contains (.type "BaseException")=true:=by rw[List.contains_cons,g4.hasType F.excBase_Exception.hasBase,Bool.or_true]
 obtain ⟨t,he,htn,ht⟩:=hx.there
 have hC1:=hx.keeps _ _ g1
 obtain ⟨hp,g,d,tk,os⟩:=s
 repeat (first|with_reducible refine wpAny_loadPart_at he ?_|with_reducible refine wpAny_loadPart_at hC1 ?_|(with_reducible refine wpAny_isSubtype_exc hC1 ?_;rw[hcB])|wp_step)
 obtain ⟨hx1,ps,n,q1,q2,q3⟩:=hh
 have ch: ∀av,(∀p∈ps,p.1∉av)→b9 hp H av n (.ref hx1):=fun av ha=>q2.wM fun p hp'=>⟨(I.pin p (List.mem_append_left _ (q3 p hp'))).1,(I.pin p (List.mem_append_left _ (q3 p hp'))).2.1,ha p hp'⟩
 have che:b9 h1 H [e] n (.ref hx1):=(ch [e] fun p hp'=>AD (I.pin p (List.mem_append_left _ (q3 p hp'))).1 hx.new).move fun a o vs z1 _ z3 z4=>⟨hx.keeps _ _ z1,z3,z4⟩
 refine xZ (s:=⟨h1,g,d,tk,os⟩) q1 he rfl (by show 2<6;decide) che ?_
 refine hr pins σ H ⟨hp,g,d,tk,os⟩ _ e _ _ (.ref hx1) n I (fun b o z=>?_) hx.new (Heap.get?_update_self _ he rfl) rfl rfl rfl (ch [] fun p _=>by simp) h
 rw[Heap.get?_update_other _ _ (fun z2:e=b=>by have z3:=hx.new;rw[z2] at z3;exact absurd (z.symm.trans z3) (by simp))]
 exact hx.keeps b o z
theorem EM {x:Str} {C:Addr} {np cpos pos cp:Pos} {j} (hh:iA X) (hg:Gl X x) (hm:X.mg x=some (.ref C)) (hC:gS X.K C) (hr:kN X E) (hd:(x==("__debug__" :Str))=false:=by decide):
  PS X (.Raise (some (.Call (.Name x np) [] [] cpos)) (some (.Constant .none j cp)) pos) (u7 E C):=by
 intro pins s σ H D I h
 rw[arm_exec_Raise]
 simp only [evalOpt,Option.map]
 refine wpAny_bind (wpAny_standAt ?_)
 unfold raiseStmt
 refine wpAny_bind (wpAny_bind (EO I hg hm hC (fun h1 e hx=>wpAny_bind (wpAny_standAt (wpAny_pure ?_))) hd))
 obtain ⟨bm,N,nm,qn,bs,hdct,sn,sub,ab,col,dd,k0,k1,k2,k3,k5,mN,g1,g2,g3,g4⟩:=hC.obj I.bV
 have hcB:(Value.ref C::bm).contains (.type "BaseException")=true:=by rw[List.contains_cons,g4.hasType F.excBase_Exception.hasBase,Bool.or_true]
 obtain ⟨t,he,htn,ht⟩:=hx.there
 have hC1:=hx.keeps _ _ g1
 obtain ⟨hp,g,d,tk,os⟩:=s
 refine wpAny_bind (wpAny_holding (wpAny_bind (Constant_none (wpAny_bind (wpAny_standAt (wpAny_pure (wpAny_bind (wpAny_pure ?_))))))))
 repeat (first|with_reducible refine wpAny_loadPart_at he ?_|with_reducible refine wpAny_loadPart_at hC1 ?_|(with_reducible refine wpAny_isSubtype_exc hC1 ?_;rw[hcB])|wp_step)
 have neC:e≠C:=fun z=>by have z3:=hx.new;rw[z,g1] at z3;cases z3
 have he2:=Heap.get?_update_self (Obj.mapFields (·.setIfInBounds 3 Value.none)) he rfl
 have hC2:=(Heap.get?_update_other h1 (Obj.mapFields (·.setIfInBounds 3 Value.none)) neC).trans hC1
 have kp2: ∀b o,hp.get? b=some o→(h1.update e (Obj.mapFields (·.setIfInBounds 3 Value.none))).get? b=some o:=fun b o z=>(Heap.get?_update_other _ _ (fun z2:e=b=>by have z3:=hx.new;rw[z2] at z3;exact absurd (z.symm.trans z3) (by simp))).trans (hx.keeps b o z)
 generalize h1.update e (Obj.mapFields (·.setIfInBounds 3 Value.none))=h2 at*
 have he3:=Heap.get?_update_self (Obj.mapFields (·.setIfInBounds 4 (Value.bool true))) he2 rfl
 have hC3:=(Heap.get?_update_other h2 (Obj.mapFields (·.setIfInBounds 4 (Value.bool true))) neC).trans hC2
 have kp3: ∀b o,hp.get? b=some o→(h2.update e (Obj.mapFields (·.setIfInBounds 4 (Value.bool true)))).get? b=some o:=fun b o z=>(Heap.get?_update_other _ _ (fun z2:e=b=>by have z3:=hx.new;rw[z2] at z3;exact absurd (z.symm.trans z3) (by simp))).trans (kp2 b o z)
 generalize h2.update e (Obj.mapFields (·.setIfInBounds 4 (Value.bool true)))=h3 at*
 repeat (first|with_reducible refine wpAny_loadPart_at he3 ?_|with_reducible refine wpAny_loadPart_at hC3 ?_|(with_reducible refine wpAny_isSubtype_exc hC3 ?_;rw[hcB])|wp_step)
 obtain ⟨hx1,ps,n,q1,q2,q3⟩:=hh
 have ch: ∀av,(∀p∈ps,p.1∉av)→b9 hp H av n (.ref hx1):=fun av ha=>q2.wM fun p hp'=>⟨(I.pin p (List.mem_append_left _ (q3 p hp'))).1,(I.pin p (List.mem_append_left _ (q3 p hp'))).2.1,ha p hp'⟩
 have che:b9 h3 H [e] n (.ref hx1):=(ch [e] fun p hp'=>AD (I.pin p (List.mem_append_left _ (q3 p hp'))).1 hx.new).move fun a o vs z1 _ z3 z4=>⟨kp3 _ _ z1,z3,z4⟩
 refine xZ (s:=⟨h3,g,d,tk,os⟩) q1 he3 rfl (by show 2<6;decide) che ?_
 refine hr pins σ H ⟨hp,g,d,tk,os⟩ _ e _ _ (.ref hx1) n I (fun b o z=>?_) hx.new (Heap.get?_update_self _ he3 rfl) rfl rfl rfl (ch [] fun p _=>by simp) h
 rw[Heap.get?_update_other _ _ (fun z2:e=b=>by have z3:=hx.new;rw[z2] at z3;exact absurd (z.symm.trans z3) (by simp))]
 exact kp3 b o z
end
section
variable {X:Cx} {pins ps:List (Addr×Obj)} {σ:St} {H:Hp} {s:Shared} {x:Addr} {E:XK}
theorem cz.to {ev:Value} (hair:gz X E) (h:cz X pins σ E ev s):X.xe ev s:=by
 obtain ⟨x,T,cls,c,fl,n,H,rfl,I,ap,ht,hq,he⟩:=h
 exact hair pins σ H s x T cls c fl n I ⟨(ap x (by simp)).1,(ap T (by simp)).1,(ap x (by simp)).2.2.2.2,(ap T (by simp)).2.2.2.2⟩ ht hq he
theorem PM {e:Addr} {cls c fl:Value} {n:Nat} {l:List Env} {h1 h2:Heap} (hex:X.ex= []) (I:Inv X pins σ H s) (kp: ∀b o,s.heap.get? b=some o→h1.get? b=some o) (ne:s.heap.get? e=none) (hq:b9 s.heap H [] n c) (he:E cls none H)
  (o:f6 (PySem.W.hideAll s.heap (bj X.stack)) l e cls c fl h2) (up:h1.UpToSlots h2):cz X pins σ E (.ref e) {s with heap:=h2}:=by
 obtain ⟨k1,k2,k3,oe',vs',T',oT',ts',t1,t2,t3,t4,t5,t6,t7,t8,t9⟩:=o
 have slot: ∀b o,s.heap.get? b=some o→b∈bj X.stack→(∀vs,o.data≠ .fields vs)∧ ∃sl,h2.get? b=some {o with slots:=sl}:=fun b o q hm=>by
  obtain ⟨_,o2,q2,nf⟩:=I.stack.mem hm
  rw[q] at q2;cases q2
  exact ⟨nf,up b o (kp b o q) nf⟩
 have keep: ∀b o,s.heap.get? b=some o→b∉bj X.stack→h2.get? b=some o:=fun b o q nb=>k1 b o (PySem.W.hideAll_get _ q nb)
 have new:s.heap.get? T'=none:=by
  cases q:s.heap.get? T' with
  |none=>rfl
  |some o=>
   by_cases hm:T'∈bj X.stack
   ·obtain ⟨nf,sl,z⟩:=slot T' o q hm
    rw[t7] at z
    cases z
    exact absurd t8 (nf ts')
   ·have:=PySem.W.hideAll_get _ q hm
    rw[t5] at this;cases this
 have ap: ∀b,s.heap.get? b=none→X.bx.heap.get? b=none∧b≠X.env.locals∧(∀y c,X.env.cells.lookup y=some c→c≠b)∧(∀p∈X.pn++pins,p.1≠b)∧H b=none:=fun b q=>by
  obtain ⟨z1,z2,z3,z4⟩:=I.apart hex q
  exact ⟨z1,z2,z3,z4,kz I.ao q⟩
 have Im:Inv X pins σ H {s with heap:=h2}:=I.moved [] (fun b hb=>absurd hb (by simp)) (fun b o q nb _=>keep b o q nb) (fun b o q hm=>(slot b o q hm).2)
 refine ⟨e,T',cls,c,fl,n,H,rfl,Im,lO (ap e ne) (ap T' new),⟨oe',vs',oT',ts',t1,t2,t3,t4,t6,t7,t8,t9⟩,hq.move fun a o vs g1 g2 g3 _=>⟨keep a o g1 (fun hm=>by obtain ⟨_,o2,q2,nf⟩:=I.stack.mem hm;rw[g1] at q2;cases q2;exact nf vs g2),g3,fun hm=>?_⟩,he⟩
 rcases List.mem_cons.mp hm with z|hm
 ·rw[←z,g1] at ne;cases ne
 ·rcases List.mem_cons.mp hm with z|hm
  ·rw[←z,g1] at new;cases new
  ·cases hm
theorem A0 (hh:X.A.handled=none) (ok:(X.dm x ps).Ok):X.Ok:=⟨ok.mod,ok.kind,ok.glob,ok.blt,ok.above,ok.inj,ok.has,ok.gR,(fun _=>hh),ok.frames,ok.iO,ok.gJ,ok.bs,ok.ek,ok.eE,ok.gI,ok.dc,ok.fN⟩
theorem CW (hh:X.A.handled=none) (hex:X.ex= []) (hst:X.stack=X.env::X.outer) (hfr:X.env.frame=some X.env.locals) (hair:gz X E):Passes (aR X.prog X.w) (X.dm x ps) E:=fun pins σ H s e s' I hx=>
 wb hex hst hfr rfl (Eo (I.iL (A0 hh I.ok)) hex hx) fun s2 q2=>xi hex q2 fun s3 q3=>q3.to hair
theorem Bk (hh:X.A.handled=none) (hex:X.ex= []) (hst:X.stack=X.env::X.outer) (hfr:X.env.frame=some X.env.locals) (hair:gz X E):kN (X.dm x ps) E:=by
 intro pins σ H s h1 e oe vs c n I kp ne ge de f1 f2 hq he
 have I:=I.iL (A0 hh I.ok)
 have nh:(PySem.W.hideAll s.heap (bj X.stack)).get? e=none:=by
  cases q:(PySem.W.hideAll s.heap (bj X.stack)).get? e with
  |none=>rfl
  |some o=>rw[PySem.W.of_hideAll _ q] at ne;cases ne
 have ff:h1.FunFrames (PySem.W.hideAll s.heap (bj X.stack)) X.stack:=(PySem.W.funFrames_hide I.stack (fun env henv a ha=>wZ henv ha)).of_keeps fun b o q nf=>⟨o,kp b o q,rfl⟩
 exact CY (s:={s with heap:=h1}) (by show X.A.frames=_;rw[I.ok.frames,hst]) hfr (by rw[←hst];exact ff) ge (fun b o q=>kp b o (PySem.W.of_hideAll _ q)) nh de f1 f2 fun h2 o2 up=>
  xi hex (PM (s:=s) (h1:=h1) hex I kp ne hq he o2 up) fun s3 q3=>q3.to hair
end
structure ie (k:Nat) (A:Around):Prop where
 dp:A.depth+3*k+5<recursionLimit
 un:A.units+16*k+200<cLine
theorem aF.h {k:Nat} {A:Around} (r:aF k A) (v:Option Value):ie k (A.mark v):=⟨r.dp,r.un⟩
theorem ie.deeper {k:Nat} {A:Around} (r:ie (k+1) A) (env:Env):ie k (A.deeper env):=⟨by have:=r.dp;show A.depth+1+3*k+5<_;omega,by have:=r.un;show A.units+3+16*k+200<_;omega⟩
structure lx (P:Program) (w:World) (K:PySem.W.Frag) (mg:Str→Option Value) (base:Heap) (k:Nat) (f:Addr) (fd:FuncData) (ps:List Str) (sp:Sp):Prop where
 len: ∀vs H Q E,sp vs H Q E→vs.length=ps.length
 run: ∀(A:Around) (outer:List Env) (s:Shared) (H:Hp) (args:Args) (us:List Value) (vs:List V) (Q:VK) (E:XK) (h:Addr) (n:Nat),ie k A→A.handled=some (.ref h)→b9 s.heap H [] n (.ref h)→iY P w K mg base A outer s H→BindsTo s fd args (ps.zip us)→Vals vs us→sp vs H Q E→
  codeAny (model P w) A (.call (.ref f) args) (CR (aR P w) outer P w H s Q E) s
theorem aH.BU {P:Program} {w:World} {K:PySem.W.Frag} {mg:Str→Option Value} {base:Heap} {x qual:Str} {st:Stmt} {f:Addr} {fd:FuncData} {N ps:List Str} {k:Nat} {sp:Sp} (F:aH K x qual st f fd) (S:aK N ps (aD st)) (len: ∀vs H Q E,sp vs H Q E→vs.length=ps.length)
  (hbody: ∀(cdv:Value) (A:Around) (outer:List Env) (s:Shared) (H:Hp) (vs:List V) (Q:VK) (E:XK) (pn:List (Addr×Obj)),ie k (A.deeper (envOfC qual (aD st) s.heap.objs.size f cdv))→iA (d7 P w K mg base N qual (aD st) f cdv A outer s H E false pn)→sp vs H Q E→
   ∃t,cP (d7 P w K mg base N qual (aD st) f cdv A outer s H E false pn) (kS st) t∧t {nx:=fun _ H'=>Q .au H',rt:=Q} (start N vs) H):lx P w K mg base (k+1) f fd ps sp:=by
 obtain ⟨oc,od,kV,doc,pm,an,cdv,ct,osl,rfl,lk,hcd⟩:=F.ex
 refine ⟨len,fun A outer s H args us vs Q E hx n hr hh hch e0 hb r hsp=>?_⟩
 have hl:=len _ _ _ _ hsp
 have KX:K.In s.heap:=e0.mod.gZ.keeps fun b o e=>(e0.bs b o e).1
 have lim:s.heap.NoLimit:=e0.mod.nolimit.keeps fun b o e=>(e0.bs b o e).1
 have hkind: ∀y∈ps.zip us,(aD st).names.lookup y.1=some .local∨((aD st).names.lookup y.1=some .cell∧((cellsFrom (s.heap.objs.size+1) (aD st).names []).lookup y.1).isSome=true):=fun ⟨n,v⟩ hy=>by
  rcases S.par n (List.of_mem_zip hy).1 with q|q
  ·exact .inl q
  ·exact .inr ⟨q,PySem.W.cellsFrom_some _ _ _ (.inl q)⟩
 refine codeAny_call_function (by have:=hr.dp;omega) (KX _ _ lk) rfl S.co S.gen rfl (PySem.W.codeRec_of KX hcd) (hb _ _ _ _ ?_)
 refine wpAny_newFunctionEnv_cells S.kind hkind fun env he s1 x=>?_
 subst he
 refine ⟨lim.keeps x.toInCall.keep,codeAny_func ?_⟩
 obtain ⟨pn,p1,p2⟩:=hch.pins
 have hn:iA (d7 P w K mg base N qual (aD st) f cdv A outer s H E false pn):=⟨hx,pn,n,hh,p1,fun p hp=>hp⟩
 obtain ⟨t,ht,hq⟩:=hbody cdv A outer s H vs Q E pn (hr.deeper _) hn hsp
 have I0:Inv (fF (aR P w) P w K mg base N qual (aD st) f cdv {A with handled:=none} outer s H E) [] (start N vs) H s1:=CP S rfl ⟨e0.frames,e0.mod,e0.bs,e0.ek,e0.dc,e0.fN,e0.ao,e0.bare⟩ hl r x
 have I:Inv (d7 P w K mg base N qual (aD st) f cdv A outer s H E false pn) [] (start N vs) H s1:=by
  refine ⟨⟨I0.ok.mod,I0.ok.kind,I0.ok.glob,I0.ok.blt,I0.ok.above,I0.ok.inj,I0.ok.has,I0.ok.gR,(fun z=>nomatch z),Around.frames_deeper e0.frames,I0.ok.iO,I0.ok.gJ,I0.ok.bs,I0.ok.ek,I0.ok.eE,I0.ok.gI,I0.ok.dc,I0.ok.fN⟩,I0.os,I0.bare,I0.base,I0.loc,I0.cell,I0.free,I0.dG,fun p hp=>?_,I0.ao,I0.len⟩
  have hp:p∈pn:=by
   rcases List.mem_append.mp hp with z|z
   ·exact z
   ·cases z
  obtain ⟨g1,g2,vs',g3⟩:=p2 p hp
  refine ⟨x.toInCall.keep _ _ g1,g2,Nat.ne_of_lt (Heap.lt_size g1),fun z=>?_,fun v q=>by rw[g3] at q;cases q⟩
  obtain ⟨_,o,ho,nf⟩:=e0.dc.mem z
  rw[g1] at ho;cases ho;exact nf vs' g3
 refine wpAny_mono (ht [] s1 (start N vs) H _ I hq) (fun fl s' hs=>?_) fun e s' hs=>hs
 have fin: ∀{σ':St} {H':Hp} {v:V} {u:Value},Inv (d7 P w K mg base N qual (aD st) f cdv A outer s H E false pn) [] σ' H' s'→RelV v u→Q v H'→CE outer P w H s Q u s':=
  fun {σ' H' v u} J rv q=>⟨v,H',J.os,J.bare,J.base,J.ao,rv,q⟩
 cases fl with
 |ret u=>
  obtain ⟨v,σ',H',J,rv,q⟩:=hs
  exact fin J rv q
 |next=>
  obtain ⟨σ',H',J,q⟩:=hs
  exact fin (v:=V.au) (u:=Value.none) J rfl q
 |brk=>
  obtain ⟨_,_,_,q⟩:=hs
  exact False.elim q
 |cont=>
  obtain ⟨_,_,_,q⟩:=hs
  exact False.elim q
section
variable {X:Cx} {k:Nat} {f C:Addr} {fd:FuncData} {ps:List Str} {sp:Sp} {E:XK} {x m:Str} {p pos apos:Pos} {e o:Expr} {es:List Expr} {ta:TE} {t:TA}
theorem Ew {pins:List (Addr×Obj)} {σ:St} {H:Hp} {s:Shared} {Q:VK} {us:List Value} {vs:List V} (F:lx X.prog X.w X.K X.mg X.base k f fd ps sp) (hh:iA X) (hr:ie k X.A) (hb:Binds X.K fd ps []) (hx:Passes (aR X.prog X.w) X E)
  (I:Inv X pins σ H s) (r:Vals vs us) (h:sp vs H Q E):wpAny (model X.prog X.w) X.A (call (.ref f) us) (EP X pins σ Q) X.xe s:=by
 have hl:(us++ []).length=ps.length:=by rw[List.append_nil,←r.length];exact F.len _ _ _ _ h
 obtain ⟨hx1,pn,n,q1,q2,q3⟩:=hh
 have ch:b9 s.heap H [] n (.ref hx1):=q2.wM fun p hp'=>⟨(I.pin p (List.mem_append_left _ (q3 p hp'))).1,(I.pin p (List.mem_append_left _ (q3 p hp'))).2.1,by simp⟩
 have hb':=hb s us I.bV hl
 rw[List.append_nil] at hb'
 refine wpAny_call (codeAny_mono (F.run X.A X.stack s H ⟨us, []⟩ us vs Q E hx1 n hr q1 ch I.rF hb' r h) fun r s' hq=>?_)
 cases r with
 |error e=>exact hx pins σ H s e s' I hq
 |ok fl=>
  cases fl with
  |ret u=>exact I.after hq
  |next=>exact False.elim hq
  |brk=>exact False.elim hq
  |cont=>exact False.elim hq
theorem Bl {pl:Sem Bool} (hh:iA X) (he:PE X o ta) (c:b8 X.K C) (hm:Meth X.K C m f) (F:lx X.prog X.w X.K X.mg X.base k f fd ps sp) (hr:ie k X.A) (hb:Binds X.K fd ps []) (hx:Passes (aR X.prog X.w) X E) (ha:PA X (e::es) t)
  (hst:starEach (e::es) X.env=(false,eval e X.env)::starEach es X.env:=by rfl) (hpl:(backTo pos (starEach es X.env)).any (·.1)=false:=by rfl)
  (ht:eval (.Call (.Attribute o m apos) (e::es) [] pos) X.env=(do
   let ov←eval o X.env
   standAt apos.atName
   let (f,first)←holding [ov] (getMethod ov m pl)
   callWith pos f first (backTo pos (starEach (e::es) X.env)) (backToKw pos (keywordEach [] X.env))):=by rfl):
  PE X (.Call (.Attribute o m apos) (e::es) [] pos) (rD C m sp [] E ta t):=by
 intro pins s σ H Q I h
 refine PySem.W.methodCall_KW (pl:=pl) (aE (he pins s σ H _ I h) fun u s1 ⟨x,H1,I1,rx,a,dx,fs,ex,ea,l,q⟩=>?_) ht
 subst ex
 obtain rfl:u=Value.ref a:=rx
 refine ub I1 ea c hm l ?_
 refine PySem.W.callWith_K (first:= [.ref a]) (h₀:=X.base) I.ok.mod.gZ hm.kp (aE (ha pos pins s1 σ H1 _ I1 q) fun us s2 ⟨vs,H2,I2,r,q2⟩=>⟨I2.bV,?_⟩) hst hpl
 have q2:sp (.ref a::(vs++ [])) H2 Q E:=q2
 rw[List.append_nil] at q2
 exact Ew (us:= .ref a::us) (vs:= .ref a::vs) F hh hr hb hx I2 (.cons rfl r) q2
theorem Nf {pl:Sem Bool} (hh:iA X) (he:PE X o ta) (c:b8 X.K C) (hm:Meth X.K C m f) (F:lx X.prog X.w X.K X.mg X.base k f fd ps sp) (hr:ie k X.A) (hb:Binds X.K fd ps []) (hx:Passes (aR X.prog X.w) X E)
  (ht:eval (.Call (.Attribute o m apos) [] [] pos) X.env=(do
   let ov←eval o X.env
   standAt apos.atName
   let (f,first)←holding [ov] (getMethod ov m pl)
   callWith pos f first (backTo pos (starEach [] X.env)) (backToKw pos (keywordEach [] X.env))):=by rfl):
  PE X (.Call (.Attribute o m apos) [] [] pos) (rD C m sp [] E ta sM):=by
 intro pins s σ H Q I h
 refine PySem.W.methodCall_KW (pl:=pl) (aE (he pins s σ H _ I h) fun u s1 ⟨x,H1,I1,rx,a,dx,fs,ex,ea,l,q⟩=>?_) ht
 subst ex
 obtain rfl:u=Value.ref a:=rx
 refine ub I1 ea c hm l ?_
 exact PySem.W.callWith_K0 (first:= [.ref a]) I1.bV hm.kp (Ew (us:= [.ref a]) (vs:= [.ref a]) F hh hr hb hx I1 (.cons rfl .nil) q)
end
end L2
namespace L2
open PySem PySem.Spec PyProof.Rows
section
variable {X:Cx}
theorem LB {E:XK} {i:Nat} {y:Str} {py:Pos} {elt tg iter:Expr} {ifs:List Expr} {scope:Scope} {own:List (Str×Nat)} {pos spos:Pos} {wi:TI} {g:TG} {tt:TT} {te:TE} (hex:X.ex= []) (hst:X.stack=X.env::X.outer) (hfr:X.env.frame=some X.env.locals) (hair:gz X E) (hc:X.calm=true) (hN:X.N.Nodup) (hy:X.N[i]?=some y) (hyl:X.env.scope.names.lookup y=some .local)
  (hsw:swapsWith (.ListComp elt [⟨tg,iter,ifs,0⟩] scope pos) (some (.Name y py)) spos.line X.env=pure true) (hi:PI X tg iter wi) (ok:iy X.N X.env.scope scope own)
  (hg: ∀(s:Shared) (H:Hp) (C:Addr) (cl:List (Str×Addr)) (fp:List Addr) (xb:Value→Shared→Prop),PG ((X.bw s H scope (compEnvC scope cl C X.env) fp).bM xb) tg g) (ht: ∀(s:Shared) (H:Hp) (C:Addr) (cl:List (Str×Addr)) (fp:List Addr) (xb:Value→Shared→Prop),jL ((X.bw s H scope (compEnvC scope cl C X.env) fp).bM xb) ifs tt)
  (he: ∀(s:Shared) (H:Hp) (C:Addr) (cl:List (Str×Addr)) (fp:List Addr) (xb:Value→Shared→Prop),Passes (aR X.prog X.w) ((X.bw s H scope (compEnvC scope cl C X.env) fp).bM xb) E→PE ((X.bw s H scope (compEnvC scope cl C X.env) fp).bM xb) elt te) (hs: ∀x,foldedSetIterable iter X.env x=pure x:=by intro _;rfl):
  PS X (.Assign [.Name y py] (.ListComp elt [⟨tg,iter,ifs,0⟩] scope pos) spos) (uE (gY wi g tt te (own.map (·.2))) (jX i)):=by
 intro pins s σ H D I h
 rw[exec_Assign_Name_used _ _ _ _ hsw]
 refine wpAny_bind (wpAny_standAt (wpAny_bind ?_))
 show wpAny _ X.A (do let _←comprehension (.ListComp elt [⟨tg,iter,ifs,0⟩] scope pos) scope X.env (firstIterPos [⟨tg,iter,ifs,0⟩] pos) (newList []) false (eval iter X.env) (some (assign (.Name y py) X.env))) _ _ s
 have h:gY wi g tt te (own.map (·.2)) σ H (fun x H1=>jX i x σ H1 D.nx):=h
 refine wpAny_bind (aE (DM (Qf:=fun _ s'=>SP X pins D .next s') hex hst hfr hair hc hN I hi ok hg ht he hs h fun L C s' m H' I' q hn f=>?_) fun _ s' hq=>wpAny_pure (wpAny_pure hq))
 show wpAny _ _ (assign (.Name y py) X.env (.ref L)) _ _ _
 refine wpAny_assign_Name (xJ (v:=V.ref L) I' hN hy (.inl hyl) rfl (fun s2 I2 ⟨a,sb,ha⟩=>?_) (.inr hyl))
 obtain ⟨f0,f1,f2,f3,f4,f5⟩:=f
 have haC:C≠a:=by
  rcases ha with z|z
  ·rw[z];exact f1
  ·exact fun e=>f4 y a z e.symm
 refine ⟨m,hn.sameBut sb haC,fun h3 sb3=>?_⟩
 exact ⟨_,H',I2.turned (t':=s2.toks) (fun b o hb e=>(sb3.2 b hb).trans e) f0 f1 f3 f4 f5,q⟩
def OY (i:Nat) (tab:Addr→Sp→Prop) (E:St→XK) (t:TA):TE:=fun σ H Q=> ∃f sp,σ[i]?=some (some (.ref f))∧tab f sp∧t σ H fun vs H1=>sp vs H1 Q (E σ)
theorem LZ {k:Nat} {i:Nat} {tab:Addr→Sp→Prop} {E:St→XK} {x:Str} {p pos:Pos} {e:Expr} {es:List Expr} {t:TA} (hv:PE X (.Name x p) (gh i)) (htab: ∀f sp,tab f sp→ ∃fd ps,az X.prog X.w X.K X.mg X.base (aR X.prog X.w) k f fd ps sp∧PySem.W.keepIn X.K (.ref f)=true∧Binds X.K fd ps [])
  (hr:aF k X.A) (hx:qk X E) (ha:PA X (e::es) t) (he:starEach (e::es) X.env=(false,eval e X.env)::starEach es X.env:=by rfl) (hpl:(backTo pos (starEach es X.env)).any (·.1)=false:=by rfl):PE X (.Call (.Name x p) (e::es) [] pos) (OY i tab E t):=by
 intro pins s σ H Q I h
 obtain ⟨f,sp,h1,h2,h3⟩:=h
 obtain ⟨fd,ps,F,hk,hb⟩:=htab f sp h2
 refine wpAny_Call_Name_kw (aE (hv pins s σ H (fun v H'=>v= .ref f∧H'=H) I ⟨_,h1,rfl,rfl⟩) fun u s1 ⟨v,H1,I1,r1,e1,e2⟩=>?_)
 subst e1 e2
 obtain rfl:u=Value.ref f:=r1
 refine PySem.W.callWith_K (h₀:=X.base) I1.ok.mod.gZ hk (aE (ha pos pins s1 σ H1 _ I1 h3) fun us s2 ⟨vs,H2,I2,r,q⟩=>⟨I2.bV,?_⟩) he hpl
 exact xW (dvs:= []) (ds:= []) F hr hb .nil hx I2 r (by rw[List.append_nil];exact q)
end
end L2
namespace L2
open PySem PySem.Spec PyProof.Rows
section
variable {X:Cx}
def FY (K:PySem.W.Frag):R2:=fun x y H Q=> ∃l b xs zs,x= .ref l∧y= .ref b∧ah K H l xs∧ah K H b zs∧xs.length+zs.length≤sizeLine∧ ∀p,H p=none→Q (.ref p) (upd H p (.lst (xs++zs)))
theorem jD:bA X (binaryOp .Add) (FY X.K):=by
 intro pins s σ H x y v u Q I rx ry h
 obtain ⟨l,b,xs,zs,rfl,rfl,hl,hb,hz,q⟩:=h
 cases rx
 cases ry
 obtain ⟨its,r1,⟨⟨c1,d1,a1,s1⟩,n1,e1,k1,_,t1⟩,_⟩:=I.list hl
 obtain ⟨its2,r2,⟨⟨c2,d2,a2,s2⟩,n2,e2,k2,_,t2⟩,_⟩:=I.list hb
 simp only at k1 t1 k2 t2
 subst k1 t1 k2 t2
 have ez:its.toArray.size+its2.toArray.size≤sizeLine:=by rw[List.size_toArray,List.size_toArray,←r1.length,←r2.length];exact hz
 refine concat_meets ⟨_,e1,rfl⟩ ⟨_,e2,rfl⟩ noFill_list_add seq_list_add PySem.F.slot_list_add PySem.F.entry_list_add (PySem.F.args_list_add_2 _ _) (list_addW l b its.toArray its2.toArray n1 n2 d1 d2 s1 s2 ez) ⟨e1,e2,?_⟩
 have ea:its.toArray++its2.toArray=(its++its2).toArray:=by simp
 rw[ea]
 exact ⟨.ref _,_,I.wc (t':=s.toks) (r1.append r2) (by rw[List.length_append];omega),rfl,q _ I.fresh⟩
end
end L2
namespace L2
open PySem PySem.Spec PyProof.Rows
section
variable {X:Cx}
theorem Js {E:XK} {pins:List (Addr×Obj)} {σ:St} {s:Shared} {ev:Value} {what:String} {α:Type} {Q:α→Shared→Prop} (hex:X.ex= []) (hair:gz X E) (h:cz X pins σ E ev s):wpAny (model X.prog X.w) X.A (PySem.passOn what ev X.env) Q X.xe s:=by
 obtain ⟨x,T,cls,c,fl,n,H,rfl,I,ap,ht,hq,he⟩:=id h
 obtain ⟨oe,vs,oT,ts,g1,g2,g3,g4,_⟩:=ht
 unfold PySem.passOn
 refine wpAny_bind (wpAny_field g1 g3 g4 ?_)
 rw[if_neg (by simp)]
 refine wpAny_bind (rK hex h fun s3 q3=>wpAny_throw (q3.to hair))
def Rn (K:PySem.W.Frag) (C:Addr) (u:TS) (E':XK):Ends→St→XK:=fun D σ cls d H=>(cls= .ref C∧u D σ H)∨((∃C',cls= .ref C'∧Own K C')∧cls≠ .ref C∧E' cls d H)
theorem RT {E':XK} {C:Addr} {y:Str} {np pos:Pos} {b0:Stmt} {suite:List Stmt} {u:TS} (hex:X.ex= []) (hair:gz X E') (hC:Own X.K C) (hg:Gl X y) (hm:X.mg y=some (.ref C)) (hsu: ∀x ps n,eR ps n (.ref x)→cP (X.dm x ps) (b0::suite) u) (hd:(y==("__debug__" :Str))=false:=by decide):
  ∀(pins:List (Addr×Obj)) (σ:St) (D:Ends) (ev:Value) (s3:Shared),cz X pins σ (Rn X.K C u E' D σ) ev s3→wpAny (model X.prog X.w) X.A (handleBy ev X.env [.ExceptHandler (some (.Name y np)) none (b0::suite) pos]) (SP X pins D) X.xe s3:=fun pins σ D ev s3 h=>by
 refine clause (t:=u) hex hC hg hm hsu (fun cls d H z=>z.elim (fun z=>⟨C,z.1,hC⟩) fun z=>z.1) (fun d H z=>z.elim (fun z=>z.2) fun z=>absurd rfl z.2.1) h (fun s3 h3=>?_) hd
 refine wpAny_handleBy_nil (Js hex hair (h3.imp fun cls d H z=>?_))
 rcases z.1 with w|w
 ·exact absurd w.1 z.2
 ·exact w.2.2
end
end L2
set_option maxHeartbeats 2000000
namespace L2
open PySem PySem.Spec PyProof.Rows
theorem oA {K:PySem.W.Frag} {H:Hp}: ∀xs:List Int,jx K H (xs.map V.int) (xs.map PyData.int)
 | []=> .nil
 |x::xs=> .cons (.int x) (oA xs)
theorem lay_ints: ∀xs:List Int,PyData.canLayAll0 (xs.map PyData.int)=true
 | []=>rfl
 |x::xs=>by
  rw[List.map_cons,PyData.canLayAll0,lay_ints xs];rfl
theorem yZ: ∀xs:List Int,PyData.depthAll (xs.map PyData.int)≤1
 | []=>by simp [PyData.depthAll]
 |x::xs=>by
  have:=yZ xs
  rw[List.map_cons,PyData.depthAll]
  simp only [PyData.depth]
  omega
theorem shaped_ints (xs:List Int):SeqAt.shaped (.list (xs.map PyData.int))=true:=by
 unfold SeqAt.shaped
 rw[Bool.and_eq_true]
 refine ⟨by rw[PyData.canLay0];exact lay_ints xs,decide_eq_true ?_⟩
 have:=yZ xs
 rw[PyData.depth]
 omega
theorem vQ: ∀xs ys:List Int,PyData.eqvAll (xs.map PyData.int) (ys.map PyData.int)=decide (xs=ys)
 | [], []=>by simp [PyData.eqvAll]
 | [],_::_=>by simp [PyData.eqvAll]
 |_::_, []=>by simp [PyData.eqvAll]
 |x::xs,y::ys=>by
  rw[List.map_cons,List.map_cons,PyData.eqvAll,vQ xs ys,PyData.eqv]
  by_cases h:x=y
  ·by_cases h2:xs=ys
   ·simp [h,h2]
   ·simp [h,h2]
  ·simp [h]
section
variable {X:Cx}
def Di (K:PySem.W.Frag):R2:=fun x y H Q=> ∃a b,∃xs ys:List Int,x= .ref a∧y= .ref b∧ah K H a (xs.map V.int)∧ah K H b (ys.map V.int)∧Q (.bl (decide (xs=ys))) H
def K2 (K:PySem.W.Frag):R2:=fun x y H Q=> ∃a b,∃xs ys:List Int,x= .ref a∧y= .ref b∧ah K H a (xs.map V.int)∧ah K H b (ys.map V.int)∧Q (.bl (!decide (xs=ys))) H
theorem Q1 (hu:X.A.units+64<cLine):bA X (compareOp .Eq) (Di X.K):=by
 intro pins s σ H x y v u Q I rx ry h
 obtain ⟨a,b,xs,ys,rfl,rfl,ha,hb,q⟩:=h
 refine Fc hu pins s σ H _ _ v u Q I rx ry ⟨.list (xs.map PyData.int), .list (ys.map PyData.int), .lst ha (oA xs), .lst hb (oA ys),shaped_ints xs,shaped_ints ys,?_⟩
 rw[PyData.eqv,vQ]
 exact q
theorem xo (hu:X.A.units+64<cLine):bA X (compareOp .NotEq) (K2 X.K):=by
 intro pins s σ H x y v u Q I rx ry h
 obtain ⟨a,b,xs,ys,rfl,rfl,ha,hb,q⟩:=h
 refine QV hu pins s σ H _ _ v u Q I rx ry ⟨.list (xs.map PyData.int), .list (ys.map PyData.int), .lst ha (oA xs), .lst hb (oA ys),shaped_ints xs,shaped_ints ys,?_⟩
 rw[PyData.eqv,vQ]
 exact q
theorem PN {K:PySem.W.Frag} (h:X.K=K) (hu:X.A.units+64<cLine):bA X (compareOp .Eq) (Di K):=by subst h;exact Q1 hu
end
end L2
namespace L2
open PySem PySem.Spec PyProof.Rows
theorem aA {K:PySem.W.Frag} {i:Nat} {f:Str} {σ:L2.St} {H:Hp} {Q:V→Prop} {p C dx:Addr} {fs:List (Str×V)} {v:V} (e:σ[i]?=some (some (.ref p))) (h:H p=some (.ins C dx fs)) (c:b8 K C) (n:a9 K C f) (l:fs.lookup f=some v) (q:Q v): ∃w,σ[i]?=some (some w)∧ ∃a C' dx' fs' v',w= .ref a∧H a=some (.ins C' dx' fs')∧b8 K C'∧a9 K C' f∧fs'.lookup f=some v'∧Q v':=⟨_,e,p,C,dx,fs,v,rfl,h,c,n,l,q⟩
theorem fI {K:PySem.W.Frag} {f:Str} {H:Hp} {Q:V→Prop} {p C dx:Addr} {fs:List (Str×V)} {v:V} (h:H p=some (.ins C dx fs)) (c:b8 K C) (n:a9 K C f) (l:fs.lookup f=some v) (q:Q v): ∃a C' dx' fs' v',V.ref p= .ref a∧H a=some (.ins C' dx' fs')∧b8 K C'∧a9 K C' f∧fs'.lookup f=some v'∧Q v':=⟨p,C,dx,fs,v,rfl,h,c,n,l,q⟩
theorem aO {i:Nat} {m:Str} {σ:L2.St} {H:Hp} {Q:V→Prop} {p C dx:Addr} {fs:List (Str×V)} (e:σ[i]?=some (some (.ref p))) (h:H p=some (.ins C dx fs)) (l:fs.lookup m=none) (q:Q (.ref p)): ∃w,σ[i]?=some (some w)∧ ∃a dx' fs',w= .ref a∧H a=some (.ins C dx' fs')∧fs'.lookup m=none∧Q w:=⟨_,e,p,dx,fs,rfl,h,l,q⟩
theorem mJ {m:Str} {H:Hp} {Q:Prop} {p C dx:Addr} {fs:List (Str×V)} (h:H p=some (.ins C dx fs)) (l:fs.lookup m=none) (q:Q): ∃a dx' fs',V.ref p= .ref a∧H a=some (.ins C dx' fs')∧fs'.lookup m=none∧Q:=⟨p,dx,fs,rfl,h,l,q⟩
theorem ag {T0 T1:Sort _} {P:T0→T1→Prop} (a:T0) (b:T1) (hh:P a b): ∃a b,P a b:=⟨a,b,hh⟩
theorem bG {T0 T1 T2:Sort _} {P:T0→T1→T2→Prop} (a:T0) (b:T1) (c:T2) (hh:P a b c): ∃a b c,P a b c:=⟨a,b,c,hh⟩
theorem aC {T0 T1 T2 T3:Sort _} {P:T0→T1→T2→T3→Prop} (a:T0) (b:T1) (c:T2) (d:T3) (hh:P a b c d): ∃a b c d,P a b c d:=⟨a,b,c,d,hh⟩
theorem tF {T0 T1 T2 T3 T4:Sort _} {P:T0→T1→T2→T3→T4→Prop} (a:T0) (b:T1) (c:T2) (d:T3) (e:T4) (hh:P a b c d e): ∃a b c d e,P a b c d e:=⟨a,b,c,d,e,hh⟩
theorem rg {T0 T1 T2 T3 T4 T5:Sort _} {P:T0→T1→T2→T3→T4→T5→Prop} (a:T0) (b:T1) (c:T2) (d:T3) (e:T4) (f:T5) (hh:P a b c d e f): ∃a b c d e f,P a b c d e f:=⟨a,b,c,d,e,f,hh⟩
theorem uo {T0 T1 T2 T3 T4 T5 T6:Sort _} {P:T0→T1→T2→T3→T4→T5→T6→Prop} (a:T0) (b:T1) (c:T2) (d:T3) (e:T4) (f:T5) (g:T6) (hh:P a b c d e f g): ∃a b c d e f g,P a b c d e f g:=⟨a,b,c,d,e,f,g,hh⟩
theorem dF {T0 T1 T2 T3 T4 T5 T6 T7:Sort _} {P:T0→T1→T2→T3→T4→T5→T6→T7→Prop} (a:T0) (b:T1) (c:T2) (d:T3) (e:T4) (f:T5) (g:T6) (h:T7) (hh:P a b c d e f g h): ∃a b c d e f g h,P a b c d e f g h:=⟨a,b,c,d,e,f,g,h,hh⟩
theorem wN {T0 T1 T2 T3 T4 T5 T6 T7 T8:Sort _} {P:T0→T1→T2→T3→T4→T5→T6→T7→T8→Prop} (a:T0) (b:T1) (c:T2) (d:T3) (e:T4) (f:T5) (g:T6) (h:T7) (i:T8) (hh:P a b c d e f g h i): ∃a b c d e f g h i,P a b c d e f g h i:=⟨a,b,c,d,e,f,g,h,i,hh⟩
end L2
namespace Wg
def bf (c n:Nat):List Nat:=(List.range c).map fun i=>n/256^(c-1-i)%256
theorem RX (c n:Nat):(Sound.high c n).map UInt8.toNat=bf c n:=by
 unfold Sound.high bf
 rw[List.map_map]
 refine List.map_congr_left fun i _=>?_
 simp [UInt8.toNat_ofNat']
def bL (l:List Nat):Nat:=l.foldl (fun n c=>256*n+c) 0
theorem pF (b:Sound.Bytes):Sound.fromHigh b=bL (b.map UInt8.toNat):=by
 unfold Sound.fromHigh bL
 rw[List.foldl_map]
def eJ (d:Nat):Nat:=if d%2=1 then (d/2)^^^0xEDB88320 else d/2
def kj:List Nat:= [0,498536548,997073096,651767980,1994146192,1802195444,1303535960,1342533948,3988292384,4027552580,3604390888,3412177804,2607071920,2262029012,2685067896,3183342108]
def qs (c:Nat):Nat:=(c/16)^^^kj.getD (c%16) 0
def sW (c b:Nat):Nat:=qs (qs (c^^^b))
def jS (l:List Nat):Nat:=(l.foldl sW 0xFFFFFFFF)^^^0xFFFFFFFF
theorem K6 (a b:Nat):(a^^^b)/2=a/2^^^b/2:=by
 have:=Nat.shiftRight_xor_distrib (a:=a) (b:=b) (i:=1)
 simpa [Nat.shiftRight_eq_div_pow] using this
theorem Ml (a b:Nat):eJ (a^^^b)=eJ a^^^eJ b:=by
 unfold eJ
 rw[K6]
 have h:(a^^^b)%2=(a%2+b%2)%2:=by
  have h1:=Nat.testBit_xor a b 0
  simp only [Nat.testBit_zero] at h1
  rcases Nat.mod_two_eq_zero_or_one a with ha|ha<;>rcases Nat.mod_two_eq_zero_or_one b with hb|hb<;>rcases Nat.mod_two_eq_zero_or_one (a^^^b) with hc|hc<;>rw[ha,hb,hc] at h1<;>first|(rw[ha,hb,hc];done)|(exact absurd h1 (by decide))
 rcases Nat.mod_two_eq_zero_or_one a with ha|ha<;>rcases Nat.mod_two_eq_zero_or_one b with hb|hb<;>simp only [h,ha,hb]
 ·simp
 ·simp [Nat.xor_assoc]
 ·simp only [Nat.reduceAdd,Nat.reduceMod,if_true]
  rw[if_neg (by decide),Nat.xor_assoc,Nat.xor_assoc,Nat.xor_comm (b/2)]
 ·simp only [Nat.reduceAdd,Nat.reduceMod,if_true]
  rw[if_neg (by decide),Nat.xor_assoc,←Nat.xor_assoc 3988292384,Nat.xor_comm 3988292384,Nat.xor_assoc (b/2),Nat.xor_self,Nat.xor_zero]
theorem FO (d:Nat):d=(16*(d/16))^^^(d%16):=by
 apply Nat.eq_of_testBit_eq
 intro i
 have e:d=2^4*(d/16)+d%16:=by omega
 rw[Nat.testBit_xor,show (16*(d/16))=2^4*(d/16) by omega,Nat.testBit_two_pow_mul]
 conv=>lhs;rw[e,Nat.testBit_two_pow_mul_add _ (by omega)]
 by_cases h:i<4
 ·rw[if_pos h,decide_eq_false (by omega)];simp
 ·rw[if_neg h,decide_eq_true (by omega),show (d%16).testBit i=false from Nat.testBit_lt_two_pow (Nat.lt_of_lt_of_le (Nat.mod_lt d (by decide)) (by rw[show 16=2^4 by decide];exact Nat.pow_le_pow_right (by decide) (by omega)))];simp
theorem O5 (q:Nat):eJ (2*q)=q:=by unfold eJ;rw[if_neg (by omega)];omega
theorem Cp (d:Nat):qs d=eJ (eJ (eJ (eJ d))):=by
 have h: ∀r:Nat,r<16→eJ (eJ (eJ (eJ r)))=kj.getD r 0:=by decide
 conv=>rhs;rw[FO d]
 simp only [Ml]
 rw[h _ (Nat.mod_lt d (by decide)),show 16*(d/16)=2*(2*(2*(2*(d/16)))) by omega]
 simp only [O5]
 rfl
theorem Lo (c:Nat) (x:UInt8):sW c x.toNat=Sound.crc32step c x:=by
 unfold sW
 rw[Cp,Cp]
 rfl
theorem wF (b:Sound.Bytes):jS (b.map UInt8.toNat)=Sound.crc32 b:=by
 unfold jS Sound.crc32
 rw[List.foldl_map]
 congr 2
 funext c x
 exact Lo c x
def cK (a:Nat):Nat→Nat
 |0=>a
 |k+1=>Sound.times2 (cK a k)
def eA (k a b:Nat):Nat:=((List.range k).foldl (fun (x:Nat×Nat) (i:Nat)=>(if b.testBit i=true then x.1^^^x.2 else x.1,Sound.times2 x.2)) (0,a)).1
theorem Ri (k a b:Nat):((List.range k).foldl (fun (x:Nat×Nat) (i:Nat)=>(if b.testBit i=true then x.1^^^x.2 else x.1,Sound.times2 x.2)) (0,a)).2=cK a k:=by
 induction k with
 |zero=>rfl
 |succ k ih=>rw[List.range_succ,List.foldl_append];simp only [List.foldl_cons,List.foldl_nil,ih];rfl
theorem i6 (k a b:Nat):eA (k+1) a b=if b.testBit k=true then eA k a b^^^cK a k else eA k a b:=by
 unfold eA
 rw[List.range_succ,List.foldl_append]
 simp only [List.foldl_cons,List.foldl_nil,Ri]
theorem N8 (k a b c:Nat) (h: ∀i,i<k→b.testBit i=c.testBit i):eA k a b=eA k a c:=by
 induction k with
 |zero=>rfl
 |succ k ih=>rw[i6,i6,h k (by omega),ih fun i hi=>h i (by omega)]
def gK (a k:Nat):List Nat:=(List.range (2^k)).map (eA k a)
theorem Gk (a k:Nat):gK a (k+1)=gK a k++(gK a k).map (fun p=>p^^^cK a k):=by
 unfold gK
 rw[show 2^(k+1)=2^k+2^k by rw[Nat.pow_succ];omega,List.range_add,List.map_append,List.map_map,List.map_map]
 congr 1
 ·refine List.map_congr_left fun b hb=>?_
  rw[i6,Nat.testBit_lt_two_pow (List.mem_range.mp hb)]
  simp
 ·refine List.map_congr_left fun b hb=>?_
  have hb:=List.mem_range.mp hb
  show eA (k+1) a (2^k+b)=eA k a b^^^cK a k
  have t: ∀j,(2^k+b).testBit j=if j<k then b.testBit j else (1:Nat).testBit (j-k):=fun j=>by
   have:=Nat.testBit_two_pow_mul_add 1 hb j
   rwa [Nat.mul_one] at this
  rw[i6,t k,if_neg (Nat.lt_irrefl _),Nat.sub_self,if_pos (by decide),N8 k a (2^k+b) b fun i hi=>by rw[t i,if_pos hi]]
theorem Pf {a:Nat} (h:a<256):Sound.times2 a<256:=by
 have: ∀a:Nat,a<256→Sound.times2 a<256:=by decide+kernel
 exact this a h
theorem xx {a:Nat} (h:a<256): ∀k,cK a k<256
 |0=>h
 |k+1=>Pf (xx h k)
theorem xp {a:Nat} (h:a<256) (b:Nat): ∀k,eA k a b<256
 |0=>by show 0<256;decide
 |k+1=>by
  rw[i6]
  split
  ·exact Nat.xor_lt_two_pow (n:=8) (xp h b k) (xx h k)
  ·exact xp h b k
theorem PZ {a:Nat} (h:a<256) (b:Nat):Sound.mul a b<256:=xp h b 8
end Wg
namespace Wg
theorem DT (a b c:Nat): ∀k,eA k a (b^^^c)=eA k a b^^^eA k a c
 |0=>by show 0=0^^^0;rfl
 |k+1=>by
  rw[i6,i6,i6,Nat.testBit_xor,DT a b c k]
  cases b.testBit k<;>cases c.testBit k<;>simp
  ·rw[Nat.xor_assoc]
  ·rw[Nat.xor_assoc,Nat.xor_assoc,Nat.xor_comm (cK a k)]
  ·rw[Nat.xor_assoc,←Nat.xor_assoc (cK a k),Nat.xor_comm (cK a k),Nat.xor_assoc (eA k a c),Nat.xor_self,Nat.xor_zero]
theorem vY (a b c:Nat):Sound.mul a (b^^^c)=Sound.mul a b^^^Sound.mul a c:=DT a b c 8
theorem mul_zero (a:Nat):Sound.mul a 0=0:=by
 have:=vY a 0 0
 rw[Nat.xor_self,Nat.xor_self] at this
 exact this
theorem CC: ∀a:Nat,a<256→a≠0→Sound.inverse a<256∧Sound.mul a (Sound.inverse a)=1∧ ∀i,i<8→Sound.mul (Sound.inverse a) (Sound.mul a (2^i))=2^i:=by decide+kernel
theorem yD {b k:Nat} (h:b<2^(k+1)):b=(b%2^k)^^^(if b.testBit k=true then 2^k else 0):=by
 apply Nat.eq_of_testBit_eq
 intro i
 rw[Nat.testBit_xor,Nat.testBit_mod_two_pow]
 rcases Nat.lt_trichotomy i k with q|q|q
 ·rw[decide_eq_true q]
  split
  ·rw[Nat.testBit_two_pow,decide_eq_false (by omega)];simp
  ·simp
 ·subst q
  rw[decide_eq_false (Nat.lt_irrefl _)]
  cases e:b.testBit i<;>simp [Nat.testBit_two_pow]
 ·rw[decide_eq_false (by omega),Nat.testBit_lt_two_pow (Nat.lt_of_lt_of_le h (Nat.pow_le_pow_right (by decide) q))]
  split
  ·rw[Nat.testBit_two_pow,decide_eq_false (by omega)];rfl
  ·simp
theorem vL {a:Nat} (ha:a<256) (h0:a≠0): ∀k,k≤8→ ∀b,b<2^k→Sound.mul (Sound.inverse a) (Sound.mul a b)=b
 |0,_,b,hb=>by
  have:b=0:=by simp at hb;exact hb
  rw[this,mul_zero,mul_zero]
 |k+1,hk,b,hb=>by
  conv=>lhs;rw[yD hb]
  rw[vY,vY,vL ha h0 k (by omega) _ (Nat.mod_lt _ (Nat.two_pow_pos k))]
  conv=>rhs;rw[yD hb]
  congr 1
  split
  ·exact (CC a ha h0).2.2 k (by omega)
  ·rw[mul_zero,mul_zero]
theorem Qc {a:Nat} (ha:a<256) (h0:a≠0) {b c:Nat} (hb:b<256) (hc:c<256) (h:Sound.mul a b=Sound.mul a c):b=c:=by
 rw[←vL ha h0 8 (Nat.le_refl _) b hb,←vL ha h0 8 (Nat.le_refl _) c hc,h]
theorem Eu {a:Nat} (ha:a<256) (h0:a≠0):Sound.inverse a<256∧Sound.mul a (Sound.inverse a)=1∧ ∀b,b<Sound.inverse a→Sound.mul a b≠1:=by
 obtain ⟨h1,h2,_⟩:=CC a ha h0
 refine ⟨h1,h2,fun b hb e=>?_⟩
 have:=Qc ha h0 (by omega) h1 (e.trans h2.symm)
 omega
theorem Ct: ∀i:Nat,i<8→ ∀j:Nat,j<4→i^^^(128+j)<256∧i^^^(128+j)≠0:=by decide
end Wg
namespace Wg
def ip:List Int→List Int→Int
 |a::l,b::m=>a*b+ip l m
 |_,_=>0
section
variable {v1 v2 v3 v4:List Int}
end
section
variable {g11 g12 g13 g14 g22 g23 g24 g33 g34 g44:Int}
end
end Wg
namespace Wg
open Sound
theorem foldl_add (l:List Int): ∀a:Int,l.foldl (fun (a b:Int)=>a+b) a=a+l.foldl (fun (a b:Int)=>a+b) 0:=by
 induction l with
 |nil=>intro a;simp
 |cons x l ih=>intro a;simp only [List.foldl_cons];rw[ih (a+x),ih (0+x)];omega
theorem N5 (x:Int) (l:List Int):sumOf (x::l)=x+sumOf l:=by
 unfold sumOf;rw[List.foldl_cons,foldl_add];omega
theorem yA: ∀l m:List Int,sumOf (List.zipWith (fun (a b:Int)=>a*b) l m)=ip l m
 | [],_=>by simp [sumOf,ip]
 |_::_, []=>by simp [sumOf,ip]
 |a::l,b::m=>by rw[List.zipWith_cons_cons,N5,yA l m];rfl
end Wg
namespace Wg
open PySem
theorem GY (n m:Nat):(n&&&m)%2=0↔n%2=0∨m%2=0:=by
 have h:=congrArg (· =true) (Nat.testBit_and n m 0)
 simp only [Nat.testBit_zero,Bool.and_eq_true,decide_eq_true_eq,eq_iff_iff] at h
 omega
theorem G8 (n m:Nat):(n|||m)%2=0↔n%2=0∧m%2=0:=by
 have h:=congrArg (· =true) (Nat.testBit_or n m 0)
 simp only [Nat.testBit_zero,Bool.or_eq_true,decide_eq_true_eq,eq_iff_iff] at h
 omega
theorem NF (n m:Nat):(n&&&m)/2=n/2&&&m/2:=by
 apply Nat.eq_of_testBit_eq;intro i
 rw[Nat.testBit_and,Nat.testBit_div_two,Nat.testBit_div_two,Nat.testBit_div_two,Nat.testBit_and]
theorem Ms (n m:Nat):(n|||m)/2=n/2|||m/2:=by
 apply Nat.eq_of_testBit_eq;intro i
 rw[Nat.testBit_or,Nat.testBit_div_two,Nat.testBit_div_two,Nat.testBit_div_two,Nat.testBit_or]
theorem Np {x y:Int} (hx:0≤x) (hy:0≤y):Builtin.bitOr x y=((x.toNat|||y.toNat:Nat):Int):=by
 unfold Builtin.bitOr Builtin.bitAnd Builtin.bitNot
 have h1:decide (0≤ -x-1)=false:=by simp;omega
 have h2:decide (0≤ -y-1)=false:=by simp;omega
 simp only [h1,h2]
 have e1:(-(-x-1)-1).toNat=x.toNat:=by congr 1;omega
 have e2:(-(-y-1)-1).toNat=y.toNat:=by congr 1;omega
 rw[e1,e2];omega
end Wg
namespace Wg
open PySem Sound
def bl (n:Nat):Nat:=if n=0 then 0 else n.log2+1
theorem KH (n:Nat):Builtin.Int.intBits (n:Int)=bl n:=by
 unfold Builtin.Int.intBits bl
 by_cases h:n=0
 ·subst h;rfl
 ·rw[if_neg h,if_neg (by simpa using h),Int.natAbs_natCast]
theorem OX {n v:Nat} (h:n<2^v):bl n≤v:=by
 unfold bl
 by_cases h0:n=0
 ·rw[if_pos h0];exact Nat.zero_le _
 ·rw[if_neg h0]
  exact (Nat.log2_lt h0).mpr h
end Wg
namespace Wg
open PySem Sound
def pU (n p r:Nat):Bool:=decide (r≤6)&&(decide (n/2^r*2^r=n)&&decide (p≤n/2^r))
end Wg
namespace Wg
open PySem Sound
def fX:List Int→List Int→Nat→Int
 | [],_,_=>0
 |f::fs,y,t=>f*y.getD (t-1) 0+fX fs y (t-1)
def sU (a:List Int) (h:Nat) (y:List Int) (t:Nat):Int:=fX a y t/2^h
theorem uW: ∀a b:List Int,ip a (b.take a.length)=ip a b
 | [],b=>by simp [ip]
 |x::a, []=>by simp [ip]
 |x::a,y::b=>by simp [ip,uW a b]
theorem MI {y:List Int} {t:Nat} (h:t<y.length):(y.take (t+1)).reverse=y.getD t 0::(y.take t).reverse:=by
 rw[List.take_succ,List.getElem?_eq_getElem h,List.getD_eq_getElem?_getD,List.getElem?_eq_getElem h]
 simp
theorem BW: ∀(a y:List Int) (t:Nat),t≤y.length→a.length≤t→ip a (y.take t).reverse=fX a y t
 | [],y,t,_,_=>by simp [ip,fX]
 |f::fs,y,0,h1,h2=>by simp at h2
 |f::fs,y,t+1,h1,h2=>by
  rw[MI (by omega)]
  simp only [ip,fX,Nat.add_sub_cancel]
  rw[BW fs y t (by omega) (by simpa using h2)]
theorem Nv {a y before:List Int} {h t:Nat} (h1:t≤y.length) (h2:a.length≤t) (hb:before.take a.length=(y.take t).reverse.take a.length):guess a h before=sU a h y t:=by
 unfold guess sU
 rw[yA,←uW,hb,uW,BW a y t h1 h2,Int.fdiv_eq_ediv_of_nonneg _ (Int.le_of_lt (Int.pow_pos (by decide)))]
def Bd (B:Int) (l:List Int):Prop:= ∀x∈l,-B≤x∧x≤B
theorem rM (n v:Nat):(u n v).length=n:=by simp [u]
end Wg
namespace Wg
open PySem
theorem Lz (l:Sound.Bits): ∀a:Nat,l.foldl (fun (n:Nat) (b:Bool)=>2*n+(if b=true then 1 else 0)) a=a*2^l.length+Sound.value l:=by
 induction l with
 |nil=>intro a;simp [Sound.value]
 |cons b l ih=>
  intro a
  unfold Sound.value
  rw[List.foldl_cons,List.foldl_cons,ih,ih (2*0+_),List.length_cons,Nat.pow_succ]
  generalize 2^l.length=m
  rw[Nat.add_mul,Nat.add_mul]
  have e1:2*a*m=a*(m*2):=by rw[Nat.mul_comm m 2,←Nat.mul_assoc,Nat.mul_comm a 2]
  have e2:2*0*m=0:=by simp
  omega
theorem tD (l m:Sound.Bits):Sound.value (l++m)=Sound.value l*2^m.length+Sound.value m:=by
 unfold Sound.value
 rw[List.foldl_append,Lz m]
 rfl
theorem rL (b:Bool) (l:Sound.Bits):Sound.value (b::l)=(if b=true then 1 else 0)*2^l.length+Sound.value l:=by
 have:=tD [b] l
 rw[List.singleton_append] at this
 rw[this]
 cases b<;>rfl
theorem lh: ∀l:Sound.Bits,Sound.value l<2^l.length
 | []=>by simp [Sound.value]
 |b::l=>by
  have:=lh l
  rw[rL,List.length_cons,Nat.pow_succ]
  cases b<;>simp<;>omega
theorem KP (n v:Nat):Sound.u (n+1) v=v.testBit n::Sound.u n v:=by
 unfold Sound.u
 rw[List.range_succ_eq_map,List.map_cons,List.map_map]
 congr 1
 refine List.map_congr_left fun i hi=>?_
 show v.testBit (n+1-1-(i+1))=v.testBit (n-1-i)
 congr 1;omega
theorem BY: ∀n v:Nat,Sound.value (Sound.u n v)=v%2^n
 |0,v=>by simp [Sound.u,Sound.value,Nat.mod_one]
 |n+1,v=>by
  rw[KP,rL,BY n v,rM]
  have h:=Nat.mod_mul (x:=v) (a:=2^n) (b:=2)
  have hb:v.testBit n=decide (v/2^n%2=1):=by rw[Nat.testBit_eq_decide_div_mod_eq]
  rw[Nat.pow_succ,h,hb]
  rcases Nat.mod_two_eq_zero_or_one (v/2^n) with e|e
  ·rw[e];simp
  ·rw[e];simp;omega
theorem wo (a b:Nat):Builtin.bitOr (a:Int) (b:Int)=((a|||b:Nat):Int):=by
 rw[Np (by omega) (by omega),Int.toNat_natCast,Int.toNat_natCast]
theorem rY (a b:Nat):Builtin.bitAnd (a:Int) (b:Int)=((a&&&b:Nat):Int):=by
 unfold Builtin.bitAnd
 have h1:decide (0≤(a:Int))=true:=by simp
 have h2:decide (0≤(b:Int))=true:=by simp
 simp only [h1,h2,Int.toNat_natCast]
theorem LU (n m:Nat):(n^^^m)%2=(n+m)%2:=by
 have h:=Nat.testBit_xor n m 0
 simp only [Nat.testBit_zero] at h
 rcases Nat.mod_two_eq_zero_or_one n with a|a<;>rcases Nat.mod_two_eq_zero_or_one m with b|b<;>rw[a,b] at h
 ·have: ¬(n^^^m)%2=1:=of_decide_eq_false h
  omega
 ·have:(n^^^m)%2=1:=of_decide_eq_true h
  omega
 ·have:(n^^^m)%2=1:=of_decide_eq_true h
  omega
 ·have: ¬(n^^^m)%2=1:=of_decide_eq_false h
  omega
theorem OW (n m:Nat):(n^^^m)/2=n/2^^^m/2:=by
 apply Nat.eq_of_testBit_eq;intro i
 rw[Nat.testBit_xor,Nat.testBit_div_two,Nat.testBit_div_two,Nat.testBit_div_two,Nat.testBit_xor]
theorem BG: ∀(k n m:Nat),n≤k→m≤k→(n|||m)=(n^^^m)+(n&&&m)
 |0,n,m,h1,h2=>by
  have:n=0:=by omega
  have:m=0:=by omega
  subst n m;rfl
 |k+1,n,m,h1,h2=>by
  by_cases h0:n=0∧m=0
  ·obtain ⟨rfl,rfl⟩:=h0;rfl
  have ih:=BG k (n/2) (m/2) (by omega) (by omega)
  have a1:=G8 n m
  have a2:=LU n m
  have a3:=GY n m
  have b1:=Ms n m
  have b2:=OW n m
  have b3:=NF n m
  omega
theorem g9 (a b:Nat):Builtin.bitXor (a:Int) (b:Int)=((a^^^b:Nat):Int):=by
 unfold Builtin.bitXor
 rw[wo,rY,BG (max a b) a b (by omega) (by omega)]
 omega
theorem mask (x:Int) (w:Nat):Builtin.bitAnd x ((2^w:Int)-1)=x%2^w:=by
 have hp:0<2^w:=Nat.two_pow_pos w
 have e2:((2:Int)^w)=((2^w:Nat):Int):=by simp
 have e1:(2:Int)^w-1=((2^w-1:Nat):Int):=by rw[e2];omega
 rcases Int.lt_or_le x 0 with hx|hx
 ·unfold Builtin.bitAnd Builtin.bitNot
  have h1:decide (0≤x)=false:=by simp;omega
  have h2:decide (0≤(2:Int)^w-1)=true:=by rw[e1];simp
  simp only [h1,h2]
  rw[e1,Int.toNat_natCast,Nat.and_comm,Nat.and_two_pow_sub_one_eq_mod]
  generalize hm:(-x-1).toNat=m
  have hd:=Nat.div_add_mod m (2^w)
  have hlt:=Nat.mod_lt m hp
  rw[e2]
  have ex:x=((2^w-1-m%2^w:Nat):Int)+((2^w:Nat):Int)*(-((m/2^w:Nat):Int)-1):=by
   have:((2^w:Nat):Int)*(-((m/2^w:Nat):Int)-1)= -((2^w*(m/2^w):Nat):Int)-((2^w:Nat):Int):=by
    rw[Int.mul_sub,Int.mul_neg,←Int.natCast_mul,Int.mul_one]
   rw[this]
   omega
  have:x%((2^w:Nat):Int)=((2^w-1-m%2^w:Nat):Int):=by
   rw[ex,Int.add_mul_emod_self_left]
   exact Int.emod_eq_of_lt (by omega) (by omega)
  rw[this]
  omega
 ·obtain ⟨n,rfl⟩:=Int.eq_ofNat_of_zero_le hx
  rw[e1,rY,Nat.and_two_pow_sub_one_eq_mod,e2]
  simp
theorem KS (n:Nat):Builtin.bitAnd (n:Int) 255=((n%256:Nat):Int):=by
 have:=mask (n:Int) 8
 have e:(2:Int)^8=256:=by decide
 rw[e] at this
 rw[show (255:Int)=256-1 by decide,this]
 simp
end Wg
namespace Wg
open PySem
def iw (p:Nat):Nat:=if 65535<2*p then 2*p^^^69665 else 2*p
def eQ (c b:Nat):Nat:=(List.range 8).foldl (fun p _=>iw p) (c^^^(b*256))
def su (l:List Nat):Nat:=l.foldl eQ 65535
def bX (c:Nat) (x:Bool):Nat:=let d:=2*c%65536
 if (c.testBit 15 !=x)=true then d^^^0x1021 else d
theorem ua (q i:Nat):(q%65536).testBit i=(decide (i<16)&&q.testBit i):=by
 rw[show (65536:Nat)=2^16 by decide,Nat.testBit_mod_two_pow]
theorem yw {q:Nat} (h1:65536≤q) (h2:q<131072):q^^^65536=q%65536:=by
 apply Nat.eq_of_testBit_eq
 intro i
 rw[Nat.testBit_xor,ua,show (65536:Nat)=2^16 by decide,Nat.testBit_two_pow]
 rcases Nat.lt_trichotomy i 16 with h|h|h
 ·rw[decide_eq_true h,decide_eq_false (by omega)];simp
 ·subst h
  have:q.testBit 16=true:=by
   rw[Nat.testBit_eq_decide_div_mod_eq]
   simp;omega
  rw[this];simp
 ·have:q.testBit i=false:=Nat.testBit_lt_two_pow (Nat.lt_of_lt_of_le h2 (by rw[show (131072:Nat)=2^17 by decide];exact Nat.pow_le_pow_right (by decide) h))
  rw[this,decide_eq_false (by omega),decide_eq_false (by omega)];rfl
theorem PX (a b:Nat):2*(a^^^b)%65536=(2*a%65536)^^^(2*b%65536):=by
 apply Nat.eq_of_testBit_eq
 intro i
 rw[Nat.testBit_xor,ua,ua,ua]
 cases i with
 |zero=>simp [Nat.testBit_zero]
 |succ i=>
  have e: ∀x:Nat,(2*x).testBit (i+1)=x.testBit i:=fun x=>by
   rw[Nat.testBit_succ];congr 1;omega
  rw[e,e,e,Nat.testBit_xor]
  cases decide (i+1<16)<;>simp
theorem Mo {p:Nat} (h:p<65536):p.testBit 15=decide (65535<2*p):=by
 rw[Nat.testBit_eq_decide_div_mod_eq]
 have:p/2^15=p/32768:=rfl
 rw[this,Bool.eq_iff_iff,decide_eq_true_eq,decide_eq_true_eq];omega
theorem tT {a b:Nat} (h1:a<65536) (h2:b<65536):a^^^b<65536:=Nat.xor_lt_two_pow (n:=16) h1 h2
theorem i9 {c:Nat} (x:Bool):bX c x<65536:=by
 unfold bX
 simp only
 split
 ·exact tT (Nat.mod_lt _ (by decide)) (by decide)
 ·exact Nat.mod_lt _ (by decide)
theorem iD {s r:Nat} (hs:s<65536) (hr:r<256):iw (s^^^(r*256))=bX s (r.testBit 7)^^^((2*r%256)*256):=by
 have hp:s^^^(r*256)<65536:=tT hs (by omega)
 have hb:(s^^^(r*256)).testBit 15=(s.testBit 15 !=r.testBit 7):=by
  rw[Nat.testBit_xor,show r*256=2^8*r by omega,Nat.testBit_two_pow_mul]
  simp
 have hd:2*(s^^^(r*256))%65536=(2*s%65536)^^^((2*r%256)*256):=by
  rw[PX]
  congr 1;omega
 have h15:=Mo hp
 unfold iw bX
 simp only
 rw[←hb,h15]
 by_cases hc:65535<2*(s^^^(r*256))
 ·rw[if_pos hc,if_pos (decide_eq_true hc)]
  have e:(69665:Nat)=65536^^^4129:=by decide
  rw[e,←Nat.xor_assoc,yw (by omega) (by omega),hd,show (0x1021:Nat)=4129 by decide,Nat.xor_assoc,Nat.xor_assoc,Nat.xor_comm (2*r%256*256)]
 ·rw[if_neg hc,if_neg (by simpa using hc),←hd]
  omega
theorem BF {c b:Nat} (hc:c<65536) (hb:b<256):eQ c b=(Sound.u 8 b).foldl bX c∧eQ c b<65536:=by
 have hu:Sound.u 8 b= [b.testBit 7,b.testBit 6,b.testBit 5,b.testBit 4,b.testBit 3,b.testBit 2,b.testBit 1,b.testBit 0]:=rfl
 have tb: ∀(x i:Nat),i<7→(2*x%256).testBit (i+1)=x.testBit i:=fun x i hi=>by
  rw[show (256:Nat)=2^8 by decide,Nat.testBit_mod_two_pow,decide_eq_true (by omega),Nat.testBit_succ,Bool.true_and]
  congr 1;omega
 have lt: ∀x:Nat,2*x%256<256:=fun x=>Nat.mod_lt _ (by decide)
 have h0:=iD hc hb
 have h1:=iD (i9 (c:=c) (b.testBit 7)) (lt b)
 have h2:=iD (i9 (c:=bX c (b.testBit 7)) ((2*b%256).testBit 7)) (lt (2*b%256))
 rw[tb b 6 (by omega)] at h1 h2
 have h3:=iD (i9 (c:=bX (bX c (b.testBit 7)) (b.testBit 6)) ((2*(2*b%256)%256).testBit 7)) (lt (2*(2*b%256)%256))
 rw[tb _ 6 (by omega),tb _ 5 (by omega)] at h2 h3
 have h4:=iD (i9 (c:=bX (bX (bX c (b.testBit 7)) (b.testBit 6)) (b.testBit 5)) ((2*(2*(2*b%256)%256)%256).testBit 7)) (lt (2*(2*(2*b%256)%256)%256))
 rw[tb _ 6 (by omega),tb _ 5 (by omega),tb _ 4 (by omega)] at h3 h4
 have h5:=iD (i9 (c:=bX (bX (bX (bX c (b.testBit 7)) (b.testBit 6)) (b.testBit 5)) (b.testBit 4)) ((2*(2*(2*(2*b%256)%256)%256)%256).testBit 7)) (lt (2*(2*(2*(2*b%256)%256)%256)%256))
 rw[tb _ 6 (by omega),tb _ 5 (by omega),tb _ 4 (by omega),tb _ 3 (by omega)] at h4 h5
 have h6:=iD (i9 (c:=bX (bX (bX (bX (bX c (b.testBit 7)) (b.testBit 6)) (b.testBit 5)) (b.testBit 4)) (b.testBit 3)) ((2*(2*(2*(2*(2*b%256)%256)%256)%256)%256).testBit 7)) (lt (2*(2*(2*(2*(2*b%256)%256)%256)%256)%256))
 rw[tb _ 6 (by omega),tb _ 5 (by omega),tb _ 4 (by omega),tb _ 3 (by omega),tb _ 2 (by omega)] at h5 h6
 have h7:=iD (i9 (c:=bX (bX (bX (bX (bX (bX c (b.testBit 7)) (b.testBit 6)) (b.testBit 5)) (b.testBit 4)) (b.testBit 3)) (b.testBit 2)) ((2*(2*(2*(2*(2*(2*b%256)%256)%256)%256)%256)%256).testBit 7)) (lt (2*(2*(2*(2*(2*(2*b%256)%256)%256)%256)%256)%256))
 rw[tb _ 6 (by omega),tb _ 5 (by omega),tb _ 4 (by omega),tb _ 3 (by omega),tb _ 2 (by omega),tb _ 1 (by omega)] at h6 h7
 rw[tb _ 6 (by omega),tb _ 5 (by omega),tb _ 4 (by omega),tb _ 3 (by omega),tb _ 2 (by omega),tb _ 1 (by omega),tb _ 0 (by omega)] at h7
 have hz:2*(2*(2*(2*(2*(2*(2*(2*b%256)%256)%256)%256)%256)%256)%256)%256=0:=by omega
 have e:eQ c b=(Sound.u 8 b).foldl bX c:=by
  unfold eQ
  rw[show List.range 8= [0,1,2,3,4,5,6,7] from rfl]
  simp only [List.foldl_cons,List.foldl_nil]
  rw[h0,h1,h2,h3,h4,h5,h6,h7,hz,hu]
  simp only [List.foldl_cons,List.foldl_nil,Nat.zero_mul,Nat.xor_zero]
 rw[e]
 refine ⟨rfl,?_⟩
 rw[hu]
 simp only [List.foldl_cons,List.foldl_nil]
 exact i9 _
theorem GL (b:Sound.Bytes):su (b.map UInt8.toNat)=Sound.crc16 b:=by
 have key: ∀(l:Sound.Bytes) (c:Nat),c<65536→(l.map UInt8.toNat).foldl eQ c=(Sound.bitsOf l).foldl bX c:=by
  intro l
  induction l with
  |nil=>intro c _;rfl
  |cons x l ih=>
   intro c hc
   obtain ⟨h1,h2⟩:=BF hc x.toNat_lt
   have e:Sound.bitsOf (x::l)=Sound.u 8 x.toNat++Sound.bitsOf l:=List.flatMap_cons
   rw[List.map_cons,List.foldl_cons,e,List.foldl_append,←h1,ih _ h2]
 unfold su
 rw[key b 65535 (by decide)]
 rfl
end Wg
namespace Wg
open PySem
theorem qi (x:UInt8) (B:Sound.Bytes):Sound.bitsOf (x::B)=Sound.u 8 x.toNat++Sound.bitsOf B:=List.flatMap_cons
theorem jW: ∀B:Sound.Bytes,(Sound.bitsOf B).length=8*B.length
 | []=>rfl
 |x::B=>by rw[qi,List.length_append,rM,jW B,List.length_cons];omega
theorem Ik (x:Nat) (l:List Nat):bL (x::l)=x*256^l.length+bL l:=by
 have key: ∀(l:List Nat) (a:Nat),l.foldl (fun n c=>256*n+c) a=a*256^l.length+bL l:=by
  intro l
  induction l with
  |nil=>intro a;simp [bL]
  |cons y l ih=>
   intro a
   unfold bL
   rw[List.foldl_cons,List.foldl_cons,ih,ih (256*0+y),List.length_cons,Nat.pow_succ,Nat.add_mul,Nat.add_mul]
   have:256*a*256^l.length=a*(256^l.length*256):=by rw[Nat.mul_comm (256^l.length),←Nat.mul_assoc,Nat.mul_comm 256 a]
   omega
 show (x::l).foldl _ 0=_
 rw[List.foldl_cons,key]
 simp
theorem DN: ∀B:Sound.Bytes,Sound.value (Sound.bitsOf B)=bL (B.map UInt8.toNat)
 | []=>rfl
 |x::B=>by
  rw[qi,tD,DN B,List.map_cons,Ik,jW,List.length_map]
  have h:=x.toNat_lt
  rw[BY,Nat.mod_eq_of_lt (by omega),Nat.pow_mul]
theorem Bs: ∀(B:Sound.Bytes) (i:Nat),Sound.bitsOf (B.drop i)=(Sound.bitsOf B).drop (8*i)
 |B,0=>by simp
 | [],i+1=>by simp [Sound.bitsOf]
 |x::B,i+1=>by
  rw[List.drop_succ_cons,Bs B i,qi,show 8*(i+1)=8+8*i by omega,←List.drop_drop,List.drop_left' (rM 8 _)]
theorem BV: ∀(B:Sound.Bytes) (i:Nat),Sound.bitsOf (B.take i)=(Sound.bitsOf B).take (8*i)
 |B,0=>by simp [Sound.bitsOf]
 | [],i+1=>by simp [Sound.bitsOf]
 |x::B,i+1=>by
  rw[List.take_succ_cons,qi,BV B i,qi,show 8*(i+1)=(Sound.u 8 x.toNat).length+8*i by rw[rM];omega,List.take_length_add_append]
theorem Ie {B:Sound.Bytes} {p n:Nat} (h:p+n≤8*B.length):
  bL (((B.drop (p/8)).take ((p+n+7)/8-p/8)).map UInt8.toNat)/2^(8*((p+n+7)/8)-(p+n))%2^n=Sound.value (((Sound.bitsOf B).drop p).take n):=by
 rw[←DN,BV,Bs]
 generalize hj:(p+n+7)/8=j
 generalize hi:p/8=i
 have hL:=jW B
 generalize Sound.bitsOf B=L at*
 have e:(L.drop (8*i)).take (8*(j-i))=(L.drop (8*i)).take (p-8*i)++((L.drop p).take n++(L.drop (p+n)).take (8*j-(p+n))):=by
  have h1:8*(j-i)=(p-8*i)+(n+(8*j-(p+n))):=by omega
  rw[h1,List.take_add,List.drop_drop,show 8*i+(p-8*i)=p by omega,List.take_add,List.drop_drop]
 rw[e,tD,tD]
 have l1:((L.drop p).take n).length=n:=by rw[List.length_take,List.length_drop];omega
 have l2:((L.drop (p+n)).take (8*j-(p+n))).length=8*j-(p+n):=by rw[List.length_take,List.length_drop];omega
 have v1:=lh ((L.drop p).take n)
 have v2:=lh ((L.drop (p+n)).take (8*j-(p+n)))
 rw[List.length_append,l1,l2]
 rw[l1] at v1
 rw[l2] at v2
 generalize Sound.value ((L.drop (8*i)).take (p-8*i))=x
 generalize Sound.value ((L.drop p).take n)=y at*
 generalize Sound.value ((L.drop (p+n)).take (8*j-(p+n)))=z at*
 generalize 8*j-(p+n)=m at*
 have e2:x*2^(n+m)+(y*2^m+z)=(x*2^n+y)*2^m+z:=by rw[Nat.pow_add,Nat.add_mul,Nat.mul_assoc];omega
 rw[e2,Nat.add_comm _ z,Nat.add_mul_div_right _ _ (Nat.two_pow_pos m),Nat.div_eq_of_lt v2,Nat.zero_add,Nat.add_comm,Nat.add_mul_mod_self_right,Nat.mod_eq_of_lt v1]
theorem jG (n:Nat) (l:Sound.Bits):Sound.lacks n l=true↔l.length<n:=by
 unfold Sound.lacks
 rw[Bool.and_eq_true,decide_eq_true_eq,List.isEmpty_iff,List.drop_eq_nil_iff]
 omega
theorem MA (l:Sound.Bits):Sound.svalue l=(Sound.value l:Int)-2*(if l.head?=some true then (2^(l.length-1):Nat) else 0:Nat):=by
 unfold Sound.svalue
 split
 ·rename_i h
  cases l with
  |nil=>cases h
  |cons b l=>
   rw[List.length_cons,Nat.add_sub_cancel]
   have:((2:Int)^(l.length+1))=2*((2^l.length:Nat):Int):=by
    rw[Int.pow_succ,Int.mul_comm];simp
   rw[this]
 ·simp
theorem Ow {l:Sound.Bits}:(Sound.value l)&&&(2^l.length/2)=if l.head?=some true then 2^(l.length-1) else 0:=by
 cases l with
 |nil=>rfl
 |cons b l=>
  rw[List.length_cons,Nat.add_sub_cancel,Nat.pow_succ,Nat.mul_div_cancel _ (by decide)]
  rw[rL]
  have v:=lh l
  apply Nat.eq_of_testBit_eq
  intro i
  rw[Nat.testBit_and,Nat.testBit_two_pow]
  have hh:((if b=true then 1 else 0)*2^l.length+Sound.value l).testBit l.length=b:=by
   have:=Nat.testBit_two_pow_mul_add (if b=true then 1 else 0) v l.length
   rw[Nat.mul_comm,this,if_neg (Nat.lt_irrefl _),Nat.sub_self]
   cases b<;>rfl
  by_cases q:l.length=i
  ·subst q
   rw[decide_eq_true rfl,Bool.and_true,hh]
   cases b<;>simp [Nat.testBit_two_pow]
  ·rw[decide_eq_false q,Bool.and_false]
   cases b
   ·simp
   ·simp [Nat.testBit_two_pow,q]
end Wg
namespace Wg
open PySem PySem.Spec PyProof.Rows L2
def top (i:Nat):Stmt:=PySem.Challenge.pw_soundkeeping_s08_hear.main.body.getD i (.Pass ⟨0,0,0,0⟩)
abbrev Ck:Stmt:=top 5
abbrev Dn:Stmt:=top 10
abbrev EJ:Stmt:=top 11
abbrev Dz:Stmt:=top 16
abbrev DO:Stmt:=top 22
abbrev EH:Stmt:=top 23
abbrev CL:Stmt:=top 24
abbrev zM:Stmt:=top 25
abbrev yJ:Stmt:=top 26
abbrev Aw:Stmt:=top 34
abbrev yP:Stmt:=top 35
abbrev Ey:Stmt:=top 36
abbrev CD:Stmt:=top 37
abbrev Eg:Stmt:=top 38
abbrev yB:Stmt:=top 44
abbrev DH:Stmt:=top 45
abbrev z9:Stmt:=top 46
abbrev CV:Stmt:=top 47
abbrev yj:Stmt:=top 48
abbrev DY:Stmt:=top 49
abbrev zr:Stmt:=top 50
abbrev Cm:Stmt:=top 51
abbrev CI:Stmt:=top 55
abbrev A3:Stmt:=top 56
abbrev xV:Stmt:=top 57
abbrev Ci:Stmt:=top 58
abbrev DI:Stmt:=top 74
abbrev AZ:Stmt:=top 75
abbrev Dj:Stmt:=top 76
abbrev Cf:Stmt:=top 85
abbrev yW:Stmt:=top 86
abbrev yz:Stmt:=top 89
abbrev B3:Stmt:=top 90
abbrev zm:Stmt:=top 91
abbrev Ay:Stmt:=top 92
abbrev EZ:Stmt:=top 97
abbrev CH:Stmt:=top 98
abbrev Ex:Stmt:=top 99
abbrev Ed:Stmt:=top 100
abbrev EF:Stmt:=top 103
abbrev yg:Stmt:=top 104
abbrev AK:Stmt:=top 113
abbrev zy:Stmt:=top 114
abbrev y8:Stmt:=top 115
abbrev zH:Stmt:=top 116
abbrev z8:Stmt:=top 117
abbrev Aj:Stmt:=top 118
abbrev zj:Stmt:=top 119
abbrev Ez:Stmt:=top 120
abbrev yn:Stmt:=top 121
abbrev EV:Stmt:=top 123
abbrev Cg:Stmt:=top 124
abbrev yH:Stmt:=inClass (top 4) 0
abbrev BL:Stmt:=inClass (top 4) 1
abbrev AX:Stmt:=inClass (top 4) 2
abbrev EA:Stmt:=inClass (top 4) 3
abbrev AR:Stmt:=inClass (top 9) 0
abbrev Cr:Stmt:=inClass (top 9) 1
abbrev Bz:Stmt:=inClass (top 9) 2
abbrev Df:Stmt:=inClass (top 9) 4
abbrev zN:Stmt:=inClass (top 9) 5
abbrev zD:Stmt:=inClass (top 15) 0
abbrev Dg:Stmt:=inClass (top 15) 1
abbrev AE:Stmt:=inClass (top 33) 0
abbrev CT:Stmt:=inClass (top 33) 1
abbrev B1:Stmt:=inClass (top 33) 2
abbrev yc:Stmt:=inClass (top 42) 0
abbrev yQ:Stmt:=inClass (top 42) 1
abbrev Cb:Stmt:=inClass (top 43) 0
abbrev CO:Stmt:=inClass (top 62) 0
abbrev AW:Stmt:=inClass (top 62) 1
abbrev Br:Stmt:=inClass (top 62) 2
abbrev DG:Stmt:=inClass (top 62) 3
abbrev ym:Stmt:=inClass (top 62) 4
abbrev zp:Stmt:=inClass (top 62) 5
abbrev Bu:Stmt:=inClass (top 73) 0
abbrev Bi:Stmt:=inClass (top 84) 0
abbrev Cu:Stmt:=inClass (top 112) 0
set_option genInjectivity false in
structure aT where
 (oZ pE nQ mD oY mK pQ mF oH oE nH lR p8 nX oS ml qy ng pD lC mU mI qD mG pw oO qg qH qp pO nc lI nN p7 lP qE oh oy mv pK oV mL qv iG iB jt jn qf pI jq nB o6 mQ mR nR qo pd m9 nI lW pH pS lG lN pk nk mW pG oG qa kK ko pB p9 m8 qu nM mV aQ bH cx bK dk dC ay bU eC br iN fz bT oN kG mz jg pC pb qA pj nz oi oP nu pX mh lU lX:Addr)
 (pR mH qG lY nZ oQ lZ m6 qJ mY lM pW o9 oK oX oz mM lD my pM pf o4 qB lJ o3 nY qb lE mX mq nO pA qC pV ni oI lL mf nV qc m7 lB pP lz kr qd om pY ow ph jI mS ou o8 pq mZ p5 pN nS nA ny lQ pz mT lA mw oF lF lV nU kn kL mi oM mP nW nv oW:FuncData)
 (vt xO wV vd wA um uh wL v9 vv uS wQ xh xl uC vg vP uL wB uU uk uM wt vf vn xG xA xP xk vG wO xI vZ xg ux wu vM xy vE:Tok)
structure Txt (K:PySem.W.Frag) (mg:Str→Option Value) (A:aT):Prop where
 IU:mg "BitReader" =some (.ref A.aQ)
 OL:mg "Form" =some (.ref A.bH)
 EK:mg "Guess" =some (.ref A.cx)
 Jg:mg "PartTaken" =some (.ref A.bK)
 Gp:mg "Partner" =some (.ref A.dk)
 Ng:mg "FrameTaken" =some (.ref A.dC)
 Lu:mg "Reading" =some (.ref A.ay)
 FZ:mg "Tag" =some (.ref A.bU)
 RH:mg "Head" =some (.ref A.eC)
 KO:mg "Hearing" =some (.ref A.br)
 Ka:mg "crc16" =some (.ref A.oZ)
 BQ:aH K "crc16" "crc16" Ck A.oZ A.pR
 IG:Binds K A.pR ["data"] []
 QO:mg "is_form" =some (.ref A.pE)
 DE:aH K "is_form" "is_form" Dn A.pE A.mH
 Lb:Binds K A.mH ["form"] []
 AG:mg "fits" =some (.ref A.nQ)
 wj:aH K "fits" "fits" EJ A.nQ A.qG
 Bo:Binds K A.qG ["width", "number"] []
 Fh:mg "fixed_guess" =some (.ref A.mD)
 A5:aH K "fixed_guess" "fixed_guess" Dz A.mD A.lY
 Qz:Binds K A.lY ["order"] []
 QJ:mg "unfolded_rest" =some (.ref A.oY)
 Ae:aH K "unfolded_rest" "unfolded_rest" DO A.oY A.nZ
 P9:Binds K A.nZ ["folded"] []
 Md:mg "can_split" =some (.ref A.mK)
 DX:aH K "can_split" "can_split" EH A.mK A.oQ
 FQ:Binds K A.oQ ["n", "order", "r"] []
 OA:mg "read_rests" =some (.ref A.pQ)
 BA:aH K "read_rests" "read_rests" CL A.pQ A.lZ
 Ft:Binds K A.lZ ["reader", "n", "order", "part"] []
 Ls:mg "read_group" =some (.ref A.mF)
 yx:aH K "read_group" "read_group" zM A.mF A.m6
 Ly:Binds K A.m6 ["reader", "count", "part"] []
 Ln:mg "read_plain" =some (.ref A.oH)
 Ab:aH K "read_plain" "read_plain" yJ A.oH A.qJ
 KN:Binds K A.qJ ["reader", "count", "part"] []
 P0:mg "order_of_kind" =some (.ref A.oE)
 Ag:aH K "order_of_kind" "order_of_kind" Aw A.oE A.mY
 JD:Binds K A.mY ["kind"] []
 uO:mg "read_part" =some (.ref A.nH)
 tO:aH K "read_part" "read_part" yP A.nH A.lM
 vq:Binds K A.lM ["reader", "n", "width", "partner"] []
 RG:mg "read_zeros" =some (.ref A.lR)
 yM:aH K "read_zeros" "read_zeros" Ey A.lR A.pW
 Gv:Binds K A.pW ["reader", "width"] []
 yF:mg "read_plainly" =some (.ref A.p8)
 uA:aH K "read_plainly" "read_plainly" CD A.p8 A.o9
 yG:Binds K A.o9 ["reader", "count", "part"] []
 IL:mg "read_guessed" =some (.ref A.nX)
 xR:aH K "read_guessed" "read_guessed" Eg A.nX A.oK
 PU:Binds K A.oK ["reader", "n", "kind", "part"] []
 Bx:mg "joined_pair" =some (.ref A.oS)
 w6:aH K "joined_pair" "joined_pair" yB A.oS A.oX
 DZ:Binds K A.oX ["mode", "x", "y"] []
 Gj:mg "first_width" =some (.ref A.ml)
 AM:aH K "first_width" "first_width" DH A.ml A.oz
 Lc:Binds K A.oz ["mode", "depth"] []
 MP:mg "second_width" =some (.ref A.qy)
 yl:aH K "second_width" "second_width" z9 A.qy A.mM
 F7:Binds K A.mM ["mode", "depth"] []
 RZ:mg "read_frame" =some (.ref A.ng)
 zJ:aH K "read_frame" "read_frame" CV A.ng A.lD
 RK:Binds K A.lD ["form", "data"] []
 LI:mg "read_items" =some (.ref A.pD)
 zd:aH K "read_items" "read_items" yj A.pD A.my
 OE:Binds K A.my ["form", "reader"] []
 LX:mg "read_channels" =some (.ref A.lC)
 A6:aH K "read_channels" "read_channels" DY A.lC A.pM
 Gn:Binds K A.pM ["form", "n", "reader"] []
 QG:mg "read_pair" =some (.ref A.mU)
 BP:aH K "read_pair" "read_pair" zr A.mU A.pf
 Ku:Binds K A.pf ["depth", "n", "mode", "reader"] []
 QX:mg "read_end" =some (.ref A.mI)
 CB:aH K "read_end" "read_end" Cm A.mI A.o4
 QI:Binds K A.o4 ["reader"] []
 kH:mg "to_octets" =some (.ref A.qD)
 jm:aH K "to_octets" "to_octets" CI A.qD A.qB
 kP:Binds K A.qB ["count", "number"] []
 rl:mg "from_octets" =some (.ref A.mG)
 pJ:aH K "from_octets" "from_octets" A3 A.mG A.lJ
 rC:Binds K A.lJ ["data"] []
 wq:mg "crc32" =some (.ref A.pw)
 tU:aH K "crc32" "crc32" xV A.pw A.o3
 wy:Binds K A.o3 ["data"] []
 Mn:mg "sealed" =some (.ref A.oO)
 ES:aH K "sealed" "sealed" Ci A.oO A.nY
 PV:Binds K A.nY ["data"] []
 QU:mg "can_be_key" =some (.ref A.qg)
 Bb:aH K "can_be_key" "can_be_key" DI A.qg A.qb
 QA:Binds K A.qb ["key"] []
 Lr:mg "read_tag" =some (.ref A.qH)
 yY:aH K "read_tag" "read_tag" AZ A.qH A.lE
 JC:Binds K A.lE ["reading", "end", "tags"] []
 JR:mg "read_tags" =some (.ref A.qp)
 AS:aH K "read_tags" "read_tags" Dj A.qp A.mX
 MV:Binds K A.mX ["reading", "size", "tags"] []
 L4:mg "read_head" =some (.ref A.pO)
 yq:aH K "read_head" "read_head" Cf A.pO A.mq
 Qu:Binds K A.mq ["reading"] []
 IY:mg "head_told" =some (.ref A.nc)
 DD:aH K "head_told" "head_told" yW A.nc A.nO
 Lh:Binds K A.nO ["data"] []
 zz:mg "products" =some (.ref A.lI)
 vT:aH K "products" "products" yz A.lI A.pA
 AO:Binds K A.pA ["factor"] []
 GI:mg "inverse" =some (.ref A.nN)
 Ek:aH K "inverse" "inverse" B3 A.nN A.qC
 Fg:Binds K A.qC ["number"] []
 GK:mg "scaled" =some (.ref A.p7)
 zA:aH K "scaled" "scaled" zm A.p7 A.pV
 M8:Binds K A.pV ["factor", "data"] []
 MZ:mg "added" =some (.ref A.lP)
 CS:aH K "added" "added" Ay A.lP A.ni
 JS:Binds K A.ni ["one", "other"] []
 Nd:mg "factor_of" =some (.ref A.qE)
 zF:aH K "factor_of" "factor_of" EZ A.qE A.oI
 OR:Binds K A.oI ["i", "j"] []
 Rm:mg "row_sum" =some (.ref A.oh)
 AQ:aH K "row_sum" "row_sum" CH A.oh A.lL
 Jo:Binds K A.lL ["j", "row_size", "frames"] []
 Pd:mg "longest_row" =some (.ref A.oy)
 AL:aH K "longest_row" "longest_row" Ex A.oy A.mf
 QW:Binds K A.mf ["frames"] []
 IW:mg "write_piece" =some (.ref A.mv)
 Ea:aH K "write_piece" "write_piece" Ed A.mv A.nV
 OH:Binds K A.nV ["g", "j", "frames"] []
 L6:mg "write_sum" =some (.ref A.pK)
 BX:aH K "write_sum" "write_sum" EF A.pK A.qc
 QB:Binds K A.qc ["depth", "numbers"] []
 FI:mg "plain_bytes" =some (.ref A.oV)
 B7:aH K "plain_bytes" "plain_bytes" yg A.oV A.m7
 Nb:Binds K A.m7 ["depth", "numbers"] []
 M0:mg "hear_file" =some (.ref A.mL)
 DR:aH K "hear_file" "hear_file" AK A.mL A.lB
 Mc:Binds K A.lB ["data"] []
 Qa:mg "heard" =some (.ref A.qv)
 zU:aH K "heard" "heard" zy A.qv A.pP
 Px:Binds K A.pP ["data", "stages"] []
 PK:mg "hear_head" =some (.ref A.iG)
 xU:aH K "hear_head" "hear_head" y8 A.iG A.lz
 Ma:Binds K A.lz ["hearing"] []
 Lx:mg "hear_tags" =some (.ref A.iB)
 DS:aH K "hear_tags" "hear_tags" zH A.iB A.kr
 Oc:Binds K A.kr ["hearing"] []
 G1:mg "hear_index" =some (.ref A.jt)
 zW:aH K "hear_index" "hear_index" z8 A.jt A.qd
 JB:Binds K A.qd ["hearing"] []
 Oo:mg "hear_body" =some (.ref A.jn)
 CM:aH K "hear_body" "hear_body" Aj A.jn A.om
 ME:Binds K A.om ["hearing"] []
 Ip:mg "hear_frame" =some (.ref A.qf)
 zb:aH K "hear_frame" "hear_frame" zj A.qf A.pY
 Jp:Binds K A.pY ["hearing", "k"] []
 N0:mg "hear_piece" =some (.ref A.pI)
 xY:aH K "hear_piece" "hear_piece" Ez A.pI A.ow
 RE:Binds K A.ow ["reading", "piece"] []
 Ny:mg "hear_end" =some (.ref A.jq)
 x8:aH K "hear_end" "hear_end" yn A.jq A.ph
 Kf:Binds K A.ph ["hearing"] []
 Q9:mg "hear" =some (.ref A.nB)
 JX:aH K "hear" "hear" EV A.nB A.jI
 R1:Binds K A.jI ["data"] []
 K7:mg "head_answer" =some (.ref A.o6)
 yT:aH K "head_answer" "head_answer" Cg A.o6 A.mS
 E9:Binds K A.mS ["head"] []
 O8:Mk K A.aQ A.mQ
 LN:aH K "__init__" "BitReader.__init__" yH A.mQ A.ou
 G2:Binds K A.ou ["self", "data"] []
 dZ:Meth K A.aQ "unsigned" A.mR
 NO:aH K "unsigned" "BitReader.unsigned" BL A.mR A.o8
 dU:Binds K A.o8 ["self", "width"] []
 qP:Meth K A.aQ "signed" A.nR
 Lw:aH K "signed" "BitReader.signed" AX A.nR A.pq
 rX:Binds K A.pq ["self", "width"] []
 Cc:Meth K A.aQ "run" A.qo
 Qm:aH K "run" "BitReader.run" EA A.qo A.mZ
 Eb:Binds K A.mZ ["self", "most"] []
 GJ:Mk K A.bH A.pd
 F9:aH K "__init__" "Form.__init__" AR A.pd A.p5
 O9:Binds K A.p5 ["self", "form"] []
 QY:Meth K A.bH "frame_count" A.m9
 Ke:aH K "frame_count" "Form.frame_count" Cr A.m9 A.pN
 Jz:Binds K A.pN ["self", "samples"] []
 N2:Meth K A.bH "frame_samples" A.nI
 My:aH K "frame_samples" "Form.frame_samples" Bz A.nI A.nS
 IB:Binds K A.nS ["self", "k", "samples"] []
 Jb:Meth K A.bH "kept_numbers" A.lW
 Rj:aH K "kept_numbers" "Form.kept_numbers" Df A.lW A.nA
 FN:Binds K A.nA ["self"] []
 JH:Meth K A.bH "last_of_group" A.pH
 Qq:aH K "last_of_group" "Form.last_of_group" zN A.pH A.ny
 Ox:Binds K A.ny ["self", "k", "frame_count"] []
 Be:Mk K A.cx A.pS
 Jh:aH K "__init__" "Guess.__init__" zD A.pS A.lQ
 yR:Binds K A.lQ ["self", "factors", "shift"] []
 Kp:Meth K A.cx "at" A.lG
 O1:aH K "at" "Guess.at" Dg A.lG A.pz
 JI:Binds K A.pz ["self", "numbers", "place"] []
 Pw:Mk K A.bK A.lN
 NZ:aH K "__init__" "PartTaken.__init__" AE A.lN A.mT
 Nt:Binds K A.mT ["self", "width", "z", "partner"] []
 wR:Meth K A.bK "take" A.pk
 La:aH K "take" "PartTaken.take" CT A.pk A.lA
 uj:Binds K A.lA ["self", "number"] []
 Dc:Meth K A.bK "take_rest" A.nk
 Q7:aH K "take_rest" "PartTaken.take_rest" B1 A.nk A.mw
 DU:Binds K A.mw ["self", "rest"] []
 IT:Mk K A.dk A.mW
 GO:aH K "__init__" "Partner.__init__" yc A.mW A.oF
 FE:Binds K A.oF ["self", "mode", "depth", "numbers"] []
 OC:Meth K A.dk "judge" A.pG
 Km:aH K "judge" "Partner.judge" yQ A.pG A.lF
 MQ:Binds K A.lF ["self", "place", "number"] []
 Io:Mk K A.dC A.oG
 NH:aH K "__init__" "FrameTaken.__init__" Cb A.oG A.lV
 Pa:Binds K A.lV ["self", "size", "k", "n", "numbers"] []
 QE:Mk K A.ay A.qa
 Qv:aH K "__init__" "Reading.__init__" CO A.qa A.nU
 KY:Binds K A.nU ["self", "data"] []
 dv:Meth K A.ay "stop_at" A.kK
 A1:aH K "stop_at" "Reading.stop_at" AW A.kK A.kn
 dw:Binds K A.kn ["self", "fault", "place"] []
 C9:Meth K A.ay "end_too_soon" A.ko
 C0:aH K "end_too_soon" "Reading.end_too_soon" Br A.ko A.kL
 AA:Binds K A.kL ["self"] []
 iJ:Meth K A.ay "take" A.pB
 O3:aH K "take" "Reading.take" DG A.pB A.mi
 iE:Binds K A.mi ["self", "count"] []
 kh:Meth K A.ay "number" A.p9
 PL:aH K "number" "Reading.number" ym A.p9 A.oM
 lq:Binds K A.oM ["self", "count"] []
 uF:Meth K A.ay "seal" A.m8
 FK:aH K "seal" "Reading.seal" zp A.m8 A.mP
 uK:Binds K A.mP ["self", "begin", "fault"] []
 Nm:Mk K A.bU A.qu
 Mt:aH K "__init__" "Tag.__init__" Bu A.qu A.nW
 Gw:Binds K A.nW ["self", "key", "value"] []
 J7:Mk K A.eC A.nM
 Mz:aH K "__init__" "Head.__init__" Bi A.nM A.nv
 OM:Binds K A.nv ["self", "form", "samples", "tags_size"] []
 F3:Mk K A.br A.mV
 L5:aH K "__init__" "Hearing.__init__" Cu A.mV A.oW
 LF:Binds K A.oW ["self", "data"] []
 bP:b8 K A.aQ
 so:a9 K A.aQ "data"
 jJ:a9 K A.aQ "place"
 b4:b8 K A.bH
 rJ:a9 K A.bH "channels"
 nq:a9 K A.bH "depth"
 jz:a9 K A.bH "block"
 NI:a9 K A.bH "order"
 sV:a9 K A.bH "group"
 vK:a9 K A.bH "spare"
 qw:b8 K A.cx
 BK:a9 K A.cx "factors"
 B4:a9 K A.cx "shift"
 cf:b8 K A.bK
 rB:a9 K A.bK "width"
 wU:a9 K A.bK "z"
 vU:a9 K A.bK "partner"
 uc:a9 K A.bK "guess"
 kx:a9 K A.bK "taken"
 jC:b8 K A.dk
 zV:a9 K A.dk "mode"
 DP:a9 K A.dk "depth"
 Ef:a9 K A.dk "numbers"
 jb:b8 K A.dC
 Cd:a9 K A.dC "size"
 EG:a9 K A.dC "k"
 Ec:a9 K A.dC "n"
 zX:a9 K A.dC "numbers"
 aM:b8 K A.ay
 fW:a9 K A.ay "data"
 cG:a9 K A.ay "place"
 sX:a9 K A.ay "fault"
 sS:a9 K A.ay "fault_place"
 vj:b8 K A.bU
 yS:a9 K A.bU "key"
 Lf:a9 K A.bU "value"
 e9:b8 K A.eC
 lr:a9 K A.eC "form"
 r8:a9 K A.eC "samples"
 xE:a9 K A.eC "tags_size"
 bD:b8 K A.br
 iu:a9 K A.br "reading"
 f7:a9 K A.br "head"
 uQ:a9 K A.br "tags"
 qF:a9 K A.br "starts"
 vw:a9 K A.br "index_bytes"
 vc:a9 K A.br "frames_taken"
 nL:a9 K A.br "numbers"
 rh:mg "Short" =some (.ref A.iN)
 rq:Own K A.iN
 eX:mg "Wrong" =some (.ref A.fz)
 d8:Own K A.fz
 vH:mg "Faulty" =some (.ref A.bT)
 xa:Own K A.bT
 zZ:A.iN≠A.fz
 R4:A.iN≠A.bT
 R3:A.fz≠A.bT
 Fm:mg "MOST_NUMBERS" =some (.int 2048 A.vt)
 JN:mg "FACTOR_WIDTH" =some (.int 12 A.xO)
 PY:mg "GREATEST_SPLIT" =some (.int 6 A.wV)
 O4:mg "PLAIN" =some (.int 31 A.vd)
 Ga:mg "GREATEST_PLAIN_WIDTH" =some (.int 40 A.wA)
 Qs:mg "GREATEST_FOLDED" =some (.int 1099511627775 A.um)
 QC:mg "SAME" =some (.int 0 A.uh)
 RC:mg "PLAIN_KIND" =some (.int 1 A.wL)
 Rq:mg "FIRST_FIXED" =some (.int 2 A.v9)
 xu:mg "FIRST_LINEAR" =some (.int 7 A.vv)
 Ql:mg "LAST_KIND" =some (.int 10 A.uS)
 NN:mg "MARK_frames" =some (.int 19287 A.wQ)
 vi:mg "LONGEST" =some (.int 4096 A.xh)
 sJ:mg "CRC32_SIZE" =some (.int 4 A.xl)
 AV:mg "ENDS_TOO_SOON" =some (.int 1 A.uC)
 kC:mg "BAD_TAGS" =some (.int 5 A.vg)
 L9:mg "BAD_TAGS_CHECK" =some (.int 6 A.vP)
 Kc:mg "MOST_TAGS" =some (.int 16 A.uL)
 Rp:mg "LONGEST_KEY" =some (.int 32 A.wB)
 Ic:mg "COUNT_SIZE" =some (.int 2 A.uU)
 Av:mg "VALUE_LENGTH_SIZE" =some (.int 2 A.uk)
 P4:mg "LEAST_TAGS_SIZE" =some (.int 6 A.uM)
 IJ:mg "MOST_TAGS_SIZE" =some (.int 1024 A.wt)
 J6:mg "EQUALS_SIGN" =some (.int 61 A.vf)
 Jd:mg "HEAD_SIZE" =some (.int 26 A.vn)
 LA:mg "ORDER" =some (.int 4 A.xG)
 Ru:mg "BAD_MARK" =some (.int 2 A.xA)
 OK:mg "BAD_SHAPE" =some (.int 3 A.xP)
 Pt:mg "BAD_HEAD_CHECK" =some (.int 4 A.xk)
 NJ:mg "MODULUS" =some (.int 285 A.vG)
 Ki:mg "MARK_spares" =some (.int 19280 A.wO)
 xM:mg "LENGTH_SIZE" =some (.int 2 A.xI)
 J5:mg "FIRST_DIVISOR" =some (.int 128 A.vZ)
 N3:mg "ENTRY_SIZE" =some (.int 3 A.xg)
 Om:mg "BAD_ENTRY" =some (.int 7 A.ux)
 Gm:mg "BAD_INDEX_CHECK" =some (.int 8 A.wu)
 rQ:mg "BAD_BODY" =some (.int 9 A.vM)
 F6:mg "BAD_END" =some (.int 10 A.xy)
 JG:mg "BYTES_BEHIND" =some (.int 11 A.vE)
 x4:mg "RANGES" =some (.ref A.jg)
 pZ: ∀H,aY K H A.jg [V.ref A.pC,V.ref A.pb,V.ref A.qA,V.ref A.pj,V.ref A.nz,V.ref A.oi]
 NK: ∀H,aY K H A.pC [V.int (1),V.int (4)]
 Fs: ∀H,aY K H A.pb [V.int (4),V.int (24)]
 KC: ∀H,aY K H A.qA [V.int (16),V.int (256)]
 JP: ∀H,aY K H A.pj [V.int (0),V.int (4)]
 MK: ∀H,aY K H A.nz [V.int (1),V.int (8)]
 Mg: ∀H,aY K H A.oi [V.int (0),V.int (4)]
 Rz:mg "FIXED" =some (.ref A.oP)
 Q4: ∀H,aY K H A.oP [V.ref A.nu,V.ref A.pX,V.ref A.mh,V.ref A.lU,V.ref A.lX]
 KW: ∀H,aY K H A.nu []
 Mi: ∀H,aY K H A.pX [V.int (1)]
 Ko: ∀H,aY K H A.mh [V.int (2),V.int (-1)]
 Po: ∀H,aY K H A.lU [V.int (3),V.int (-3),V.int (1)]
 Lj: ∀H,aY K H A.lX [V.int (4),V.int (-6),V.int (4),V.int (-1)]
 Cj:mg "CRC32_STEPS" =some (.ref A.oN)
 GV: ∀H,aY K H A.oN [V.int (0),V.int (498536548),V.int (997073096),V.int (651767980),V.int (1994146192),V.int (1802195444),V.int (1303535960),V.int (1342533948),V.int (3988292384),V.int (4027552580),V.int (3604390888),V.int (3412177804),V.int (2607071920),V.int (2262029012),V.int (2685067896),V.int (3183342108)]
 DA:mg "MARK_heads" =some (.ref A.kG)
 Ca: ∀H,aY K H A.kG [V.int (83),V.int (75),V.int (69),V.int (69),V.int (80),V.int (1),V.int (13),V.int (10)]
 MC:mg "LOOKS" =some (.ref A.mz)
 E5: ∀H,aY K H A.mz [V.int (2),V.int (4),V.int (5),V.int (7)]
 zE:mg "all" =none
 Fi:mg "any" =none
 zP:mg "enumerate" =none
 cW:mg "len" =none
 xB:mg "list" =none
 E3:mg "max" =none
 RU:mg "min" =none
 dQ:mg "range" =none
 wz:mg "zip" =none
 entry: ∀(s:Shared) (us:List Value),us.length=(["data"]:List Str).length→BindsTo s A.jI ⟨us, []⟩ ((["data"]:List Str).zip us)
theorem NG {K:PySem.W.Frag} {a:Addr} {d:Option Addr} {n:Nat} {s:Array (Option Value)} {i:Array Value} {x:List V} (t:K.lookup a=some ⟨.type "tuple",d, .seq i n,s⟩) (z:i.size≤sizeLine) (v:Vals x i.toList) (H:Hp):aY K H a x:= .inr ⟨_,_,_,t,rfl,rfl,z,v⟩
theorem Qd {K:PySem.W.Frag} {mg:Str→Option Value} {oZ pE nQ mD oY mK pQ mF oH oE nH lR p8 nX oS ml qy ng pD lC mU mI qD mG pw oO qg qH qp pO nc lI nN p7 lP qE oh oy mv pK oV mL qv iG iB jt jn qf pI jq nB o6 mQ mR nR qo pd m9 nI lW pH pS lG lN pk nk mW pG oG qa kK ko pB p9 m8 qu nM mV aQ bH cx bK dk dC ay bU eC br iN fz bT oN kG mz jg pC pb qA pj nz oi oP nu pX mh lU lX:Addr} {pR mH qG lY nZ oQ lZ m6 qJ mY lM pW o9 oK oX oz mM lD my pM pf o4 qB lJ o3 nY qb lE mX mq nO pA qC pV ni oI lL mf nV qc m7 lB pP lz kr qd om pY ow ph jI mS ou o8 pq mZ p5 pN nS nA ny lQ pz mT lA mw oF lF lV nU kn kL mi oM mP nW nv oW:FuncData} {vt xO wV vd wA um uh wL v9 vv uS wQ xh xl uC vg vP uL wB uU uk uM wt vf vn xG xA xP xk vG wO xI vZ xg ux wu vM xy vE:Tok} (h:Txt K mg ⟨oZ,pE,nQ,mD,oY,mK,pQ,mF,oH,oE,nH,lR,p8,nX,oS,ml,qy,ng,pD,lC,mU,mI,qD,mG,pw,oO,qg,qH,qp,pO,nc,lI,nN,p7,lP,qE,oh,oy,mv,pK,oV,mL,qv,iG,iB,jt,jn,qf,pI,jq,nB,o6,mQ,mR,nR,qo,pd,m9,nI,lW,pH,pS,lG,lN,pk,nk,mW,pG,oG,qa,kK,ko,pB,p9,m8,qu,nM,mV,aQ,bH,cx,bK,dk,dC,ay,bU,eC,br,iN,fz,bT,oN,kG,mz,jg,pC,pb,qA,pj,nz,oi,oP,nu,pX,mh,lU,lX,pR,mH,qG,lY,nZ,oQ,lZ,m6,qJ,mY,lM,pW,o9,oK,oX,oz,mM,lD,my,pM,pf,o4,qB,lJ,o3,nY,qb,lE,mX,mq,nO,pA,qC,pV,ni,oI,lL,mf,nV,qc,m7,lB,pP,lz,kr,qd,om,pY,ow,ph,jI,mS,ou,o8,pq,mZ,p5,pN,nS,nA,ny,lQ,pz,mT,lA,mw,oF,lF,lV,nU,kn,kL,mi,oM,mP,nW,nv,oW,vt,xO,wV,vd,wA,um,uh,wL,v9,vv,uS,wQ,xh,xl,uC,vg,vP,uL,wB,uU,uk,uM,wt,vf,vn,xG,xA,xP,xk,vG,wO,xI,vZ,xg,ux,wu,vM,xy,vE⟩): ∃A,Txt K mg A:=⟨_,h⟩
theorem MX {K:PySem.W.Frag} {fd:FuncData} {a0:Str} (h: ∀u0,bindArgs fd ⟨[u0], []⟩=pure [(a0,u0)]):Binds K fd [a0] []:= .all fun us hl=>match us,hl with| [u0],_=>h u0
theorem Q8 {K:PySem.W.Frag} {fd:FuncData} {a0 a1:Str} (h: ∀u0 u1,bindArgs fd ⟨[u0,u1], []⟩=pure [(a0,u0),(a1,u1)]):Binds K fd [a0,a1] []:= .all fun us hl=>match us,hl with| [u0,u1],_=>h u0 u1
theorem KI {K:PySem.W.Frag} {fd:FuncData} {a0 a1 a2:Str} (h: ∀u0 u1 u2,bindArgs fd ⟨[u0,u1,u2], []⟩=pure [(a0,u0),(a1,u1),(a2,u2)]):Binds K fd [a0,a1,a2] []:= .all fun us hl=>match us,hl with| [u0,u1,u2],_=>h u0 u1 u2
theorem PD {K:PySem.W.Frag} {fd:FuncData} {a0 a1 a2 a3:Str} (h: ∀u0 u1 u2 u3,bindArgs fd ⟨[u0,u1,u2,u3], []⟩=pure [(a0,u0),(a1,u1),(a2,u2),(a3,u3)]):Binds K fd [a0,a1,a2,a3] []:= .all fun us hl=>match us,hl with| [u0,u1,u2,u3],_=>h u0 u1 u2 u3
theorem RF {K:PySem.W.Frag} {fd:FuncData} {a0 a1 a2 a3 a4:Str} (h: ∀u0 u1 u2 u3 u4,bindArgs fd ⟨[u0,u1,u2,u3,u4], []⟩=pure [(a0,u0),(a1,u1),(a2,u2),(a3,u3),(a4,u4)]):Binds K fd [a0,a1,a2,a3,a4] []:= .all fun us hl=>match us,hl with| [u0,u1,u2,u3,u4],_=>h u0 u1 u2 u3 u4
end Wg
namespace Wg
open PySem PySem.Spec PyProof.Rows L2
def hide (D:Addr) (H:Hp):Hp:=fun b=>if b=D then none else H b
theorem hide_ne {D b:Addr} {H:Hp} (h:b≠D):hide D H b=H b:=by unfold hide;rw[if_neg h]
theorem cu {D b:Addr} {H:Hp} {o:HO} (h:hide D H b=some o):H b=some o∧b≠D:=by
 unfold hide at h
 by_cases e:b=D
 ·rw[if_pos e] at h;cases h
 ·rw[if_neg e] at h;exact ⟨h,e⟩
theorem dI (D:Addr) (H:Hp):ae (hide D H) H:=fun b o h=>(cu h).1
theorem mn {D:Addr} {H H':Hp} (s:ae H H'):ae (hide D H) (hide D H'):=fun b o h=>by
 obtain ⟨h1,h2⟩:=cu h
 rw[hide_ne h2];exact s b o h1
theorem Dd (D:Addr) (H:Hp) (o:HO):hide D (upd H D o)=hide D H:=by
 funext b
 unfold hide
 by_cases e:b=D
 ·rw[if_pos e,if_pos e]
 ·rw[if_neg e,if_neg e,aG e]
theorem aL {H:Hp} {p:Addr} {o:HO} (h:H p=none):ae H (upd H p o):=fun b u e=>by rw[aG (cw e h)];exact e
theorem fK {H H':Hp} {p:Addr} {o:HO} (s:ae H H') (h:H p=none):ae H (upd H' p o):=fun b u e=>by rw[aG (cw e h)];exact s b u e
theorem Cs {J:It} {H1:Hp} {D:Addr} {σ:L2.St} {vs:List Nat} {g:TG} {te:TE} {Qf:Hp→Prop} (hD:H1 D=none) (n:Nat) (hn:n≤sizeLine) (Pr:Nat→V→Hp→Prop)
  (fD: ∀k v H H',k<n→ae H H'→Pr k v H→Pr k v H')
  (hgo: ∀i Hh,i<n→ae H1 Hh→J.go i Hh) (hstop: ∀Hh,ae H1 Hh→J.stop n Hh)
  (turn: ∀i Hh x H',i<n→ae H1 Hh→(∃acc,Hh D=some (.lst acc))→J.eP i Hh x H'→ ∀C:VK,(∀y H4,ae Hh H4→Pr i y (hide D H4)→C y H4)→g x (wipe σ vs) H' fun σ2 H2=>wipe σ2 vs=wipe σ vs∧te σ2 H2 C)
  (fin: ∀Hh xs,ae H1 Hh→xs.length=n→(∀(k:Nat) (v:V),xs[k]?=some v→Pr k v Hh)→Hh D=some (.lst xs)→Qf Hh):
  ∃W:Nat→Nat→Hp→Prop,(∃m,W 0 m (upd H1 D (.lst [])))∧ ∀i m H,W i m H→
   (J.stop i H∧Qf H)∨(J.go i H∧ ∃Nx:Hp→Prop,(∀H',Nx H'→ ∃m',m'<m∧W (i+1) m' H')∧ ∀x H',J.eP i H x H'→g x (wipe σ vs) H' fun σ2 H2=>wipe σ2 vs=wipe σ vs∧oo σ2 H2 fun b H3=>
    if b=true then te σ2 H3 fun y H4=> ∃acc,H4 D=some (.lst acc)∧acc.length<sizeLine∧Nx (upd H4 D (.lst (acc++ [y]))) else Nx H3):=by
 refine ⟨fun i m H=>i+m=n∧ae H1 H∧ ∃xs:List V,xs.length=i∧H D=some (.lst xs)∧ ∀(k:Nat) (v:V),xs[k]?=some v→Pr k v (hide D H),⟨n,by omega,aL hD, [],rfl,ak,fun k v e=>by simp at e⟩,?_⟩
 rintro i m H ⟨hm,s1,xs,hl,hx,hp⟩
 by_cases hi:i=n
 ·subst hi
  exact .inl ⟨hstop H s1,fin H xs s1 hl (fun k v e=>fD k v _ _ (by have:=(List.getElem?_eq_some_iff.mp e).1;omega) (dI D H) (hp k v e)) hx⟩
 ·have hi:i<n:=by omega
  refine .inr ⟨hgo i H hi s1,fun H'=> ∃m',m'<m∧i+1+m'=n∧ae H1 H'∧ ∃xs:List V,xs.length=i+1∧H' D=some (.lst xs)∧ ∀(k:Nat) (v:V),xs[k]?=some v→Pr k v (hide D H'),fun H' h=>?_,fun x H' hy=>?_⟩
  ·obtain ⟨m',h1,h2,h3⟩:=h
   exact ⟨m',h1,h2,h3⟩
  ·refine turn i H x H' hi s1 ⟨xs,hx⟩ hy _ fun y H4 s4 p4=>?_
   refine ⟨xs,s4 _ _ hx,by omega,m-1,by omega,by omega,fK (s1.trans s4) hD,xs++ [y],by rw[List.length_append,hl];rfl,ak,fun k v e=>?_⟩
   rw[Dd]
   by_cases hk:k<xs.length
   ·rw[List.getElem?_append_left hk] at e
    exact fD k v _ _ (by omega) (mn s4) (hp k v e)
   ·rw[List.getElem?_append_right (by omega)] at e
    have hk0:k-xs.length=0:=by
     have:=(List.getElem?_eq_some_iff.mp e).1
     simp at this;omega
    rw[hk0] at e
    have e:=Option.some.inj e
    subst e
    have:k=i:=by omega
    subst this
    exact p4
theorem fc {J:It} {H1:Hp} {D:Addr} {σ:L2.St} {vs:List Nat} {g:TG} {te:TE} {Qf:Hp→Prop} (hD:H1 D=none) (n:Nat) (hn:n≤sizeLine) (val:Nat→V)
  (hgo: ∀i Hh,i<n→ae H1 Hh→J.go i Hh) (hstop: ∀Hh,ae H1 Hh→J.stop n Hh)
  (turn: ∀i Hh x H',i<n→ae H1 Hh→J.eP i Hh x H'→ ∀C:VK,(∀H4,ae Hh H4→C (val i) H4)→g x (wipe σ vs) H' fun σ2 H2=>wipe σ2 vs=wipe σ vs∧te σ2 H2 C)
  (fin: ∀Hh,ae H1 Hh→Hh D=some (.lst ((List.range n).map val))→Qf Hh):
  ∃W:Nat→Nat→Hp→Prop,(∃m,W 0 m (upd H1 D (.lst [])))∧ ∀i m H,W i m H→
   (J.stop i H∧Qf H)∨(J.go i H∧ ∃Nx:Hp→Prop,(∀H',Nx H'→ ∃m',m'<m∧W (i+1) m' H')∧ ∀x H',J.eP i H x H'→g x (wipe σ vs) H' fun σ2 H2=>wipe σ2 vs=wipe σ vs∧oo σ2 H2 fun b H3=>
    if b=true then te σ2 H3 fun y H4=> ∃acc,H4 D=some (.lst acc)∧acc.length<sizeLine∧Nx (upd H4 D (.lst (acc++ [y]))) else Nx H3):=by
 refine Cs hD n hn (fun k v _=>v=val k) (fun _ _ _ _ _ _ h=>h) hgo hstop (fun i Hh x H' hi s1 _ hy C hC=>turn i Hh x H' hi s1 hy C fun H4 s4=>hC _ H4 s4 rfl) fun Hh xs s1 hl hp hx=>fin Hh s1 ?_
 have:xs=(List.range n).map val:=by
  refine List.ext_getElem? fun k=>?_
  by_cases hk:k<n
  ·rw[List.getElem?_map,List.getElem?_range hk]
   have e:=List.getElem?_eq_getElem (l:=xs) (i:=k) (by omega)
   rw[e,hp k _ e];rfl
  ·rw[List.getElem?_eq_none (by omega),List.getElem?_eq_none (by rw[List.length_map,List.length_range];omega)]
 rw[←this];exact hx
theorem aV {X:Cx} {x:Str} {i:Int} {tk:Tok} {pos:Pos} (hg:Gl X x) (hm:X.mg x=some (.int i tk)) (hd:(x==("__debug__" :Str))=false:=by decide):PE X (.Name x pos) (tC (.int i)):=ER hg hm (show RelV (.int i) (.int i tk) from ⟨tk,rfl⟩) hd
theorem eS {X:Cx} {x:Str} {a:Addr} {pos:Pos} (hg:Gl X x) (hm:X.mg x=some (.ref a)) (hd:(x==("__debug__" :Str))=false:=by decide):PE X (.Name x pos) (tC (.ref a)):=ER hg hm (show RelV (.ref a) (.ref a) from rfl) hd
theorem Dq {X:Cx} {K:PySem.W.Frag} (h:X.K=K):lT X (Co K):=by subst h;exact dY
theorem vD {X:Cx} {K:PySem.W.Frag} {e:Expr} {f:Str} {pos:Pos} {ta:TE} (h:X.K=K) (he:PE X e ta) (hb:attributeBase e f X.env (eval e X.env)=eval e X.env):PE X (.Attribute e f pos) (l8 K ta f):=by subst h;exact ax he hb
theorem tV {l:List Int} {i:Nat} {x:V} (h:(l.map V.int)[i]?=some x):x= .int (l.getD i 0)∧i<l.length:=by
 rw[List.getElem?_map] at h
 cases e:l[i]? with
 |none=>rw[e] at h;cases h
 |some z=>
  rw[e] at h
  refine ⟨?_,(List.getElem?_eq_some_iff.mp e).1⟩
  rw[List.getD_eq_getElem?_getD,e]
  exact (Option.some.inj h).symm
theorem kT {l:List Int} {i:Nat} (h:i<l.length):(l.map V.int)[i]?=some (.int (l.getD i 0)):=by
 rw[List.getElem?_map,List.getElem?_eq_getElem h,List.getD_eq_getElem?_getD,List.getElem?_eq_getElem h];rfl
end Wg
namespace Wg
open PySem PySem.Spec PyProof.Rows L2
section
variable {P:Program} {w:World} {K:PySem.W.Frag} {mg:Str→Option Value} {base:Heap} {A:aT}
theorem _root_.L2.ae.none {H H':Hp} {b:Addr} (s:ae H H') (h:H' b=none):H b=none:=by
 cases q:H b with
 |none=>rfl
 |some o=>rw[s b o q] at h;cases h
def vN (F:List Nat):List V:=F.map fun (n:Nat)=>V.int (n:Int)
theorem iI (F:List Nat):vN F=(F.map fun (n:Nat)=>(n:Int)).map V.int:=by unfold vN;rw[List.map_map];rfl
theorem aZ (F:List Nat):(vN F).length=F.length:=by simp [vN]
theorem fH {F:List Nat} {i:Nat} (h:i<F.length):(vN F)[i]?=some (.int ((F.getD i 0:Nat):Int)):=by
 unfold vN
 rw[List.getElem?_map,List.getElem?_eq_getElem h,List.getD_eq_getElem?_getD,List.getElem?_eq_getElem h];rfl
theorem eI {F:List Nat} {i:Nat} {x:V} (h:(vN F)[i]?=some x):x= .int ((F.getD i 0:Nat):Int)∧i<F.length:=by
 have hi:i<F.length:=by
  have:=(List.getElem?_eq_some_iff.mp h).1
  rwa [aZ] at this
 rw[fH hi] at h
 exact ⟨(Option.some.inj h).symm,hi⟩
theorem gB (F G:List Nat):vN (F++G)=vN F++vN G:=by unfold vN;rw[List.map_append]
theorem G6 {α:Type} (l:List α) (a b:Nat):(l.drop (min a l.length)).take (min b l.length-min a l.length)=(l.drop a).take (b-a):=by
 rcases Nat.le_total a l.length with h|h
 ·rw[Nat.min_eq_left h]
  rcases Nat.le_total b l.length with g|g
  ·rw[Nat.min_eq_left g]
  ·rw[Nat.min_eq_right g,List.take_of_length_le (Nat.le_of_eq List.length_drop),List.take_of_length_le (by rw[List.length_drop];exact Nat.sub_le_sub_right g a)]
 ·rw[Nat.min_eq_right h,List.drop_length,List.drop_of_length_le h,List.take_nil,List.take_nil]
theorem jo (F:List Nat) (a b:Nat):dE (vN F) (some (a:Int)) (some (b:Int))=vN ((F.drop a).take (b-a)):=by
 unfold dE HT.dz vN
 simp only [List.length_map]
 rw[if_neg (by omega),if_neg (by omega),Int.toNat_natCast,Int.toNat_natCast,←List.map_drop,←List.map_take,G6]
theorem tP (F:List Nat) (b:Nat):dE (vN F) none (some (b:Int))=vN (F.take b):=by
 unfold dE HT.dz vN
 simp only [List.length_map]
 rw[if_neg (by omega),Int.toNat_natCast,←List.map_drop,←List.map_take,List.drop_zero,Nat.sub_zero]
 congr 1
 rw[List.take_eq_take_iff];omega
theorem GR (F:List Nat) (a:Nat):dE (vN F) (some (a:Int)) none=vN (F.drop a):=by
 unfold dE HT.dz vN
 simp only [List.length_map]
 rw[if_neg (by omega),Int.toNat_natCast,←List.map_drop,←List.map_take]
 congr 1
 rw[show F.drop (min a F.length)=F.drop a by rw[List.drop_eq_drop_iff];omega,List.take_of_length_le (by rw[List.length_drop];omega)]
theorem tu (k:Nat):256^k=2^(8*k):=by rw[Nat.pow_mul]
theorem MJ {nb:Nat} (h:nb≤100000000):rT (8*(nb:Int)-8) (-1) (-8) nb:=by
 refine ⟨by decide,by decide,?_,?_⟩
 ·unfold Builtin.Range.small Builtin.Range.rangeSize
  simp only [Builtin.Range.rangeFitsLong,Bool.and_eq_true,Bool.or_eq_true,decide_eq_true_eq,beq_iff_eq,show¬((-8:Int)>0) by decide,if_false,show-(-8:Int)=8 by decide]
  split<;>omega
 ·unfold Builtin.Range.rangeSize
  rw[if_neg (by decide),show-(-8:Int)=8 by decide]
  split<;>omega
abbrev gE (H:Hp) (Q:VK) (l:List Nat):Prop:= ∀D H',H D=none→ae H H'→H' D=some (.lst (vN l))→Q (.ref D) H'
theorem D8: ∀(l:List Nat),(∀x∈l,x<256)→ ∀n,l.foldl (fun n c=>256*n+c) n<(n+1)*256^l.length
 | [],_,n=>by simp
 |x::l,h,n=>by
  have:=D8 l (fun y hy=>h y (List.mem_cons_of_mem _ hy)) (256*n+x)
  rw[List.foldl_cons,List.length_cons,Nat.pow_succ]
  have hx:=h x (List.mem_cons_self ..)
  have h2:(256*n+x+1)*256^l.length≤((n+1)*256)*256^l.length:=Nat.mul_le_mul_right _ (by omega)
  have e:(n+1)*(256^l.length*256)=(n+1)*256*256^l.length:=by rw[Nat.mul_comm (256^l.length),Nat.mul_assoc]
  omega
theorem rA {l:List Nat} (h: ∀x∈l,x<256):bL l<256^l.length:=by
 have:=D8 l h 0
 rwa [Nat.zero_add,Nat.one_mul] at this
theorem qX {α β:Type} (f:β→α→β) (l:List α) (i:Nat) (h:i<l.length) (b:β):(l.take (i+1)).foldl f b=f ((l.take i).foldl f b) l[i]:=by
 rw[List.take_succ,List.getElem?_eq_getElem h,List.foldl_append];rfl
theorem qW {l:List Nat} {m i:Nat} (h: ∀x∈l,x<m) (hi:i<l.length):l.getD i 0<m:=h _ (by rw[List.getD_eq_getElem?_getD,List.getElem?_eq_getElem hi];exact List.getElem_mem hi)
theorem getD_at {l:List Nat} {i:Nat} (hi:i<l.length):l.getD i 0=l[i]:=by rw[List.getD_eq_getElem?_getD,List.getElem?_eq_getElem hi];rfl
theorem BO {n b:Nat} (h:b<256):(256*n)|||b=256*n+b:=by
 have:=Nat.two_pow_add_eq_or_of_lt (i:=8) h n
 exact this.symm
theorem EE {n k:Nat} (h:n<2^k):Builtin.Int.intBits ((n:Nat):Int)≤k:=by rw[KH];exact OX h
theorem zw {J:It} {g:TG} {tb:TS} {D:Ends} {σ:L2.St} {H:Hp} (n:Nat) (Pv:Nat→L2.St→Hp→Prop) (h0:Pv 0 σ H) (hgo: ∀i σ H,i<n→Pv i σ H→J.go i H) (hstop: ∀σ H,Pv n σ H→J.stop n H)
  (hs: ∀i σ H x H',i<n→Pv i σ H→J.eP i H x H'→g x σ H' fun σ2 H2=>tb {D with nx:=Pv (i+1),ct:=Pv (i+1),bk:=D.nx} σ2 H2) (hd: ∀σ H,Pv n σ H→D.nx σ H):
  ∃W:Nat→Nat→L2.St→Hp→Prop,(∃m,W 0 m σ H)∧ ∀i m σ H,W i m σ H→
   (J.stop i H∧D.nx σ H)∨(J.go i H∧ ∃N:L2.St→Hp→Prop,(∀σ' H',N σ' H'→ ∃m',m'<m∧W (i+1) m' σ' H')∧ ∀x H',J.eP i H x H'→g x σ H' fun σ2 H2=>tb {D with nx:=N,ct:=N,bk:=D.nx} σ2 H2):=by
 refine ⟨fun i m σ H=>i+m=n∧Pv i σ H,⟨n,by omega,h0⟩,?_⟩
 rintro i m σ H ⟨hm,p⟩
 by_cases hi:i=n
 ·subst hi
  exact .inl ⟨hstop σ H p,hd σ H p⟩
 ·exact .inr ⟨hgo i σ H (by omega) p,Pv (i+1),fun σ' H' p'=>⟨m-1,by omega,by omega,p'⟩,fun x H' y=>hs i σ H x H' (by omega) p y⟩
theorem map_getD {f:Nat→Nat} (l:List Nat):(List.range l.length).map (fun i=>V.int ((f (l.getD i 0):Nat):Int))=vN (l.map f):=by
 unfold vN
 rw[List.map_map]
 refine List.ext_getElem (by simp) fun i h1 h2=>?_
 simp at h1 h2
 simp [List.getD_eq_getElem?_getD,List.getElem?_eq_getElem h2]
theorem o5 {X:Cx} {K:PySem.W.Frag} {pos:Pos} {es:List Expr} {k:Nat} {t:iM} {n:Nat} (h:X.K=K) (hc:X.calm=true) (hg:oR X es t)
  (hn:(assignEach es X.env).length=n:=by rfl) (hst:(assignEach es X.env).findIdx? (·.1)=none:=by rfl):PG X (.Tuple es k pos) (BB K n t):=by subst h;exact JJ hc hg hn hst
theorem zo {X:Cx} {K:PySem.W.Frag} (h:X.K=K):iq X (.builtin "len") (fun xs H Q=> ∃p ys,xs= [.ref p]∧(ah K H p ys∨aY K H p ys)∧Q (.int ys.length) H):=by subst h;exact di
theorem sI {as:List Addr} {i:Nat} {x:V} (h:(as.map V.ref)[i]?=some x): ∃a,x= .ref a∧as[i]?=some a:=by
 rw[List.getElem?_map] at h
 cases e:as[i]? with
 |none=>rw[e] at h;cases h
 |some a=>rw[e] at h;exact ⟨a,(Option.some.inj h).symm,rfl⟩
theorem qN {as:List Addr} {i:Nat} (h:i<as.length): ∃a,(as.map V.ref)[i]?=some (.ref a)∧as[i]?=some a:=⟨as[i],by rw[List.getElem?_map,List.getElem?_eq_getElem h];rfl,List.getElem?_eq_getElem h⟩
def bn (b:Sound.Bytes):List Nat:=b.map UInt8.toNat
theorem b6 (b:Sound.Bytes):(bn b).length=b.length:=by unfold bn;rw[List.length_map]
theorem fv (b:Sound.Bytes): ∀x∈bn b,x<256:=fun x hx=>by
 obtain ⟨c,_,rfl⟩:=List.mem_map.mp hx
 exact c.toNat_lt
theorem iP (b:Sound.Bytes) (n:Nat):(bn b).drop n=bn (b.drop n):=by unfold bn;rw[List.map_drop]
theorem fV (b:Sound.Bytes) (n:Nat):(bn b).take n=bn (b.take n):=by unfold bn;rw[List.map_take]
theorem jQ (a b:Sound.Bytes):bn (a++b)=bn a++bn b:=by unfold bn;rw[List.map_append]
def JW (i n:Nat):L2.St→Hp→Nat:=fun σ _=>match σ[i]? with
 |some (some (.int p))=>n-p.toNat
 |_=>0
theorem Ir {c:TT} {tb:TS} {D:Ends} {σ:L2.St} {H:Hp} (Pv:L2.St→Hp→Prop) (μ:L2.St→Hp→Nat) (h0:Pv σ H)
  (hs: ∀σ H,Pv σ H→ ∀C:Bool→Hp→Prop,(∀H1,tb {D with nx:=fun σ' H'=>Pv σ' H'∧μ σ' H'<μ σ H,ct:=fun σ' H'=>Pv σ' H'∧μ σ' H'<μ σ H,bk:=D.nx} σ H1→C true H1)→(∀H1,D.nx σ H1→C false H1)→c σ H C):yU c tb D σ H:=by
 refine ⟨fun m σ H=>m=μ σ H∧Pv σ H,⟨_,rfl,h0⟩,?_⟩
 rintro m σ H ⟨rfl,p⟩
 exact hs σ H p _ (fun H1 h=>⟨_,fun σ' H' ⟨p',l⟩=>⟨_,l,rfl,p'⟩,h⟩) (fun H1 h=>h)
def newOf (H H':Hp):Hp:=fun b=>match H b with
 |none=>H' b
 |some _=>none
theorem gU {H H':Hp} {b:Addr} (h:H b=none):newOf H H' b=H' b:=by unfold newOf;rw[h]
theorem ke {H H':Hp} {b:Addr} {o:HO} (h:newOf H H' b=some o):H b=none∧H' b=some o:=by
 unfold newOf at h
 cases e:H b with
 |none=>rw[e] at h;exact ⟨rfl,h⟩
 |some u=>rw[e] at h;cases h
theorem Kh (H H':Hp):ae (newOf H H') H':=fun b o h=>(ke h).2
def Q5:Sp:=fun vs H Q _=> ∃c n:Nat,vs= [.int c, .int n]∧c≤1000∧gE H Q (bf c n)
theorem uq:aK ["count", "number", "shift"] ["count", "number"] (aD CI):=⟨rfl,rfl,rfl,by decide+kernel,rfl,by decide+kernel,by decide+kernel⟩
theorem kg (T:Txt K mg A):az P w K mg base ba 1 A.qD A.qB ["count", "number"] Q5:=by
 refine T.jm.ok uq (fun vs H Q E h=>?_) (fun cdv Ar outer s H vs Q E hr h=>?_)
 ·obtain ⟨c,n,rfl,_⟩:=h
  rfl
 ·obtain ⟨c,n,rfl,hc,k⟩:=h
  refine ⟨_,aj (aW (fh (own:= [("shift",2)]) rfl uq.nd (zq rfl T.dQ (aa (aw du (aw k9 aq (pv 0)) aq) (aa (jV ju aq) (aa (jV ju aq) af))))
   (dM (by kernel_rfl)) (fun _ _ _ _ _=>bo (i:=2) uq.nd rfl (Or.inl rfl)) (fun _ _ _ _ _=>dJ) (fun _ _ _ _ _=>aw kq (aw eU (pv 1) (pv 2)) aq))),?_⟩
  refine ⟨_,rfl,ag _ _ ⟨rfl,rfl, .inl ⟨by decide,by decide⟩,ag _ _ ⟨rfl,rfl,_,rfl,_,rfl,8*(c:Int)-8,-1,-8,c,rfl,MJ (by omega),fun D hD=>?_⟩⟩⟩
  refine fc (J:=rS (8*(c:Int)-8) (-8) c) hD c (by rw[sizeLine_eq];omega) (fun i=> .int ((n/256^(c-1-i)%256:Nat):Int)) (fun i Hh hi s1=>hi) (fun Hh s1=>Nat.le_refl _) ?_ ?_
  ·rintro i Hh z H' hi s1 ⟨rfl,rfl⟩ C hC
   have e1:8*(c:Int)-8+(i:Nat)*(-8)=((8*(c-1-i):Nat):Int):=by omega
   rw[e1]
   refine ⟨rfl,_,rfl,_,rfl,ag _ _ ⟨rfl,rfl,(by omega),ag _ _ ⟨rfl,rfl,?_⟩⟩⟩
   have e2:((n:Nat):Int)/2^((8*(c-1-i):Nat):Int).toNat=((n/256^(c-1-i):Nat):Int):=by rw[Int.toNat_natCast,tu];simp
   dsimp only
   rw[e2,KS]
   exact hC _ (ae.refl _)
  ·intro Hh s1 hx
   refine k D Hh hD s1 (hx.trans ?_)
   unfold vN bf
   rw[List.map_map]
   rfl
def NR (K:PySem.W.Frag):Sp:=fun vs H Q _=> ∃(q:Addr) (l:List Nat),vs= [.ref q]∧ah K H q (vN l)∧l.length≤1000∧(∀x∈l,x<256)∧Q (.int (bL l:Nat)) H
theorem tK:aK ["data", "number", "byte"] ["data"] (aD A3):=⟨rfl,rfl,rfl,by decide+kernel,rfl,by decide+kernel,by decide+kernel⟩
theorem rf (T:Txt K mg A):az P w K mg base ba 1 A.mG A.lJ ["data"] (NR K):=by
 refine T.pJ.ok tK (fun vs H Q E h=>?_) (fun cdv Ar outer s H vs Q E hr h=>?_)
 ·obtain ⟨q,l,rfl,_⟩:=h
  rfl
 ·obtain ⟨q,l,rfl,hq,hl,hb,k⟩:=h
  refine ⟨_,ai (aI (i:=1) tK.nd rfl (Or.inl rfl) aq)
   (ai (cj PassesOwn.never rfl (dj (pv 0)) (bo (i:=2) tK.nd rfl (Or.inl rfl))
    (aj (aI (i:=1) tK.nd rfl (Or.inl rfl) (aw yL (aw rn (pv 1) aq) (pv 2)))))
   (aj (aW (pv 1)))),?_⟩
  refine ⟨_,rfl,q,rfl,⟨_,hq⟩,?_⟩
  refine gk (K:=K) (a:=q) (xs:=vN l) (fun i σ H'=>H'=H∧ ∃v2:Option V,σ= [some (.ref q),some (.int (bL (l.take i):Nat)),v2]) ⟨rfl,none,rfl⟩ (fun i σ H' _ ⟨e,_⟩=>by rw[e];exact hq) ?_ ?_
  ·rintro i x σ H' hi ⟨rfl,v2,rfl⟩
   obtain ⟨rfl,hil⟩:=eI hi
   have hlt:=rA (l:=l.take i) fun x hx=>hb x (List.mem_of_mem_take hx)
   have hbits:Builtin.Int.intBits ((bL (l.take i):Nat):Int)≤8*i:=by
    rw[tu,List.length_take] at hlt
    exact EE (Nat.lt_of_lt_of_le hlt (Nat.pow_le_pow_right (by decide) (by omega)))
   have e27:(2:Int)^27=134217728:=by decide
   refine ⟨_,rfl,ag _ _ ⟨rfl,rfl,⟨by omega,by omega⟩,_,rfl,ag _ _ ⟨rfl,rfl,rfl,some (.int (l.getD i 0:Nat)),?_⟩⟩⟩
   have e:bL (l.take (i+1))=256*bL (l.take i)+l.getD i 0:=by
    unfold bL
    rw[qX _ _ _ hil,getD_at hil]
   have ex:Builtin.bitOr (((bL (l.take i):Nat):Int)*2^(8:Int).toNat) ((l.getD i 0:Nat):Int)=((bL (l.take (i+1)):Nat):Int):=by
    have e8:((bL (l.take i):Nat):Int)*2^(8:Int).toNat=((256*bL (l.take i):Nat):Int):=by
     rw[show (2:Int)^(8:Int).toNat=256 by decide];omega
    rw[e8,wo,BO (qW hb hil),e]
   show [some (V.ref q),some (V.int (Builtin.bitOr _ _)),_]=_
   rw[ex]
  ·rintro σ H' ⟨rfl,v2,rfl⟩
   refine ⟨_,rfl,?_⟩
   have:bL (l.take (vN l).length)=bL l:=by rw[aZ,List.take_length]
   rw[this]
   exact k
def MU (K:PySem.W.Frag):Sp:=fun vs H Q _=> ∃(q:Addr) (l:List Nat),vs= [.ref q]∧ah K H q (vN l)∧(∀x∈l,x<256)∧Q (.int (jS l:Nat)) H
theorem kv:aK ["data", "check", "byte"] ["data"] (aD xV):=⟨rfl,rfl,rfl,by decide+kernel,rfl,by decide+kernel,by decide+kernel⟩
theorem Qb (n:Nat):Builtin.bitAnd (n:Int) 15=((n%16:Nat):Int):=by
 rw[show (15:Int)=((15:Nat):Int) from rfl,rY,show (15:Nat)=2^4-1 by decide,Nat.and_two_pow_sub_one_eq_mod]
theorem Aq {c:Nat} {H:Hp} {a:Addr} {Qf:V→Hp→Prop} (hs:aY K H a (vN kj)) (k:Qf (.int (qs c:Nat)) H) {σ:L2.St} (hσ:σ[1]?=some (some (V.int (c:Nat)))):
  gW (dN fun i j=> .int (Builtin.bitXor i j)) (gW (rI (fun _ j=>0≤j) fun i j=> .int (i/2^j.toNat)) (gh 1) (tC (.int 4))) (gW (vJ K) (tC (.ref a)) (gW (dN fun i j=> .int (Builtin.bitAnd i j)) (gh 1) (tC (.int 15)))) σ H Qf:=by
 refine ⟨_,hσ,ag _ _ ⟨rfl,rfl,(by show (0:Int)≤4;decide),_,hσ,ag _ _ ⟨rfl,rfl,?_⟩⟩⟩
 dsimp only
 rw[Qb]
 have hm:c%16<kj.length:=Nat.mod_lt _ (by decide)
 refine (aC a _ _ _ ⟨rfl,rfl,hs,cv (fH hm),ag _ _ ⟨rfl,rfl,?_⟩⟩)
 have e:Builtin.bitXor (((c:Nat):Int)/2^(4:Int).toNat) ((kj.getD (c%16) 0:Nat):Int)=((qs c:Nat):Int):=by
  have e1:((c:Nat):Int)/2^(4:Int).toNat=((c/16:Nat):Int):=by rw[show (2:Int)^(4:Int).toNat=16 by decide];omega
  rw[e1,g9];rfl
 dsimp only
 rw[e]
 exact k
theorem xr (T:Txt K mg A):az P w K mg base ba 1 A.pw A.o3 ["data"] (MU K):=by
 refine T.tU.ok kv (fun vs H Q E h=>?_) (fun cdv Ar outer s H vs Q E hr h=>?_)
 ·obtain ⟨q,l,rfl,_⟩:=h
  rfl
 ·obtain ⟨q,l,rfl,hq,hb,k⟩:=h
  refine ⟨_,ai (aI (i:=1) kv.nd rfl (Or.inl rfl) aq)
   (ai (cj PassesOwn.never rfl (dj (pv 0)) (bo (i:=2) kv.nd rfl (Or.inl rfl))
    (ai (ig (i:=1) kv.nd rfl (Or.inl rfl) (pv 2) sx)
    (ai (aI (i:=1) kv.nd rfl (Or.inl rfl) (aw j9 (aw eU (pv 1) aq) (cH sZ (eS rfl T.Cj) (aw kq (pv 1) aq) (fun _ _=>rfl))))
    (aj (aI (i:=1) kv.nd rfl (Or.inl rfl) (aw j9 (aw eU (pv 1) aq) (cH sZ (eS rfl T.Cj) (aw kq (pv 1) aq) (fun _ _=>rfl))))))))
   (aj (aW (aw j9 (pv 1) aq)))),?_⟩
  refine ⟨_,rfl,q,rfl,⟨_,hq⟩,?_⟩
  have hS: ∀H,aY K H A.oN (vN kj):=fun H=>T.GV H
  refine gk (K:=K) (a:=q) (xs:=vN l) (fun i σ H'=>H'=H∧ ∃v2:Option V,σ= [some (.ref q),some (.int ((l.take i).foldl sW 0xFFFFFFFF:Nat)),v2]) ⟨rfl,none,rfl⟩ (fun i σ H' _ ⟨e,_⟩=>by rw[e];exact hq) ?_ ?_
  ·rintro i x σ H' hi ⟨rfl,v2,rfl⟩
   obtain ⟨rfl,hil⟩:=eI hi
   refine ⟨_,rfl,_,rfl,ag _ _ ⟨rfl,rfl,?_⟩⟩
   dsimp only
   rw[g9]
   refine Aq (hS _) (Aq (hS _) ⟨rfl,some (.int (l.getD i 0:Nat)),?_⟩ rfl) rfl
   rw[qX _ _ _ hil,←getD_at hil]
   rfl
  ·rintro σ H' ⟨rfl,v2,rfl⟩
   refine ⟨_,rfl,ag _ _ ⟨rfl,rfl,?_⟩⟩
   dsimp only
   rw[aZ,List.take_length,show (4294967295:Int)=((4294967295:Nat):Int) from rfl,g9]
   exact k
def ll (l:List Nat):List Nat:=l++bf 4 (jS l)
theorem cD (c n:Nat):(bf c n).length=c:=by unfold bf;rw[List.length_map,List.length_range]
theorem tm (c n:Nat): ∀x∈bf c n,x<256:=fun x hx=>by
 unfold bf at hx
 obtain ⟨i,_,rfl⟩:=List.mem_map.mp hx
 exact Nat.mod_lt _ (by decide)
def G4:Sp:=fun vs H Q _=> ∃a:Nat,vs= [.int a]∧a<256∧gE H Q ((List.range 256).map (Sound.mul a))
theorem il:aK ["factor", "table", "power", "step", "product"] ["factor"] (aD yz):=⟨rfl,rfl,rfl,by decide+kernel,rfl,by decide+kernel,by decide+kernel⟩
theorem sC (a k:Nat):(gK a k).length=2^k:=by unfold gK;rw[List.length_map,List.length_range]
theorem zi (T:Txt K mg A):az P w K mg base ba 1 A.lI A.pA ["factor"] G4:=by
 refine T.vT.ok il (fun vs H Q E h=>?_) (fun cdv Ar outer s H vs Q E hr h=>?_)
 ·obtain ⟨a,rfl,_⟩:=h
  rfl
 ·obtain ⟨a,rfl,ha,k⟩:=h
  refine ⟨_,ai (aI (i:=1) il.nd rfl (Or.inl rfl) (cg (aa aq af)))
   (ai (aI (i:=2) il.nd rfl (Or.inr rfl) (pv 0))
   (ai (cj PassesOwn.never rfl (fk rfl T.dQ (aa aq af)) (bo (i:=3) il.nd rfl (Or.inl rfl))
    (ai (aI (i:=1) il.nd rfl (Or.inl rfl) (aw jv (pv 1) (fh (own:= [("product",4)]) rfl il.nd (dj (pv 1)) (dM (by kernel_rfl)) (fun _ _ _ _ _=>bo (i:=4) il.nd rfl (Or.inl rfl)) (fun _ _ _ _ _=>dJ) (fun _ _ _ _ _=>aw j9 (pv 4) (pv 2)))))
    (ai (ig (i:=2) il.nd rfl (Or.inr rfl) aq Cn)
    (aj (bp (bq d4 (pv 2) aq (aX _)) (aj (ig (i:=2) il.nd rfl (Or.inr rfl) (aV rfl T.NJ) sx)) bu)))))
   (aj (aW (pv 1))))),?_⟩
  refine ⟨by rw[sizeLine_eq];show 1≤_;omega,fun t0 ht0=>⟨_,rfl,_,rfl,by decide,by decide,?_⟩⟩
  refine fE (lo:=0) (n:=8) (fun j σ H'=> ∃(t:Addr) (v3 v4:Option V),H t=none∧ae H H'∧H' t=some (.lst (vN (gK a j)))∧σ= [some (.int a),some (.ref t),some (.int (cK a j:Nat)),v3,v4]) ⟨t0,none,none,ht0,aL ht0,ak,rfl⟩ ?_ ?_
  ·rintro j σ H1 hj ⟨t,v3,v4,ht,s1,hx,rfl⟩
   have hp:=xx ha j
   have h2j:2^j≤128:=Nat.le_trans (Nat.pow_le_pow_right (by decide) (show j≤7 by omega)) (by decide)
   refine ⟨_,rfl,_,rfl,t,rfl,⟨_,ah.of hx⟩,fun D hD=>?_⟩
   refine fc (J:=d9 K t) hD (2^j) (by rw[sizeLine_eq];omega) (fun i=> .int (((gK a j).getD i 0^^^cK a j:Nat):Int)) (fun i Hh hi t1=>⟨_,_,t1.seq (ah.of hx),fH (by rw[sC];exact hi)⟩) (fun Hh t1=>⟨_,t1.seq (ah.of hx),by rw[aZ,sC];exact Nat.le_refl _⟩) ?_ ?_
   ·rintro i Hh z H' hi t1 ⟨rfl,hz⟩ C hC
    obtain ⟨rfl,_⟩:=eI (hz _ (t1.seq (ah.of hx)))
    refine ⟨rfl,_,rfl,_,rfl,ag _ _ ⟨rfl,rfl,?_⟩⟩
    dsimp only
    rw[g9]
    exact hC _ (ae.refl _)
   ·intro H2 s2 hx2
    have e2:(List.range (2^j)).map (fun i=>V.int (((gK a j).getD i 0^^^cK a j:Nat):Int))=vN ((gK a j).map fun p=>p^^^cK a j):=by
     unfold vN
     rw[List.map_map]
     refine List.ext_getElem (by rw[List.length_map,List.length_map,List.length_range,sC]) fun i h1 h2=>?_
     simp at h1 h2
     simp [List.getD_eq_getElem?_getD,List.getElem?_eq_getElem h2]
    rw[e2] at hx2
    refine (aC t D _ _ ⟨rfl,rfl,s2 _ _ hx,hx2,(by rw[aZ,aZ,List.length_map,sC,sizeLine_eq];omega),fun p hp2=>?_⟩)
    rw[←gB,←Gk]
    have n0:H p=none:=(s1.trans s2).none hp2
    refine ⟨_,rfl,ag _ _ ⟨rfl,rfl,⟨by decide,by decide,by rw[Int.natAbs_natCast];omega⟩,?_⟩⟩
    have e3:((cK a j:Nat):Int)*2^(1:Int).toNat=((2*cK a j:Nat):Int):=by
     rw[show (2:Int)^(1:Int).toNat=2 by decide];omega
    dsimp only
    rw[e3]
    refine ⟨_,rfl,ag _ _ ⟨rfl,rfl,_,rfl,?_⟩⟩
    refine bZ (fun hc2=>?_) fun hc2=>?_
    ·have hc2:(255:Int)<((2*cK a j:Nat):Int):=of_decide_eq_true hc2
     refine ⟨_,rfl,ag _ _ ⟨rfl,rfl,p,some (.int (0+(j:Nat))),v4,n0,fK (s1.trans s2) n0,ak,?_⟩⟩
     show [_,_,some (V.int (Builtin.bitXor ((2*cK a j:Nat):Int) 285)),_,_]=_
     rw[show (285:Int)=((285:Nat):Int) from rfl,g9]
     have:cK a (j+1)=2*cK a j^^^285:=by
      show Sound.times2 _=_
      unfold Sound.times2
      rw[if_pos (by omega)]
     rw[this]
    ·have hc2: ¬(255:Int)<((2*cK a j:Nat):Int):=fun z=>hc2 (decide_eq_true z)
     refine ⟨p,some (.int (0+(j:Nat))),v4,n0,fK (s1.trans s2) n0,ak,?_⟩
     have:cK a (j+1)=2*cK a j:=by
      show Sound.times2 _=_
      unfold Sound.times2
      rw[if_neg (by omega)]
     rw[this];rfl
  ·rintro σ H1 ⟨t,v3,v4,ht,s1,hx,rfl⟩
   exact ⟨_,rfl,k t H1 ht s1 hx⟩
def Oz (K:PySem.W.Frag):Sp:=fun vs H Q _=> ∃(q:Addr) (l:List Nat),vs= [.ref q]∧ah K H q (vN l)∧(∀x∈l,x<256)∧l.length≤1000000∧gE H Q (ll l)
theorem M1:aK ["data"] ["data"] (aD Ci):=⟨rfl,rfl,rfl,by decide+kernel,rfl,by decide+kernel,by decide+kernel⟩
theorem FA (T:Txt K mg A):az P w K mg base ba 2 A.oO A.nY ["data"] (Oz K):=by
 refine T.ES.ok M1 (fun vs H Q E h=>?_) (fun cdv Ar outer s H vs Q E hr h=>?_)
 ·obtain ⟨q,l,rfl,_⟩:=h
  rfl
 ·obtain ⟨q,l,rfl,hq,hb,hl,k⟩:=h
  refine ⟨_,aj (aW (aw jD (pv 0) (aS (kg T) hr rfl T.kH T.jm.kp T.kP .nil aU
   (aa (aV rfl T.sJ) (aa (aS (xr T) hr rfl T.wq T.tU.kp T.wy .nil aU (aa (pv 0) af)) af))))),?_⟩
  refine ⟨_,rfl,_,rfl,ag q l ⟨rfl,hq,hb,4,jS l,rfl,by decide,fun D H1 hD s1 hx=>?_⟩⟩
  refine (aC q D _ _ ⟨rfl,rfl,s1.seq hq,ah.of hx,(by rw[aZ,aZ,cD,sizeLine_eq];omega),fun p hp=>?_⟩)
  refine k p _ (s1.none hp) (fK s1 (s1.none hp)) ?_
  rw[ak,←gB];rfl
theorem Pp (a b:Int):fR (.int a) (.int b)=decide (a=b):=by
 by_cases h:a=b
 ·subst h;simp [fR]
 ·simp [fR,h]
theorem GW (F:List Nat):(vN F).all f9=true:=by
 rw[List.all_eq_true]
 intro x hx
 obtain ⟨n,_,rfl⟩:=List.mem_map.mp hx
 rfl
def Od:Sp:=fun vs H Q _=> ∃a:Nat,vs= [.int a]∧(a<256∧a≠0)∧ ∀H',ae H H'→Q (.int (Sound.inverse a:Nat)) H'
theorem P1:aK ["number"] ["number"] (aD B3):=⟨rfl,rfl,rfl,by decide+kernel,rfl,by decide+kernel,by decide+kernel⟩
theorem Lk (T:Txt K mg A):az P w K mg base ba 2 A.nN A.qC ["number"] Od:=by
 refine T.Ek.ok P1 (fun vs H Q E h=>?_) (fun cdv Ar outer s H vs Q E hr h=>?_)
 ·obtain ⟨a,rfl,_⟩:=h
  rfl
 ·obtain ⟨a,rfl,⟨ha,h0⟩,k⟩:=h
  refine ⟨_,aj (aW (gg PySem.F.plainAttrs_list PySem.F.slot_list_index PySem.F.type_list_index Iz (aS (zi T) hr rfl T.zz T.vT.kp T.AO .nil aU (aa (pv 0) af)) (aa aq af))),?_⟩
  obtain ⟨i1,i2,i3⟩:=Eu ha h0
  refine ⟨_,rfl,a,rfl,ha,fun D H1 hD s1 hx=>?_⟩
  have gt: ∀b,b<256→((List.range 256).map (Sound.mul a)).getD b 0=Sound.mul a b:=fun b hb=>by
   rw[List.getD_eq_getElem?_getD,List.getElem?_map,List.getElem?_range hb];rfl
  have hl:((List.range 256).map (Sound.mul a)).length=256:=by rw[List.length_map,List.length_range]
  refine ⟨.inl ⟨rfl,_,ah.of hx⟩,tF D _ (.int 1) (Sound.inverse a) _ ⟨rfl,rfl,ah.of hx,rfl,GW _,fH (by rw[hl];exact i1),?_,fun m z' hm hz=>?_,k _ s1⟩⟩
  ·rw[gt _ i1,i2];rfl
  ·obtain ⟨rfl,_⟩:=eI hz
   rw[gt m (by omega),Pp]
   have:=i3 m hm
   exact decide_eq_false (by omega)
def QF (K:PySem.W.Frag):Sp:=fun vs H Q _=> ∃(a:Nat) (q:Addr) (l:List Nat),vs= [.int a, .ref q]∧a<256∧ah K H q (vN l)∧(∀x∈l,x<256)∧l.length≤100000∧gE H Q (l.map (Sound.mul a))
theorem ro:aK ["factor", "data", "table", "byte"] ["factor", "data"] (aD zm):=⟨rfl,rfl,rfl,by decide+kernel,rfl,by decide+kernel,by decide+kernel⟩
theorem Ij (T:Txt K mg A):az P w K mg base ba 2 A.p7 A.pV ["factor", "data"] (QF K):=by
 refine T.zA.ok ro (fun vs H Q E h=>?_) (fun cdv Ar outer s H vs Q E hr h=>?_)
 ·obtain ⟨a,q,l,rfl,_⟩:=h
  rfl
 ·obtain ⟨a,q,l,rfl,ha,hq,hb,hl,k⟩:=h
  refine ⟨_,ai (aI (i:=2) ro.nd rfl (Or.inr rfl) (aS (zi T) hr rfl T.zz T.vT.kp T.AO .nil aU (aa (pv 0) af)))
   (aj (aW (fh (own:= [("byte",3)]) rfl ro.nd (dj (pv 1)) (dM (by kernel_rfl)) (fun _ _ _ _ _=>bo (i:=3) ro.nd rfl (Or.inl rfl)) (fun _ _ _ _ _=>dJ) (fun _ _ _ _ _=>cH (Dq (K:=K) rfl) (pv 2) (pv 3) (fun _ _=>rfl))))),?_⟩
  refine ⟨_,rfl,a,rfl,ha,fun D H1 hD s1 hx=>⟨_,rfl,q,rfl,⟨_,s1.seq hq⟩,fun D2 hD2=>?_⟩⟩
  refine fc (J:=d9 K q) hD2 l.length (by rw[sizeLine_eq];omega) (fun i=> .int ((Sound.mul a (l.getD i 0):Nat):Int)) (fun i Hh hi t1=>⟨_,_,t1.seq (s1.seq hq),fH hi⟩) (fun Hh t1=>⟨_,t1.seq (s1.seq hq),by rw[aZ];exact Nat.le_refl _⟩) ?_ ?_
  ·rintro i Hh z H' hi t1 ⟨rfl,hz⟩ C hC
   obtain ⟨rfl,_⟩:=eI (hz _ (t1.seq (s1.seq hq)))
   have hbl:=qW hb hi
   have hg:((List.range 256).map (Sound.mul a)).getD (l.getD i 0) 0=Sound.mul a (l.getD i 0):=by
    rw[List.getD_eq_getElem?_getD,List.getElem?_map,List.getElem?_range hbl];rfl
   have:=fH (F:=(List.range 256).map (Sound.mul a)) (i:=l.getD i 0) (by rw[List.length_map,List.length_range];exact hbl)
   rw[hg] at this
   exact ⟨rfl,_,rfl,_,rfl,aC D _ _ _ ⟨rfl,rfl,t1.seq (ah.of hx),cv this,hC _ (ae.refl _)⟩⟩
  ·intro H2 s2 hx2
   rw[map_getD] at hx2
   exact k D2 H2 (s1.none hD2) (s1.trans s2) hx2
def RI (K:PySem.W.Frag):Sp:=fun vs H Q _=> ∃(q r:Addr) (l m:List Nat),vs= [.ref q, .ref r]∧ah K H q (vN l)∧ah K H r (vN m)∧l.length=m.length∧l.length≤100000∧gE H Q (Sound.added l m)
theorem rE:aK ["one", "other", "x", "y"] ["one", "other"] (aD Ay):=⟨rfl,rfl,rfl,by decide+kernel,rfl,by decide+kernel,by decide+kernel⟩
theorem Qy (T:Txt K mg A):az P w K mg base ba 1 A.lP A.ni ["one", "other"] (RI K):=by
 refine T.CS.ok rE (fun vs H Q E h=>?_) (fun cdv Ar outer s H vs Q E hr h=>?_)
 ·obtain ⟨q,r,l,m,rfl,_⟩:=h
  rfl
 ·obtain ⟨q,r,l,m,rfl,hq,hr',hlm,hl,k⟩:=h
  refine ⟨_,aj (aW (fh (own:= [("x",2),("y",3)]) rfl rE.nd (Ap rfl T.wz (aa (pv 0) (aa (pv 1) af))) (dM (by kernel_rfl))
   (fun _ _ _ _ _=>o5 (K:=K) (n:=2) rfl rfl (gq (bo (i:=2) rE.nd rfl (Or.inl rfl)) (gq (bo (i:=3) rE.nd rfl (Or.inl rfl)) oq))) (fun _ _ _ _ _=>dJ) (fun _ _ _ _ _=>aw j9 (pv 2) (pv 3)))),?_⟩
  refine ⟨_,rfl,_,rfl,aC q r _ _ ⟨rfl,hq,hr',fun D hD=>?_⟩⟩
  refine fc (J:=rN K q r) hD l.length (by rw[sizeLine_eq];omega) (fun i=> .int ((l.getD i 0^^^m.getD i 0:Nat):Int))
   (fun i Hh hi t1=>⟨_,_,_,_,t1.seq hq,t1.seq hr',fH hi,fH (by omega)⟩) (fun Hh t1=>⟨_,_,t1.seq hq,t1.seq hr', .inl (by rw[aZ];exact Nat.le_refl _)⟩) ?_ ?_
  ·rintro i Hh z H' hi t1 ⟨t,x1,y1,rfl,ht,rfl,hx,hy⟩ C hC
   obtain ⟨rfl,_⟩:=eI (hx _ (t1.seq hq))
   obtain ⟨rfl,_⟩:=eI (hy _ (t1.seq hr'))
   refine (ag t _ ⟨rfl,aY.of ak,rfl,ag _ _ ⟨rfl,ag _ _ ⟨rfl,rfl,rfl,_,rfl,_,rfl,ag _ _ ⟨rfl,rfl,?_⟩⟩⟩⟩)
   dsimp only
   rw[g9]
   exact hC _ (aL ht)
  ·intro H2 s2 hx2
   refine k D H2 hD s2 (hx2.trans ?_)
   congr 2
   unfold vN Sound.added
   refine List.ext_getElem (by simp;omega) fun i h1 h2=>?_
   simp at h1
   simp [List.getD_eq_getElem?_getD,List.getElem?_eq_getElem h1,List.getElem?_eq_getElem (show i<m.length by omega)]
def F2:Sp:=fun vs H Q _=> ∃i j:Nat,vs= [.int i, .int j]∧(i<8∧j<4)∧ ∀H',ae H H'→Q (.int (Sound.factor i j:Nat)) H'
theorem J1:aK ["i", "j"] ["i", "j"] (aD EZ):=⟨rfl,rfl,rfl,by decide+kernel,rfl,by decide+kernel,by decide+kernel⟩
theorem LD (T:Txt K mg A):az P w K mg base ba 3 A.qE A.oI ["i", "j"] F2:=by
 refine T.zF.ok J1 (fun vs H Q E h=>?_) (fun cdv Ar outer s H vs Q E hr h=>?_)
 ·obtain ⟨i,j,rfl,_⟩:=h
  rfl
 ·obtain ⟨i,j,rfl,⟨hi,hj⟩,k⟩:=h
  refine ⟨_,aj (aW (aS (Lk T) hr rfl T.GI T.Ek.kp T.Fg .nil aU (aa (aw j9 (pv 0) (aw b5 (aV rfl T.J5) (pv 1))) af))),?_⟩
  refine ⟨_,rfl,_,rfl,ag _ _ ⟨rfl,rfl,ag _ _ ⟨rfl,rfl,i^^^(128+j),?_,Ct i hi j hj,k⟩⟩⟩
  show [V.int (Builtin.bitXor _ _)]=_
  rw[show (128:Int)+(j:Nat)=((128+j:Nat):Int) by omega,g9]
def jh (K:PySem.W.Frag) (H:Hp) (r:Addr) (M:List (List Nat)):Prop:= ∃as:List Addr,ah K H r (as.map V.ref)∧as.length=M.length∧ ∀(k:Nat) (a:Addr),as[k]?=some a→ah K H a (vN (M.getD k []))
theorem jh.same {H H':Hp} {r:Addr} {M:List (List Nat)} (h:jh K H r M) (s:ae H H'):jh K H' r M:=by
 obtain ⟨as,h1,h2,h3⟩:=h
 exact ⟨as,s.seq h1,h2,fun k a e=>s.seq (h3 k a e)⟩
def fj (M:List (List Nat)):List Nat:=M.map List.length
def cU (M:List (List Nat)):Nat:=(fj M).foldl max 0+2
theorem md: ∀(l:List Nat) (b:Nat),b≤l.foldl max b∧(∀x∈l,x≤l.foldl max b)∧(l.foldl max b=b∨l.foldl max b∈l)
 | [],b=>⟨Nat.le_refl _,fun x hx=>(by cases hx), .inl rfl⟩
 |y::l,b=>by
  obtain ⟨h1,h2,h3⟩:=md l (max b y)
  rw[List.foldl_cons]
  refine ⟨by omega,fun x hx=>?_,?_⟩
  ·rcases List.mem_cons.mp hx with rfl|hx
   ·omega
   ·exact h2 x hx
  ·rcases h3 with h3|h3
   ·rw[h3]
    rcases Nat.le_total b y with q|q
    ·exact .inr (by rw[Nat.max_eq_right q];simp)
    ·exact .inl (Nat.max_eq_left q)
   ·exact .inr (List.mem_cons_of_mem _ h3)
theorem Cq {l:List Nat} {m:Nat} (h1:m∈l) (h2: ∀x∈l,x≤m):l.foldl max 0=m:=by
 obtain ⟨a,b,c⟩:=md l 0
 have:=b m h1
 rcases c with c|c
 ·omega
 ·have:=h2 _ c;omega
def Mu (K:PySem.W.Frag):Sp:=fun vs H Q _=> ∃(r:Addr) (M:List (List Nat)),vs= [.ref r]∧jh K H r M∧(1≤M.length∧M.length≤100000)∧ ∀H',ae H H'→Q (.int (cU M:Nat)) H'
theorem uB:aK ["frames", "one"] ["frames"] (aD Ex):=⟨rfl,rfl,rfl,by decide+kernel,rfl,by decide+kernel,by decide+kernel⟩
theorem KQ {M:List (List Nat)} {i:Nat} (h:i<M.length):(fj M).getD i 0=(M.getD i []).length:=by
 unfold fj
 rw[List.getD_eq_getElem?_getD,List.getD_eq_getElem?_getD,List.getElem?_map,List.getElem?_eq_getElem h];rfl
theorem Qw (T:Txt K mg A):az P w K mg base ba 1 A.oy A.mf ["frames"] (Mu K):=by
 refine T.AL.ok uB (fun vs H Q E h=>?_) (fun cdv Ar outer s H vs Q E hr h=>?_)
 ·obtain ⟨r,M,rfl,_⟩:=h
  rfl
 ·obtain ⟨r,M,rfl,⟨as,hr',hlen,hrow⟩,⟨hM1,hM2⟩,k⟩:=h
  refine ⟨_,aj (aW (aw b5 (cq (MS rfl) (by rfl) T.E3 (by decide+kernel:bootBuiltins "max" =some (.builtin "max")) (aa (fh (own:= [("one",1)]) rfl uB.nd (dj (pv 0)) (dM (by kernel_rfl)) (fun _ _ _ _ _=>bo (i:=1) uB.nd rfl (Or.inl rfl)) (fun _ _ _ _ _=>dJ)
   (fun _ _ _ _ _=>cq (zo (K:=K) rfl) (by rfl) T.cW PySem.boot_len (aa (pv 1) af))) af)) (aV rfl T.xM))),?_⟩
  refine ⟨_,rfl,r,rfl,⟨_,hr'⟩,fun D hD=>?_⟩
  refine fc (J:=d9 K r) hD M.length (by rw[sizeLine_eq];omega) (fun i=> .int (((fj M).getD i 0:Nat):Int)) (fun i Hh hi t1=>?_) (fun Hh t1=>⟨_,t1.seq hr',by rw[List.length_map];omega⟩) ?_ ?_
  ·obtain ⟨a,h1,_⟩:=qN (as:=as) (i:=i) (by omega)
   exact ⟨_,_,t1.seq hr',h1⟩
  ·rintro i Hh z H' hi t1 ⟨rfl,hz⟩ C hC
   obtain ⟨a,rfl,ha⟩:=sI (hz _ (t1.seq hr'))
   refine ⟨rfl,_,rfl,ag a _ ⟨rfl, .inl (t1.seq (hrow i a ha)),?_⟩⟩
   rw[aZ,←KQ hi]
   exact hC _ (ae.refl _)
  ·intro H2 s2 hx2
   have e:(List.range M.length).map (fun i=>V.int (((fj M).getD i 0:Nat):Int))=vN (fj M):=by
    have:=map_getD (f:=id) (fj M)
    rw[List.map_id] at this
    rw[←this]
    unfold fj
    rw[List.length_map];rfl
   rw[e] at hx2
   refine ⟨D,(fj M).map fun (n:Nat)=>(n:Int),rfl,(by rw[←iI];exact ah.of hx2),(by unfold fj;rw[List.length_map,List.length_map];exact hM1),fun m hm hall=>?_⟩
   obtain ⟨n,hn,rfl⟩:=List.mem_map.mp hm
   refine (ag _ _ ⟨rfl,rfl,?_⟩)
   have:cU M=n+2:=by
    unfold cU
    rw[Cq hn fun x hx=>by have:=hall _ (List.mem_map_of_mem hx);omega]
   have k2:=k H2 s2
   rw[this] at k2
   exact k2
def cX (r:Nat) (m:List Nat):List Nat:=bf 2 m.length++m++List.replicate (r-2-m.length) 0
def ik (r j:Nat) (M:List (List Nat)):List Nat:=(M.zipIdx).foldl (fun a x=>Sound.added a ((cX r x.1).map (Sound.mul (Sound.factor x.2 j)))) (List.replicate r 0)
theorem tM {r:Nat} {m:List Nat} (h:m.length+2≤r):(cX r m).length=r:=by
 unfold cX
 rw[List.length_append,List.length_append,cD,List.length_replicate];omega
theorem J0 {r:Nat} {m:List Nat} (h: ∀x∈m,x<256): ∀x∈cX r m,x<256:=fun x hx=>by
 unfold cX at hx
 rcases List.mem_append.mp hx with hx|hx
 ·rcases List.mem_append.mp hx with hx|hx
  ·exact tm _ _ x hx
  ·exact h x hx
 ·rw[(List.mem_replicate.mp hx).2];decide
theorem Eh {i j:Nat} (hi:i<8) (hj:j<4):Sound.factor i j<256:=by
 obtain ⟨h1,h2⟩:=Ct i hi j hj
 exact (Eu h1 h2).1
theorem CU {a b:List Nat}:(Sound.added a b).length=min a.length b.length:=by unfold Sound.added;rw[List.length_zipWith]
theorem El (n:Nat):(List.replicate n [V.int 0]).flatten=vN (List.replicate n 0):=by
 unfold vN
 induction n with
 |zero=>rfl
 |succ n ih=>rw[List.replicate_succ,List.replicate_succ,List.flatten_cons,ih];rfl
def LL (K:PySem.W.Frag):Sp:=fun vs H Q _=> ∃(j r:Nat) (f:Addr) (M:List (List Nat)),vs= [.int j, .int r, .ref f]∧jh K H f M∧(j<4∧r≤10000∧M.length≤8)∧(∀m∈M,m.length+2≤r∧ ∀x∈m,x<256)∧gE H Q (ik r j M)
theorem lu:aK ["j", "row_size", "frames", "total", "i", "one", "row"] ["j", "row_size", "frames"] (aD CH):=⟨rfl,rfl,rfl,by decide+kernel,rfl,by decide+kernel,by decide+kernel⟩
theorem NV {r j i:Nat} {M:List (List Nat)} (hi:i<M.length):((M.zipIdx).take (i+1)).foldl (fun a x=>Sound.added a ((cX r x.1).map (Sound.mul (Sound.factor x.2 j)))) (List.replicate r 0)=Sound.added (((M.zipIdx).take i).foldl (fun a x=>Sound.added a ((cX r x.1).map (Sound.mul (Sound.factor x.2 j)))) (List.replicate r 0)) ((cX r (M.getD i [])).map (Sound.mul (Sound.factor i j))):=by
 rw[qX _ _ _ (by rw[List.length_zipIdx];exact hi)]
 have e:M.zipIdx[i]'(by rw[List.length_zipIdx];exact hi)=(M.getD i [],i):=by
  rw[List.getElem_zipIdx,List.getD_eq_getElem?_getD,List.getElem?_eq_getElem hi];simp
 rw[e]
theorem getD_mem' {M:List (List Nat)} {i:Nat} (h:i<M.length):M.getD i []∈M:=by
 rw[List.getD_eq_getElem?_getD,List.getElem?_eq_getElem h];exact List.getElem_mem h
theorem Pq (T:Txt K mg A):az P w K mg base ba 4 A.oh A.lL ["j", "row_size", "frames"] (LL K):=by
 refine T.AQ.ok lu (fun vs H Q E h=>?_) (fun cdv Ar outer s H vs Q E hr h=>?_)
 ·obtain ⟨j,r,f,M,rfl,_⟩:=h
  rfl
 ·obtain ⟨j,r,f,M,rfl,hf,⟨hj,hr1,hM⟩,hrows,k⟩:=h
  have hr1':aF 1 _:=hr.mono (by decide)
  have hr2':aF 2 _:=hr.mono (by decide)
  refine ⟨_,ai (aI (i:=3) lu.nd rfl (Or.inl rfl) (aw BC (cg (aa aq af)) (pv 1)))
   (ai (cj PassesOwn.never rfl (DQ rfl T.zP (aa (pv 2) af)) (o5 (K:=K) (n:=2) rfl rfl (gq (bo (i:=4) lu.nd rfl (Or.inl rfl)) (gq (bo (i:=5) lu.nd rfl (Or.inl rfl)) oq)))
    (ai (aI (i:=6) lu.nd rfl (Or.inl rfl) (aw jv (aw jD (aS (kg T) hr1' rfl T.kH T.jm.kp T.kP .nil aU (aa (aV rfl T.xM) (aa (cq di (by rfl) T.cW PySem.boot_len (aa (pv 5) af)) af))) (pv 5))
     (aw BC (cg (aa aq af)) (aw du (aw du (pv 1) (aV rfl T.xM)) (cq di (by rfl) T.cW PySem.boot_len (aa (pv 5) af))))))
    (aj (aI (i:=3) lu.nd rfl (Or.inl rfl) (aS (Qy T) hr1' rfl T.MZ T.CS.kp T.JS .nil aU (aa (pv 3) (aa (aS (Ij T) hr2' rfl T.GK T.zA.kp T.M8 .nil aU (aa (aS (LD T) hr rfl T.Nd T.zF.kp T.OR .nil aU (aa (pv 4) (aa (pv 0) af))) (aa (pv 6) af))) af)))))))
   (aj (aW (pv 3)))),?_⟩
  refine ⟨by rw[sizeLine_eq];show 1≤_;omega,fun p0 hp0=>⟨_,rfl,bG p0 _ _ ⟨rfl,rfl,ak,by omega,by omega,(by rw[sizeLine_eq];simp;omega),fun t0 ht0=>?_⟩⟩⟩
  have n0:H t0=none:=(aL hp0).none ht0
  have s0:ae H (upd (upd H p0 (.lst [.int 0])) t0 (.lst (List.replicate ((r:Nat):Int).toNat [V.int 0]).flatten)):=fK (aL hp0) n0
  obtain ⟨as,hf1,hf2,hf3⟩:=id hf
  refine ⟨_,rfl,ag f _ ⟨rfl,s0.seq hf1,?_⟩⟩
  rw[Int.toNat_natCast,El] at s0⊢
  refine zw (J:=rR K f) M.length (fun i σ H'=> ∃(t:Addr) (v4 v5 v6:Option V),H t=none∧ae H H'∧(((M.zipIdx).take i).foldl (fun a x=>Sound.added a ((cX r x.1).map (Sound.mul (Sound.factor x.2 j)))) (List.replicate r 0)).length=r∧H' t=some (.lst (vN (((M.zipIdx).take i).foldl (fun a x=>Sound.added a ((cX r x.1).map (Sound.mul (Sound.factor x.2 j)))) (List.replicate r 0))))∧σ= [some (.int j),some (.int r),some (.ref f),some (.ref t),v4,v5,v6])
   ⟨t0,none,none,none,n0,s0,(by simp),ak,rfl⟩ ?_ ?_ ?_ ?_
  ·rintro i σ H1 hi ⟨t,v4,v5,v6,ht,s1,hl,hx,rfl⟩
   obtain ⟨a,h1,_⟩:=qN (as:=as) (i:=i) (by omega)
   exact ⟨_,_,s1.seq hf1,h1⟩
  ·rintro σ H1 ⟨t,v4,v5,v6,ht,s1,hl,hx,rfl⟩
   exact ⟨_,s1.seq hf1,by rw[List.length_map];omega⟩
  ·rintro i σ H1 x H1' hi ⟨t,v4,v5,v6,ht,s1,hl,hx,rfl⟩ ⟨T1,x1,rfl,hT1,rfl,hz⟩
   obtain ⟨a,rfl,ha⟩:=sI (hz _ (s1.seq hf1))
   obtain ⟨hm1,hm2⟩:=hrows _ (getD_mem' hi)
   rw[NV hi]
   generalize (((M.zipIdx).take i).foldl (fun a x=>Sound.added a ((cX r x.1).map (Sound.mul (Sound.factor x.2 j)))) (List.replicate r 0))=acc at*
   generalize hm:M.getD i []=m at*
   have sT:=aL (o:= .tup [.int (i:Nat), .ref a]) hT1
   have hma:ah K H a (vN m):=by rw[←hm];exact hf3 i a ha
   have s1T:=s1.trans sT
   refine (ag T1 _ ⟨rfl,aY.of ak,rfl,ag _ _ ⟨rfl,ag _ _ ⟨rfl,rfl,?_⟩⟩⟩)
   refine ⟨_,rfl,ag a _ ⟨rfl, .inl (s1T.seq hma),2,m.length,?_,by decide,fun D1 H2 hD1 s2 hx2=>?_⟩⟩
   ·rw[aZ];rfl
   have s12:=s1T.trans s2
   refine ⟨_,rfl,aC D1 a _ _ ⟨rfl,rfl,ah.of hx2,s12.seq hma,(by rw[aZ,aZ,cD,sizeLine_eq];omega),fun p1 hp1=>?_⟩⟩
   have s3:=aL (o:= .lst (vN (bf 2 m.length)++vN m)) hp1
   have s13:=s12.trans s3
   refine ⟨by rw[sizeLine_eq];show 1≤_;omega,fun p2 hp2=>?_⟩
   have s4:=aL (o:= .lst [V.int 0]) hp2
   have s14:=s13.trans s4
   refine ⟨_,rfl,ag _ _ ⟨rfl,rfl,_,rfl,ag a _ ⟨rfl, .inl (s14.seq hma),ag _ _ ⟨rfl,rfl,bG p2 _ _ ⟨rfl,rfl,ak,by rw[aZ];omega,by rw[aZ];omega,(by rw[sizeLine_eq,aZ];simp;omega),fun p3 hp3=>?_⟩⟩⟩⟩⟩
   have e1:(((r:Nat):Int)-2-((vN m).length:Nat)).toNat=r-2-m.length:=by rw[aZ];omega
   rw[e1,El]
   have s5:=aL (o:= .lst (vN (List.replicate (r-2-m.length) 0))) hp3
   have s15:=s14.trans s5
   refine (aC p1 p3 _ _ ⟨rfl,rfl,(s4.trans s5) _ _ ak,ak,(by rw[List.length_append,aZ,aZ,aZ,cD,List.length_replicate,sizeLine_eq];omega),fun p4 hp4=>?_⟩)
   have e2:vN (bf 2 m.length)++vN m++vN (List.replicate (r-2-m.length) 0)=vN (cX r m):=by unfold cX;rw[gB,gB]
   rw[e2]
   have s6:=aL (o:= .lst (vN (cX r m))) hp4
   have s16:=s15.trans s6
   refine ⟨_,rfl,_,rfl,_,rfl,ag i j ⟨rfl,⟨by omega,hj⟩,fun H6 s7=>?_⟩⟩
   refine ⟨_,rfl,Sound.factor i j,p4,cX r m,rfl,Eh (by omega) hj,ah.of (s7 _ _ ak),J0 hm2,(by rw[tM hm1];omega),fun D2 H7 hD2 s8 hx8=>?_⟩
   have hxt:H7 t=some (.lst (vN acc)):=s8 _ _ (s7 _ _ (s6 _ _ (s5 _ _ (s4 _ _ (s3 _ _ (s2 _ _ (sT _ _ hx)))))))
   have s18:=s16.trans (s7.trans s8)
   refine (aC t D2 acc _ ⟨rfl,ah.of hxt,ah.of hx8,(by rw[List.length_map,tM hm1,hl]),by omega,fun D3 H8 hD3 s9 hx9=>?_⟩)
   exact ⟨D3,_,_,_,s18.none hD3,s18.trans s9,(by rw[CU,List.length_map,tM hm1,hl];omega),hx9,rfl⟩
  ·rintro σ H1 ⟨t,v4,v5,v6,ht,s1,hl,hx,rfl⟩
   refine ⟨_,rfl,k t H1 ht s1 ?_⟩
   rw[hx]
   unfold ik
   rw[List.take_of_length_le (by rw[List.length_zipIdx];exact Nat.le_refl _)]
def lj (g j:Nat) (M:List (List Nat)):List Nat:=ll (bf 2 0x4B50++bf 2 g++ [j]++bf 2 (cU M)++ik (cU M) j M)
theorem An {r j:Nat}: ∀(L:List (List Nat×Nat)) (a:List Nat),a.length=r→(∀x∈L,x.1.length+2≤r)→(L.foldl (fun a x=>Sound.added a ((cX r x.1).map (Sound.mul (Sound.factor x.2 j)))) a).length=r
 | [],a,h,_=>h
 |x::L,a,h,hx=>An L _ (by rw[CU,List.length_map,tM (hx x (List.mem_cons_self ..)),h];omega) fun y hy=>hx y (List.mem_cons_of_mem _ hy)
theorem xD {r j:Nat} {M:List (List Nat)} (h: ∀m∈M,m.length+2≤r):(ik r j M).length=r:=
 An _ _ (by simp) fun x hx=>h _ (List.fst_mem_of_mem_zipIdx hx)
theorem JE {a b:List Nat} (ha: ∀x∈a,x<256) (hb: ∀x∈b,x<256): ∀x∈Sound.added a b,x<256:=fun x hx=>by
 unfold Sound.added at hx
 obtain ⟨i,hi,rfl⟩:=List.getElem_of_mem hx
 rw[List.length_zipWith] at hi
 rw[List.getElem_zipWith]
 exact Nat.xor_lt_two_pow (n:=8) (ha _ (List.getElem_mem (by omega))) (hb _ (List.getElem_mem (by omega)))
theorem Cy {r j:Nat} (hj:j<4): ∀(L:List (List Nat×Nat)) (a:List Nat),(∀x∈a,x<256)→(∀x∈L,x.2<8)→ ∀x∈L.foldl (fun a x=>Sound.added a ((cX r x.1).map (Sound.mul (Sound.factor x.2 j)))) a,x<256
 | [],a,h,_=>h
 |y::L,a,h,hx=>Cy hj L _ (JE h fun z hz=>by
   obtain ⟨c,_,rfl⟩:=List.mem_map.mp hz
   exact PZ (Eh (hx y (List.mem_cons_self ..)) hj) c) fun z hz=>hx z (List.mem_cons_of_mem _ hz)
theorem Er {r j:Nat} {M:List (List Nat)} (hj:j<4) (hM:M.length≤8): ∀x∈ik r j M,x<256:=
 Cy hj _ _ (fun x hx=>by rw[(List.mem_replicate.mp hx).2];decide) fun x hx=>by have:=List.snd_lt_of_mem_zipIdx hx;omega
theorem oJ {M:List (List Nat)} {m:List Nat} (h:m∈M):m.length+2≤cU M:=by
 have:=(md (fj M) 0).2.1 m.length (List.mem_map_of_mem h)
 unfold cU;omega
theorem yV {M:List (List Nat)} {b:Nat} (h: ∀m∈M,m.length≤b):cU M≤b+2:=by
 rcases (md (fj M) 0).2.2 with q|q
 ·unfold cU;omega
 ·obtain ⟨m,hm,e⟩:=List.mem_map.mp q
  have:=h m hm
  unfold cU;omega
def Mr (K:PySem.W.Frag):Sp:=fun vs H Q _=> ∃(g j:Nat) (f:Addr) (M:List (List Nat)),vs= [.int g, .int j, .ref f]∧jh K H f M∧(j<4∧1≤M.length∧M.length≤8)∧(∀m∈M,m.length≤4096∧ ∀x∈m,x<256)∧gE H Q (lj g j M)
theorem xm:aK ["g", "j", "frames", "row_size", "front"] ["g", "j", "frames"] (aD Ed):=⟨rfl,rfl,rfl,by decide+kernel,rfl,by decide+kernel,by decide+kernel⟩
theorem Rw (T:Txt K mg A):az P w K mg base ba 5 A.mv A.nV ["g", "j", "frames"] (Mr K):=by
 refine T.Ea.ok xm (fun vs H Q E h=>?_) (fun cdv Ar outer s H vs Q E hr h=>?_)
 ·obtain ⟨g,j,f,M,rfl,_⟩:=h
  rfl
 ·obtain ⟨g,j,f,M,rfl,hf,⟨hj,hM1,hM⟩,hrows,k⟩:=h
  have hr1':aF 1 _:=hr.mono (by decide)
  have hr2':aF 2 _:=hr.mono (by decide)
  refine ⟨_,ai (aI (i:=3) xm.nd rfl (Or.inl rfl) (aS (Qw T) hr1' rfl T.Pd T.AL.kp T.QW .nil aU (aa (pv 2) af)))
   (ai (aI (i:=4) xm.nd rfl (Or.inl rfl) (aw jv (aw jv (aw jv (aS (kg T) hr1' rfl T.kH T.jm.kp T.kP .nil aU (aa aq (aa (aV rfl T.Ki) af)))
     (aS (kg T) hr1' rfl T.kH T.jm.kp T.kP .nil aU (aa aq (aa (pv 0) af)))) (cg (aa (pv 1) af))) (aS (kg T) hr1' rfl T.kH T.jm.kp T.kP .nil aU (aa aq (aa (pv 3) af)))))
   (aj (aW (aS (FA T) hr2' rfl T.Mn T.ES.kp T.PV .nil aU (aa (aw jv (pv 4) (aS (Pq T) hr rfl T.Rm T.AQ.kp T.Jo .nil aU (aa (pv 1) (aa (pv 3) (aa (pv 2) af))))) af))))),?_⟩
  refine ⟨_,rfl,ag f M ⟨rfl,hf,⟨hM1,by omega⟩,fun H1 s1=>?_⟩⟩
  have hL:=yV fun m hm=>(hrows m hm).1
  have hge: ∀m∈M,m.length+2≤cU M:=fun m hm=>oJ hm
  have hx:=xD (r:=cU M) (j:=j) fun m hm=>oJ hm
  have hlt:=Er (r:=cU M) (M:=M) hj hM
  unfold lj at k
  generalize cU M=r at*
  refine (ag 2 19280 ⟨rfl,by decide,fun D1 H2 hD1 s2 x1=>?_⟩)
  refine ⟨_,rfl,ag 2 g ⟨rfl,by decide,fun D2 H3 hD2 s3 x2=>?_⟩⟩
  refine (aC D1 D2 _ _ ⟨rfl,rfl,s3 _ _ x1,x2,(by rw[aZ,aZ,cD,cD,sizeLine_eq];omega),fun p1 hp1=>?_⟩)
  have s4:=aL (o:= .lst (vN (bf 2 19280)++vN (bf 2 g))) hp1
  refine ⟨_,rfl,by rw[sizeLine_eq];show 1≤_;omega,fun p2 hp2=>?_⟩
  have s5:=aL (o:= .lst [V.int (j:Nat)]) hp2
  refine (aC p1 p2 _ _ ⟨rfl,rfl,s5 _ _ ak,ak,(by rw[List.length_append,aZ,aZ,cD,cD,sizeLine_eq];show _+1≤_;omega),fun p3 hp3=>?_⟩)
  have e1:vN (bf 2 19280)++vN (bf 2 g)++ [V.int (j:Nat)]=vN (bf 2 19280++bf 2 g++ [j]):=by rw[gB,gB];rfl
  rw[e1]
  have s6:=aL (o:= .lst (vN (bf 2 19280++bf 2 g++ [j]))) hp3
  refine ⟨_,rfl,ag 2 r ⟨rfl,by decide,fun D3 H4 hD3 s7 x3=>?_⟩⟩
  refine (aC p3 D3 _ _ ⟨rfl,rfl,s7 _ _ ak,x3,(by rw[aZ,aZ,cD,List.length_append,List.length_append,cD,cD,sizeLine_eq];show _+1+_≤_;omega),fun p4 hp4=>?_⟩)
  rw[←gB]
  have s8:=aL (o:= .lst (vN (bf 2 19280++bf 2 g++ [j]++bf 2 r))) hp4
  have s08:=s1.trans (s2.trans (s3.trans (s4.trans (s5.trans (s6.trans (s7.trans s8))))))
  refine ⟨_,rfl,_,rfl,_,rfl,_,rfl,aC j r f M ⟨rfl,hf.same s08,⟨hj,by omega,hM⟩,fun m hm=>⟨?_,(hrows m hm).2⟩,fun D5 H5 hD5 s9 x5=>?_⟩⟩
  ·exact hge m hm
  refine (aC p4 D5 _ _ ⟨rfl,rfl,s9 _ _ ak,x5,(by rw[aZ,aZ,hx,List.length_append,List.length_append,List.length_append,cD,cD,cD,sizeLine_eq];show _+1+_+_≤_;omega),fun p6 hp6=>?_⟩)
  rw[←gB]
  have s10:=aL (o:= .lst (vN (bf 2 19280++bf 2 g++ [j]++bf 2 r++ik r j M))) hp6
  have s0:=s08.trans (s9.trans s10)
  refine (ag p6 _ ⟨rfl,ah.of ak,fun x hx=>?_,(by rw[List.length_append,hx,List.length_append,List.length_append,List.length_append,cD,cD,cD];show _+1+_+_≤_;omega),fun D7 H7 hD7 s11 x7=>k D7 H7 (s0.none hD7) (s0.trans s11) x7⟩)
  rcases List.mem_append.mp hx with hx|hx
  ·rcases List.mem_append.mp hx with hx|hx
   ·rcases List.mem_append.mp hx with hx|hx
    ·rcases List.mem_append.mp hx with hx|hx
     ·exact tm _ _ x hx
     ·exact tm _ _ x hx
    ·rcases List.mem_cons.mp hx with rfl|hx
     ·omega
     ·cases hx
   ·exact tm _ _ x hx
  ·exact hlt x hx
def sG (w n:Int):Bool:=decide (-(2^(w-1).toNat)≤n)&&decide (n<2^(w-1).toNat)
def P7:Sp:=fun vs H Q _=> ∃w n:Int,vs= [.int w, .int n]∧(1≤w∧w≤25)∧Q (.bl (sG w n)) H
theorem B2:aK ["width", "number", "half"] ["width", "number"] (aD EJ):=⟨rfl,rfl,rfl,by decide+kernel,rfl,by decide+kernel,by decide+kernel⟩
theorem zL (T:Txt K mg A):az P w K mg base ba 1 A.nQ A.qG ["width", "number"] P7:=by
 refine T.wj.ok B2 (fun vs H Q E h=>?_) (fun cdv Ar outer s H vs Q E hr h=>?_)
 ·obtain ⟨w,n,rfl,_⟩:=h
  rfl
 ·obtain ⟨w,n,rfl,⟨h1,h2⟩,k⟩:=h
  refine ⟨_,ai (aI (i:=2) B2.nd rfl (Or.inl rfl) (aw jE aq (aw du (pv 0) aq)))
   (aj (aW (xC gD tX (jV ju (pv 2)) (pv 1) (pv 2)))),?_⟩
  refine ⟨_,rfl,ag _ _ ⟨rfl,rfl,ag _ _ ⟨rfl,rfl,⟨by omega,by omega,by decide⟩,_,rfl,_,rfl,_,rfl,ag _ _ ⟨rfl,rfl,_,rfl,?_⟩⟩⟩⟩
  unfold sG at k
  dsimp only
  rw[Int.one_mul]
  by_cases q: -(2^(w-1).toNat)≤n
  ·rw[decide_eq_true q,Bool.true_and] at k
   rw[decide_eq_true q]
   exact bt ⟨_,rfl,ag _ _ ⟨rfl,rfl,k⟩⟩
  ·rw[decide_eq_false q,Bool.false_and] at k
   rw[decide_eq_false q]
   exact bB k
theorem A7 {W:Nat} (h:1≤W) (n:Int):sG (W:Int) n=Sound.fits W n:=by
 unfold sG Sound.fits
 have:((W:Int)-1).toNat=W-1:=by omega
 rw[this]
def F5:Sp:=fun vs H Q _=> ∃n p r:Nat,vs= [.int n, .int p, .int r]∧(n≤1024∧r≤7)∧Q (.bl (pU n p r)) H
theorem Cw:aK ["n", "order", "r", "size"] ["n", "order", "r"] (aD EH):=⟨rfl,rfl,rfl,by decide+kernel,rfl,by decide+kernel,by decide+kernel⟩
theorem Li (T:Txt K mg A):az P w K mg base ba 1 A.mK A.oQ ["n", "order", "r"] F5:=by
 refine T.DX.ok Cw (fun vs H Q E h=>?_) (fun cdv Ar outer s H vs Q E hr h=>?_)
 ·obtain ⟨n,p,r,rfl,_⟩:=h
  rfl
 ·obtain ⟨n,p,r,rfl,⟨hn,hr7⟩,k⟩:=h
  refine ⟨_,ai (aI (i:=3) Cw.nd rfl (Or.inl rfl) (aw eU (pv 0) (pv 2)))
   (aj (aW (wH (gP gD (pv 2) (aV rfl T.PY) (aX _)) (wH (gP dA (aw jE (pv 3) (pv 2)) (pv 0) (aX _)) (uY (gP x6 (pv 3) (pv 1) (aX _))))))),?_⟩
  have e1:((n:Int)/2^(r:Int).toNat)=((n/2^r:Nat):Int):=by
   rw[Int.toNat_natCast];simp
  refine ⟨_,rfl,_,rfl,ag _ _ ⟨rfl,rfl,(by omega),?_⟩⟩
  dsimp only
  rw[e1]
  refine ⟨_,rfl,ag _ _ ⟨rfl,rfl,_,rfl,?_⟩⟩
  have hdn:n/2^r≤n:=Nat.div_le_self _ _
  unfold pU at k
  by_cases q1:r≤6
  ·rw[decide_eq_true q1,Bool.true_and] at k
   rw[decide_eq_true (show (r:Int)≤6 by omega)]
   refine bt ⟨_,rfl,_,rfl,ag _ _ ⟨rfl,rfl,⟨by omega,by omega,by rw[Int.natAbs_natCast];exact Nat.lt_of_le_of_lt (Nat.le_trans hdn hn) (by decide)⟩,_,rfl,?_⟩⟩
   dsimp only
   have e2:((n/2^r:Nat):Int)*2^(r:Int).toNat=((n/2^r*2^r:Nat):Int):=by
    rw[Int.toNat_natCast];simp
   rw[e2]
   by_cases q2:n/2^r*2^r=n
   ·rw[decide_eq_true q2,Bool.true_and] at k
    rw[q2]
    refine ⟨rfl,_,rfl,?_⟩
    rw[decide_eq_true (show V.int (n:Int)=V.int (n:Int) from rfl)]
    refine bt ⟨_,rfl,_,rfl,ag _ _ ⟨rfl,rfl,?_⟩⟩
    dsimp only
    have:decide ((p:Int)≤((n/2^r:Nat):Int))=decide (p≤n/2^r):=by
     rw[Bool.eq_iff_iff,decide_eq_true_eq,decide_eq_true_eq];omega
    rw[this];exact k
   ·rw[decide_eq_false q2,Bool.false_and] at k
    refine ⟨rfl,_,rfl,?_⟩
    rw[decide_eq_false (show¬V.int ((n/2^r*2^r:Nat):Int)=V.int (n:Int) from fun e=>q2 (by have:=V.int.inj e;omega))]
    exact bB k
  ·rw[decide_eq_false q1,Bool.false_and] at k
   rw[decide_eq_false (show¬(r:Int)≤6 by omega)]
   exact bB k
def Jc:Sp:=fun vs H Q _=> ∃k:Nat,vs= [.int k]∧(2≤k∧k≤10)∧Q (.int ((if k≤6 then k-2 else k-6:Nat):Int)) H
theorem PJ:aK ["kind"] ["kind"] (aD Aw):=⟨rfl,rfl,rfl,by decide+kernel,rfl,by decide+kernel,by decide+kernel⟩
theorem Lp (T:Txt K mg A):az P w K mg base ba 1 A.oE A.mY ["kind"] Jc:=by
 refine T.Ag.ok PJ (fun vs H Q E h=>?_) (fun cdv Ar outer s H vs Q E hr h=>?_)
 ·obtain ⟨e,rfl,_⟩:=h
  rfl
 ·obtain ⟨e,rfl,⟨h1,h2⟩,k⟩:=h
  refine ⟨_,aj (aW (lH (bq tX (pv 0) (aV rfl T.xu) (aX _)) (aw du (pv 0) (aV rfl T.Rq)) (aw b5 (aw du (pv 0) (aV rfl T.xu)) aq))),?_⟩
  refine ⟨_,rfl,ag _ _ ⟨rfl,rfl,_,rfl,?_⟩⟩
  by_cases q:e≤6
  ·rw[decide_eq_true (show (e:Int)<7 by omega)]
   rw[if_pos q] at k
   have e1:((e:Int)-2)=((e-2:Nat):Int):=by omega
   refine bt ⟨_,rfl,ag _ _ ⟨rfl,rfl,?_⟩⟩
   dsimp only
   rw[e1];exact k
  ·rw[decide_eq_false (show¬(e:Int)<7 by omega)]
   rw[if_neg q] at k
   have e1:((e:Int)-7+1)=((e-6:Nat):Int):=by omega
   refine bB ⟨_,rfl,ag _ _ ⟨rfl,rfl,ag _ _ ⟨rfl,rfl,?_⟩⟩⟩
   dsimp only
   rw[e1];exact k
def gf (f h:V):List (Str×V):= [("factors",f),("shift",h)]
theorem QQ (f h:V):bz "shift" h (bz "factors" f [])=gf f h:=by
 show bz "shift" h [(("factors" :Str),f)]=_
 unfold bz
 rw[if_neg (by decide)]
 rfl
theorem Je (f h:V):(gf f h).lookup ("factors" :Str)=some f:=rfl
theorem N9 (f h:V):(gf f h).lookup ("shift" :Str)=some h:=rfl
def gy (K:PySem.W.Frag) (C:Addr) (H:Hp) (x:Addr) (a:List Int) (h:Nat):Prop:= ∃dx p,H x=some (.ins C dx (gf (.ref p) (.int h)))∧ah K H p (a.map V.int)
theorem gy.same {K:PySem.W.Frag} {C:Addr} {H H':Hp} {x:Addr} {a:List Int} {h:Nat} (s:ae H H') (g:gy K C H x a h):gy K C H' x a h:=by
 obtain ⟨dx,p,h1,h2⟩:=g
 exact ⟨dx,p,s _ _ h1,s.seq h2⟩
def Mf (C:Addr):Sp:=fun vs H Q _=> ∃(p dx:Addr) (f h:V),vs= [.ref p,f,h]∧H p=some (.ins C dx [])∧Q .au (upd H p (.ins C dx (gf f h)))
theorem J2:aK ["self", "factors", "shift"] ["self", "factors", "shift"] (aD zD):=⟨rfl,rfl,rfl,by decide+kernel,rfl,by decide+kernel,by decide+kernel⟩
theorem Ep (T:Txt K mg A):az P w K mg base ba 1 A.pS A.lQ ["self", "factors", "shift"] (Mf A.cx):=by
 refine T.Jh.ok J2 (fun vs H Q E h=>?_) (fun cdv Ar outer s H vs Q E hr h=>?_)
 ·obtain ⟨p,dx,f,h,rfl,_⟩:=h
  rfl
 ·obtain ⟨p,dx,f,h,rfl,hp,k⟩:=h
  refine ⟨_,ai (bc (pv 0) (pv 1) rfl) (aj (bc (pv 0) (pv 2) rfl)),?_⟩
  refine ⟨_,rfl,_,rfl,p,A.cx,dx, [],rfl,hp,T.qw,T.BK,(by show 0<1000;decide),?_⟩
  refine ⟨_,rfl,_,rfl,aC p A.cx dx _ ⟨rfl,ak,T.qw,T.B4,(by show 1<1000;decide),?_⟩⟩
  rw[QQ,cB]
  exact k
theorem iv {H:Hp} {x dx C:Addr} {fs:List (Str×V)}:upd (upd (upd H dx (.own x)) x (.ins C dx [])) x (.ins C dx fs)=upd (upd H dx (.own x)) x (.ins C dx fs):=cB
theorem eK {H:Hp} {x dx:Addr} {o u:HO} (hx:H x=none) (hd:H dx=none):ae H (upd (upd H dx o) x u):=fun b v e=>by
 rw[aG (cw e hx),aG (cw e hd)];exact e
theorem yu: ∀(a y:List Int) (i t:Nat),i<a.length→fX (a.take (i+1)) y t=fX (a.take i) y t+a.getD i 0*y.getD (t-1-i) 0
 | [],y,i,t,h=>by simp at h
 |f::fs,y,0,t,h=>by simp [fX]
 |f::fs,y,i+1,t,h=>by
  rw[List.take_succ_cons,List.take_succ_cons]
  simp only [fX]
  rw[yu fs y i (t-1) (by simpa using h)]
  have e:t-1-1-i=t-1-(i+1):=by omega
  rw[e,List.getD_cons_succ]
  omega
def Mp (K:PySem.W.Frag) (C:Addr):Sp:=fun vs H Q _=> ∃(x q:Addr) (a y:List Int) (h t:Nat),vs= [.ref x, .ref q, .int t]∧gy K C H x a h∧ah K H q (y.map V.int)∧(a.length≤t∧t≤y.length)∧Bd 2048 a∧Q (.int (sU a h y t)) H
theorem kD:aK ["self", "numbers", "place", "total", "before", "factor"] ["self", "numbers", "place"] (aD Dg):=⟨rfl,rfl,rfl,by decide+kernel,rfl,by decide+kernel,by decide+kernel⟩
theorem Le (T:Txt K mg A):az P w K mg base ba 1 A.lG A.pz ["self", "numbers", "place"] (Mp K A.cx):=by
 refine T.O1.ok kD (fun vs H Q E h=>?_) (fun cdv Ar outer s H vs Q E hr h=>?_)
 ·obtain ⟨x,q,a,y,h,t,rfl,_⟩:=h
  rfl
 ·obtain ⟨x,q,a,y,h,t,rfl,⟨dx,p,hx,hp⟩,hq,⟨h1,h2⟩,hb,k⟩:=h
  refine ⟨_,ai (aI (i:=3) kD.nd rfl (Or.inl rfl) aq) (ai (aI (i:=4) kD.nd rfl (Or.inl rfl) (pv 2))
   (ai (cj PassesOwn.never rfl (dj (ax (pv 0) rfl)) (bo (i:=5) kD.nd rfl (Or.inl rfl))
    (ai (ig (i:=4) kD.nd rfl (Or.inl rfl) aq FW) (aj (ig (i:=3) kD.nd rfl (Or.inl rfl) (aw k9 (pv 5) (cH dY (pv 1) (pv 4) (fun _ _=>rfl))) D9))))
   (aj (aW (aw eU (pv 3) (ax (pv 0) rfl)))))),?_⟩
  refine ⟨_,rfl,_,rfl,x,A.cx,dx,_,_,rfl,hx,T.qw,T.BK,Je _ _,p,rfl,⟨_,hp⟩,?_⟩
  refine gk (K:=K) (a:=p) (xs:=a.map V.int) (fun i σ H'=>H'=H∧ ∃v:Option V,σ= [some (.ref x),some (.ref q),some (.int t),some (.int (fX (a.take i) y t)),some (.int ((t:Int)-i)),v])
   ⟨rfl,none,by simp [L2.start,fX]⟩ (fun i σ H' _ ⟨e,_⟩=>by rw[e];exact hp) ?_ ?_
  ·rintro i y' σ H' hi ⟨rfl,v,rfl⟩
   obtain ⟨rfl,hl⟩:=tV hi
   have hm:=hb _ (show a.getD i 0∈a by rw[List.getD_eq_getElem?_getD,List.getElem?_eq_getElem hl];exact List.getElem_mem hl)
   have e1:(t:Int)-i-1=((t-1-i:Nat):Int):=by omega
   refine ⟨_,rfl,ag _ _ ⟨rfl,rfl,_,rfl,_,rfl,_,rfl,_,rfl,aC q _ _ _ ⟨rfl,rfl,hq,at_of e1 (kT (by omega)),ag _ _ ⟨rfl,rfl, .inl ⟨by omega,by omega⟩,ag _ _ ⟨rfl,rfl,rfl,some (.int (a.getD i 0)),?_⟩⟩⟩⟩⟩
   rw[yu a y i t hl]
   have e2:(t:Int)-i-1=(t:Int)-((i+1:Nat):Int):=by omega
   rw[←e2]
   rfl
  ·rintro σ H' ⟨rfl,v,rfl⟩
   refine ⟨_,rfl,_,rfl,x,A.cx,dx,_,_,rfl,hx,T.qw,T.B4,N9 _ _,ag _ _ ⟨rfl,rfl,(by omega),?_⟩⟩
   rw[List.length_map,List.take_length]
   exact k
def Og (K:PySem.W.Frag) (C:Addr):Sp:=fun vs H Q _=> ∃p:Nat,vs= [.int p]∧p≤4∧ ∀x H',H x=none→ae H H'→gy K C (newOf H H') x (Sound.FIXED.getD p []) 0→Q (.ref x) H'
theorem QL:aK ["order"] ["order"] (aD Dz):=⟨rfl,rfl,rfl,by decide+kernel,rfl,by decide+kernel,by decide+kernel⟩
theorem Kw (T:Txt K mg A) {p:Nat} (h:p≤4) (H:Hp): ∃b,fZ [V.ref A.nu,V.ref A.pX,V.ref A.mh,V.ref A.lU,V.ref A.lX] (p:Int)=some (V.ref b)∧aY K H b ((Sound.FIXED.getD p []).map V.int):=by
 rcases (by omega:p=0∨p=1∨p=2∨p=3∨p=4) with rfl|rfl|rfl|rfl|rfl
 ·exact ⟨_,cv rfl,T.KW H⟩
 ·exact ⟨_,cv rfl,T.Mi H⟩
 ·exact ⟨_,cv rfl,T.Ko H⟩
 ·exact ⟨_,cv rfl,T.Po H⟩
 ·exact ⟨_,cv rfl,T.Lj H⟩
theorem Fp (T:Txt K mg A):az P w K mg base ba 3 A.mD A.lY ["order"] (Og K A.cx):=by
 refine T.A5.ok QL (fun vs H Q E h=>?_) (fun cdv Ar outer s H vs Q E hr h=>?_)
 ·obtain ⟨p,rfl,_⟩:=h
  rfl
 ·obtain ⟨p,rfl,hp,k⟩:=h
  refine ⟨_,aj (aW (fY T.Be (Ep T) hr rfl T.EK T.yR .nil aU
   (aa (wg ve rfl T.xB (by decide+kernel:bootBuiltins "list" =some (.type "list")) (aa (cH sZ (eS rfl T.Rz) (pv 0) (fun _ _=>rfl)) af)) (aa aq af)))),?_⟩
  obtain ⟨b,hb,hT⟩:=Kw T hp H
  refine ⟨_,rfl,aC A.oP _ _ _ ⟨rfl,rfl,T.Q4 H,hb,ag b _ ⟨rfl, .inr hT,fun l hl=>?_⟩⟩⟩
  intro x dx hx hdx hne
  refine (aC x dx _ _ ⟨rfl,ak,rfl,?_⟩)
  rw[iv]
  have hx0:H x=none:=by
   cases e:H x with
   |none=>rfl
   |some o=>rw[aL hl _ _ e] at hx;cases hx
  refine k x _ hx0 ((aL hl).trans (eK hx hdx)) ⟨dx,l,(gU hx0).trans ak,ah.of ((gU hl).trans ?_)⟩
  exact eK hx hdx _ _ ak
def GU (K:PySem.W.Frag):Sp:=fun vs H Q _=> ∃(q:Addr) (l:List Nat),vs= [.ref q]∧ah K H q (vN l)∧(∀x∈l,x<256)∧Q (.int (su l:Nat)) H
theorem jO:aK ["data", "check", "byte", "step"] ["data"] (aD Ck):=⟨rfl,rfl,rfl,by decide+kernel,rfl,by decide+kernel,by decide+kernel⟩
def iR:Nat→Nat→Nat
 |0,c=>c
 |j+1,c=>iw (iR j c)
theorem Lv {p:Nat} (h:p<65536):iw p<65536:=by
 unfold iw
 split
 ·rename_i hc
  rw[show (69665:Nat)=65536^^^4129 by decide,←Nat.xor_assoc,yw (by omega) (by omega)]
  exact tT (Nat.mod_lt _ (by decide)) (by decide)
 ·omega
theorem EY {c:Nat} (h:c<65536): ∀j,iR j c<65536
 |0=>h
 |j+1=>Lv (EY h j)
theorem Q0 (c b:Nat):iR 8 (c^^^(b*256))=eQ c b:=by
 unfold eQ
 rw[show List.range 8= [0,1,2,3,4,5,6,7] from rfl]
 simp only [List.foldl_cons,List.foldl_nil,iR]
theorem N6 (T:Txt K mg A):az P w K mg base ba 1 A.oZ A.pR ["data"] (GU K):=by
 refine T.BQ.ok jO (fun vs H Q E h=>?_) (fun cdv Ar outer s H vs Q E hr h=>?_)
 ·obtain ⟨q,l,rfl,_⟩:=h
  rfl
 ·obtain ⟨q,l,rfl,hq,hb,k⟩:=h
  refine ⟨_,ai (aI (i:=1) jO.nd rfl (Or.inl rfl) aq)
   (ai (cj PassesOwn.never rfl (dj (pv 0)) (bo (i:=2) jO.nd rfl (Or.inl rfl))
    (ai (ig (i:=1) jO.nd rfl (Or.inl rfl) (aw jE (pv 2) aq) sx)
    (aj (cj PassesOwn.never rfl (fk rfl T.dQ (aa aq af)) (bo (i:=3) jO.nd rfl (Or.inl rfl))
     (ai (ig (i:=1) jO.nd rfl (Or.inl rfl) aq Cn)
     (aj (bp (bq d4 (pv 1) aq (aX _)) (aj (ig (i:=1) jO.nd rfl (Or.inl rfl) aq sx)) bu)))))))
   (aj (aW (pv 1)))),?_⟩
  refine ⟨_,rfl,q,rfl,⟨_,hq⟩,?_⟩
  refine gk (K:=K) (a:=q) (xs:=vN l) (fun i σ H'=>H'=H∧(l.take i).foldl eQ 65535<65536∧ ∃v2 v3:Option V,σ= [some (.ref q),some (.int ((l.take i).foldl eQ 65535:Nat)),v2,v3]) ⟨rfl,(by rw[List.take_zero,List.foldl_nil];decide),none,none,(by rw[List.take_zero,List.foldl_nil];rfl)⟩ (fun i σ H' _ ⟨e,_⟩=>by rw[e];exact hq) ?_ ?_
  ·rintro i x σ H' hi ⟨rfl,hlt,v2,v3,rfl⟩
   obtain ⟨rfl,hil⟩:=eI hi
   generalize hc:(l.take i).foldl eQ 65535=c at*
   have hbl:l.getD i 0<256:=hb _ (by rw[List.getD_eq_getElem?_getD,List.getElem?_eq_getElem hil];exact List.getElem_mem hil)
   have enext:(l.take (i+1)).foldl eQ 65535=eQ c (l.getD i 0):=by
    rw[List.take_succ,List.getElem?_eq_getElem hil,List.foldl_append,hc,List.getD_eq_getElem?_getD,List.getElem?_eq_getElem hil]
    simp only [Option.toList_some,List.foldl_cons,List.foldl_nil,Option.getD_some]
   have hnlt:eQ c (l.getD i 0)<65536:=(BF hlt hbl).2
   refine ⟨_,rfl,_,rfl,ag _ _ ⟨rfl,rfl,⟨by decide,by decide,by rw[Int.natAbs_natCast];omega⟩,ag _ _ ⟨rfl,rfl,?_⟩⟩⟩
   have ex:Builtin.bitXor ((c:Nat):Int) (((l.getD i 0:Nat):Int)*2^(8:Int).toNat)=((c^^^(l.getD i 0*256):Nat):Int):=by
    rw[←g9]
    congr 1
   dsimp only
   rw[ex]
   have hstart:c^^^(l.getD i 0*256)<65536:=tT hlt (by omega)
   refine ⟨_,rfl,by decide,by decide,?_⟩
   refine fE (lo:=0) (n:=8) (fun j σ Hj=>Hj=H'∧ ∃v3:Option V,σ= [some (.ref q),some (.int (iR j (c^^^(l.getD i 0*256)):Nat)),some (.int (l.getD i 0:Nat)),v3]) ⟨rfl,v3,rfl⟩ ?_ ?_
   ·rintro j σ H' hj ⟨rfl,v3,rfl⟩
    have hjl:=EY hstart j
    generalize hp:iR j (c^^^(l.getD i 0*256))=p at*
    have hnx:iR (j+1) (c^^^(l.getD i 0*256))=iw p:=by rw[iR,hp]
    rw[Int.zero_add]
    refine ⟨_,rfl,ag _ _ ⟨rfl,rfl,⟨by decide,by decide,by rw[Int.natAbs_natCast];omega⟩,?_⟩⟩
    have e2:((p:Nat):Int)*2^(1:Int).toNat=((2*p:Nat):Int):=by
     rw[show (2:Int)^(1:Int).toNat=2 by decide];omega
    dsimp only
    rw[e2]
    refine ⟨_,rfl,ag _ _ ⟨rfl,rfl,_,rfl,?_⟩⟩
    refine bZ (fun hc2=>?_) fun hc2=>?_
    ·have hc2:(65535:Int)<((2*p:Nat):Int):=of_decide_eq_true hc2
     refine ⟨_,rfl,ag _ _ ⟨rfl,rfl,rfl,some (.int (j:Nat)),?_⟩⟩
     rw[hnx]
     unfold iw
     rw[if_pos (by omega)]
     have:=g9 (2*p) 69665
     show [some (V.ref q),some (V.int (Builtin.bitXor ((2*p:Nat):Int) 69665)),some (V.int (l.getD i 0:Nat)),some (V.int (j:Nat))]=_
     rw[show (69665:Int)=((69665:Nat):Int) from rfl,this]
    ·have hc2: ¬(65535:Int)<((2*p:Nat):Int):=fun z=>hc2 (decide_eq_true z)
     refine ⟨rfl,some (.int (j:Nat)),?_⟩
     rw[hnx]
     unfold iw
     rw[if_neg (by omega)]
     rfl
   ·rintro σ H' ⟨rfl,v3,rfl⟩
    refine ⟨rfl,?_,some (.int (l.getD i 0:Nat)),v3,?_⟩
    ·rw[enext];exact hnlt
    ·rw[enext,Q0]
  ·rintro σ H' ⟨rfl,_,v2,v3,rfl⟩
   rw[aZ,List.take_length]
   exact ⟨_,rfl,k⟩
def tj:List Nat:= [1,4,16,0,1,0]
def wK:List Nat:= [4,24,256,4,8,4]
def ox (i z:Nat):Bool:=decide (((tj.getD i 0:Nat):Int)≤(z:Nat))&&decide ((z:Int)≤(wK.getD i 0:Nat))
theorem yC (T:Txt K mg A) {i:Nat} (hi:i<6): ∃b,([V.ref A.pC,V.ref A.pb,V.ref A.qA,V.ref A.pj,V.ref A.nz,V.ref A.oi]:List V)[i]?=some (.ref b)∧ ∀H,aY K H b [V.int ((tj.getD i 0:Nat):Int),V.int ((wK.getD i 0:Nat):Int)]:=by
 rcases (by omega:i=0∨i=1∨i=2∨i=3∨i=4∨i=5) with rfl|rfl|rfl|rfl|rfl|rfl
 ·exact ⟨_,rfl,T.NK⟩
 ·exact ⟨_,rfl,T.Fs⟩
 ·exact ⟨_,rfl,T.KC⟩
 ·exact ⟨_,rfl,T.JP⟩
 ·exact ⟨_,rfl,T.MK⟩
 ·exact ⟨_,rfl,T.Mg⟩
theorem JY {fm:List Nat} (h: ¬fm.length=6):(Sound.formOf fm).isSome=false:=by
 unfold Sound.formOf
 split
 ·exact absurd rfl h
 ·rfl
theorem Ll {fm:List Nat} (h:fm.length=6):((List.range 6).map fun i=>ox i (fm.getD i 0)).all id=(Sound.formOf fm).isSome:=by
 match fm,h with
 | [c,d,b,o,g,p],_=>
  rw[show List.range 6= [0,1,2,3,4,5] from rfl]
  have e:(Sound.formOf [c,d,b,o,g,p]).isSome=(Sound.Form.mk c d b o g p).ok:=by
   unfold Sound.formOf
   simp only
   cases (Sound.Form.mk c d b o g p).ok<;>rfl
  rw[e,Bool.eq_iff_iff]
  unfold Sound.Form.ok
  simp only [List.map_cons,List.map_nil,List.all_cons,List.all_nil,ox,tj,wK,List.getD_cons_zero,List.getD_cons_succ,id,Bool.and_eq_true,decide_eq_true_eq,and_true]
  omega
def Mq (K:PySem.W.Frag):Sp:=fun vs H Q _=> ∃(q:Addr) (fm:List Nat),vs= [.ref q]∧ah K H q (vN fm)∧ ∀H',ae H H'→Q (.bl (Sound.formOf fm).isSome) H'
theorem r9:aK ["form", "number", "bounds"] ["form"] (aD Dn):=⟨rfl,rfl,rfl,by decide+kernel,rfl,by decide+kernel,by decide+kernel⟩
theorem G7 (T:Txt K mg A):az P w K mg base ba 1 A.pE A.mH ["form"] (Mq K):=by
 refine T.DE.ok r9 (fun vs H Q E h=>?_) (fun cdv Ar outer s H vs Q E hr h=>?_)
 ·obtain ⟨q,fm,rfl,_⟩:=h
  rfl
 ·obtain ⟨q,fm,rfl,hq,k⟩:=h
  refine ⟨_,ai (bp (bq gF (cq di (by rfl) T.cW PySem.boot_len (aa (pv 0) af)) (cq di (by rfl) T.cW PySem.boot_len (aa (eS rfl T.x4) af)) (aX _)) (aj (aW Oa)) bu)
   (aj (aW (cq (zx rfl) rfl T.zE (by decide+kernel:bootBuiltins "all" =some (.builtin "all")) (aa (fh (own:= [("number",1),("bounds",2)]) rfl r9.nd (Ia rfl T.wz (aa (pv 0) (aa (eS rfl T.x4) af))) (dM (by kernel_rfl))
    (fun _ _ _ _ _=>o5 (K:=K) (n:=2) rfl rfl (gq (bo (i:=1) r9.nd rfl (Or.inl rfl)) (gq (bo (i:=2) r9.nd rfl (Or.inl rfl)) oq))) (fun _ _ _ _ _=>dJ)
    (fun _ _ _ _ _=>xC gD gD (cH (sR (K:=K) rfl) (pv 2) aq (fun _ _=>rfl)) (pv 1) (cH (sR (K:=K) rfl) (pv 2) aq (fun _ _=>rfl)))) af)))),?_⟩
  refine ⟨_,rfl,ag q _ ⟨rfl, .inl hq,ag A.jg _ ⟨rfl, .inr (T.pZ _),rfl,_,rfl,?_⟩⟩⟩
  refine bZ (fun hne=>?_) fun hne=>?_
  ·have h6: ¬fm.length=6:=fun e=>by
    have hl:(vN fm).length=6:=by rw[aZ,e]
    rw[hl] at hne
    exact absurd hne (show¬((!decide (V.int ((6:Nat):Int)=V.int ((6:Nat):Int)))=true) by decide)
   have:=k H (ae.refl _)
   rw[JY h6] at this
   exact this
  ·have h6:fm.length=6:=by
    by_cases e:fm.length=6
    ·exact e
    ·exfalso
     apply hne
     rw[Bool.not_eq_true',decide_eq_false_iff_not]
     intro z
     have z:=V.int.inj z
     rw[aZ] at z
     have z:((fm.length:Nat):Int)=((6:Nat):Int):=z
     omega
   refine ⟨_,rfl,aC q A.jg _ _ ⟨rfl,hq,T.pZ _,fun D hD=>?_⟩⟩
   refine fc (J:=vO K q A.jg) hD 6 (by rw[sizeLine_eq];omega) (fun i=> .bl (ox i (fm.getD i 0)))
    (fun i Hh hi s1=>by
     obtain ⟨b,hb1,_⟩:=yC T hi
     exact ⟨_,_,_,_,s1.seq hq,T.pZ _,fH (by omega),hb1⟩) (fun Hh s1=>⟨_,_,s1.seq hq,T.pZ _, .inl (by rw[aZ];omega)⟩) ?_ ?_
   ·rintro i Hh z H' hi s1 ⟨t,x1,y1,rfl,ht,rfl,hx,hy⟩ C hC
    obtain ⟨rfl,_⟩:=eI (hx _ (s1.seq hq))
    obtain ⟨b,hb1,hb2⟩:=yC T hi
    have e:=hy _ (T.pZ _)
    rw[hb1] at e
    cases e
    have st:ae Hh (upd Hh t (.tup [V.int ((fm.getD i 0:Nat):Int),V.ref b])):=aL ht
    refine (ag t _ ⟨rfl,aY.of ak,rfl,ag _ _ ⟨rfl,ag _ _ ⟨rfl,rfl,rfl,?_⟩⟩⟩)
    refine ⟨_,rfl,aC b _ _ _ ⟨rfl,rfl,hb2 _,cv (j:=0) rfl,_,rfl,ag _ _ ⟨rfl,rfl,_,rfl,?_⟩⟩⟩
    have hC:=hC _ st
    unfold ox at hC
    by_cases c1:((tj.getD i 0:Nat):Int)≤((fm.getD i 0:Nat):Int)
    ·rw[decide_eq_true c1,Bool.true_and] at hC
     rw[decide_eq_true c1]
     exact bt ⟨_,rfl,aC b _ _ _ ⟨rfl,rfl,hb2 _,cv (j:=1) rfl,ag _ _ ⟨rfl,rfl,hC⟩⟩⟩
    ·rw[decide_eq_false c1,Bool.false_and] at hC
     rw[decide_eq_false c1]
     exact bB hC
   ·intro Hh s1 hx
    refine ⟨D,(List.range 6).map fun i=>ox i (fm.getD i 0),rfl,ah.of (hx.trans ?_),?_⟩
    ·rw[List.map_map];rfl
    ·rw[Ll h6]
     exact k _ s1
def aB (S:List Addr) (H:Hp):Hp:=fun b=>if b∈S then none else H b
theorem bQ (S:List Addr) (H:Hp):ae (aB S H) H:=fun b o h=>by
 unfold aB at h
 split at h
 ·cases h
 ·exact h
theorem _root_.L2.ae.aB {S:List Addr} {H0 H:Hp} (s:ae H0 H) (h: ∀b∈S,H0 b=none):ae H0 (aB S H):=fun b o e=>by
 unfold Wg.aB
 rw[if_neg (fun z=>by rw[h b z] at e;cases e)]
 exact s b o e
theorem gw {S:List Addr} {H:Hp} {b:Addr} (h:b∈S):aB S H b=none:=by unfold aB;rw[if_pos h]
theorem cR {S:List Addr} {H:Hp} {b:Addr} (h:b∉S):aB S H b=H b:=by unfold aB;rw[if_neg h]
structure bF where
 r:Addr
 dr:Addr
 q:Addr
 B:Sound.Bytes
def fJ (d p:V):List (Str×V):= [("data",d),("place",p)]
theorem NS (d p:V):bz "place" p (bz "data" d [])=fJ d p:=by
 show bz "place" p [(("data" :Str),d)]=_
 unfold bz
 rw[if_neg (by decide)]
 rfl
theorem QM (d p p':V):bz "place" p' (fJ d p)=fJ d p':=by
 have n1: ¬("data" :Str)= "place" :=by decide
 simp only [fJ,bz,if_neg n1];rfl
def cE (K:PySem.W.Frag) (H0:Hp) (R:bF):Prop:=ah K H0 R.q (vN (bn R.B))∧H0 R.r=none∧R.B.length≤4096
def bg (C:Addr) (H:Hp) (R:bF) (l:Sound.Bits):Prop:= ∃p,l=(Sound.bitsOf R.B).drop p∧p≤8*R.B.length∧H R.r=some (.ins C R.dr (fJ (.ref R.q) (.int (p:Nat))))
theorem cE.same {H0 H1:Hp} {R:bF} (h:cE K H0 R) (s:ae H0 H1) (n:H1 R.r=none):cE K H1 R:=⟨s.seq h.1,n,h.2.2⟩
def bE (A:aT) (H0:Hp) (R:bF) {α:Type} (g:Sound.Got α) (Q:α→Hp→Prop) (E:XK):Prop:=match g with
 | .ok x l=> ∀H',ae H0 H'→bg A.aQ H' R l→Q x H'
 | .bad=> ∀H',ae H0 H'→E (.ref A.fz) none H'
 | .short=> ∀H',ae H0 H'→E (.ref A.iN) none H'
theorem bE.seq {H0:Hp} {R:bF} {α β:Type} {g:Sound.Got α} {f:α→Sound.Bits→Sound.Got β} {Q:β→Hp→Prop} {Q':α→Hp→Prop} {E:XK} (h:bE A H0 R (g.then_ f) Q E)
  (k: ∀x l H',g= .ok x l→ae H0 H'→bg A.aQ H' R l→bE A H0 R (f x l) Q E→Q' x H'):bE A H0 R g Q' E:=by
 cases g with
 |ok x l=>exact fun H' s st=>k x l H' rfl s st h
 |bad=>exact h
 |short=>exact h
theorem bE.cT {H0 H1:Hp} {R:bF} {α β:Type} {g:Sound.Got α} {f:α→Sound.Bits→Sound.Got β} {Q:β→Hp→Prop} {Q':α→Hp→Prop} {E:XK} (h:bE A H0 R (g.then_ f) Q E) (s:ae H0 H1)
  (k: ∀x l H',g= .ok x l→ae H1 H'→bg A.aQ H' R l→bE A H0 R (f x l) Q E→Q' x H'):bE A H1 R g Q' E:=by
 cases g with
 |ok x l=>exact fun H' s' st=>k x l H' rfl s' st h
 |bad=>exact fun H' s'=>h H' (s.trans s')
 |short=>exact fun H' s'=>h H' (s.trans s')
theorem bE.low {H0 H1:Hp} {R:bF} {α:Type} {g:Sound.Got α} {Q:α→Hp→Prop} {E:XK} (h:bE A H0 R g Q E) (s:ae H0 H1):bE A H1 R g Q E:=by
 cases g with
 |ok x l=>exact fun H' s' st=>h H' (s.trans s') st
 |bad=>exact fun H' s'=>h H' (s.trans s')
 |short=>exact fun H' s'=>h H' (s.trans s')
def P2 (C:Addr):Sp:=fun vs H Q _=> ∃(p dx:Addr) (d:V),vs= [.ref p,d]∧H p=some (.ins C dx [])∧Q .au (upd H p (.ins C dx (fJ d (.int 0))))
theorem GS:aK ["self", "data"] ["self", "data"] (aD yH):=⟨rfl,rfl,rfl,by decide+kernel,rfl,by decide+kernel,by decide+kernel⟩
theorem OO (T:Txt K mg A):az P w K mg base ba 1 A.mQ A.ou ["self", "data"] (P2 A.aQ):=by
 refine T.LN.ok GS (fun vs H Q E h=>?_) (fun cdv Ar outer s H vs Q E hr h=>?_)
 ·obtain ⟨p,dx,d,rfl,_⟩:=h
  rfl
 ·obtain ⟨p,dx,d,rfl,hp,k⟩:=h
  refine ⟨_,ai (bc (pv 0) (pv 1) rfl) (aj (bc (pv 0) aq rfl)),?_⟩
  refine ⟨_,rfl,_,rfl,p,A.aQ,dx, [],rfl,hp,T.bP,T.so,(by show 0<1000;decide),?_⟩
  refine ⟨_,rfl,aC p A.aQ dx _ ⟨rfl,ak,T.bP,T.jJ,(by show 1<1000;decide),?_⟩⟩
  rw[NS,cB]
  exact k
def K0 (K:PySem.W.Frag) (A:aT):Sp:=fun vs H Q E=> ∃(H0:Hp) (R:bF) (n:Nat) (l:Sound.Bits),vs= [.ref R.r, .int n]∧ae H0 H∧cE K H0 R∧bg A.aQ H R l∧n≤64∧bE A H0 R (Sound.takeU n l) (fun x H'=>Q (.int (x:Nat)) H') E
theorem pT:aK ["self", "width", "behind", "number", "byte"] ["self", "width"] (aD BL):=⟨rfl,rfl,rfl,by decide+kernel,rfl,by decide+kernel,by decide+kernel⟩
theorem K1 (n:Nat):(-(n:Int))%8=((8*((n+7)/8)-n:Nat):Int):=by omega
theorem d6 (T:Txt K mg A):az P w K mg base (aR P w) 1 A.mR A.o8 ["self", "width"] (K0 K A):=by
 refine T.NO.bN pT (fun vs H Q E h=>?_) (fun cdv Ar outer s H vs Q E hr h=>?_)
 ·obtain ⟨H0,R,n,l,rfl,_⟩:=h
  rfl
 ·obtain ⟨H0,R,n,l,rfl,s0,⟨hq,hn0,hB⟩,⟨p,rfl,hp,hx⟩,hn,k⟩:=h
  refine ⟨_,ai (aI (i:=2) pT.nd rfl (Or.inl rfl) (aw b5 (ax (pv 0) rfl) (pv 1)))
   (ai (bp (bq d4 (pv 2) (aw k9 aq (cq di (by rfl) T.cW PySem.boot_len (aa (ax (pv 0) rfl) af))) (aX _)) (aj (fg rfl rfl T.rh T.rq.exc fq)) bu)
   (ai (aI (i:=3) pT.nd rfl (Or.inl rfl) aq)
   (ai (cj PassesOwn.leaving rfl (dj (eZ fu (ax (pv 0) rfl) (cQ (aw jA (ax (pv 0) rfl) aq)) (cQ (aw jA (aw b5 (pv 2) aq) aq)))) (bo (i:=4) pT.nd rfl (Or.inl rfl))
    (aj (aI (i:=3) pT.nd rfl (Or.inl rfl) (aw yL (aw rn (pv 3) aq) (pv 4)))))
   (ai (bc (pv 0) (pv 2) rfl)
   (aj (aW (aw kq (aw eU (pv 3) (aw kR (jV ju (pv 2)) aq)) (aw du (aw rn aq (pv 1)) aq)))))))),?_⟩
  have hqH:=s0.seq hq
  refine (aA rfl hx T.bP T.jJ rfl ⟨_,rfl,ag _ _ ⟨rfl,rfl,?_⟩⟩)
  dsimp only
  rw[show ((p:Nat):Int)+((n:Nat):Int)=((p+n:Nat):Int) by omega]
  refine ⟨_,rfl,aA rfl hx T.bP T.so rfl (ag R.q _ ⟨rfl, .inl hqH,ag _ _ ⟨rfl,rfl, .inl ⟨by decide,by decide⟩,ag _ _ ⟨rfl,rfl,_,rfl,?_⟩⟩⟩)⟩
  rw[aZ,b6]
  have hlen:((Sound.bitsOf R.B).drop p).length=8*R.B.length-p:=by rw[List.length_drop,jW]
  unfold Sound.takeU at k
  refine bZ (fun hc=>?_) fun hc=>?_
  ·have hc:(8:Int)*((R.B.length:Nat):Int)<((p+n:Nat):Int):=of_decide_eq_true hc
   rw[if_pos ((jG _ _).mpr (by rw[hlen];omega))] at k
   exact k H s0
  ·have hc: ¬(8:Int)*((R.B.length:Nat):Int)<((p+n:Nat):Int):=fun z=>hc (decide_eq_true z)
   rw[if_neg (fun z=>by have:=(jG _ _).mp z;rw[hlen] at this;omega)] at k
   refine (aA rfl hx T.bP T.so rfl (aA rfl hx T.bP T.jJ rfl (ag _ _ ⟨rfl,rfl,⟨by decide,by decide⟩,_,rfl,_,rfl,ag _ _ ⟨rfl,rfl,ag _ _ ⟨rfl,rfl,⟨by decide,by decide⟩,_,rfl,ag R.q _ ⟨rfl,hqH,fun D hD=>?_⟩⟩⟩⟩)))
   have e1:((p:Nat):Int)/8=((p/8:Nat):Int):=by omega
   have e2:(((p+n:Nat):Int)+7)/8=(((p+n+7)/8:Nat):Int):=by omega
   rw[e1,e2,jo,iP,fV]
   have hv:=Ie (B:=R.B) (p:=p) (n:=n) (by omega)
   generalize hbs:(R.B.drop (p/8)).take ((p+n+7)/8-p/8)=bs at*
   have hbl:bs.length≤1000:=by rw[←hbs,List.length_take];omega
   have hnD:H0 D=none:=s0.none hD
   have sD:ae H (upd H D (.lst (vN (bn bs)))):=aL hD
   have hxD:upd H D (.lst (vN (bn bs))) R.r=some (.ins A.aQ R.dr (fJ (.ref R.q) (.int (p:Nat)))):=sD _ _ hx
   have s0D:ae H0 (upd H D (.lst (vN (bn bs)))):=s0.trans sD
   have hDx:upd H D (.lst (vN (bn bs))) D=some (.lst (vN (bn bs))):=ak
   generalize upd H D (.lst (vN (bn bs)))=H1 at*
   refine ⟨D,rfl,⟨_,ah.of hDx⟩,?_⟩
   refine gk (K:=K) (a:=D) (xs:=vN (bn bs)) (fun i σ H'=>H'=H1∧ ∃v4:Option V,σ= [some (.ref R.r),some (.int (n:Nat)),some (.int ((p+n:Nat):Int)),some (.int (bL ((bn bs).take i):Nat)),v4]) ⟨rfl,none,rfl⟩ (fun i σ H' _ ⟨e,_⟩=>by rw[e];exact ah.of hDx) ?_ ?_
   ·rintro i x σ H' hi ⟨rfl,v4,rfl⟩
    obtain ⟨rfl,hil⟩:=eI hi
    have hlt:=rA (l:=(bn bs).take i) fun x hx=>fv bs x (List.mem_of_mem_take hx)
    have hbits:Builtin.Int.intBits ((bL ((bn bs).take i):Nat):Int)≤8*i:=by
     rw[tu,List.length_take] at hlt
     exact EE (Nat.lt_of_lt_of_le hlt (Nat.pow_le_pow_right (by decide) (by omega)))
    have e27:(2:Int)^27=134217728:=by decide
    rw[b6] at hil
    refine ⟨_,rfl,ag _ _ ⟨rfl,rfl,⟨by omega,by omega⟩,_,rfl,ag _ _ ⟨rfl,rfl,rfl,some (.int ((bn bs).getD i 0:Nat)),?_⟩⟩⟩
    have hil':i<(bn bs).length:=by rw[b6];exact hil
    have e:bL ((bn bs).take (i+1))=256*bL ((bn bs).take i)+(bn bs).getD i 0:=by
     unfold bL
     rw[qX _ _ _ hil',getD_at hil']
    have ex:Builtin.bitOr (((bL ((bn bs).take i):Nat):Int)*2^(8:Int).toNat) (((bn bs).getD i 0:Nat):Int)=((bL ((bn bs).take (i+1)):Nat):Int):=by
     have e8:((bL ((bn bs).take i):Nat):Int)*2^(8:Int).toNat=((256*bL ((bn bs).take i):Nat):Int):=by
      rw[show (2:Int)^(8:Int).toNat=256 by decide];omega
     rw[e8,wo,BO (qW (fv bs) hil'),e]
    show [_,_,_,some (V.int (Builtin.bitOr _ _)),_]=_
    rw[ex]
   ·rintro σ H' ⟨rfl,v4,rfl⟩
    rw[aZ,List.take_length]
    refine ⟨_,rfl,_,rfl,aC R.r A.aQ R.dr _ ⟨rfl,hxD,T.bP,T.jJ,(by show 2<1000;decide),?_⟩⟩
    rw[QM]
    have e27:(2:Int)^27=134217728:=by decide
    have ei:Builtin.Int.intBits 1=1:=by decide+kernel
    refine ⟨_,rfl,_,rfl,_,rfl,ag _ _ ⟨rfl,rfl,(by show (0:Int)<8;decide),?_⟩⟩
    dsimp only
    rw[K1]
    refine (ag _ _ ⟨rfl,rfl,(by omega),_,rfl,ag _ _ ⟨rfl,rfl,⟨by omega,by rw[ei];omega⟩,ag _ _ ⟨rfl,rfl,ag _ _ ⟨rfl,rfl,?_⟩⟩⟩⟩)
    have ef:Builtin.bitAnd (((bL (bn bs):Nat):Int)/2^((8*((p+n+7)/8)-(p+n):Nat):Int).toNat) (1*2^((n:Nat):Int).toNat-1)=((Sound.value (((Sound.bitsOf R.B).drop p).take n):Nat):Int):=by
     rw[Int.one_mul,Int.toNat_natCast,Int.toNat_natCast,mask,←hv]
     unfold bn
     simp
    dsimp only
    rw[ef]
    refine k _ (fK s0D hn0) ⟨p+n,?_,by omega,ak⟩
    rw[List.drop_drop]
def G5 (K:PySem.W.Frag) (A:aT):Sp:=fun vs H Q E=> ∃(H0:Hp) (R:bF) (n:Nat) (l:Sound.Bits),vs= [.ref R.r, .int n]∧ae H0 H∧cE K H0 R∧bg A.aQ H R l∧n≤64∧bE A H0 R (Sound.takeS n l) (fun x H'=>Q (.int x) H') E
theorem ug:aK ["self", "width", "number", "sign"] ["self", "width"] (aD AX):=⟨rfl,rfl,rfl,by decide+kernel,rfl,by decide+kernel,by decide+kernel⟩
theorem bg.obj {H:Hp} {R:bF} {l:Sound.Bits} (h:bg A.aQ H R l): ∃p:Nat,H R.r=some (.ins A.aQ R.dr (fJ (.ref R.q) (.int (p:Nat)))):=by
 obtain ⟨p,_,_,hx⟩:=h
 exact ⟨p,hx⟩
theorem tw (T:Txt K mg A):az P w K mg base (aR P w) 2 A.nR A.pq ["self", "width"] (G5 K A):=by
 refine T.Lw.bN ug (fun vs H Q E h=>?_) (fun cdv Ar outer s H vs Q E hr h=>?_)
 ·obtain ⟨H0,R,n,l,rfl,_⟩:=h
  rfl
 ·obtain ⟨H0,R,n,l,rfl,s0,hI,hS,hn,k⟩:=h
  refine ⟨_,ai (aI (i:=2) ug.nd rfl (Or.inl rfl) (aP (pv 0) T.bP T.dZ (d6 T) hr T.dU .nil aN (aa (pv 1) af)))
   (ai (aI (i:=3) ug.nd rfl (Or.inl rfl) (aw kq (pv 2) (aw eU (aw rn aq (pv 1)) aq)))
   (aj (aW (aw du (pv 2) (aw k9 aq (pv 3)))))),?_⟩
  obtain ⟨p,hx⟩:=hS.obj
  refine (aO rfl hx rfl ⟨_,rfl,aC H0 R n l ⟨rfl,s0,hI,hS,hn,?_⟩⟩)
  unfold Sound.takeS at k
  unfold Sound.takeU
  by_cases hc:Sound.lacks n l=true
  ·rw[if_pos hc] at k⊢
   exact k
  ·rw[if_neg hc] at k⊢
   intro H1 s1 st
   have e27:(2:Int)^27=134217728:=by decide
   have ei:Builtin.Int.intBits 1=1:=by decide+kernel
   refine ⟨_,rfl,_,rfl,ag _ _ ⟨rfl,rfl,⟨by omega,by rw[ei];omega⟩,ag _ _ ⟨rfl,rfl,(by show (0:Int)≤1;decide),ag _ _ ⟨rfl,rfl,?_⟩⟩⟩⟩
   have hl:(l.take n).length=n:=by
    rw[List.length_take]
    have: ¬l.length<n:=fun z=>hc ((jG n l).mpr z)
    omega
   have e1:((1:Int)*2^((n:Nat):Int).toNat/2^(1:Int).toNat)=((2^n/2:Nat):Int):=by
    rw[Int.one_mul,Int.toNat_natCast,show (2:Int)^(1:Int).toNat=2 by decide];simp
   have e2:=Ow (l:=l.take n)
   rw[hl] at e2
   dsimp only
   rw[e1,rY,e2]
   refine ⟨_,rfl,_,rfl,ag _ _ ⟨rfl,rfl, .inl ⟨by decide,by decide⟩,ag _ _ ⟨rfl,rfl,?_⟩⟩⟩
   have k:=k H1 s1 st
   rw[MA,hl] at k
   exact k
def QK (K:PySem.W.Frag) (A:aT):Sp:=fun vs H Q E=> ∃(H0:Hp) (R:bF) (m:Nat) (l:Sound.Bits),vs= [.ref R.r, .int m]∧ae H0 H∧cE K H0 R∧bg A.aQ H R l∧bE A H0 R (Sound.takeRun (m+1) 0 l) (fun x H'=>Q (.int (x:Nat)) H') E
theorem vo:aK ["self", "most", "zeros"] ["self", "most"] (aD EA):=⟨rfl,rfl,rfl,by decide+kernel,rfl,by decide+kernel,by decide+kernel⟩
theorem take1 (b:Bool) (l:Sound.Bits):Sound.takeU 1 (b::l)= .ok (if b=true then 1 else 0) l:=by
 unfold Sound.takeU
 rw[if_neg (fun z=>by have:=(jG _ _).mp z;simp at this)]
 cases b<;>rfl
theorem EW (T:Txt K mg A):az P w K mg base (aR P w) 2 A.qo A.mZ ["self", "most"] (QK K A):=by
 refine T.Qm.bN vo (fun vs H Q E h=>?_) (fun cdv Ar outer s H vs Q E hr h=>?_)
 ·obtain ⟨H0,R,m,l,rfl,_⟩:=h
  rfl
 ·obtain ⟨H0,R,m,l,rfl,s0,hI,hS,k⟩:=h
  refine ⟨_,ai (aI (i:=2) vo.nd rfl (Or.inl rfl) aq)
   (ai (QN PassesOwn.leaving (bq dA (aP (pv 0) T.bP T.dZ (d6 T) hr T.dU .nil aN (aa aq af)) aq (aX _))
    (ai (ig (i:=2) vo.nd rfl (Or.inl rfl) aq D9)
    (aj (bp (bq d4 (pv 2) (pv 1) (aX _)) (aj (fg rfl rfl T.eX T.d8.exc fq)) bu))))
   (aj (aW (pv 2)))),?_⟩
  refine Ir (fun σ H'=> ∃(z:Nat) (l':Sound.Bits),σ= [some (.ref R.r),some (.int (m:Nat)),some (.int (z:Nat))]∧l'.length+z=l.length∧ae H0 H'∧bg A.aQ H' R l'∧bE A H0 R (Sound.takeRun (m+1) z l') (fun x H'=>Q (.int (x:Nat)) H') E) (JW 2 (l.length+1)) (ag 0 l ⟨rfl,rfl,s0,hS,k⟩) ?_
  rintro σ H1 ⟨z,l',rfl,hl,s1,hS1,k1⟩ C ht hf
  obtain ⟨p,hx⟩:=hS1.obj
  refine (aO rfl hx rfl (aC H0 R 1 l' ⟨rfl,s1,hI,hS1,by decide,?_⟩))
  cases l' with
  |nil=>exact k1
  |cons b r=>
   rw[take1]
   intro H2 s2 hS2
   cases b with
   |true=>
    refine ⟨rfl,_,rfl,?_⟩
    exact hf H2 ⟨_,rfl,k1 H2 s2 hS2⟩
   |false=>
    refine ⟨rfl,_,rfl,?_⟩
    refine ht H2 ⟨_,rfl,ag _ _ ⟨rfl,rfl,?_⟩⟩
    dsimp only
    rw[show ((z:Nat):Int)+1=((z+1:Nat):Int) by omega]
    refine ⟨_,rfl,_,rfl,ag _ _ ⟨rfl,rfl,_,rfl,?_⟩⟩
    have e:Sound.takeRun (m+1) z (false::r)=if m+1≤z+1 then .bad else Sound.takeRun (m+1) (z+1) r:=rfl
    rw[e] at k1
    refine bZ (fun hc=>?_) fun hc=>?_
    ·have hc:((m:Nat):Int)<((z+1:Nat):Int):=of_decide_eq_true hc
     rw[if_pos (by omega)] at k1
     exact k1 H2 s2
    ·have hc: ¬((m:Nat):Int)<((z+1:Nat):Int):=fun z'=>hc (decide_eq_true z')
     rw[if_neg (by omega)] at k1
     rw[List.length_cons] at hl
     refine ⟨(ag (z+1) r ⟨rfl,by omega,s2,hS2,k1⟩),?_⟩
     show l.length+1-((z+1:Nat):Int).toNat<l.length+1-((z:Nat):Int).toNat
     omega
def Jl:Sp:=fun vs H Q _=> ∃(m:Nat) (x y:Int),vs= [.int m, .int x, .int y]∧m<4∧ ∀D H',H D=none→ae H H'→H' D=some (.tup [.int (Sound.unpair m x y).1, .int (Sound.unpair m x y).2])→Q (.ref D) H'
theorem C6:aK ["mode", "x", "y", "a"] ["mode", "x", "y"] (aD yB):=⟨rfl,rfl,rfl,by decide+kernel,rfl,by decide+kernel,by decide+kernel⟩
theorem AF (T:Txt K mg A):az P w K mg base ba 1 A.oS A.oX ["mode", "x", "y"] Jl:=by
 refine T.w6.ok C6 (fun vs H Q E h=>?_) (fun cdv Ar outer s H vs Q E hr h=>?_)
 ·obtain ⟨m,x,y,rfl,_⟩:=h
  rfl
 ·obtain ⟨m,x,y,rfl,hm,k⟩:=h
  refine ⟨_,ai (bp (bq dA (pv 0) aq (aX _)) (aj (aW (tE (aa (pv 1) (aa (pv 2) af))))) bu)
   (ai (bp (bq dA (pv 0) aq (aX _)) (aj (aW (tE (aa (pv 1) (aa (aw du (pv 1) (pv 2)) af))))) bu)
   (ai (bp (bq dA (pv 0) aq (aX _)) (aj (aW (tE (aa (aw b5 (pv 1) (pv 2)) (aa (pv 2) af))))) bu)
   (ai (aI (i:=3) C6.nd rfl (Or.inl rfl) (aw b5 (pv 1) (aw eU (aw b5 (pv 2) (aw kR (pv 2) aq)) aq)))
   (aj (aW (tE (aa (pv 3) (aa (aw du (pv 3) (pv 2)) af)))))))),?_⟩
  have z2:(2:Nat)≤sizeLine:=by rw[sizeLine_eq];omega
  have ne: ∀a b:Nat,a≠b→decide (V.int ((a:Nat):Int)=V.int ((b:Nat):Int))=false:=fun a b h=>decide_eq_false fun z=>h (by have:=V.int.inj z;omega)
  have fin: ∀(x' y':Int),(x',y')=Sound.unpair m x y→ ∀p,H p=none→Q (.ref p) (upd H p (.tup [.int x', .int y'])):=fun x' y' e p hp=>by
   refine k p _ hp (aL hp) ?_
   rw[ak,←e]
  rcases (by omega:m=0∨m=1∨m=2∨m=3) with rfl|rfl|rfl|rfl
  ·exact ⟨_,rfl,rfl,_,rfl,bt ⟨_,rfl,_,rfl,z2,fin _ _ rfl⟩⟩
  ·refine ⟨_,rfl,rfl,_,rfl,?_⟩
   refine bB ⟨_,rfl,rfl,_,rfl,bt ⟨_,rfl,_,rfl,_,rfl,ag _ _ ⟨rfl,rfl,z2,fin _ _ rfl⟩⟩⟩
  ·refine ⟨_,rfl,rfl,_,rfl,?_⟩
   refine bB ⟨_,rfl,rfl,_,rfl,?_⟩
   refine bB ⟨_,rfl,rfl,_,rfl,bt ⟨_,rfl,_,rfl,ag _ _ ⟨rfl,rfl,_,rfl,z2,fin _ _ rfl⟩⟩⟩
  ·refine ⟨_,rfl,rfl,_,rfl,?_⟩
   refine bB ⟨_,rfl,rfl,_,rfl,?_⟩
   refine bB ⟨_,rfl,rfl,_,rfl,?_⟩
   refine bB ⟨_,rfl,_,rfl,_,rfl,ag _ _ ⟨rfl,rfl,(by show (0:Int)<2;decide),ag _ _ ⟨rfl,rfl,ag _ _ ⟨rfl,rfl,(by show (0:Int)≤1;decide),ag _ _ ⟨rfl,rfl,?_⟩⟩⟩⟩⟩
   refine ⟨_,rfl,_,rfl,_,rfl,ag _ _ ⟨rfl,rfl,z2,fin _ _ ?_⟩⟩
   have e:x+(y+y%2)/2^(1:Int).toNat=(2*x+y%2+y)/2:=by rw[show (2:Int)^(1:Int).toNat=2 by decide];omega
   rw[e];rfl
def k8 (m d n:V):List (Str×V):= [("mode",m),("depth",d),("numbers",n)]
def MM (C:Addr):Sp:=fun vs H Q _=> ∃(p dx:Addr) (m d n:V),vs= [.ref p,m,d,n]∧H p=some (.ins C dx [])∧Q .au (upd H p (.ins C dx (k8 m d n)))
theorem Gi:aK ["self", "mode", "depth", "numbers"] ["self", "mode", "depth", "numbers"] (aD yc):=⟨rfl,rfl,rfl,by decide+kernel,rfl,by decide+kernel,by decide+kernel⟩
theorem L7 (T:Txt K mg A):az P w K mg base ba 1 A.mW A.oF ["self", "mode", "depth", "numbers"] (MM A.dk):=by
 refine T.GO.ok Gi (fun vs H Q E h=>?_) (fun cdv Ar outer s H vs Q E hr h=>?_)
 ·obtain ⟨p,dx,m,d,n,rfl,_⟩:=h
  rfl
 ·obtain ⟨p,dx,m,d,n,rfl,hp,k⟩:=h
  refine ⟨_,ai (bc (pv 0) (pv 1) rfl) (ai (bc (pv 0) (pv 2) rfl) (aj (bc (pv 0) (pv 3) rfl))),?_⟩
  refine ⟨_,rfl,_,rfl,p,A.dk,dx, [],rfl,hp,T.jC,T.zV,(by show 0<1000;decide),?_⟩
  refine ⟨_,rfl,_,rfl,aC p A.dk dx _ ⟨rfl,ak,T.jC,T.DP,(by show 1<1000;decide),?_⟩⟩
  refine ⟨_,rfl,_,rfl,aC p A.dk dx _ ⟨rfl,ak,T.jC,T.Ef,(by show 2<1000;decide),?_⟩⟩
  rw[cB,cB]
  exact k
def kf (m d:Nat) (a:List Int) (i:Nat) (y:Int):Bool:=Sound.fits d (Sound.unpair m (a.getD i 0) y).1&&Sound.fits d (Sound.unpair m (a.getD i 0) y).2
def mO (K:PySem.W.Frag) (C:Addr) (H:Hp) (p:Addr) (m d:Nat) (a:List Int):Prop:= ∃dx n,H p=some (.ins C dx (k8 (.int m) (.int d) (.ref n)))∧ah K H n (a.map V.int)
theorem mO.same {C:Addr} {H H':Hp} {p:Addr} {m d:Nat} {a:List Int} (h:mO K C H p m d a) (s:ae H H'):mO K C H' p m d a:=by
 obtain ⟨dx,n,h1,h2⟩:=h
 exact ⟨dx,n,s _ _ h1,s.seq h2⟩
def Ou (K:PySem.W.Frag) (A:aT):Sp:=fun vs H Q E=> ∃(p:Addr) (m d i:Nat) (a:List Int) (y:Int),vs= [.ref p, .int i, .int y]∧mO K A.dk H p m d a∧(m<4∧4≤d∧d≤24∧i<a.length)∧(if kf m d a i y=true then∀H',ae H H'→Q .au H' else∀H',ae H H'→E (.ref A.fz) none H')
theorem DL:aK ["self", "place", "number", "one"] ["self", "place", "number"] (aD yQ):=⟨rfl,rfl,rfl,by decide+kernel,rfl,by decide+kernel,by decide+kernel⟩
theorem RV (T:Txt K mg A):az P w K mg base (aR P w) 2 A.pG A.lF ["self", "place", "number"] (Ou K A):=by
 refine T.Km.bN DL (fun vs H Q E h=>?_) (fun cdv Ar outer s H vs Q E hr h=>?_)
 ·obtain ⟨p,m,d,i,a,y,rfl,_⟩:=h
  rfl
 ·obtain ⟨p,m,d,i,a,y,rfl,⟨dx,n,hp,hn⟩,⟨hm,hd1,hd2,hi⟩,k⟩:=h
  refine ⟨_,aj (cj PassesOwn.leaving rfl (MG (aS (AF T) hr rfl T.Bx T.w6.kp T.DZ .nil aU (aa (ax (pv 0) rfl) (aa (cH dY (ax (pv 0) rfl) (pv 1) (fun _ _=>rfl)) (aa (pv 2) af))))) (bo (i:=3) DL.nd rfl (Or.inl rfl))
   (aj (bp (iW (iF (aS (zL T) hr rfl T.AG T.wj.kp T.Bo .nil aU (aa (ax (pv 0) rfl) (aa (pv 3) af))))) (aj (fg rfl rfl T.eX T.d8.exc fq)) bu))),?_⟩
  refine (aA rfl hp T.jC T.zV rfl (aA rfl hp T.jC T.Ef rfl ⟨_,rfl,aC n _ _ _ ⟨rfl,rfl,hn,cv (kT hi),_,rfl,m,a.getD i 0,y,rfl,hm,fun D H1 hD s1 hx=>?_⟩⟩))
  unfold kf at k
  generalize Sound.unpair m (a.getD i 0) y=uv at*
  obtain ⟨u,v⟩:=uv
  have hp1:=s1 _ _ hp
  refine ⟨D,rfl,⟨_,aY.of hx⟩,?_⟩
  have hor: ∀j,j<2→(∀i,i<j→Sound.fits d ([u,v].getD i 0)=true)→Sound.fits d ([u,v].getD j 0)=false→E (.ref A.fz) none H1:=fun j hj _ hf=>by
   rw[if_neg (by
    rcases (by omega:j=0∨j=1) with rfl|rfl
    ·have hf:Sound.fits d u=false:=hf
     rw[hf];simp
    ·have hf:Sound.fits d v=false:=hf
     rw[hf];simp)] at k
   exact k H1 s1
  refine Jn (K:=K) (a:=D) (xs:= [V.int u,V.int v]) (fun j σ H'=>H'=H1∧(∀i,i<j→Sound.fits d ([u,v].getD i 0)=true)∧ ∃v3:Option V,σ= [some (.ref p),some (.int (i:Nat)),some (.int y),v3]) ⟨rfl,(fun i h=>by omega),none,rfl⟩ (fun j σ H' _ ⟨e,_⟩=>by rw[e];exact aY.of hx) ?_ ?_
  ·rintro j x σ H' hj ⟨rfl,hall,v3,rfl⟩
   have hj2:j<2:=(List.getElem?_eq_some_iff.mp hj).1
   have hx2:x= .int ([u,v].getD j 0):=by
    rcases (by omega:j=0∨j=1) with rfl|rfl
    ·exact (Option.some.inj hj).symm
    ·exact (Option.some.inj hj).symm
   subst hx2
   refine (aA rfl hp1 T.jC T.DP rfl ⟨_,rfl,(d:Int),_,rfl,⟨by omega,by omega⟩,_,rfl,?_⟩)
   rw[A7 (by omega)]
   cases hf:Sound.fits d ([u,v].getD j 0) with
   |false=>exact bt (hor j hj2 hall hf)
   |true=>
    refine bB ⟨rfl,fun i hi=>?_,some (.int ([u,v].getD j 0)),rfl⟩
    rcases (by omega:i<j∨i=j) with q|rfl
    ·exact hall i q
    ·exact hf
  ·rintro σ H' ⟨rfl,hall,v3,rfl⟩
   have h0:Sound.fits d u=true:=hall 0 (by show 0<2;decide)
   have h1:Sound.fits d v=true:=hall 1 (by show 1<2;decide)
   rw[if_pos (by rw[h0,h1];rfl)] at k
   exact k H' s1
def fG (wd z pn g t:V):List (Str×V):= [("width",wd),("z",z),("partner",pn),("guess",g),("taken",t)]
def j8 (C:Addr) (H:Hp) (x dx t:Addr) (wd z:Nat) (pn g:V) (ys:List Int):Prop:=H x=some (.ins C dx (fG (.int wd) (.int z) pn g (.ref t)))∧H t=some (.lst (ys.map V.int))∧ ∀y∈ys,Sound.fits wd y=true
theorem j8.ne {C:Addr} {H:Hp} {x dx t:Addr} {wd z:Nat} {pn g:V} {ys:List Int} (h:j8 C H x dx t wd z pn g ys):t≠x:=fun e=>by
 have h1:=h.1
 rw[←e,h.2.1] at h1;cases h1
def ja (K:PySem.W.Frag) (A:aT) (H:Hp) (pn:V) (n:Nat) (may:Nat→Int→Bool):Prop:=(pn= .au∧may=fun _ _=>true)∨ ∃(p:Addr) (m d:Nat) (a:List Int),pn= .ref p∧mO K A.dk H p m d a∧(m<4∧4≤d∧d≤24∧a.length=n)∧may=kf m d a
theorem ja.same {H H':Hp} {pn:V} {n:Nat} {may:Nat→Int→Bool} (h:ja K A H pn n may) (s:ae H H'):ja K A H' pn n may:=by
 rcases h with h|⟨p,m,d,a,h1,h2,h3⟩
 ·exact .inl h
 ·exact .inr ⟨p,m,d,a,h1,h2.same s,h3⟩
def Fx (K:PySem.W.Frag) (A:aT):Sp:=fun vs H Q E=> ∃(H0:Hp) (x dx t:Addr) (wd z n:Nat) (pn g:V) (ys:List Int) (may:Nat→Int→Bool) (y:Int),vs= [.ref x, .int y]∧ae H0 H∧(H0 x=none∧H0 t=none)∧j8 A.bK H x dx t wd z pn g ys∧ja K A H0 pn n may∧(1≤wd∧wd≤25∧z≤25∧ys.length<n∧n≤256)∧
 (if (Sound.fits wd y&&may ys.length (y*2^z))=true then∀H',ae H0 H'→j8 A.bK H' x dx t wd z pn g (ys++ [y])→Q .au H' else∀H',ae H0 H'→E (.ref A.fz) none H')
theorem Rh:aK ["self", "number"] ["self", "number"] (aD CT):=⟨rfl,rfl,rfl,by decide+kernel,rfl,by decide+kernel,by decide+kernel⟩
theorem yf {wd:Nat} {y:Int} (h:Sound.fits wd y=true) (h2:wd≤25):y.natAbs<2^64:=by
 unfold Sound.fits at h
 rw[Bool.and_eq_true,decide_eq_true_eq,decide_eq_true_eq] at h
 have:(2:Int)^(wd-1)≤2^24:=by
  have:=Nat.pow_le_pow_right (n:=2) (by decide) (show wd-1≤24 by omega)
  exact_mod_cast this
 have e:(2:Int)^24=16777216:=by decide
 have e2:(2:Nat)^64=18446744073709551616:=by decide
 omega
theorem xq (T:Txt K mg A):az P w K mg base (aR P w) 3 A.pk A.lA ["self", "number"] (Fx K A):=by
 refine T.La.bN Rh (fun vs H Q E h=>?_) (fun cdv Ar outer s H vs Q E hr h=>?_)
 ·obtain ⟨H0,x,dx,t,wd,z,n,pn,g,ys,may,y,rfl,_⟩:=h
  rfl
 ·obtain ⟨H0,x,dx,t,wd,z,n,pn,g,ys,may,y,rfl,s0,⟨hx0,ht0⟩,hP,hM,⟨hw1,hw2,hz,hl,hn⟩,k⟩:=h
  have hr1':aF 1 _:=hr.mono (by decide)
  refine ⟨_,ai (bp (iW (iF (aS (zL T) hr1' rfl T.AG T.wj.kp T.Bo .nil aU (aa (ax (pv 0) rfl) (aa (pv 1) af))))) (aj (fg rfl rfl T.eX T.d8.exc fq)) bu)
   (ai (bp (IX (LS (ax (pv 0) rfl))) (aj (a8 (aP (ax (pv 0) rfl) T.jC T.OC (RV T) hr T.MQ .nil aN
     (aa (cq di (by rfl) T.cW PySem.boot_len (aa (ax (pv 0) rfl) af)) (aa (aw jE (pv 1) (ax (pv 0) rfl)) af))))) bu)
   (aj (a8 (gg PySem.F.plainAttrs_list PySem.F.slot_list_append PySem.F.type_list_append l7 (ax (pv 0) rfl) (aa (pv 1) af))))),?_⟩
  obtain ⟨hx,ht,hfy⟩:=id hP
  have htx:=hP.ne
  refine (aA rfl hx T.cf T.rB rfl ⟨_,rfl,(wd:Int),y,rfl,⟨by omega,by omega⟩,_,rfl,?_⟩)
  rw[A7 hw1]
  cases hf:Sound.fits wd y with
  |false=>
   rw[hf,if_neg (by simp)] at k
   exact bt (k H s0)
  |true=>
   rw[hf,Bool.true_and] at k
   refine bB (aA rfl hx T.cf T.vU rfl ⟨_,rfl,?_⟩)
   have fin:may ys.length (y*2^z)=true→ ∀H1,ae H H1→zB (zK K "list" Au (l8 K (gh 0) "taken") (EC (gh 1) sM)) {nx:=fun x H'=>Q V.au H',rt:=Q} [some (V.ref x),some (V.int y)] H1:=fun hm H1 s1=>by
    rw[if_pos hm] at k
    have hx1:=s1 _ _ hx
    have ht1:=s1 _ _ ht
    refine (aA rfl hx1 T.cf T.kx rfl ⟨.inl ⟨rfl,_,ah.of ht1⟩,_,rfl,bG t _ _ ⟨rfl,rfl,ht1,(by rw[List.length_map,sizeLine_eq];omega),?_⟩⟩)
    refine k _ (fK (s0.trans s1) ht0) ⟨?_,?_,fun y' hy'=>?_⟩
    ·rw[aG (Ne.symm htx)];exact hx1
    ·rw[ak,List.map_append];rfl
    ·rcases List.mem_append.mp hy' with q|q
     ·exact hfy y' q
     ·rw[List.mem_singleton.mp q];exact hf
   rcases hM with ⟨rfl,rfl⟩|⟨p,m,d,a,rfl,hPa,⟨hm,hd1,hd2,han⟩,rfl⟩
   ·exact bB (fin rfl H (ae.refl _))
   ·have hPa:=hPa.same s0
    obtain ⟨dp,nn,hp,_⟩:=id hPa
    refine bt (aA rfl hx T.cf T.vU rfl (mJ hp rfl (aA rfl hx T.cf T.kx rfl (ag t _ ⟨rfl, .inl (ah.of ht),_,rfl,aA rfl hx T.cf T.wU rfl (ag _ _ ⟨rfl,rfl,⟨by omega,by omega,yf hf hw2⟩,p,m,d,ys.length,a,y*2^z,?_,hPa,⟨hm,hd1,hd2,by omega⟩,?_⟩)⟩))))
    ·rw[List.length_map];rfl
    ·by_cases hmay:kf m d a ys.length (y*2^z)=true
     ·rw[if_pos hmay]
      exact fun H1 s1=>fin hmay H1 s1
     ·rw[if_neg hmay] at k⊢
      exact fun H1 s1=>k H1 (s0.trans s1)
def FR (C:Addr):Sp:=fun vs H Q _=> ∃(p dx:Addr) (wd z:Int) (pn:V),vs= [.ref p, .int wd, .int z,pn]∧H p=some (.ins C dx [])∧ ∀(t:Addr) (H':Hp),H t=none→(∀b o,H b=some o→b≠p→H' b=some o)→H' p=some (.ins C dx (fG (.int (wd-z)) (.int z) pn .au (.ref t)))→H' t=some (.lst [])→Q .au H'
theorem MH:aK ["self", "width", "z", "partner"] ["self", "width", "z", "partner"] (aD AE):=⟨rfl,rfl,rfl,by decide+kernel,rfl,by decide+kernel,by decide+kernel⟩
theorem Q3 (T:Txt K mg A):az P w K mg base ba 1 A.lN A.mT ["self", "width", "z", "partner"] (FR A.bK):=by
 refine T.NZ.ok MH (fun vs H Q E h=>?_) (fun cdv Ar outer s H vs Q E hr h=>?_)
 ·obtain ⟨p,dx,wd,z,pn,rfl,_⟩:=h
  rfl
 ·obtain ⟨p,dx,wd,z,pn,rfl,hp,k⟩:=h
  refine ⟨_,ai (bc (pv 0) (aw du (pv 1) (pv 2)) rfl) (ai (bc (pv 0) (pv 2) rfl) (ai (bc (pv 0) (pv 3) rfl) (ai (bc (pv 0) iT rfl) (aj (bc (pv 0) (cg af) rfl))))),?_⟩
  refine ⟨_,rfl,_,rfl,ag _ _ ⟨rfl,rfl,_,rfl,p,A.bK,dx, [],rfl,hp,T.cf,T.rB,(by show 0<1000;decide),?_⟩⟩
  refine ⟨_,rfl,_,rfl,aC p A.bK dx _ ⟨rfl,ak,T.cf,T.wU,(by show 1<1000;decide),?_⟩⟩
  refine ⟨_,rfl,_,rfl,aC p A.bK dx _ ⟨rfl,ak,T.cf,T.vU,(by show 2<1000;decide),?_⟩⟩
  refine ⟨_,rfl,aC p A.bK dx _ ⟨rfl,ak,T.cf,T.uc,(by show 3<1000;decide),?_⟩⟩
  rw[cB,cB,cB]
  refine ⟨by rw[sizeLine_eq];show 0≤_;omega,fun t ht=>?_⟩
  have htp:t≠p:=fun e=>by rw[e,ak] at ht;cases ht
  have ht0:H t=none:=by rw[aG htp] at ht;exact ht
  refine ⟨_,rfl,aC p A.bK dx _ ⟨rfl,(by rw[aG (Ne.symm htp)];exact ak),T.cf,T.kx,(by show 4<1000;decide),?_⟩⟩
  refine k t _ ht0 (fun b o e hb=>?_) ak ?_
  ·rw[aG hb,aG (cw e ht0),aG hb];exact e
  ·rw[aG htp];exact ak
theorem Iy (a ys:List Int) (h:Nat) (hl:a.length≤ys.length):Sound.guess a h ys.reverse=sU a h ys ys.length:=Nv (Nat.le_refl _) hl (by rw[List.take_length])
def zh (K:PySem.W.Frag) (A:aT):Sp:=fun vs H Q E=> ∃(H0:Hp) (x dx t ga:Addr) (wd z n h:Nat) (pn:V) (ys a:List Int) (may:Nat→Int→Bool) (e:Int),vs= [.ref x, .int e]∧ae H0 H∧(H0 x=none∧H0 t=none)∧j8 A.bK H x dx t wd z pn (.ref ga) ys∧gy K A.cx H0 ga a h∧(a.length≤ys.length∧Bd 2048 a)∧ja K A H0 pn n may∧(1≤wd∧wd≤25∧z≤25∧ys.length<n∧n≤256)∧
 (if (Sound.fits wd (Sound.guess a h ys.reverse+e)&&may ys.length ((Sound.guess a h ys.reverse+e)*2^z))=true then∀H',ae H0 H'→j8 A.bK H' x dx t wd z pn (.ref ga) (ys++ [Sound.guess a h ys.reverse+e])→Q .au H' else∀H',ae H0 H'→E (.ref A.fz) none H')
theorem M5:aK ["self", "rest"] ["self", "rest"] (aD B1):=⟨rfl,rfl,rfl,by decide+kernel,rfl,by decide+kernel,by decide+kernel⟩
theorem BI (T:Txt K mg A):az P w K mg base (aR P w) 4 A.nk A.mw ["self", "rest"] (zh K A):=by
 refine T.Q7.bN M5 (fun vs H Q E h=>?_) (fun cdv Ar outer s H vs Q E hr h=>?_)
 ·obtain ⟨H0,x,dx,t,ga,wd,z,n,h,pn,ys,a,may,e,rfl,_⟩:=h
  rfl
 ·obtain ⟨H0,x,dx,t,ga,wd,z,n,h,pn,ys,a,may,e,rfl,s0,hn0,hP,hG,⟨hal,hbd⟩,hM,hb,k⟩:=h
  have hr1':aF 1 _:=hr.mono (by decide)
  refine ⟨_,aj (a8 (aP (pv 0) T.cf T.wR (xq T) hr T.uj .nil aN (aa (aw b5 (aP (ax (pv 0) rfl) T.qw T.Kp (Le T) hr1' T.JI .nil aU
   (aa (ax (pv 0) rfl) (aa (cq di (by rfl) T.cW PySem.boot_len (aa (ax (pv 0) rfl) af)) af))) (pv 1)) af))),?_⟩
  obtain ⟨hx,ht,_⟩:=id hP
  have hG':=hG.same s0
  obtain ⟨dg,pg,hg,_⟩:=id hG'
  refine (aO rfl hx rfl (aA rfl hx T.cf T.uc rfl (mJ hg rfl (aA rfl hx T.cf T.kx rfl (aA rfl hx T.cf T.kx rfl (ag t _ ⟨rfl, .inl (ah.of ht),ga,t,a,ys,h,ys.length,?_,hG',ah.of ht,⟨hal,Nat.le_refl _⟩,hbd,_,rfl,ag _ _ ⟨rfl,rfl,?_⟩⟩))))))
  ·rw[List.length_map];rfl
  ·rw[Iy a ys h hal] at k
   exact ⟨H0,x,dx,t,wd,z,n,pn, .ref ga,ys,may,_,rfl,s0,hn0,hP,hM,hb,k⟩
def OT:Sp:=fun vs H Q _=> ∃n:Nat,vs= [.int n]∧Q (.int (Sound.unfold n)) H
theorem Nz:aK ["folded"] ["folded"] (aD DO):=⟨rfl,rfl,rfl,by decide+kernel,rfl,by decide+kernel,by decide+kernel⟩
theorem Oj (T:Txt K mg A):az P w K mg base ba 1 A.oY A.nZ ["folded"] OT:=by
 refine T.Ae.ok Nz (fun vs H Q E h=>?_) (fun cdv Ar outer s H vs Q E hr h=>?_)
 ·obtain ⟨n,rfl,_⟩:=h
  rfl
 ·obtain ⟨n,rfl,k⟩:=h
  refine ⟨_,aj (aW (lH (bq dA (aw kR (pv 0) aq) aq (aX _)) (aw eU (pv 0) aq) (aw du (jV ju (aw eU (pv 0) aq)) aq))),?_⟩
  refine ⟨_,rfl,ag _ _ ⟨rfl,rfl,(by show (0:Int)<2;decide),rfl,_,rfl,?_⟩⟩
  have e1:((n:Nat):Int)/2^(1:Int).toNat=((n/2:Nat):Int):=by rw[show (2:Int)^(1:Int).toNat=2 by decide];omega
  unfold Sound.unfold at k
  refine bZ (fun hc=>?_) fun hc=>?_
  ·have hc:=V.int.inj (of_decide_eq_true hc)
   rw[if_neg (by omega)] at k
   refine ⟨_,rfl,ag _ _ ⟨rfl,rfl,(by show (0:Int)≤1;decide),?_⟩⟩
   dsimp only
   rw[e1];exact k
  ·have hc: ¬((n:Nat):Int)%2=0:=fun z=>hc (decide_eq_true (show V.int (((n:Nat):Int)%2)=V.int 0 by rw[z]))
   rw[if_pos (by omega)] at k
   refine ⟨_,rfl,ag _ _ ⟨rfl,rfl,(by show (0:Int)≤1;decide),_,rfl,ag _ _ ⟨rfl,rfl,?_⟩⟩⟩
   dsimp only
   rw[e1]
   have e2: -((n/2:Nat):Int)-1= -(((n+1)/2:Nat):Int):=by omega
   rw[e2];exact k
def zT (f:Nat→Nat→Nat):Sp:=fun vs H Q _=> ∃m d:Nat,vs= [.int m, .int d]∧Q (.int (f m d:Nat)) H
def jU (m d:Nat):Nat:=if m=2 then d+1 else d
def jZ (m d:Nat):Nat:=if m=1∨m=3 then d+1 else d
theorem OF:aK ["mode", "depth"] ["mode", "depth"] (aD DH):=⟨rfl,rfl,rfl,by decide+kernel,rfl,by decide+kernel,by decide+kernel⟩
theorem LW:aK ["mode", "depth"] ["mode", "depth"] (aD z9):=⟨rfl,rfl,rfl,by decide+kernel,rfl,by decide+kernel,by decide+kernel⟩
theorem i8 (a b:Nat):decide (V.int ((a:Nat):Int)=V.int ((b:Nat):Int))=decide (a=b):=by
 by_cases h:a=b
 ·rw[h,decide_eq_true rfl,decide_eq_true rfl]
 ·rw[decide_eq_false h,decide_eq_false fun z=>h (by have:=V.int.inj z;omega)]
theorem Fo (T:Txt K mg A):az P w K mg base ba 1 A.ml A.oz ["mode", "depth"] (zT jU):=by
 refine T.AM.ok OF (fun vs H Q E h=>?_) (fun cdv Ar outer s H vs Q E hr h=>?_)
 ·obtain ⟨m,d,rfl,_⟩:=h
  rfl
 ·obtain ⟨m,d,rfl,k⟩:=h
  refine ⟨_,aj (aW (lH (bq dA (pv 0) aq (aX _)) (aw b5 (pv 1) aq) (pv 1))),?_⟩
  refine ⟨_,rfl,rfl,_,rfl,?_⟩
  unfold jU at k
  have e:=i8 m 2
  refine bZ (fun hc=>?_) fun hc=>?_
  ·have hc:m=2:=of_decide_eq_true (e.symm.trans hc)
   rw[if_pos hc] at k
   exact ⟨_,rfl,ag _ _ ⟨rfl,rfl,k⟩⟩
  ·rw[if_neg (fun z=>hc (e.trans (decide_eq_true z)))] at k
   exact ⟨_,rfl,k⟩
theorem GF (T:Txt K mg A):az P w K mg base ba 1 A.qy A.mM ["mode", "depth"] (zT jZ):=by
 refine T.yl.ok LW (fun vs H Q E h=>?_) (fun cdv Ar outer s H vs Q E hr h=>?_)
 ·obtain ⟨m,d,rfl,_⟩:=h
  rfl
 ·obtain ⟨m,d,rfl,k⟩:=h
  refine ⟨_,aj (aW (lH (PW.pt (mx (bq dA (pv 0) aq (aX _)) (nE (bq dA (pv 0) aq (aX _))))) (aw b5 (pv 1) aq) (pv 1))),?_⟩
  refine ⟨_,rfl,rfl,_,rfl,?_⟩
  unfold jZ at k
  have e:=i8 m 1
  have e3:=i8 m 3
  refine bZ (fun hc=>?_) fun hc=>?_
  ·have hc:m=1:=of_decide_eq_true (e.symm.trans hc)
   rw[if_pos (.inl hc)] at k
   exact bt ⟨_,rfl,ag _ _ ⟨rfl,rfl,k⟩⟩
  ·refine ⟨_,rfl,rfl,_,rfl,?_⟩
   have n1: ¬m=1:=fun z=>hc (e.trans (decide_eq_true z))
   refine bZ (fun hc3=>?_) fun hc3=>?_
   ·have hc3:m=3:=of_decide_eq_true (e3.symm.trans hc3)
    rw[if_pos (.inr hc3)] at k
    exact ⟨_,rfl,ag _ _ ⟨rfl,rfl,k⟩⟩
   ·rw[if_neg (fun z=>z.elim n1 fun z=>hc3 (e3.trans (decide_eq_true z)))] at k
    exact ⟨_,rfl,k⟩
def Fb (K:PySem.W.Frag) (A:aT):Sp:=fun vs H Q E=> ∃(H0:Hp) (R:bF) (wd:Nat) (l:Sound.Bits),vs= [.ref R.r, .int wd]∧ae H0 H∧cE K H0 R∧bg A.aQ H R l∧2≤wd∧
 bE A H0 R ((Sound.takeU 1 l).then_ fun (fl:Nat) (l:Sound.Bits)=>if fl=0 then Sound.Got.ok 0 l else (Sound.takeRun (wd-1) 0 l).then_ fun (q:Nat) (l:Sound.Bits)=> .ok (q+1) l) (fun x H'=>Q (.int (x:Nat)) H') E
theorem O7:aK ["reader", "width"] ["reader", "width"] (aD Ey):=⟨rfl,rfl,rfl,by decide+kernel,rfl,by decide+kernel,by decide+kernel⟩
theorem GD (T:Txt K mg A):az P w K mg base (aR P w) 3 A.lR A.pW ["reader", "width"] (Fb K A):=by
 refine T.yM.bN O7 (fun vs H Q E h=>?_) (fun cdv Ar outer s H vs Q E hr h=>?_)
 ·obtain ⟨H0,R,wd,l,rfl,_⟩:=h
  rfl
 ·obtain ⟨H0,R,wd,l,rfl,s0,hI,hS,hw,k⟩:=h
  have hr1':aF 1 _:=hr.mono (by decide)
  refine ⟨_,ai (bp (bq dA (aP (pv 0) T.bP T.dZ (d6 T) hr1' T.dU .nil aN (aa aq af)) aq (aX _)) (aj (aW aq)) bu)
   (aj (aW (aw b5 (aP (pv 0) T.bP T.Cc (EW T) hr T.Eb .nil aN (aa (aw du (pv 1) aq) af)) aq))),?_⟩
  obtain ⟨p,hx⟩:=hS.obj
  refine (aO rfl hx rfl (aC H0 R 1 l ⟨rfl,s0,hI,hS,by decide,k.seq fun fl l1 H1 _ s1 st1 k1=>?_⟩))
  refine ⟨rfl,_,rfl,?_⟩
  have e:=i8 fl 0
  refine bZ (fun hc=>?_) fun hc=>?_
  ·have hc:fl=0:=of_decide_eq_true (e.symm.trans hc)
   rw[if_pos hc] at k1
   exact k1 H1 s1 st1
  ·rw[if_neg (fun z=>hc (e.trans (decide_eq_true z)))] at k1
   obtain ⟨p1,hx1⟩:=st1.obj
   refine (aO rfl hx1 rfl ⟨_,rfl,ag _ _ ⟨rfl,rfl,H0,R,wd-2,l1,?_,s1,hI,st1,?_⟩⟩)
   ·show [V.ref R.r,V.int (((wd:Nat):Int)-2)]=_
    rw[show ((wd:Nat):Int)-2=((wd-2:Nat):Int) by omega]
   ·rw[show wd-2+1=wd-1 by omega]
    refine k1.seq fun q l2 H2 _ s2 st2 k2=>?_
    refine (ag _ _ ⟨rfl,rfl,?_⟩)
    have k3:Q (.int ((q+1:Nat):Int)) H2:=k2 H2 s2 st2
    rw[show ((q+1:Nat):Int)=((q:Nat):Int)+1 by omega] at k3
    exact k3
theorem then_assoc {α β γ:Type} (g:Sound.Got α) (f:α→Sound.Bits→Sound.Got β) (k:β→Sound.Bits→Sound.Got γ):(g.then_ f).then_ k=g.then_ fun x l=>(f x l).then_ k:=by
 cases g<;>rfl
structure dt where
 x:Addr
 dx:Addr
 t:Addr
 wd:Nat
 z:Nat
 n:Nat
 pn:V
 may:Nat→Int→Bool
def fi (K:PySem.W.Frag) (A:aT) (H0:Hp) (p:dt):Prop:=(H0 p.x=none∧H0 p.t=none)∧ja K A H0 p.pn p.n p.may∧(1≤p.wd∧p.wd≤25∧p.z≤25∧p.n≤256)
abbrev bI (A:aT) (H:Hp) (p:dt) (g:V) (ys:List Int):Prop:=j8 A.bK H p.x p.dx p.t p.wd p.z p.pn g ys
theorem nJ {H:Hp} {R:bF} {l:Sound.Bits} {p:dt} {g:V} {ys:List Int} (h:bg A.aQ H R l) (q:bI A H p g ys):R.r∉ [p.x,p.t]:=fun z=>by
 obtain ⟨i,hx⟩:=h.obj
 rcases List.mem_cons.mp z with z|z
 ·rw[z,q.1] at hx
  injection hx with hx
  injection hx with _ _ hx
  exact absurd (congrArg List.length hx) (by show¬5=2;decide)
 ·rcases List.mem_cons.mp z with z|z
  ·rw[z,q.2.1] at hx;cases hx
  ·cases z
theorem fi.aB {H0 H:Hp} {p:dt} (h:fi K A H0 p) (s:ae H0 H):ae H0 (Wg.aB [p.x,p.t] H)∧fi K A (Wg.aB [p.x,p.t] H) p:=by
 have s1:ae H0 (Wg.aB [p.x,p.t] H):=s.aB fun b hb=>by
  rcases List.mem_cons.mp hb with rfl|hb
  ·exact h.1.1
  ·rcases List.mem_cons.mp hb with rfl|hb
   ·exact h.1.2
   ·cases hb
 exact ⟨s1,⟨gw (by simp),gw (by simp)⟩,h.2.1.same s1,h.2.2⟩
theorem bg.aB {H H':Hp} {R:bF} {l:Sound.Bits} {p:dt} {g:V} {ys:List Int} (h:bg A.aQ H R l) (q:bI A H p g ys) (s:ae (Wg.aB [p.x,p.t] H) H'):bg A.aQ H' R l:=by
 have n:=nJ h q
 obtain ⟨i,e,hi,hx⟩:=h
 exact ⟨i,e,hi,s _ _ (by rw[cR n];exact hx)⟩
def gC (x z:Nat) (may:Nat→Int→Bool) (acc:List Int) (l:Sound.Bits):Sound.Got Int:=(Sound.takeS x l).then_ fun (y:Int) (l:Sound.Bits)=>Sound.judged x z may acc.length y l
def gb (w z:Nat) (may:Nat→Int→Bool) (a:List Int) (h g v:Nat) (acc:List Int) (l:Sound.Bits):Sound.Got Int:=(Sound.takeRest g v l).then_ fun (e:Int) (l:Sound.Bits)=>Sound.judged w z may acc.length (Sound.guess a h acc+e) l
def gM (w z:Nat) (may:Nat→Int→Bool) (a:List Int) (h cnt:Nat) (ys:List Int) (l:Sound.Bits):Sound.Got (List Int):=(Sound.takeU 5 l).then_ fun (g:Nat) (l:Sound.Bits)=>
 if g=31 then (Sound.takeU 6 l).then_ fun (v:Nat) (l:Sound.Bits)=>if 40<v then .bad else Sound.takeMany (gb w z may a h g v) cnt ys l else Sound.takeMany (gb w z may a h g 0) cnt ys l
theorem kM {α:Type} (one:List α→Sound.Bits→Sound.Got α) (n:Nat) (acc:List α) (l:Sound.Bits):Sound.takeMany one (n+1) acc l=(one acc l).then_ fun (x:α) (r:Sound.Bits)=>Sound.takeMany one n (x::acc) r:=rfl
def lS (K:PySem.W.Frag) (A:aT) (H0:Hp) (R:bF) (p:dt) (gv:V) (m0 cnt:Nat) (one:List Int→Sound.Bits→Sound.Got Int) (Qf:List Int→Hp→Prop) (E:XK) (i:Nat) (H':Hp):Prop:= ∃(ys:List Int) (l:Sound.Bits),ae H0 H'∧bg A.aQ H' R l∧bI A H' p gv ys∧ys.length=m0+i∧bE A H0 R (Sound.takeMany one (cnt-i) ys.reverse l) Qf E
theorem zG (w z:Nat) (may:Nat→Int→Bool) (n:Nat) (y:Int) (l:Sound.Bits) {β:Type} (k:Int→Sound.Bits→Sound.Got β):(Sound.judged w z may n y l).then_ k=if (Sound.fits w y&&may n (y*2^z))=true then k y l else .bad:=by
 unfold Sound.judged
 split<;>rfl
def L0 (K:PySem.W.Frag) (A:aT):Sp:=fun vs H Q E=> ∃(H0:Hp) (R:bF) (p:dt) (gv:V) (cnt:Nat) (ys:List Int) (l:Sound.Bits),vs= [.ref R.r, .int cnt, .ref p.x]∧ae H0 H∧cE K H0 R∧fi K A H0 p∧bg A.aQ H R l∧bI A H p gv ys∧ys.length+cnt≤p.n∧
 bE A H0 R (Sound.takeMany (gC p.wd p.z p.may) cnt ys.reverse l) (fun acc H'=>bI A H' p gv acc.reverse→Q .au H') E
theorem EU:aK ["reader", "count", "part", "place"] ["reader", "count", "part"] (aD CD):=⟨rfl,rfl,rfl,by decide+kernel,rfl,by decide+kernel,by decide+kernel⟩
theorem vA {H0 H':Hp} {R:bF} {p:dt} {gv:V} {m0 cnt:Nat} {one:List Int→Sound.Bits→Sound.Got Int} {Q:Hp→Prop} {E:XK} (h:lS K A H0 R p gv m0 cnt one (fun acc H'=>bI A H' p gv acc.reverse→Q H') E cnt H'):Q H':=by
 obtain ⟨ys,l,s1,st,hP,hl,k⟩:=h
 rw[Nat.sub_self] at k
 have k:bI A H' p gv ys.reverse.reverse→Q H':=k H' s1 st
 rw[List.reverse_reverse] at k
 exact k hP
theorem zC (T:Txt K mg A):az P w K mg base (aR P w) 4 A.p8 A.o9 ["reader", "count", "part"] (L0 K A):=by
 refine T.uA.bN EU (fun vs H Q E h=>?_) (fun cdv Ar outer s H vs Q E hr h=>?_)
 ·obtain ⟨H0,R,p,gv,cnt,ys,l,rfl,_⟩:=h
  rfl
 ·obtain ⟨H0,R,p,gv,cnt,ys,l,rfl,s0,hI,hp,hS,hP,hc,k⟩:=h
  have hr2':aF 2 _:=hr.mono (by decide)
  refine ⟨_,aj (cj PassesOwn.leaving rfl (fk rfl T.dQ (aa (pv 1) af)) (bo (i:=3) EU.nd rfl (Or.inl rfl))
   (aj (a8 (aP (pv 2) T.cf T.wR (xq T) hr T.uj .nil aN (aa (aP (pv 0) T.bP T.qP (tw T) hr2' T.rX .nil aN (aa (ax (pv 2) rfl) af)) af))))),?_⟩
  have hnn:=hp.2.2
  have e62:(2:Int)^62=4611686018427387904:=by decide
  refine ⟨_,rfl,((cnt:Nat):Int),rfl,by omega,by omega,?_⟩
  rw[Int.toNat_natCast]
  refine fE (lo:=0) (n:=cnt) (fun i σ H'=>lS K A H0 R p gv ys.length cnt (gC p.wd p.z p.may) (fun acc H'=>bI A H' p gv acc.reverse→Q .au H') E i H'∧ ∃v3:Option V,σ= [some (.ref R.r),some (.int (cnt:Nat)),some (.ref p.x),v3]) ⟨⟨ys,l,s0,hS,hP,rfl,k⟩,none,rfl⟩ ?_ ?_
  ·rintro i σ H1 hi ⟨⟨ys1,l1,s1,st1,hP1,hl1,k1⟩,v3,rfl⟩
   obtain ⟨px,hx⟩:=st1.obj
   rw[show cnt-i=(cnt-(i+1))+1 by omega,kM,gC,then_assoc] at k1
   refine (aO rfl hP1.1 rfl (aO rfl hx rfl (aA rfl hP1.1 T.cf T.rB rfl ⟨Wg.aB [R.r] H1,R,p.wd,l1,rfl,bQ _ _,?_,st1,by omega,?_⟩)))
   ·exact hI.same (s1.aB fun b hb=>by rw[List.mem_singleton.mp hb];exact hI.2.1) (gw (by simp))
   have sh:ae H0 (Wg.aB [R.r] H1):=s1.aB fun b hb=>by rw[List.mem_singleton.mp hb];exact hI.2.1
   refine k1.cT sh fun y l2 H2 _ s2 st2 k2=>?_
   have n1:=nJ st1 hP1
   have hP2:bI A H2 p gv ys1:=⟨s2 _ _ (by rw[cR (fun z=>n1 (by rw[←List.mem_singleton.mp z];simp))];exact hP1.1),s2 _ _ (by rw[cR (fun z=>n1 (by rw[←List.mem_singleton.mp z];simp))];exact hP1.2.1),hP1.2.2⟩
   have s02:=sh.trans s2
   obtain ⟨s3,hp3⟩:=hp.aB s02
   rw[zG] at k2
   refine ⟨Wg.aB [p.x,p.t] H2,p.x,p.dx,p.t,p.wd,p.z,p.n,p.pn,gv,ys1,p.may,y,rfl,bQ _ _,hp3.1,hP2,hp3.2.1,⟨hnn.1,hnn.2.1,hnn.2.2.1,by omega,hnn.2.2.2⟩,?_⟩
   rw[List.length_reverse] at k2
   by_cases hj:(Sound.fits p.wd y&&p.may ys1.length (y*2^p.z))=true
   ·rw[if_pos hj] at k2⊢
    refine fun H3 s4 hP3=>⟨⟨ys1++ [y],l2,s3.trans s4,st2.aB hP2 s4,hP3,by rw[List.length_append,hl1];rfl,?_⟩,some (.int (0+(i:Nat))),rfl⟩
    rw[List.reverse_append]
    exact k2
   ·rw[if_neg hj] at k2⊢
    exact fun H3 s4=>k2 H3 (s3.trans s4)
  ·rintro σ H1 ⟨hm,v3,rfl⟩
   exact vA hm
theorem F4 (v:Nat) (l:Sound.Bits):Sound.takeRest 31 v l=Sound.takeS v l:=by
 unfold Sound.takeRest
 rw[if_pos rfl]
 by_cases h:v=0
 ·subst h
  rw[if_pos rfl]
  unfold Sound.takeS
  rw[if_neg (fun z=>by have:=(jG _ _).mp z;omega)]
  rfl
 ·rw[if_neg h]
theorem za {H0 H2:Hp} {R:bF} {p:dt} {ga:Addr} {a ys1:List Int} {h m0 cnt i:Nat} {l2:Sound.Bits} {one:List Int→Sound.Bits→Sound.Got Int} {Qf:List Int→Hp→Prop} {Qn:Hp→Prop} {E:XK} {e:Int} (hp:fi K A H0 p) (hG:gy K A.cx H0 ga a h) (hbd:Bd 2048 a) (hal:a.length≤ys1.length)
  (s2:ae H0 H2) (st2:bg A.aQ H2 R l2) (hP2:bI A H2 p (.ref ga) ys1) (hl1:ys1.length=m0+i) (hn:ys1.length<p.n) (k2:bE A H0 R ((Sound.judged p.wd p.z p.may ys1.reverse.length (Sound.guess a h ys1.reverse+e) l2).then_ fun (x:Int) (r:Sound.Bits)=>Sound.takeMany one (cnt-(i+1)) (x::ys1.reverse) r) Qf E)
  (fin: ∀H3,lS K A H0 R p (.ref ga) m0 cnt one Qf E (i+1) H3→Qn H3):zh K A [.ref p.x, .int e] H2 (fun v H3=>Qn H3) E:=by
 obtain ⟨s3,hp3⟩:=hp.aB s2
 have hnn:=hp.2.2
 rw[zG,List.length_reverse] at k2
 refine ⟨Wg.aB [p.x,p.t] H2,p.x,p.dx,p.t,ga,p.wd,p.z,p.n,h,p.pn,ys1,a,p.may,e,rfl,bQ _ _,hp3.1,hP2,hG.same s3,⟨hal,hbd⟩,hp3.2.1,⟨hnn.1,hnn.2.1,hnn.2.2.1,hn,hnn.2.2.2⟩,?_⟩
 by_cases hj:(Sound.fits p.wd (Sound.guess a h ys1.reverse+e)&&p.may ys1.length ((Sound.guess a h ys1.reverse+e)*2^p.z))=true
 ·rw[if_pos hj] at k2⊢
  refine fun H3 s4 hP3=>fin H3 ⟨ys1++ [Sound.guess a h ys1.reverse+e],l2,s3.trans s4,st2.aB hP2 s4,hP3,by rw[List.length_append,hl1];rfl,?_⟩
  rw[List.reverse_append]
  exact k2
 ·rw[if_neg hj] at k2⊢
  exact fun H3 s4=>k2 H3 (s3.trans s4)
def vB (K:PySem.W.Frag) (A:aT) (H0:Hp) (ga:Addr) (a:List Int) (h:Nat) (m:Nat):Prop:=gy K A.cx H0 ga a h∧Bd 2048 a∧a.length≤m
def RA (K:PySem.W.Frag) (A:aT):Sp:=fun vs H Q E=> ∃(H0:Hp) (R:bF) (p:dt) (ga:Addr) (a:List Int) (h cnt:Nat) (ys:List Int) (l:Sound.Bits),vs= [.ref R.r, .int cnt, .ref p.x]∧ae H0 H∧cE K H0 R∧fi K A H0 p∧vB K A H0 ga a h ys.length∧bg A.aQ H R l∧bI A H p (.ref ga) ys∧ys.length+cnt≤p.n∧
 bE A H0 R ((Sound.takeU 6 l).then_ fun (v:Nat) (l:Sound.Bits)=>if 40<v then .bad else Sound.takeMany (gb p.wd p.z p.may a h 31 v) cnt ys.reverse l) (fun acc H'=>bI A H' p (.ref ga) acc.reverse→Q .au H') E
theorem wI:aK ["reader", "count", "part", "v", "place"] ["reader", "count", "part"] (aD yJ):=⟨rfl,rfl,rfl,by decide+kernel,rfl,by decide+kernel,by decide+kernel⟩
theorem cE.aB {H0 H:Hp} {R:bF} (h:cE K H0 R) (s:ae H0 H):ae H0 (Wg.aB [R.r] H)∧cE K (Wg.aB [R.r] H) R:=by
 have s1:ae H0 (Wg.aB [R.r] H):=s.aB fun b hb=>by rw[List.mem_singleton.mp hb];exact h.2.1
 exact ⟨s1,h.same s1 (gw (by simp))⟩
theorem gs {H H':Hp} {R:bF} {l:Sound.Bits} {p:dt} {g:V} {ys:List Int} (st:bg A.aQ H R l) (q:bI A H p g ys) (s:ae (Wg.aB [R.r] H) H'):bI A H' p g ys:=by
 have n1:=nJ st q
 exact ⟨s _ _ (by rw[cR (fun z=>n1 (by rw[←List.mem_singleton.mp z];simp))];exact q.1),s _ _ (by rw[cR (fun z=>n1 (by rw[←List.mem_singleton.mp z];simp))];exact q.2.1),q.2.2⟩
theorem RO (T:Txt K mg A):az P w K mg base (aR P w) 5 A.oH A.qJ ["reader", "count", "part"] (RA K A):=by
 refine T.Ab.bN wI (fun vs H Q E h=>?_) (fun cdv Ar outer s H vs Q E hr h=>?_)
 ·obtain ⟨H0,R,p,ga,a,h,cnt,ys,l,rfl,_⟩:=h
  rfl
 ·obtain ⟨H0,R,p,ga,a,h,cnt,ys,l,rfl,s0,hI,hp,⟨hG,hbd,hal⟩,hS,hP,hc,k⟩:=h
  have hr1':aF 1 _:=hr.mono (by decide)
  have hr2':aF 2 _:=hr.mono (by decide)
  refine ⟨_,ai (aI (i:=3) wI.nd rfl (Or.inl rfl) (aP (pv 0) T.bP T.dZ (d6 T) hr1' T.dU .nil aN (aa aq af)))
   (ai (bp (bq d4 (pv 3) (aV rfl T.Ga) (aX _)) (aj (fg rfl rfl T.eX T.d8.exc fq)) bu)
   (aj (cj PassesOwn.leaving rfl (fk rfl T.dQ (aa (pv 1) af)) (bo (i:=4) wI.nd rfl (Or.inl rfl))
    (aj (a8 (aP (pv 2) T.cf T.Dc (BI T) hr T.DU .nil aN (aa (aP (pv 0) T.bP T.qP (tw T) hr2' T.rX .nil aN (aa (pv 3) af)) af))))))),?_⟩
  have hnn:=hp.2.2
  have e62:(2:Int)^62=4611686018427387904:=by decide
  obtain ⟨px,hx⟩:=hS.obj
  obtain ⟨sh,hIh⟩:=hI.aB s0
  refine (aO rfl hx rfl ⟨Wg.aB [R.r] H,bG R 6 l ⟨rfl,bQ _ _,hIh,hS,by decide,k.cT sh fun v l1 H1 _ s1 st1 k1=>?_⟩⟩)
  have hP1:=gs hS hP s1
  have s01:=sh.trans s1
  refine ⟨_,rfl,ag _ _ ⟨rfl,rfl,_,rfl,?_⟩⟩
  refine bZ (fun hc=>?_) fun hc40=>?_
  ·have hc:(40:Int)<((v:Nat):Int):=of_decide_eq_true hc
   rw[if_pos (by omega)] at k1
   exact k1 H1 s01
  ·have hc40: ¬(40:Int)<((v:Nat):Int):=fun z=>hc40 (decide_eq_true z)
   rw[if_neg (by omega)] at k1
   refine ⟨_,rfl,((cnt:Nat):Int),rfl,by omega,by omega,?_⟩
   rw[Int.toNat_natCast]
   refine fE (lo:=0) (n:=cnt) (fun i σ H'=>lS K A H0 R p (.ref ga) ys.length cnt (gb p.wd p.z p.may a h 31 v) (fun acc H'=>bI A H' p (.ref ga) acc.reverse→Q .au H') E i H'∧ ∃v4:Option V,σ= [some (.ref R.r),some (.int (cnt:Nat)),some (.ref p.x),some (.int (v:Nat)),v4]) ⟨⟨ys,l1,s01,st1,hP1,rfl,k1⟩,none,rfl⟩ ?_ ?_
   ·rintro i σ H2 hi ⟨⟨ys1,l2,s2,st2,hP2,hl2,k2⟩,v4,rfl⟩
    obtain ⟨px2,hx2⟩:=st2.obj
    rw[show cnt-i=(cnt-(i+1))+1 by omega,kM,gb,then_assoc,F4] at k2
    obtain ⟨sh2,hIh2⟩:=hI.aB s2
    refine (aO rfl hP2.1 rfl (aO rfl hx2 rfl ⟨_,rfl,Wg.aB [R.r] H2,bG R v l2 ⟨rfl,bQ _ _,hIh2,st2,by omega,k2.cT sh2 fun e l3 H3 _ s3 st3 k3=>?_⟩⟩))
    exact za hp hG hbd (by omega) (sh2.trans s3) st3 (gs st2 hP2 s3) hl2 (by omega) k3 fun H4 hm=>⟨hm,some (.int (0+(i:Nat))),rfl⟩
   ·rintro σ H2 ⟨hm,v4,rfl⟩
    exact vA hm
def RR (K:PySem.W.Frag) (A:aT):Sp:=fun vs H Q E=> ∃(H0:Hp) (R:bF) (p:dt) (ga:Addr) (a:List Int) (h cnt:Nat) (ys:List Int) (l:Sound.Bits),vs= [.ref R.r, .int cnt, .ref p.x]∧ae H0 H∧cE K H0 R∧fi K A H0 p∧vB K A H0 ga a h ys.length∧bg A.aQ H R l∧bI A H p (.ref ga) ys∧ys.length+cnt≤p.n∧
 bE A H0 R (gM p.wd p.z p.may a h cnt ys.reverse l) (fun acc H'=>bI A H' p (.ref ga) acc.reverse→Q .au H') E
theorem rb:aK ["reader", "count", "part", "g", "place", "run"] ["reader", "count", "part"] (aD zM):=⟨rfl,rfl,rfl,by decide+kernel,rfl,by decide+kernel,by decide+kernel⟩
theorem kI {n:Nat} {l:Sound.Bits} {x:Nat} {r:Sound.Bits} (h:Sound.takeU n l= .ok x r):x<2^n:=by
 unfold Sound.takeU at h
 split at h
 ·cases h
 ·cases h
  have:=lh (l.take n)
  exact Nat.lt_of_lt_of_le this (Nat.pow_le_pow_right (by decide) (by rw[List.length_take];omega))
theorem Kg {g:Nat} (h:g<31):1099511627775/2^g+1=Sound.GREAT/2^g:=by
 have: ∀g:Nat,g<31→1099511627775/2^g+1=Sound.GREAT/2^g:=by decide
 exact this g h
theorem Az {m:Nat}: ∀{l:Sound.Bits} {q x:Nat} {r:Sound.Bits},Sound.takeRun m q l= .ok x r→x≤q+l.length
 | [],q,x,r,h=>by unfold Sound.takeRun at h;cases h
 |true::l,q,x,r,h=>by unfold Sound.takeRun at h;cases h;omega
 |false::l,q,x,r,h=>by
  have e:Sound.takeRun m q (false::l)=if m≤q+1 then .bad else Sound.takeRun m (q+1) l:=rfl
  rw[e] at h
  split at h
  ·cases h
  ·have:=Az h
   rw[List.length_cons];omega
theorem bg.len {H:Hp} {R:bF} {l:Sound.Bits} (h:bg A.aQ H R l) (hI:R.B.length≤4096):l.length≤32768:=by
 obtain ⟨i,rfl,_⟩:=h
 rw[List.length_drop,jW];omega
theorem Kk (T:Txt K mg A):az P w K mg base (aR P w) 6 A.mF A.m6 ["reader", "count", "part"] (RR K A):=by
 refine T.yx.bN rb (fun vs H Q E h=>?_) (fun cdv Ar outer s H vs Q E hr h=>?_)
 ·obtain ⟨H0,R,p,ga,a,h,cnt,ys,l,rfl,_⟩:=h
  rfl
 ·obtain ⟨H0,R,p,ga,a,h,cnt,ys,l,rfl,s0,hI,hp,hGs,hS,hP,hc,k⟩:=h
  obtain ⟨hG,hbd,hal⟩:=id hGs
  have hr1':aF 1 _:=hr.mono (by decide)
  have hr2':aF 2 _:=hr.mono (by decide)
  have hr4':aF 4 _:=hr.mono (by decide)
  refine ⟨_,ai (aI (i:=3) rb.nd rfl (Or.inl rfl) (aP (pv 0) T.bP T.dZ (d6 T) hr1' T.dU .nil aN (aa aq af)))
   (ai (bp (bq dA (pv 3) (aV rfl T.O4) (aX _)) (ai (a8 (aS (RO T) hr rfl T.Ln T.Ab.kp T.KN .nil aN (aa (pv 0) (aa (pv 1) (aa (pv 2) af))))) (aj PQ)) bu)
   (aj (cj PassesOwn.leaving rfl (fk rfl T.dQ (aa (pv 1) af)) (bo (i:=4) rb.nd rfl (Or.inl rfl))
    (ai (aI (i:=5) rb.nd rfl (Or.inl rfl) (aP (pv 0) T.bP T.Cc (EW T) hr2' T.Eb .nil aN (aa (aw eU (aV rfl T.Qs) (pv 3)) af)))
    (aj (a8 (aP (pv 2) T.cf T.Dc (BI T) hr4' T.DU .nil aN (aa (aS (Oj T) hr1' rfl T.QJ T.Ae.kp T.P9 .nil aU
     (aa (aw b5 (aw jE (pv 5) (pv 3)) (aP (pv 0) T.bP T.dZ (d6 T) hr1' T.dU .nil aN (aa (pv 3) af))) af)) af)))))))),?_⟩
  have hnn:=hp.2.2
  have e62:(2:Int)^62=4611686018427387904:=by decide
  obtain ⟨px,hx⟩:=hS.obj
  obtain ⟨sh,hIh⟩:=hI.aB s0
  unfold gM at k
  refine (aO rfl hx rfl ⟨Wg.aB [R.r] H,bG R 5 l ⟨rfl,bQ _ _,hIh,hS,by decide,k.cT sh fun g l1 H1 eg s1 st1 k1=>?_⟩⟩)
  have hP1:=gs hS hP s1
  have s01:=sh.trans s1
  have hg32:g<32:=kI eg
  refine ⟨_,rfl,rfl,_,rfl,?_⟩
  have e31:=i8 g 31
  refine bZ (fun hc=>?_) fun hc31=>?_
  ·have hc:g=31:=of_decide_eq_true (e31.symm.trans hc)
   subst hc
   rw[if_pos rfl] at k1
   exact ⟨_,rfl,_,rfl,_,rfl,wN H0 R p ga a h cnt ys l1 ⟨rfl,s01,hI,hp,hGs,st1,hP1,by omega,k1⟩⟩
  ·have hne:g≠31:=fun z=>hc31 (e31.trans (decide_eq_true z))
   rw[if_neg hne] at k1
   refine ⟨_,rfl,((cnt:Nat):Int),rfl,by omega,by omega,?_⟩
   rw[Int.toNat_natCast]
   refine fE (lo:=0) (n:=cnt) (fun i σ H'=>lS K A H0 R p (.ref ga) ys.length cnt (gb p.wd p.z p.may a h g 0) (fun acc H'=>bI A H' p (.ref ga) acc.reverse→Q .au H') E i H'∧ ∃v4 v5:Option V,σ= [some (.ref R.r),some (.int (cnt:Nat)),some (.ref p.x),some (.int (g:Nat)),v4,v5]) ⟨⟨ys,l1,s01,st1,hP1,rfl,k1⟩,none,none,rfl⟩ ?_ ?_
   ·rintro i σ H2 hi ⟨⟨ys1,l2,s2,st2,hP2,hl2,k2⟩,v4,v5,rfl⟩
    obtain ⟨px2,hx2⟩:=st2.obj
    have er:Sound.takeRest g 0 l2=(Sound.takeRun (Sound.GREAT/2^g) 0 l2).then_ fun (q:Nat) (r:Sound.Bits)=>(Sound.takeU g r).then_ fun (x:Nat) (r:Sound.Bits)=> .ok (Sound.unfold (q*2^g+x)) r:=by
     unfold Sound.takeRest;rw[if_neg hne]
    rw[show cnt-i=(cnt-(i+1))+1 by omega,kM,gb,then_assoc,er,then_assoc] at k2
    obtain ⟨sh2,hIh2⟩:=hI.aB s2
    refine (aO rfl hx2 rfl ⟨_,rfl,ag _ _ ⟨rfl,rfl,(by omega),Wg.aB [R.r] H2,R,1099511627775/2^g,l2,?_,bQ _ _,hIh2,st2,?_⟩⟩)
    ·show [V.ref R.r,V.int ((1099511627775:Int)/2^((g:Nat):Int).toNat)]=_
     rw[Int.toNat_natCast];rfl
    rw[Kg (by omega)]
    refine k2.cT sh2 fun q l3 H3 eq s3 st3 k3=>?_
    have hql:=Az eq
    have hl2l:=st2.len hI.2.2
    rw[then_assoc] at k3
    have hP3:=gs st2 hP2 s3
    have s03:=sh2.trans s3
    obtain ⟨px3,hx3⟩:=st3.obj
    obtain ⟨sh3,hIh3⟩:=hI.aB s03
    have e64:(2:Nat)^64=18446744073709551616:=by decide
    refine (aO rfl hP3.1 rfl ⟨_,rfl,_,rfl,ag _ _ ⟨rfl,rfl,⟨by omega,by omega,by rw[Int.natAbs_natCast];omega⟩,aO rfl hx3 rfl ⟨_,rfl,Wg.aB [R.r] H3,bG R g l3 ⟨rfl,bQ _ _,hIh3,st3,by omega,k3.cT sh3 fun x l4 H4 _ s4 st4 k4=>?_⟩⟩⟩⟩)
    refine (ag _ _ ⟨rfl,rfl,q*2^g+x,?_,?_⟩)
    ·show [V.int (((q:Nat):Int)*2^((g:Nat):Int).toNat+((x:Nat):Int))]=_
     rw[Int.toNat_natCast]
     simp
    ·exact za hp hG hbd (by omega) (sh3.trans s4) st4 (gs st3 hP3 s4) hl2 (by omega) k4 fun H5 hm=>⟨hm,some (.int (0+(i:Nat))),some (.int (q:Nat)),rfl⟩
   ·rintro σ H2 ⟨hm,v4,v5,rfl⟩
    exact vA hm
theorem zc {J:It} {H1:Hp} {D:Addr} {σ:L2.St} {vs:List Nat} {g:TG} {te:TE} {Qf:Hp→Prop} (n:Nat) (hn:n≤sizeLine) (Pv:Nat→List V→Hp→Prop) (h0:Pv 0 [] (upd H1 D (.lst [])))
  (hgo: ∀i acc H,i<n→Pv i acc H→J.go i H) (hstop: ∀acc H,Pv n acc H→J.stop n H)
  (turn: ∀i acc H x H',i<n→Pv i acc H→H D=some (.lst acc)→acc.length=i→J.eP i H x H'→ ∀C:VK,(∀y H4,H4 D=some (.lst acc)→Pv (i+1) (acc++ [y]) (upd H4 D (.lst (acc++ [y])))→C y H4)→g x (wipe σ vs) H' fun σ2 H2=>wipe σ2 vs=wipe σ vs∧te σ2 H2 C)
  (fin: ∀acc H,Pv n acc H→H D=some (.lst acc)→acc.length=n→Qf H):
  ∃W:Nat→Nat→Hp→Prop,(∃m,W 0 m (upd H1 D (.lst [])))∧ ∀i m H,W i m H→
   (J.stop i H∧Qf H)∨(J.go i H∧ ∃Nx:Hp→Prop,(∀H',Nx H'→ ∃m',m'<m∧W (i+1) m' H')∧ ∀x H',J.eP i H x H'→g x (wipe σ vs) H' fun σ2 H2=>wipe σ2 vs=wipe σ vs∧oo σ2 H2 fun b H3=>
    if b=true then te σ2 H3 fun y H4=> ∃acc,H4 D=some (.lst acc)∧acc.length<sizeLine∧Nx (upd H4 D (.lst (acc++ [y]))) else Nx H3):=by
 refine ⟨fun i m H=>i+m=n∧ ∃acc,Pv i acc H∧H D=some (.lst acc)∧acc.length=i,⟨n,by omega, [],h0,ak,rfl⟩,?_⟩
 rintro i m H ⟨hm,acc,hp,hD,hl⟩
 by_cases hi:i=n
 ·subst hi
  exact .inl ⟨hstop acc H hp,fin acc H hp hD hl⟩
 ·refine .inr ⟨hgo i acc H (by omega) hp,fun H'=> ∃acc',Pv (i+1) acc' H'∧H' D=some (.lst acc')∧acc'.length=i+1,fun H' h=>⟨m-1,by omega,by omega,h⟩,fun x H' hy=>?_⟩
  refine turn i acc H x H' (by omega) hp hD hl hy _ fun y H4 hD4 hp4=>⟨acc,hD4,by omega,acc++ [y],hp4,ak,by rw[List.length_append,hl];rfl⟩
theorem fU {α:Type} {one:List α→Sound.Bits→Sound.Got α}: ∀{n:Nat} {acc xs:List α} {l r:Sound.Bits},Sound.takeMany one n acc l= .ok xs r→xs.length=acc.length+n
 |0,acc,xs,l,r,h=>by unfold Sound.takeMany at h;cases h;rfl
 |n+1,acc,xs,l,r,h=>by
  rw[kM] at h
  cases e:one acc l with
  |ok x l'=>
   rw[e] at h
   have:=fU (show Sound.takeMany one n (x::acc) l'= .ok xs r from h)
   rw[this,List.length_cons];omega
  |bad=>rw[e] at h;cases h
  |short=>rw[e] at h;cases h
theorem sQ {w z:Nat} {may:Nat→Int→Bool} {a:List Int} {h cnt:Nat} {ys xs:List Int} {l r:Sound.Bits} (e:gM w z may a h cnt ys l= .ok xs r):xs.length=ys.length+cnt:=by
 unfold gM at e
 cases e1:Sound.takeU 5 l with
 |ok g l1=>
  rw[e1] at e
  have e:(if g=31 then (Sound.takeU 6 l1).then_ fun (v:Nat) (l:Sound.Bits)=>if 40<v then .bad else Sound.takeMany (gb w z may a h g v) cnt ys l else Sound.takeMany (gb w z may a h g 0) cnt ys l1)= .ok xs r:=e
  split at e
  ·cases e2:Sound.takeU 6 l1 with
   |ok v l2=>
    rw[e2] at e
    have e:(if 40<v then .bad else Sound.takeMany (gb w z may a h g v) cnt ys l2)= .ok xs r:=e
    split at e
    ·cases e
    ·exact fU e
   |bad=>rw[e2] at e;cases e
   |short=>rw[e2] at e;cases e
  ·exact fU e
 |bad=>rw[e1] at e;cases e
 |short=>rw[e1] at e;cases e
theorem qR (w z n p r:Nat) (a:List Int) (h:Nat) (may:Nat→Int→Bool) (k i:Nat) (ys:List Int) (l:Sound.Bits):Sound.takeGroups w z n p r a h may (k+1) i ys l=(gM w z may a h (n/2^r-(if i=0 then p else 0)) ys l).then_ fun (ys:List Int) (l:Sound.Bits)=>Sound.takeGroups w z n p r a h may k (i+1) ys l:=by
 conv=>lhs;unfold Sound.takeGroups
 unfold gM
 rw[then_assoc]
 congr 1
 funext g l
 by_cases hg:g=31
 ·rw[if_pos hg,if_pos hg,then_assoc]
  congr 1
  funext v l
  by_cases hv:40<v
  ·rw[if_pos hv,if_pos hv];rfl
  ·rw[if_neg hv,if_neg hv];rfl
 ·rw[if_neg hg,if_neg hg];rfl
def eG (w z n:Nat) (may:Nat→Int→Bool) (p:Nat) (a:List Int) (h:Nat) (ys:List Int) (l:Sound.Bits):Sound.Got (List Int):=(Sound.takeU 3 l).then_ fun (r:Nat) (l:Sound.Bits)=>if 6<r∨Sound.mayCut n p r=false then (.bad:Sound.Got (List Int)) else Sound.takeGroups w z n p r a h may (2^r) 0 ys l
theorem xS (n p r:Nat):pU n p r=true↔ ¬(6<r∨Sound.mayCut n p r=false):=by
 unfold pU Sound.mayCut
 have e:n/2^r*2^r=n↔n%2^r=0:=by
  have:=Nat.div_add_mod n (2^r)
  rw[Nat.mul_comm] at this
  omega
 simp only [Bool.and_eq_true,decide_eq_true_eq,not_or,Nat.not_lt,Bool.not_eq_false,beq_iff_eq,e]
def xX (K:PySem.W.Frag) (A:aT):Sp:=fun vs H Q E=> ∃(H0:Hp) (R:bF) (p:dt) (ga:Addr) (a:List Int) (h:Nat) (ys:List Int) (l:Sound.Bits),vs= [.ref R.r, .int p.n, .int (a.length:Nat), .ref p.x]∧ae H0 H∧cE K H0 R∧fi K A H0 p∧vB K A H0 ga a h ys.length∧bg A.aQ H R l∧bI A H p (.ref ga) ys∧(ys.length=a.length∧a.length≤4)∧
 bE A H0 R (eG p.wd p.z p.n p.may a.length a h ys.reverse l) (fun acc H'=>bI A H' p (.ref ga) acc.reverse→Q .au H') E
theorem kc:aK ["reader", "n", "order", "part", "r", "size", "count", "group"] ["reader", "n", "order", "part"] (aD CL):=⟨rfl,rfl,rfl,by decide+kernel,rfl,by decide+kernel,by decide+kernel⟩
theorem E7 (T:Txt K mg A):az P w K mg base (aR P w) 7 A.pQ A.lZ ["reader", "n", "order", "part"] (xX K A):=by
 refine T.BA.bN kc (fun vs H Q E h=>?_) (fun cdv Ar outer s H vs Q E hr h=>?_)
 ·obtain ⟨H0,R,p,ga,a,h,ys,l,rfl,_⟩:=h
  rfl
 ·obtain ⟨H0,R,p,ga,a,h,ys,l,rfl,s0,hI,hp,hGs,hS,hP,⟨hyl,ha4⟩,k⟩:=h
  have hr1':aF 1 _:=hr.mono (by decide)
  refine ⟨_,ai (aI (i:=4) kc.nd rfl (Or.inl rfl) (aP (pv 0) T.bP T.dZ (d6 T) hr1' T.dU .nil aN (aa aq af)))
   (ai (bp (iW (iF (aS (Li T) hr1' rfl T.Md T.DX.kp T.FQ .nil aU (aa (pv 1) (aa (pv 2) (aa (pv 4) af)))))) (aj (fg rfl rfl T.eX T.d8.exc fq)) bu)
   (ai (aI (i:=5) kc.nd rfl (Or.inl rfl) (aw eU (pv 1) (pv 4)))
   (ai (aI (i:=6) kc.nd rfl (Or.inl rfl) (aw du (pv 5) (pv 2)))
   (aj (cj PassesOwn.leaving rfl (fk rfl T.dQ (aa (aw jE aq (pv 4)) af)) (bo (i:=7) kc.nd rfl (Or.inl rfl))
    (ai (a8 (aS (Kk T) hr rfl T.Ls T.yx.kp T.Ly .nil aN (aa (pv 0) (aa (pv 6) (aa (pv 3) af)))))
    (aj (aI (i:=6) kc.nd rfl (Or.inl rfl) (pv 5))))))))),?_⟩
  have hnn:=hp.2.2
  have e62:(2:Int)^62=4611686018427387904:=by decide
  obtain ⟨px,hx⟩:=hS.obj
  obtain ⟨sh,hIh⟩:=hI.aB s0
  unfold eG at k
  refine (aO rfl hx rfl ⟨Wg.aB [R.r] H,bG R 3 l ⟨rfl,bQ _ _,hIh,hS,by decide,k.cT sh fun r l1 H1 er s1 st1 k1=>?_⟩⟩)
  have hP1:=gs hS hP s1
  have s01:=sh.trans s1
  have hr8:r<8:=kI er
  refine ⟨_,rfl,_,rfl,_,rfl,p.n,a.length,r,rfl,⟨by omega,by omega⟩,_,rfl,?_⟩
  cases hcs:pU p.n a.length r with
  |false=>
   rw[if_pos (Classical.byContradiction fun z=>by rw[(xS _ _ _).mpr z] at hcs;cases hcs)] at k1
   exact bt (k1 H1 s01)
  |true=>
   have hcs2:=(xS _ _ _).mp hcs
   rw[if_neg hcs2] at k1
   have h6:r≤6:=Nat.le_of_not_lt fun z=>hcs2 (.inl z)
   have hmc:p.n%2^r=0∧a.length≤p.n/2^r:=by
    have:Sound.mayCut p.n a.length r=true:=by
     cases q:Sound.mayCut p.n a.length r with
     |true=>rfl
     |false=>exact absurd (.inr q) hcs2
    unfold Sound.mayCut at this
    rw[Bool.and_eq_true,beq_iff_eq,decide_eq_true_eq] at this
    exact this
   have hdiv:p.n/2^r*2^r=p.n:=Nat.div_mul_cancel (Nat.dvd_of_mod_eq_zero hmc.1)
   have e64:(2:Nat)^64=18446744073709551616:=by decide
   refine bB ⟨_,rfl,_,rfl,ag _ _ ⟨rfl,rfl,(by omega),?_⟩⟩
   have e1:((p.n:Nat):Int)/2^((r:Nat):Int).toNat=((p.n/2^r:Nat):Int):=by rw[Int.toNat_natCast];simp
   dsimp only
   rw[e1]
   have h2r:2^r≤64:=Nat.le_trans (Nat.pow_le_pow_right (by decide) h6) (by decide)
   have h2p:0<2^r:=Nat.two_pow_pos r
   generalize hsz:p.n/2^r=sz at*
   refine ⟨_,rfl,_,rfl,ag _ _ ⟨rfl,rfl,?_⟩⟩
   dsimp only
   rw[show ((sz:Nat):Int)-((a.length:Nat):Int)=((sz-a.length:Nat):Int) by omega]
   have e2:(1:Int)*2^((r:Nat):Int).toNat=((2^r:Nat):Int):=by rw[Int.one_mul,Int.toNat_natCast];simp
   refine ⟨_,rfl,ag _ _ ⟨rfl,rfl,⟨by omega,by omega,by decide⟩,((2^r:Nat):Int),(by show [V.int ((1:Int)*2^((r:Nat):Int).toNat)]=_;rw[e2]),by omega,by omega,?_⟩⟩
   rw[Int.toNat_natCast]
   refine fE (lo:=0) (n:=2^r) (fun i σ H'=>(∃(ys1:List Int) (l2:Sound.Bits),ae H0 H'∧bg A.aQ H' R l2∧bI A H' p (.ref ga) ys1∧ys1.length=(if i=0 then a.length else i*sz)∧bE A H0 R (Sound.takeGroups p.wd p.z p.n a.length r a h p.may (2^r-i) i ys1.reverse l2) (fun acc H'=>bI A H' p (.ref ga) acc.reverse→Q .au H') E)∧
     ∃v7:Option V,σ= [some (.ref R.r),some (.int (p.n:Nat)),some (.int (a.length:Nat)),some (.ref p.x),some (.int (r:Nat)),some (.int (sz:Nat)),some (.int ((sz-(if i=0 then a.length else 0):Nat):Int)),v7]) ⟨⟨ys,l1,s01,st1,hP1,by rw[if_pos rfl];exact hyl,k1⟩,none,rfl⟩ ?_ ?_
   ·rintro i σ H2 hi ⟨⟨ys1,l2,s2,st2,hP2,hl2,k2⟩,v7,rfl⟩
    rw[show 2^r-i=(2^r-(i+1))+1 by omega,qR,hsz] at k2
    have hroom:ys1.length+(sz-(if i=0 then a.length else 0))≤p.n∧a.length≤ys1.length∧ys1.length+(sz-(if i=0 then a.length else 0))=(i+1)*sz:=by
     have hm:(i+1)*sz≤2^r*sz:=Nat.mul_le_mul_right _ (by omega)
     have hc:2^r*sz=p.n:=by rw[Nat.mul_comm];exact hdiv
     by_cases h0:i=0
     ·subst h0
      rw[if_pos rfl] at hl2⊢
      rw[Nat.zero_add,Nat.one_mul] at hm⊢
      omega
     ·rw[if_neg h0] at hl2⊢
      have:(i+1)*sz=i*sz+sz:=by rw[Nat.add_mul,Nat.one_mul]
      have h1:sz≤i*sz:=Nat.le_mul_of_pos_left sz (by omega)
      omega
    refine ⟨_,rfl,_,rfl,_,rfl,wN H0 R p ga a h _ ys1 l2 ⟨rfl,s2,hI,hp,⟨hGs.1,hGs.2.1,hroom.2.1⟩,st2,hP2,hroom.1,k2.seq fun xs l3 H3 exs s3 st3 k3 hP3=>?_⟩⟩
    have hxl:=sQ exs
    rw[List.length_reverse] at hxl
    refine ⟨_,rfl,⟨xs.reverse,l3,s3,st3,hP3,?_,?_⟩,some (.int (0+(i:Nat))),?_⟩
    ·rw[List.length_reverse,hxl,if_neg (show¬i+1=0 by omega)];exact hroom.2.2
    ·rw[List.reverse_reverse];exact k3
    ·rw[if_neg (show¬i+1=0 by omega),Nat.sub_zero];rfl
   ·rintro σ H2 ⟨⟨ys1,l2,s2,st2,hP2,hl2,k2⟩,v7,rfl⟩
    rw[Nat.sub_self] at k2
    have k3:bI A H2 p (.ref ga) ys1.reverse.reverse→Q .au H2:=k2 H2 s2 st2
    rw[List.reverse_reverse] at k3
    exact k3 hP2
def ij (x z n:Nat) (may:Nat→Int→Bool) (kind:Nat) (l:Sound.Bits):Sound.Got (List Int):=
 if kind≤6 then (if n<kind-2 then .bad else (Sound.takeMany (gC x z may) (kind-2) [] l).then_ fun (ys:List Int) (l:Sound.Bits)=>eG x z n may (kind-2) (Sound.FIXED.getD (kind-2) []) 0 ys l)
 else if n<kind-6 then .bad else (Sound.takeMany (gC x z may) (kind-6) [] l).then_ fun (ys:List Int) (l:Sound.Bits)=>(Sound.takeU 4 l).then_ fun (h:Nat) (l:Sound.Bits)=>(Sound.takeMany (fun (_:List Int) (l:Sound.Bits)=>Sound.takeS 12 l) (kind-6) [] l).then_ fun (a:List Int) (l:Sound.Bits)=>eG x z n may (kind-6) a.reverse h ys l
theorem FU {p:Nat} (h:p≤4):(Sound.FIXED.getD p []).length=p∧Bd 2048 (Sound.FIXED.getD p []):=by
 have: ∀p:Nat,p≤4→(Sound.FIXED.getD p []).length=p∧ ∀x∈Sound.FIXED.getD p [],-2048≤x∧x≤2048:=by decide
 exact this p h
theorem Cz {n:Nat} {l:Sound.Bits} {x:Int} {r:Sound.Bits} (h:Sound.takeS n l= .ok x r) (h1:1≤n):Sound.fits n x=true:=by
 unfold Sound.takeS at h
 split at h
 ·cases h
 ·rename_i hl
  have hlen:(l.take n).length=n:=by
   rw[List.length_take]
   have: ¬l.length<n:=fun z=>hl ((jG n l).mpr z)
   omega
  cases h
  generalize l.take n=m at*
  cases m with
  |nil=>simp at hlen;omega
  |cons b m=>
   have v:=lh m
   rw[List.length_cons] at hlen
   have hn:n-1=m.length:=by omega
   unfold Sound.fits Sound.svalue
   rw[hn,rL]
   have e2:(2:Int)^(m.length+1)=2*2^m.length:=by rw[Int.pow_succ,Int.mul_comm]
   have ec:((2^m.length:Nat):Int)=(2:Int)^m.length:=by simp
   cases b with
   |true=>
    simp only [List.head?_cons,if_true,List.length_cons,Nat.one_mul,e2]
    rw[Bool.and_eq_true,decide_eq_true_eq,decide_eq_true_eq,←ec]
    omega
   |false=>
    simp only [List.head?_cons,Option.some.injEq,Bool.false_eq_true,if_false,Nat.zero_mul,Nat.zero_add]
    rw[Bool.and_eq_true,decide_eq_true_eq,decide_eq_true_eq,←ec]
    omega
theorem Nq {l:Sound.Bits} {x:Int} {r:Sound.Bits} (h:Sound.takeS 12 l= .ok x r): -2048≤x∧x≤2048:=by
 have:=Cz h (by decide)
 unfold Sound.fits at this
 rw[Bool.and_eq_true,decide_eq_true_eq,decide_eq_true_eq] at this
 have e:(2:Int)^(12-1)=2048:=by decide
 omega
theorem RN {H0 H:Hp} {R:bF} {p:dt} (hI:cE K H0 R) (hp:fi K A H0 p) (s:ae H0 H):ae H0 (Wg.aB [R.r,p.x,p.t] H)∧cE K (Wg.aB [R.r,p.x,p.t] H) R∧fi K A (Wg.aB [R.r,p.x,p.t] H) p:=by
 have s1:ae H0 (Wg.aB [R.r,p.x,p.t] H):=s.aB fun b hb=>by
  rcases List.mem_cons.mp hb with rfl|hb
  ·exact hI.2.1
  ·rcases List.mem_cons.mp hb with rfl|hb
   ·exact hp.1.1
   ·rcases List.mem_cons.mp hb with rfl|hb
    ·exact hp.1.2
    ·cases hb
 exact ⟨s1,hI.same s1 (gw (by simp)),⟨gw (by simp),gw (by simp)⟩,hp.2.1.same s1,hp.2.2⟩
theorem x9 (wd z pn g t g':V):bz "guess" g' (fG wd z pn g t)=fG wd z pn g' t:=rfl
def M6 (K:PySem.W.Frag) (A:aT):Sp:=fun vs H Q E=> ∃(H0:Hp) (R:bF) (p:dt) (kind:Nat) (l:Sound.Bits),vs= [.ref R.r, .int p.n, .int kind, .ref p.x]∧ae H0 H∧cE K H0 R∧fi K A H0 p∧bg A.aQ H R l∧bI A H p .au []∧(2≤kind∧kind≤10)∧
 bE A H0 R (ij p.wd p.z p.n p.may kind l) (fun acc H'=>(∃g,bI A H' p g acc.reverse)→Q .au H') E
theorem nj:aK ["reader", "n", "kind", "part", "order", "shift", "place"] ["reader", "n", "kind", "part"] (aD Eg):=⟨rfl,rfl,rfl,by decide+kernel,rfl,by decide+kernel,by decide+kernel⟩
theorem Mj {H1:Hp} {R:bF} {p:dt} {g:V} {ys:List Int} {l:Sound.Bits} {o:HO} (st:bg A.aQ H1 R l) (hP:bI A H1 p g ys) (H2:Hp):ae (newOf H1 H2) (Wg.aB [R.r,p.x,p.t] (upd H2 p.x o)):=fun b u h=>by
 obtain ⟨h1,h2⟩:=ke h
 obtain ⟨i,hx⟩:=st.obj
 have n1:b≠R.r:=fun z=>by rw[z,hx] at h1;cases h1
 have n2:b≠p.x:=fun z=>by rw[z,hP.1] at h1;cases h1
 have n3:b≠p.t:=fun z=>by rw[z,hP.2.1] at h1;cases h1
 rw[cR (by simp [n1,n2,n3]),aG n2]
 exact h2
theorem De {H0 H:Hp} {R:bF} {p:dt} {ga:Addr} {a ys:List Int} {h:Nat} {l:Sound.Bits} {Qn:Hp→Prop} {E:XK} (hI:cE K H0 R) (hp:fi K A H0 p) (s:ae H0 H) (st:bg A.aQ H R l) (hP:bI A H p (.ref ga) ys) (hG:gy K A.cx (Wg.aB [R.r,p.x,p.t] H) ga a h) (hb:Bd 2048 a) (ha:ys.length=a.length∧a.length≤4)
  (k:bE A H0 R (eG p.wd p.z p.n p.may a.length a h ys.reverse l) (fun acc H'=>(∃g,bI A H' p g acc.reverse)→Qn H') E):xX K A [.ref R.r, .int p.n, .int (a.length:Nat), .ref p.x] H (fun v H'=>Qn H') E:=by
 obtain ⟨s1,hI1,hp1⟩:=RN hI hp s
 refine ⟨Wg.aB [R.r,p.x,p.t] H,uo R p ga a h ys l ⟨rfl,bQ _ _,hI1,hp1,⟨hG,hb,by omega⟩,st,hP,ha,?_⟩⟩
 have k1:=k.low s1
 generalize eG p.wd p.z p.n p.may a.length a h ys.reverse l=g at*
 cases g with
 |ok x l=>exact fun H' s' st' hq=>k1 H' s' st' ⟨_,hq⟩
 |bad=>exact k1
 |short=>exact k1
theorem MD (T:Txt K mg A):az P w K mg base (aR P w) 8 A.nX A.oK ["reader", "n", "kind", "part"] (M6 K A):=by
 refine T.xR.bN nj (fun vs H Q E h=>?_) (fun cdv Ar outer s H vs Q E hr h=>?_)
 ·obtain ⟨H0,R,p,kind,l,rfl,_⟩:=h
  rfl
 ·obtain ⟨H0,R,p,kind,l,rfl,s0,hI,hp,hS,hP,⟨hk1,hk2⟩,k⟩:=h
  have hr1':aF 1 _:=hr.mono (by decide)
  have hr2':aF 2 _:=hr.mono (by decide)
  have hr3':aF 3 _:=hr.mono (by decide)
  have hr4':aF 4 _:=hr.mono (by decide)
  refine ⟨_,ai (aI (i:=4) nj.nd rfl (Or.inl rfl) (aS (Lp T) hr1' rfl T.P0 T.Ag.kp T.JD .nil aU (aa (pv 2) af)))
   (ai (bp (bq d4 (pv 4) (pv 1) (aX _)) (aj (fg rfl rfl T.eX T.d8.exc fq)) bu)
   (ai (a8 (aS (zC T) hr4' rfl T.yF T.uA.kp T.yG .nil aN (aa (pv 0) (aa (pv 4) (aa (pv 3) af)))))
   (ai (bp (bq tX (pv 2) (aV rfl T.xu) (aX _)) (aj (bc (pv 3) (aS (Fp T) hr3' rfl T.Fh T.A5.kp T.Qz .nil aU (aa (pv 4) af)) rfl))
    (ai (aI (i:=5) nj.nd rfl (Or.inl rfl) (aP (pv 0) T.bP T.dZ (d6 T) hr1' T.dU .nil aN (aa aq af)))
    (aj (bc (pv 3) (fY T.Be (Ep T) hr2' rfl T.EK T.yR .nil aU (aa (FF (own:= [("place",6)]) rfl rfl rfl jk rfl nj.nd (fk rfl T.dQ (aa (pv 4) af)) (dM (by kernel_rfl)) (fun _ _ _ _ _ _=>bo (i:=6) nj.nd rfl (Or.inl rfl)) (fun _ _ _ _ _ _=>dJ)
     (fun _ _ _ _ _ _ hp=>aP (pv 0) T.bP T.qP (tw T) hr2' T.rX .nil hp (aa (aV rfl T.JN) af))) (aa (pv 5) af))) rfl))))
   (aj (a8 (aS (E7 T) hr rfl T.OA T.BA.kp T.Ft .nil aN (aa (pv 0) (aa (pv 1) (aa (pv 4) (aa (pv 3) af)))))))))),?_⟩
  have hnn:=hp.2.2
  have e62:(2:Int)^62=4611686018427387904:=by decide
  refine ⟨_,rfl,kind,rfl,⟨hk1,hk2⟩,?_⟩
  generalize ho:(if kind≤6 then kind-2 else kind-6)=o at*
  have ho4:o≤4:=by rw[←ho];split<;>omega
  refine ⟨_,rfl,_,rfl,ag _ _ ⟨rfl,rfl,_,rfl,?_⟩⟩
  unfold ij at k
  refine bZ (fun hc=>?_) fun hc=>?_
  ·have hc:((p.n:Nat):Int)<((o:Nat):Int):=of_decide_eq_true hc
   by_cases h6:kind≤6
   ·rw[if_pos h6] at k ho
    rw[if_pos (by omega)] at k
    exact k H s0
   ·rw[if_neg h6] at k ho
    rw[if_pos (by omega)] at k
    exact k H s0
  ·have hc: ¬((p.n:Nat):Int)<((o:Nat):Int):=fun z=>hc (decide_eq_true z)
   by_cases h6:kind≤6
   ·rw[if_pos h6] at k ho
    rw[if_neg (by omega),ho] at k
    refine ⟨_,rfl,_,rfl,_,rfl,H0,R,p, .au,o, [],l,rfl,s0,hI,hp,hS,hP,(by show 0+o≤_;omega),k.seq fun ys l1 H1 ey s1 st1 k1 hP1=>?_⟩
    have hyl:=fU ey
    have hyl:ys.length=o:=by rw[hyl];show 0+o=o;omega
    refine ⟨_,rfl,ag _ _ ⟨rfl,rfl,_,rfl,?_⟩⟩
    rw[decide_eq_true (show ((kind:Nat):Int)<7 by omega)]
    refine bt ⟨_,rfl,o,rfl,ho4,fun ga H2 hga s2 hG=>?_⟩
    have hx2:=s2 _ _ hP1.1
    refine ⟨_,rfl,p.x,A.bK,p.dx,_,rfl,hx2,T.cf,T.uc,(by show 5<1000;decide),?_⟩
    rw[x9]
    have htx:=hP1.ne
    have hP3:bI A (upd H2 p.x (.ins A.bK p.dx (fG (.int p.wd) (.int p.z) p.pn (.ref ga) (.ref p.t)))) p (.ref ga) ys.reverse:=⟨ak,by rw[aG htx];exact s2 _ _ hP1.2.1,hP1.2.2⟩
    have s3:ae H0 (upd H2 p.x (.ins A.bK p.dx (fG (.int p.wd) (.int p.z) p.pn (.ref ga) (.ref p.t)))):=fK (s1.trans s2) hp.1.1
    have st3:bg A.aQ (upd H2 p.x (.ins A.bK p.dx (fG (.int p.wd) (.int p.z) p.pn (.ref ga) (.ref p.t)))) R l1:=by
     have n1:=nJ st1 hP1
     obtain ⟨i,ei,hi,hxr⟩:=st1
     exact ⟨i,ei,hi,by rw[aG (fun z=>n1 (by rw[z];simp))];exact s2 _ _ hxr⟩
    have hG3:=hG.same (Mj (o:= .ins A.bK p.dx (fG (.int p.wd) (.int p.z) p.pn (.ref ga) (.ref p.t))) st1 hP1 H2)
    obtain ⟨fl,fb⟩:=FU ho4
    have:=De (Qn:=fun H'=>Q .au H') hI hp s3 st3 hP3 hG3 fb ⟨by rw[List.length_reverse,fl,hyl],by omega⟩ (by rw[List.reverse_reverse,fl];exact k1)
    rw[fl] at this
    exact ⟨_,rfl,_,rfl,_,rfl,_,rfl,this⟩
   ·rw[if_neg h6] at k ho
    rw[if_neg (by omega),ho] at k
    refine ⟨_,rfl,_,rfl,_,rfl,H0,R,p, .au,o, [],l,rfl,s0,hI,hp,hS,hP,(by show 0+o≤_;omega),k.seq fun ys l1 H1 ey s1 st1 k1 hP1=>?_⟩
    have hyl:=fU ey
    have hyl:ys.length=o:=by rw[hyl];show 0+o=o;omega
    refine ⟨_,rfl,ag _ _ ⟨rfl,rfl,_,rfl,?_⟩⟩
    rw[decide_eq_false (show¬((kind:Nat):Int)<7 by omega)]
    obtain ⟨px,hx⟩:=st1.obj
    obtain ⟨sh,hIh⟩:=hI.aB s1
    refine bB (aO rfl hx rfl ⟨Wg.aB [R.r] H1,bG R 4 l1 ⟨rfl,bQ _ _,hIh,st1,by decide,k1.cT sh fun hh l2 H2 _ s2 st2 k2=>?_⟩⟩)
    have hP2:=gs st1 hP1 s2
    have s02:=sh.trans s2
    refine ⟨_,rfl,((o:Nat):Int),rfl,by omega,by omega,fun D hD=>?_⟩
    rw[Int.toNat_natCast]
    have hD0:H0 D=none:=s02.none hD
    refine zc o (by rw[sizeLine_eq];omega) (fun i acc H'=> ∃(as:List Int) (l':Sound.Bits),acc=as.reverse.map V.int∧ae (Wg.aB [R.r] H2) H'∧bg A.aQ H' R l'∧as.length=i∧Bd 2048 as∧bE A H0 R ((Sound.takeMany (fun (_:List Int) (l:Sound.Bits)=>Sound.takeS 12 l) (o-i) as l').then_ fun (a:List Int) (l:Sound.Bits)=>eG p.wd p.z p.n p.may o a.reverse hh ys l) (fun acc H'=>(∃g,bI A H' p g acc.reverse)→Q .au H') E) ?_ ?_ ?_ ?_ ?_
    ·refine ⟨[],l2,rfl,fun b u e=>?_,?_,rfl,(fun x hx=>by cases hx),k2⟩
     ·have:=bQ _ _ b u e
      rw[aG (cw this hD)];exact this
     ·obtain ⟨i,ei,hi,hxr⟩:=st2
      exact ⟨i,ei,hi,by rw[aG (cw hxr hD)];exact hxr⟩
    ·exact fun i acc H' hi _=>hi
    ·exact fun acc H' _=>Nat.le_refl _
    ·rintro i acc H3 x H3' hi ⟨as,l3,rfl,s3,st3,hl3,hb3,k3⟩ hDx hal ⟨hH3,rfl⟩ C hC
     rw[hH3]
     obtain ⟨px3,hx3⟩:=st3.obj
     rw[show o-i=(o-(i+1))+1 by omega,kM,then_assoc] at k3
     obtain ⟨sh2,_⟩:=hI.aB s02
     obtain ⟨sh3,hIh3⟩:=hI.aB (sh2.trans s3)
     refine ⟨rfl,aO rfl hx3 rfl ⟨Wg.aB [R.r] H3,bG R 12 l3 ⟨rfl,bQ _ _,hIh3,st3,by decide,k3.cT sh3 fun y l4 H4 ey4 s4 st4 k4=>?_⟩⟩⟩
     have nDr:D≠R.r:=fun z=>by rw[z,hx3] at hDx;cases hDx
     refine hC _ H4 (s4 _ _ (by rw[cR (by simpa using nDr)];exact hDx)) ⟨y::as,l4,by simp,?_,?_,by rw[List.length_cons,hl3],?_,k4⟩
     ·intro b u e
      have e3:=s3 b u e
      by_cases hb:b=D
      ·subst hb
       have:=bQ _ _ _ u e
       rw[hD] at this;cases this
      ·rw[aG hb]
       refine s4 _ _ ?_
       rw[cR (fun z=>by
        rw[List.mem_singleton.mp z,gw (by simp)] at e;cases e)]
       exact e3
     ·obtain ⟨j,ej,hj,hxr⟩:=st4
      exact ⟨j,ej,hj,by rw[aG (Ne.symm nDr)];exact hxr⟩
     ·intro z hz
      rcases List.mem_cons.mp hz with rfl|hz
      ·exact Nq ey4
      ·exact hb3 z hz
    ·rintro acc H3 ⟨as,l3,rfl,s3,st3,hl3,hb3,k3⟩ hDx hal
     rw[Nat.sub_self] at k3
     have k3:bE A H0 R (eG p.wd p.z p.n p.may o as.reverse hh ys l3) (fun acc H'=>(∃g,bI A H' p g acc.reverse)→Q .au H') E:=k3
     obtain ⟨sh2,_⟩:=hI.aB s02
     have s03:=sh2.trans s3
     have hP3:=gs st2 hP2 s3
     refine ⟨_,rfl,fun ga dga hga hdga hne=>(aC ga dga _ _ ⟨rfl,ak,rfl,?_⟩)⟩
     rw[iv]
     have s4:ae H3 (upd (upd H3 dga (.own ga)) ga (.ins A.cx dga (gf (.ref D) (.int (hh:Nat))))):=eK hga hdga
     have hG4:upd (upd H3 dga (.own ga)) ga (.ins A.cx dga (gf (.ref D) (.int (hh:Nat)))) ga=some (.ins A.cx dga (gf (.ref D) (.int (hh:Nat)))):=ak
     have hD4:=s4 _ _ hDx
     generalize upd (upd H3 dga (.own ga)) ga (.ins A.cx dga (gf (.ref D) (.int (hh:Nat))))=H4 at*
     have hx4:=s4 _ _ hP3.1
     refine ⟨_,rfl,p.x,A.bK,p.dx,_,rfl,hx4,T.cf,T.uc,(by show 5<1000;decide),?_⟩
     rw[x9]
     have htx:=hP3.ne
     have n1:=nJ st3 hP3
     obtain ⟨jr,ejr,hjr,hxr⟩:=id st3
     have gx:ga≠p.x:=fun z=>by rw[z,hP3.1] at hga;cases hga
     have gt:ga≠p.t:=fun z=>by rw[z,hP3.2.1] at hga;cases hga
     have gr:ga≠R.r:=fun z=>by rw[z,hxr] at hga;cases hga
     have Dx:D≠p.x:=fun z=>by rw[z,hP3.1] at hDx;cases hDx
     have Dr:D≠R.r:=fun z=>by rw[z,hxr] at hDx;cases hDx
     have Dt:D≠p.t:=fun z=>by
      have:=hP2.2.1
      rw[←z,hD] at this;cases this
     have hP5:bI A (upd H4 p.x (.ins A.bK p.dx (fG (.int p.wd) (.int p.z) p.pn (.ref ga) (.ref p.t)))) p (.ref ga) ys.reverse:=⟨ak,by rw[aG htx];exact s4 _ _ hP3.2.1,hP3.2.2⟩
     have s5:ae H0 (upd H4 p.x (.ins A.bK p.dx (fG (.int p.wd) (.int p.z) p.pn (.ref ga) (.ref p.t)))):=fK (s03.trans s4) hp.1.1
     have st5:bg A.aQ (upd H4 p.x (.ins A.bK p.dx (fG (.int p.wd) (.int p.z) p.pn (.ref ga) (.ref p.t)))) R l3:=⟨jr,ejr,hjr,by rw[aG (fun z=>n1 (by rw[z];simp))];exact s4 _ _ hxr⟩
     have hG5:gy K A.cx (Wg.aB [R.r,p.x,p.t] (upd H4 p.x (.ins A.bK p.dx (fG (.int p.wd) (.int p.z) p.pn (.ref ga) (.ref p.t))))) ga as.reverse hh:=by
      refine ⟨dga,D,?_,ah.of ?_⟩
      ·rw[cR (by simp [gr,gx,gt]),aG gx];exact hG4
      ·rw[cR (by simp [Dr,Dx,Dt]),aG Dx];exact hD4
     have hal2:as.reverse.length=o:=by rw[List.length_reverse,hl3]
     have:=De (Qn:=fun H'=>Q .au H') hI hp s5 st5 hP5 hG5 (fun z hz=>hb3 z (List.mem_reverse.mp hz)) ⟨by rw[List.length_reverse,hal2,hyl],by omega⟩ (by rw[List.reverse_reverse,hal2];exact k3)
     rw[hal2] at this
     exact ⟨_,rfl,_,rfl,_,rfl,_,rfl,this⟩
def sy (w:Nat) (l:Sound.Bits):Sound.Got Nat:=(Sound.takeU 1 l).then_ fun (fl:Nat) (l:Sound.Bits)=>if fl=0 then Sound.Got.ok 0 l else (Sound.takeRun (w-1) 0 l).then_ fun (q:Nat) (l:Sound.Bits)=> .ok (q+1) l
def kindS (x n:Nat) (may:Nat→Int→Bool) (z kind:Nat) (l:Sound.Bits):Sound.Got (List Int):=
 if kind=0 then (Sound.takeS x l).then_ fun (y:Int) (l:Sound.Bits)=>if ((List.range n).all fun (i:Nat)=>may i (y*2^z))=true then .ok (List.replicate n y) l else .bad
 else if kind=1 then Sound.takeMany (gC x z may) n [] l else if 10<kind then .bad else ij x z n may kind l
theorem xT (w n:Nat) (may:Nat→Int→Bool) (l:Sound.Bits):Sound.takePart w n may l=(sy w l).then_ fun (z:Nat) (l:Sound.Bits)=>(Sound.takeU 4 l).then_ fun (kind:Nat) (l:Sound.Bits)=>(kindS (w-z) n may z kind l).then_ fun (ys:List Int) (l:Sound.Bits)=> .ok (ys.reverse.map fun (y:Int)=>y*2^z) l:=by
 unfold Sound.takePart sy
 rw[then_assoc]
 congr 1
 funext fl l
 congr 1
 funext z l
 congr 1
 funext kind l
 unfold kindS
 by_cases h0:kind=0
 ·rw[if_pos h0,if_pos h0]
 ·rw[if_neg h0,if_neg h0]
  by_cases h1:kind=1
  ·rw[if_pos h1,if_pos h1];rfl
  ·rw[if_neg h1,if_neg h1]
   by_cases h6:kind≤6
   ·rw[if_pos h6,if_neg (show¬10<kind by omega)]
    unfold ij
    rw[if_pos h6]
    by_cases hn:n<kind-2
    ·rw[if_pos hn,if_pos hn];rfl
    ·rw[if_neg hn,if_neg hn];rfl
   ·rw[if_neg h6]
    by_cases h10:10<kind
    ·rw[if_pos (.inl h10),if_pos h10];rfl
    ·rw[if_neg h10]
     unfold ij
     rw[if_neg h6]
     by_cases hn:n<kind-6
     ·rw[if_pos (.inr hn),if_pos hn];rfl
     ·rw[if_neg (fun z=>z.elim h10 hn),if_neg hn];rfl
theorem BZ {m:Nat}: ∀{l:Sound.Bits} {q x:Nat} {r:Sound.Bits},Sound.takeRun m q l= .ok x r→q<m→x<m
 | [],q,x,r,h,hq=>by unfold Sound.takeRun at h;cases h
 |true::l,q,x,r,h,hq=>by unfold Sound.takeRun at h;cases h;exact hq
 |false::l,q,x,r,h,hq=>by
  have e:Sound.takeRun m q (false::l)=if m≤q+1 then .bad else Sound.takeRun m (q+1) l:=rfl
  rw[e] at h
  split at h
  ·cases h
  ·exact BZ h (by omega)
theorem GQ {w:Nat} {l:Sound.Bits} {z:Nat} {r:Sound.Bits} (h:sy w l= .ok z r) (hw:2≤w):z<w:=by
 unfold sy at h
 cases e1:Sound.takeU 1 l with
 |ok fl l1=>
  rw[e1] at h
  have h:(if fl=0 then Sound.Got.ok 0 l1 else (Sound.takeRun (w-1) 0 l1).then_ fun (q:Nat) (l:Sound.Bits)=> .ok (q+1) l)= .ok z r:=h
  split at h
  ·cases h;omega
  ·cases e2:Sound.takeRun (w-1) 0 l1 with
   |ok q l2=>
    rw[e2] at h
    cases h
    have:=BZ e2 (by omega)
    omega
   |bad=>rw[e2] at h;cases h
   |short=>rw[e2] at h;cases h
 |bad=>rw[e1] at h;cases h
 |short=>rw[e1] at h;cases h
theorem Ce {w z n p r:Nat} {a:List Int} {h:Nat} {may:Nat→Int→Bool}: ∀{k i:Nat} {ys xs:List Int} {l l':Sound.Bits},Sound.takeGroups w z n p r a h may k i ys l= .ok xs l'→xs.length≤ys.length+k*n
 |0,i,ys,xs,l,l',e=>by unfold Sound.takeGroups at e;cases e;omega
 |k+1,i,ys,xs,l,l',e=>by
  rw[qR] at e
  cases e1:gM w z may a h (n/2^r-(if i=0 then p else 0)) ys l with
  |ok ys1 l1=>
   rw[e1] at e
   have h1:=sQ e1
   have h2:=Ce (show Sound.takeGroups w z n p r a h may k (i+1) ys1 l1= .ok xs l' from e)
   have h3:n/2^r≤n:=Nat.div_le_self _ _
   rw[Nat.add_mul,Nat.one_mul]
   omega
  |bad=>rw[e1] at e;cases e
  |short=>rw[e1] at e;cases e
theorem CA {w z n:Nat} {may:Nat→Int→Bool} {p:Nat} {a:List Int} {h:Nat} {ys xs:List Int} {l l':Sound.Bits} (e:eG w z n may p a h ys l= .ok xs l'):xs.length≤ys.length+64*n:=by
 unfold eG at e
 cases e1:Sound.takeU 3 l with
 |ok r l1=>
  rw[e1] at e
  have e:(if 6<r∨Sound.mayCut n p r=false then (.bad:Sound.Got (List Int)) else Sound.takeGroups w z n p r a h may (2^r) 0 ys l1)= .ok xs l':=e
  split at e
  ·cases e
  ·rename_i hr
   have h1:=Ce e
   have h2:2^r≤64:=Nat.le_trans (Nat.pow_le_pow_right (by decide) (show r≤6 from Nat.le_of_not_lt fun z=>hr (.inl z))) (by decide)
   have h3:=Nat.mul_le_mul_right n h2
   omega
 |bad=>rw[e1] at e;cases e
 |short=>rw[e1] at e;cases e
theorem OZ {x z n:Nat} {may:Nat→Int→Bool} {kind:Nat} {l l':Sound.Bits} {xs:List Int} (e:ij x z n may kind l= .ok xs l') (hn:n≤256):xs.length≤100000:=by
 have go: ∀{o:Nat} {f:List Int→Sound.Bits→Sound.Got (List Int)},(∀ys l,f ys l= .ok xs l'→xs.length≤ys.length+64*n)→o≤n→(Sound.takeMany (gC x z may) o [] l).then_ f= .ok xs l'→xs.length≤100000:=fun {o f} hf ho e=>by
  cases e1:Sound.takeMany (gC x z may) o [] l with
  |ok ys l1=>
   rw[e1] at e
   have h1:=fU e1
   have h2:=hf ys l1 e
   have h1:ys.length=0+o:=h1
   omega
  |bad=>rw[e1] at e;cases e
  |short=>rw[e1] at e;cases e
 unfold ij at e
 split at e
 ·split at e
  ·cases e
  ·rename_i h
   exact go (fun ys l h=>CA h) (by omega) e
 ·split at e
  ·cases e
  ·rename_i h
   refine go (fun ys l h=>?_) (by omega) e
   cases e1:Sound.takeU 4 l with
   |ok hh l1=>
    rw[e1] at h
    have h:((Sound.takeMany (fun (_:List Int) (l:Sound.Bits)=>Sound.takeS 12 l) (kind-6) [] l1).then_ fun (a:List Int) (l:Sound.Bits)=>eG x z n may (kind-6) a.reverse hh ys l)= .ok xs l':=h
    cases e2:Sound.takeMany (fun (_:List Int) (l:Sound.Bits)=>Sound.takeS 12 l) (kind-6) [] l1 with
    |ok a l2=>
     rw[e2] at h
     exact CA h
    |bad=>rw[e2] at h;cases h
    |short=>rw[e2] at h;cases h
   |bad=>rw[e1] at h;cases h
   |short=>rw[e1] at h;cases h
def OS (K:PySem.W.Frag) (A:aT):Sp:=fun vs H Q E=> ∃(H0:Hp) (R:bF) (wd n:Nat) (pn:V) (may:Nat→Int→Bool) (l:Sound.Bits),vs= [.ref R.r, .int n, .int wd,pn]∧ae H0 H∧cE K H0 R∧ja K A H0 pn n may∧bg A.aQ H R l∧(2≤wd∧wd≤25∧n≤256)∧
 bE A H0 R (Sound.takePart wd n may l) (fun ys H'=> ∀D,H0 D=none→H' D=some (.lst (ys.map V.int))→Q (.ref D) H') E
theorem jR:aK ["reader", "n", "width", "partner", "part", "kind", "number", "place"] ["reader", "n", "width", "partner"] (aD yP):=⟨rfl,rfl,rfl,by decide+kernel,rfl,by decide+kernel,by decide+kernel⟩
theorem As {n:Nat} {f:Nat→Bool}:((List.range n).all f)=true↔ ∀i,i<n→f i=true:=by
 rw[List.all_eq_true]
 exact ⟨fun h i hi=>h i (List.mem_range.mpr hi),fun h i hi=>h i (List.mem_range.mp hi)⟩
theorem xt (T:Txt K mg A):az P w K mg base (aR P w) 9 A.nH A.lM ["reader", "n", "width", "partner"] (OS K A):=by
 refine T.tO.bN jR (fun vs H Q E h=>?_) (fun cdv Ar outer s H vs Q E hr h=>?_)
 ·obtain ⟨H0,R,wd,n,pn,may,l,rfl,_⟩:=h
  rfl
 ·obtain ⟨H0,R,wd,n,pn,may,l,rfl,s0,hI,hM,hS,⟨hw1,hw2,hn⟩,k⟩:=h
  have hr1':aF 1 _:=hr.mono (by decide)
  have hr2':aF 2 _:=hr.mono (by decide)
  have hr3':aF 3 _:=hr.mono (by decide)
  have hr4':aF 4 _:=hr.mono (by decide)
  refine ⟨_,ai (aI (i:=4) jR.nd rfl (Or.inr rfl) (fY T.Pw (Q3 T) hr2' rfl T.Jg T.Nt .nil aU (aa (pv 2) (aa (aS (GD T) hr3' rfl T.RG T.yM.kp T.Gv .nil aN (aa (pv 0) (aa (pv 2) af))) (aa (pv 3) af)))))
   (ai (aI (i:=5) jR.nd rfl (Or.inl rfl) (aP (pv 0) T.bP T.dZ (d6 T) hr1' T.dU .nil aN (aa aq af)))
   (ai (bp (bq d4 (pv 5) (aV rfl T.Ql) (aX _)) (aj (fg rfl rfl T.eX T.d8.exc fq)) bu)
   (ai (bp (bq dA (pv 5) (aV rfl T.QC) (aX _))
    (ai (aI (i:=6) jR.nd rfl (Or.inl rfl) (aP (pv 0) T.bP T.qP (tw T) hr2' T.rX .nil aN (aa (ax (pv 4) rfl) af)))
    (aj (cj PassesOwn.leaving rfl (fk rfl T.dQ (aa (pv 1) af)) (bo (i:=7) jR.nd rfl (Or.inl rfl)) (aj (a8 (aP (pv 4) T.cf T.wR (xq T) hr3' T.uj .nil aN (aa (pv 6) af)))))))
    (aj (bp (bq dA (pv 5) (aV rfl T.RC) (aX _)) (aj (a8 (aS (zC T) hr4' rfl T.yF T.uA.kp T.yG .nil aN (aa (pv 0) (aa (pv 1) (aa (pv 4) af))))))
     (aj (a8 (aS (MD T) hr rfl T.IL T.xR.kp T.PU .nil aN (aa (pv 0) (aa (pv 1) (aa (pv 5) (aa (pv 4) af))))))))))
   (aj (aW (fh (own:= [("number",6)]) rfl jR.nd (dj (ax (pv 4) rfl)) (dM (by kernel_rfl)) (fun _ _ _ _ _=>bo (i:=6) jR.nd rfl (Or.inl rfl)) (fun _ _ _ _ _=>dJ) (fun _ _ _ _ _=>aw jE (pv 6) (vD (K:=K) rfl (pv 4) rfl)))))))),?_⟩
  have e62:(2:Int)^62=4611686018427387904:=by decide
  rw[xT] at k
  refine ⟨_,rfl,_,rfl,_,rfl,aC H0 R wd l ⟨rfl,s0,hI,hS,hw1,k.seq fun z l1 H1 ez s1 st1 k1=>⟨_,rfl,fun x dx hx hdx hne=>?_⟩⟩⟩
  have hzw:=GQ ez hw1
  refine (tF x dx _ _ _ ⟨rfl,ak,fun t H2 ht hk hx2 ht2=>⟨rfl,?_⟩⟩)
  have sm:=eK (o:= .own x) (u:= .ins A.bK dx []) hx hdx
  have s12:ae H1 H2:=fun b o e=>hk b o (sm b o e) (cw e hx)
  have s2:=s1.trans s12
  have ht1:H1 t=none:=sm.none ht
  rw[show ((wd:Nat):Int)-((z:Nat):Int)=((wd-z:Nat):Int) by omega] at hx2
  obtain ⟨p,hpx,hpd,hpt,hpw,hpz,hpn,hpp,hpm⟩: ∃p:dt,p.x=x∧p.dx=dx∧p.t=t∧p.wd=wd-z∧p.z=z∧p.n=n∧p.pn=pn∧p.may=may:=⟨⟨x,dx,t,wd-z,z,n,pn,may⟩,rfl,rfl,rfl,rfl,rfl,rfl,rfl,rfl⟩
  have hP2:bI A H2 p .au []:=⟨by rw[hpx,hpd,hpw,hpz,hpp,hpt];exact hx2,by rw[hpt];exact ht2,fun y hy=>by cases hy⟩
  have hp:fi K A H0 p:=⟨⟨by rw[hpx];exact s1.none hx,by rw[hpt];exact s1.none ht1⟩,by rw[hpp,hpn,hpm];exact hM,by omega⟩
  have st2:bg A.aQ H2 R l1:=by
   obtain ⟨i,ei,hi,hxr⟩:=st1
   exact ⟨i,ei,hi,s12 _ _ hxr⟩
  clear hx2 ht2 hk sm
  subst hpx hpd hpt hpz hpn hpp hpm
  rw[←hpw] at k1
  obtain ⟨px,hxr⟩:=st2.obj
  obtain ⟨sh,hIh⟩:=hI.aB s2
  refine (aO rfl hxr rfl ⟨Wg.aB [R.r] H2,bG R 4 l1 ⟨rfl,bQ _ _,hIh,st2,by decide,k1.cT sh fun kind l2 H3 _ s3 st3 k3=>?_⟩⟩)
  have hP3:=gs st2 hP2 s3
  have s03:=sh.trans s3
  have fin: ∀(v6 v7:Option V) (H':Hp) (acc:List Int) (g:V) (l':Sound.Bits),ae H0 H'→bg A.aQ H' R l'→bI A H' p g acc.reverse→acc.length≤100000→bE A H0 R (.ok (acc.reverse.map fun (y:Int)=>y*2^p.z) l':Sound.Got (List Int)) (fun ys H'=> ∀D,H0 D=none→H' D=some (.lst (ys.map V.int))→Q (.ref D) H') E→
    zS (gY (ui K (l8 K (gh 4) "taken")) (jX 6) oo (gW (rI uH fun i j=> .int (i*2^j.toNat)) (gh 6) (l8 K (gh 4) "z")) [6]) {nx:=fun x H'=>Q V.au H',rt:=Q} [some (.ref R.r),some (.int (p.n:Nat)),some (.int (wd:Nat)),some p.pn,some (.ref p.x),some (.int (kind:Nat)),v6,v7] H':=fun v6 v7 H' acc g l' sF stF hPF hal kF=>by
   refine (aA rfl hPF.1 T.cf T.kx rfl ⟨p.t,rfl,⟨_,ah.of hPF.2.1⟩,fun D hD=>?_⟩)
   refine fc (J:=d9 K p.t) hD acc.reverse.length (by rw[List.length_reverse,sizeLine_eq];omega) (fun i=> .int (acc.reverse.getD i 0*2^p.z)) (fun i Hh hi t1=>⟨_,_,t1.seq (ah.of hPF.2.1),kT hi⟩) (fun Hh t1=>⟨_,t1.seq (ah.of hPF.2.1),by rw[List.length_map];exact Nat.le_refl _⟩) ?_ ?_
   ·rintro i Hh y H5 hi t1 ⟨rfl,hy⟩ C hC
    obtain ⟨rfl,_⟩:=tV (hy _ (t1.seq (ah.of hPF.2.1)))
    have hyf:=hPF.2.2 (acc.reverse.getD i 0) (by rw[List.getD_eq_getElem?_getD,List.getElem?_eq_getElem hi];exact List.getElem_mem hi)
    have hpb:=hp.2.2
    exact ⟨rfl,_,rfl,aA rfl (t1 _ _ hPF.1) T.cf T.wU rfl (ag _ _ ⟨rfl,rfl,⟨by omega,by omega,yf hyf hpb.2.1⟩,hC _ (ae.refl _)⟩)⟩
   ·intro H5 s5 hx5
    have st5:bg A.aQ H5 R l':=by
     obtain ⟨i,ei,hi,hxr⟩:=stF
     exact ⟨i,ei,hi,s5 _ _ hxr⟩
    refine kF H5 (sF.trans s5) st5 D (sF.none hD) (hx5.trans ?_)
    congr 2
    rw[List.map_map]
    refine List.ext_getElem (by simp) fun i h1 h2=>?_
    simp at h2
    simp [List.getD_eq_getElem?_getD,List.getElem?_eq_getElem (show i<acc.reverse.length by rw[List.length_reverse];exact h2)]
  refine ⟨_,rfl,ag _ _ ⟨rfl,rfl,_,rfl,?_⟩⟩
  unfold kindS at k3
  have hpb:=hp.2.2
  refine bZ (fun hc=>?_) fun hc10=>?_
  ·have hc:(10:Int)<((kind:Nat):Int):=of_decide_eq_true hc
   rw[if_neg (by omega),if_neg (by omega),if_pos (by omega)] at k3
   exact k3 H3 s03
  ·have hc10: ¬(10:Int)<((kind:Nat):Int):=fun z=>hc10 (decide_eq_true z)
   refine ⟨_,rfl,rfl,_,rfl,?_⟩
   have e0:=i8 kind 0
   refine bZ (fun hc0=>?_) fun hc0=>?_
   ·have hc0:kind=0:=of_decide_eq_true (e0.symm.trans hc0)
    rw[if_pos hc0,then_assoc] at k3
    obtain ⟨px3,hx3⟩:=st3.obj
    obtain ⟨sh3,hIh3⟩:=hI.aB s03
    refine (aO rfl hx3 rfl (aA rfl hP3.1 T.cf T.rB rfl ⟨Wg.aB [R.r] H3,R,p.wd,l2,rfl,bQ _ _,hIh3,st3,by omega,k3.cT sh3 fun y l4 H4 ey s4 st4 k4=>?_⟩))
    have hP4:=gs st3 hP3 s4
    have s04:=sh3.trans s4
    have hfy:=Cz ey hpb.1
    refine ⟨_,rfl,((p.n:Nat):Int),rfl,by omega,by omega,?_⟩
    rw[Int.toNat_natCast]
    refine fE (lo:=0) (n:=p.n) (fun i σ H'=>(ae H0 H'∧bg A.aQ H' R l4∧bI A H' p .au (List.replicate i y)∧ ∀j,j<i→p.may j (y*2^p.z)=true)∧ ∃v7:Option V,σ= [some (.ref R.r),some (.int (p.n:Nat)),some (.int (wd:Nat)),some p.pn,some (.ref p.x),some (.int (kind:Nat)),some (.int y),v7]) ⟨⟨s04,st4,hP4,fun j hj=>by omega⟩,none,rfl⟩ ?_ ?_
    ·rintro i σ H5 hi ⟨⟨s5,st5,hP5,hall⟩,v7,rfl⟩
     obtain ⟨s6,hp6⟩:=hp.aB s5
     refine (aO rfl hP5.1 rfl ⟨_,rfl,Wg.aB [p.x,p.t] H5,p.x,p.dx,p.t,p.wd,p.z,p.n,p.pn, .au,List.replicate i y,p.may,y,rfl,bQ _ _,hp6.1,hP5,hp6.2.1,⟨hpb.1,hpb.2.1,hpb.2.2.1,by rw[List.length_replicate];exact hi,hpb.2.2.2⟩,?_⟩)
     rw[hfy,Bool.true_and,List.length_replicate]
     by_cases hm:p.may i (y*2^p.z)=true
     ·rw[if_pos hm]
      refine fun H6 s7 hP6=>⟨⟨s6.trans s7,st5.aB hP5 s7,?_,fun j hj=>?_⟩,some (.int (0+(i:Nat))),rfl⟩
      ·rw[List.replicate_succ'];exact hP6
      ·rcases (by omega:j<i∨j=i) with q|rfl
       ·exact hall j q
       ·exact hm
     ·rw[if_neg hm]
      rw[if_neg (fun z=>hm (As.mp z i hi))] at k4
      exact fun H6 s7=>k4 H6 (s6.trans s7)
    ·rintro σ H5 ⟨⟨s5,st5,hP5,hall⟩,v7,rfl⟩
     rw[if_pos (As.mpr hall)] at k4
     exact fin _ _ H5 (List.replicate p.n y) .au l4 s5 st5 (by rw[List.reverse_replicate];exact hP5) (by rw[List.length_replicate];omega) k4
   ·have n0: ¬kind=0:=fun z=>hc0 (e0.trans (decide_eq_true z))
    rw[if_neg n0] at k3
    refine ⟨_,rfl,rfl,_,rfl,?_⟩
    have e1:=i8 kind 1
    refine bZ (fun hc1=>?_) fun hc1=>?_
    ·have hc1:kind=1:=of_decide_eq_true (e1.symm.trans hc1)
     rw[if_pos hc1] at k3
     refine ⟨_,rfl,_,rfl,_,rfl,H0,R,p, .au,p.n, [],l2,rfl,s03,hI,hp,st3,hP3,(by show 0+p.n≤_;omega),k3.seq fun ys l4 H4 ey s4 st4 k4 hP4=>?_⟩
     have hyl:=fU ey
     exact fin _ _ H4 ys .au l4 s4 st4 hP4 (by rw[hyl];show 0+p.n≤_;omega) k4
    ·have n1: ¬kind=1:=fun z=>hc1 (e1.trans (decide_eq_true z))
     rw[if_neg n1,if_neg (by omega)] at k3
     refine ⟨_,rfl,_,rfl,_,rfl,_,rfl,H0,R,p,kind,l2,rfl,s03,hI,hp,st3,hP3,⟨by omega,by omega⟩,k3.seq fun ys l4 H4 ey s4 st4 k4 ⟨g,hP4⟩=>?_⟩
     exact fin _ _ H4 ys g l4 s4 st4 hP4 (OZ ey hn) k4
theorem Ai {w z n p r:Nat} {a:List Int} {h:Nat} {may:Nat→Int→Bool}: ∀{k i:Nat} {ys xs:List Int} {l l':Sound.Bits},Sound.takeGroups w z n p r a h may k (i+1) ys l= .ok xs l'→xs.length=ys.length+k*(n/2^r)
 |0,i,ys,xs,l,l',e=>by unfold Sound.takeGroups at e;cases e;omega
 |k+1,i,ys,xs,l,l',e=>by
  rw[qR,if_neg (by omega),Nat.sub_zero] at e
  cases e1:gM w z may a h (n/2^r) ys l with
  |ok ys1 l1=>
   rw[e1] at e
   have h1:=sQ e1
   have h2:=Ai (show Sound.takeGroups w z n p r a h may k (i+1+1) ys1 l1= .ok xs l' from e)
   rw[Nat.add_mul,Nat.one_mul]
   omega
  |bad=>rw[e1] at e;cases e
  |short=>rw[e1] at e;cases e
theorem y9 {w z n:Nat} {may:Nat→Int→Bool} {p:Nat} {a:List Int} {h:Nat} {ys xs:List Int} {l l':Sound.Bits} (e:eG w z n may p a h ys l= .ok xs l') (hy:ys.length=p):xs.length=n:=by
 unfold eG at e
 cases e1:Sound.takeU 3 l with
 |ok r l1=>
  rw[e1] at e
  have e:(if 6<r∨Sound.mayCut n p r=false then (.bad:Sound.Got (List Int)) else Sound.takeGroups w z n p r a h may (2^r) 0 ys l1)= .ok xs l':=e
  split at e
  ·cases e
  ·rename_i hr
   have hmc:n%2^r=0∧p≤n/2^r:=by
    have:Sound.mayCut n p r=true:=by
     cases q:Sound.mayCut n p r with
     |true=>rfl
     |false=>exact absurd (.inr q) hr
    unfold Sound.mayCut at this
    rw[Bool.and_eq_true,beq_iff_eq,decide_eq_true_eq] at this
    exact this
   have hdiv:n/2^r*2^r=n:=Nat.div_mul_cancel (Nat.dvd_of_mod_eq_zero hmc.1)
   have h2p:0<2^r:=Nat.two_pow_pos r
   obtain ⟨m,hm⟩: ∃m,2^r=m+1:=⟨2^r-1,by omega⟩
   rw[hm,qR,if_pos rfl] at e
   cases e2:gM w z may a h (n/2^r-p) ys l1 with
   |ok ys1 l2=>
    rw[e2] at e
    have h1:=sQ e2
    have h2:=Ai (show Sound.takeGroups w z n p r a h may m (0+1) ys1 l2= .ok xs l' from e)
    have hdiv2:(m+1)*(n/2^r)=n:=by rw[←hm,Nat.mul_comm];exact hdiv
    rw[Nat.add_mul,Nat.one_mul] at hdiv2
    have hp:=hmc.2
    generalize n/2^r=sz at*
    omega
   |bad=>rw[e2] at e;cases e
   |short=>rw[e2] at e;cases e
 |bad=>rw[e1] at e;cases e
 |short=>rw[e1] at e;cases e
theorem OV {x z n:Nat} {may:Nat→Int→Bool} {kind:Nat} {l l':Sound.Bits} {xs:List Int} (e:ij x z n may kind l= .ok xs l'):xs.length=n:=by
 have go: ∀{o:Nat} {f:List Int→Sound.Bits→Sound.Got (List Int)},(∀ys l,ys.length=o→f ys l= .ok xs l'→xs.length=n)→(Sound.takeMany (gC x z may) o [] l).then_ f= .ok xs l'→xs.length=n:=fun {o f} hf e=>by
  cases e1:Sound.takeMany (gC x z may) o [] l with
  |ok ys l1=>
   rw[e1] at e
   have h1:=fU e1
   exact hf ys l1 (by rw[h1];show 0+o=o;omega) e
  |bad=>rw[e1] at e;cases e
  |short=>rw[e1] at e;cases e
 unfold ij at e
 split at e
 ·split at e
  ·cases e
  ·exact go (fun ys l hy h=>y9 h hy) e
 ·split at e
  ·cases e
  ·refine go (fun ys l hy h=>?_) e
   cases e1:Sound.takeU 4 l with
   |ok hh l1=>
    rw[e1] at h
    have h:((Sound.takeMany (fun (_:List Int) (l:Sound.Bits)=>Sound.takeS 12 l) (kind-6) [] l1).then_ fun (a:List Int) (l:Sound.Bits)=>eG x z n may (kind-6) a.reverse hh ys l)= .ok xs l':=h
    cases e2:Sound.takeMany (fun (_:List Int) (l:Sound.Bits)=>Sound.takeS 12 l) (kind-6) [] l1 with
    |ok a l2=>
     rw[e2] at h
     exact y9 h hy
    |bad=>rw[e2] at h;cases h
    |short=>rw[e2] at h;cases h
   |bad=>rw[e1] at h;cases h
   |short=>rw[e1] at h;cases h
theorem b7 {α β:Type} {g:Sound.Got α} {f:α→Sound.Bits→Sound.Got β} {y:β} {r:Sound.Bits} (h:g.then_ f= .ok y r): ∃x l,g= .ok x l∧f x l= .ok y r:=by
 cases g with
 |ok x l=>exact (ag x l ⟨rfl,h⟩)
 |bad=>cases h
 |short=>cases h
theorem mm {w n:Nat} {may:Nat→Int→Bool} {l l':Sound.Bits} {ys:List Int} (e:Sound.takePart w n may l= .ok ys l'):ys.length=n:=by
 rw[xT] at e
 obtain ⟨z,l1,_,e⟩:=b7 e
 obtain ⟨kind,l2,_,e⟩:=b7 e
 obtain ⟨xs,l3,e3,e⟩:=b7 e
 cases e
 rw[List.length_map,List.length_reverse]
 unfold kindS at e3
 split at e3
 ·obtain ⟨y,l4,_,e4⟩:=b7 e3
  split at e4
  ·cases e4;rw[List.length_replicate]
  ·cases e4
 ·split at e3
  ·have:=fU e3
   rw[this];show 0+n=n;omega
  ·split at e3
   ·cases e3
   ·exact OV e3
def lp (d n m:Nat) (l:Sound.Bits):Sound.Got (List (Int×Int)):=(Sound.takePart (jU m d) n (fun _ _=>true) l).then_ fun (a:List Int) (l:Sound.Bits)=>(Sound.takePart (jZ m d) n (kf m d a) l).then_ fun (b:List Int) (l:Sound.Bits)=> .ok (List.zipWith (Sound.unpair m) a b) l
def Nl (K:PySem.W.Frag) (A:aT):Sp:=fun vs H Q E=> ∃(H0:Hp) (R:bF) (d n m:Nat) (l:Sound.Bits),vs= [.int d, .int n, .int m, .ref R.r]∧ae H0 H∧cE K H0 R∧bg A.aQ H R l∧(4≤d∧d≤24∧m<4∧n≤256)∧
 bE A H0 R (lp d n m l) (fun ps H'=> ∀D a b,(H0 D=none∧H0 a=none∧H0 b=none)→H' D=some (.lst [.ref a, .ref b])→H' a=some (.lst ((ps.map fun x=>x.1).map V.int))→H' b=some (.lst ((ps.map fun x=>x.2).map V.int))→Q (.ref D) H') E
theorem fS:aK ["depth", "n", "mode", "reader", "first", "partner", "second", "pairs", "x", "y", "pair"] ["depth", "n", "mode", "reader"] (aD zr):=⟨rfl,rfl,rfl,by decide+kernel,rfl,by decide+kernel,by decide+kernel⟩
theorem bg.same {H H':Hp} {R:bF} {l:Sound.Bits} (h:bg A.aQ H R l) (s:ae H H'):bg A.aQ H' R l:=by
 obtain ⟨i,ei,hi,hxr⟩:=h
 exact ⟨i,ei,hi,s _ _ hxr⟩
theorem Jt (T:Txt K mg A):az P w K mg base (aR P w) 10 A.mU A.pf ["depth", "n", "mode", "reader"] (Nl K A):=by
 refine T.BP.bN fS (fun vs H Q E h=>?_) (fun cdv Ar outer s H vs Q E hr h=>?_)
 ·obtain ⟨H0,R,d,n,m,l,rfl,_⟩:=h
  rfl
 ·obtain ⟨H0,R,d,n,m,l,rfl,s0,hI,hS,⟨hd1,hd2,hm,hn⟩,k⟩:=h
  have hr1':aF 1 _:=hr.mono (by decide)
  have hr2':aF 2 _:=hr.mono (by decide)
  refine ⟨_,ai (aI (i:=4) fS.nd rfl (Or.inl rfl) (aS (xt T) hr rfl T.uO T.tO.kp T.vq .nil aN (aa (pv 3) (aa (pv 1) (aa (aS (Fo T) hr1' rfl T.Gj T.AM.kp T.Lc .nil aU (aa (pv 2) (aa (pv 0) af))) (aa iT af))))))
   (ai (aI (i:=5) fS.nd rfl (Or.inl rfl) (fY T.IT (L7 T) hr2' rfl T.Gp T.FE .nil aU (aa (pv 2) (aa (pv 0) (aa (pv 4) af)))))
   (ai (aI (i:=6) fS.nd rfl (Or.inl rfl) (aS (xt T) hr rfl T.uO T.tO.kp T.vq .nil aN (aa (pv 3) (aa (pv 1) (aa (aS (GF T) hr1' rfl T.MP T.yl.kp T.F7 .nil aU (aa (pv 2) (aa (pv 0) af))) (aa (pv 5) af))))))
   (ai (Iv (i:=7) (own:= [("x",8),("y",9)]) rfl fS.nd rfl rfl rfl (Ap rfl T.wz (aa (pv 4) (aa (pv 6) af))) (dM (by kernel_rfl))
    (fun _ _ _ _ _=>o5 (K:=K) (n:=2) rfl rfl (gq (bo (i:=8) fS.nd rfl (Or.inl rfl)) (gq (bo (i:=9) fS.nd rfl (Or.inl rfl)) oq))) (fun _ _ _ _ _=>dJ)
    (fun _ _ _ _ _=>aS (AF T) hr1' rfl T.Bx T.w6.kp T.DZ .nil aU (aa (pv 2) (aa (pv 8) (aa (pv 9) af)))))
   (aj (aW (cg (aa (fh (own:= [("pair",10)]) rfl fS.nd (dj (pv 7)) (dM (by kernel_rfl)) (fun _ _ _ _ _=>bo (i:=10) fS.nd rfl (Or.inl rfl)) (fun _ _ _ _ _=>dJ) (fun _ _ _ _ _=>cH (sR (K:=K) rfl) (pv 10) aq (fun _ _=>rfl)))
    (aa (fh (own:= [("pair",10)]) rfl fS.nd (dj (pv 7)) (dM (by kernel_rfl)) (fun _ _ _ _ _=>bo (i:=10) fS.nd rfl (Or.inl rfl)) (fun _ _ _ _ _=>dJ) (fun _ _ _ _ _=>cH (sR (K:=K) rfl) (pv 10) aq (fun _ _=>rfl))) af)))))))),?_⟩
  have hw1:2≤jU m d∧jU m d≤25:=by unfold jU;split<;>omega
  have hw2:2≤jZ m d∧jZ m d≤25:=by unfold jZ;split<;>omega
  unfold lp at k
  refine ⟨_,rfl,_,rfl,_,rfl,_,rfl,ag m d ⟨rfl,H0,R,jU m d,aC n .au _ l ⟨rfl,s0,hI, .inl ⟨rfl,rfl⟩,hS,⟨hw1.1,hw1.2,hn⟩,k.seq fun a l1 H1 ea s1 st1 k1 D1 hD1 hx1=>?_⟩⟩⟩
  have hal:=mm ea
  refine ⟨_,rfl,_,rfl,_,rfl,fun pa dpa hpa hdpa hne=>(tF pa dpa _ _ _ ⟨rfl,ak,rfl,?_⟩)⟩
  rw[iv]
  have s2:ae H1 (upd (upd H1 dpa (.own pa)) pa (.ins A.dk dpa (k8 (.int (m:Nat)) (.int (d:Nat)) (.ref D1)))):=eK hpa hdpa
  have hpa2:upd (upd H1 dpa (.own pa)) pa (.ins A.dk dpa (k8 (.int (m:Nat)) (.int (d:Nat)) (.ref D1))) pa=some (.ins A.dk dpa (k8 (.int (m:Nat)) (.int (d:Nat)) (.ref D1))):=ak
  generalize upd (upd H1 dpa (.own pa)) pa (.ins A.dk dpa (k8 (.int (m:Nat)) (.int (d:Nat)) (.ref D1)))=H2 at*
  have s02:=s1.trans s2
  have st2:=st1.same s2
  obtain ⟨sh,hIh⟩:=hI.aB s02
  obtain ⟨ir,hxr⟩:=st2.obj
  have hD12:=s2 _ _ hx1
  have nD:D1≠R.r:=fun z=>by rw[z,hxr] at hD12;cases hD12
  have nP:pa≠R.r:=fun z=>by rw[z,(st1.obj).choose_spec] at hpa;cases hpa
  have hM:ja K A (Wg.aB [R.r] H2) (.ref pa) n (kf m d a):= .inr ⟨pa,m,d,a,rfl,⟨dpa,D1,by rw[cR (by simpa using nP)];exact hpa2,ah.of (by rw[cR (by simpa using nD)];exact hD12)⟩,⟨hm,hd1,hd2,hal⟩,rfl⟩
  refine ⟨_,rfl,_,rfl,_,rfl,_,rfl,ag m d ⟨rfl,_,rfl,Wg.aB [R.r] H2,R,jZ m d,aC n (.ref pa) _ l1 ⟨rfl,bQ _ _,hIh,hM,st2,⟨hw2.1,hw2.2,hn⟩,k1.cT sh fun b l2 H3 eb s3 st3 k3 D2 hD2 hx3=>?_⟩⟩⟩
  have hbl:=mm eb
  have hD13:H3 D1=some (.lst (a.map V.int)):=s3 _ _ (by rw[cR (by simpa using nD)];exact hD12)
  have s03:=sh.trans s3
  have q1:ah K H3 D1 (a.map V.int):=ah.of hD13
  have q2:ah K H3 D2 (b.map V.int):=ah.of hx3
  refine ⟨_,rfl,_,rfl,aC D1 D2 _ _ ⟨rfl,q1,q2,fun D hD=>?_⟩⟩
  refine Cs (J:=rN K D1 D2) hD n (by rw[sizeLine_eq];omega) (fun i v H'=> ∃t,v= .ref t∧H' t=some (.tup [.int (Sound.unpair m (a.getD i 0) (b.getD i 0)).1, .int (Sound.unpair m (a.getD i 0) (b.getD i 0)).2])) (fun i v H' H'' _ s ⟨t,e,h⟩=>⟨t,e,s _ _ h⟩)
   (fun i Hh hi t1=>⟨_,_,_,_,t1.seq q1,t1.seq q2,kT (by omega),kT (by omega)⟩) (fun Hh t1=>⟨_,_,t1.seq q1,t1.seq q2, .inl (by rw[List.length_map];omega)⟩) ?_ ?_
  ·rintro i Hh z H' hi t1 ⟨lst,hlst⟩ ⟨t,x1,y1,rfl,ht,rfl,hxx,hyy⟩ C hC
   obtain ⟨rfl,_⟩:=tV (hxx _ (t1.seq q1))
   obtain ⟨rfl,_⟩:=tV (hyy _ (t1.seq q2))
   have st:ae Hh (upd Hh t (.tup [V.int (a.getD i 0),V.int (b.getD i 0)])):=aL ht
   refine (ag t _ ⟨rfl,aY.of ak,rfl,ag _ _ ⟨rfl,ag _ _ ⟨rfl,rfl,rfl,_,rfl,_,rfl,_,rfl,bG m _ _ ⟨rfl,hm,fun D5 H5 hD5 s5 hx5=>?_⟩⟩⟩⟩)
   refine hC _ H5 (st.trans s5) ⟨D5,rfl,?_⟩
   have n5:D5≠D:=fun z=>by
    have:=st _ _ hlst
    rw[←z,hD5] at this;cases this
   rw[hide_ne n5];exact hx5
  intro H4 xs s4 hxl hxp hDx
  have st4:=st3.same s4
  have s04:=s03.trans s4
  have hD4:ah K H4 D xs:=ah.of hDx
  have zl:(List.zipWith (Sound.unpair m) a b).length=n:=by rw[List.length_zipWith];omega
  have zg: ∀i,i<n→(List.zipWith (Sound.unpair m) a b)[i]?=some (Sound.unpair m (a.getD i 0) (b.getD i 0)):=fun i hi=>by
   rw[List.getElem?_zipWith,List.getElem?_eq_getElem (show i<a.length by omega),List.getElem?_eq_getElem (show i<b.length by omega),List.getD_eq_getElem?_getD,List.getD_eq_getElem?_getD,List.getElem?_eq_getElem (show i<a.length by omega),List.getElem?_eq_getElem (show i<b.length by omega)];rfl
  have item: ∀i,i<n→ ∃t,xs[i]?=some (.ref t)∧H4 t=some (.tup [.int (Sound.unpair m (a.getD i 0) (b.getD i 0)).1, .int (Sound.unpair m (a.getD i 0) (b.getD i 0)).2]):=fun i hi=>by
   have e:=List.getElem?_eq_getElem (l:=xs) (i:=i) (by omega)
   obtain ⟨t,et,ht⟩:=hxp i _ e
   exact ⟨t,by rw[e,et],ht⟩
  have vals: ∀(f:Int×Int→Int),(List.range n).map (fun i=>V.int (f (Sound.unpair m (a.getD i 0) (b.getD i 0))))=((List.zipWith (Sound.unpair m) a b).map f).map V.int:=fun f=>by
   refine List.ext_getElem? fun i=>?_
   by_cases hi:i<n
   ·rw[List.getElem?_map,List.getElem?_range hi,List.getElem?_map,List.getElem?_map,zg i hi];rfl
   ·rw[List.getElem?_eq_none (by rw[List.length_map,List.length_range];omega),List.getElem?_eq_none (by rw[List.length_map,List.length_map,zl];omega)]
  refine ⟨_,rfl,D,rfl,⟨_,hD4⟩,fun E1 hE1=>?_⟩
  refine fc (J:=d9 K D) hE1 n (by rw[sizeLine_eq];omega) (fun i=> .int (Sound.unpair m (a.getD i 0) (b.getD i 0)).1) (fun i Hh hi t1=>by
   obtain ⟨t,e,_⟩:=item i hi
   exact ⟨_,_,t1.seq hD4,e⟩) (fun Hh t1=>⟨_,t1.seq hD4,by omega⟩) ?_ ?_
  ·rintro i Hh z H' hi t1 ⟨rfl,hz⟩ C hC
   obtain ⟨t,e,ht⟩:=item i hi
   have ez:=hz _ (t1.seq hD4)
   rw[e] at ez;cases ez
   exact ⟨rfl,_,rfl,aC t _ _ _ ⟨rfl,rfl,aY.of (t1 _ _ ht),cv (j:=0) rfl,hC _ (ae.refl _)⟩⟩
  intro H5 s5 hE1x
  rw[vals (fun x=>x.1)] at hE1x
  refine ⟨_,rfl,D,rfl,⟨_,s5.seq hD4⟩,fun E2 hE2=>?_⟩
  refine fc (J:=d9 K D) hE2 n (by rw[sizeLine_eq];omega) (fun i=> .int (Sound.unpair m (a.getD i 0) (b.getD i 0)).2) (fun i Hh hi t1=>by
   obtain ⟨t,e,_⟩:=item i hi
   exact ⟨_,_,(s5.trans t1).seq hD4,e⟩) (fun Hh t1=>⟨_,(s5.trans t1).seq hD4,by omega⟩) ?_ ?_
  ·rintro i Hh z H' hi t1 ⟨rfl,hz⟩ C hC
   obtain ⟨t,e,ht⟩:=item i hi
   have ez:=hz _ ((s5.trans t1).seq hD4)
   rw[e] at ez;cases ez
   exact ⟨rfl,_,rfl,aC t _ _ _ ⟨rfl,rfl,aY.of ((s5.trans t1) _ _ ht),cv (j:=1) rfl,hC _ (ae.refl _)⟩⟩
  intro H6 s6 hE2x
  rw[vals (fun x=>x.2)] at hE2x
  refine ⟨by rw[sizeLine_eq];show 2≤_;omega,fun D7 hD7=>?_⟩
  have s7:=aL (o:= .lst [V.ref E1,V.ref E2]) hD7
  have s06:=s04.trans (s5.trans s6)
  exact k3 _ (s06.trans s7) ((st4.same (s5.trans s6)).same s7) D7 E1 E2 ⟨s06.none hD7,s04.none hE1,(s04.trans s5).none hE2⟩ ak (s7 _ _ (s6 _ _ hE1x)) (s7 _ _ hE2x)
def mB (c d b o g s:V):List (Str×V):= [("channels",c),("depth",d),("block",b),("order",o),("group",g),("spare",s)]
def fP (C:Addr) (H:Hp) (f:Addr) (F:Sound.Form):Prop:= ∃dx,H f=some (.ins C dx (mB (.int F.channels) (.int F.depth) (.int F.block) (.int F.order) (.int F.group) (.int F.spare)))
theorem fP.same {C:Addr} {H H':Hp} {f:Addr} {F:Sound.Form} (h:fP C H f F) (s:ae H H'):fP C H' f F:=by
 obtain ⟨dx,h⟩:=h
 exact ⟨dx,s _ _ h⟩
def K8 (K:PySem.W.Frag) (C:Addr):Sp:=fun vs H Q _=> ∃(p dx q:Addr) (c d b o g s:Int),vs= [.ref p, .ref q]∧H p=some (.ins C dx [])∧ah K H q [.int c, .int d, .int b, .int o, .int g, .int s]∧Q .au (upd H p (.ins C dx (mB (.int c) (.int d) (.int b) (.int o) (.int g) (.int s))))
theorem Kv:aK ["self", "form"] ["self", "form"] (aD AR):=⟨rfl,rfl,rfl,by decide+kernel,rfl,by decide+kernel,by decide+kernel⟩
theorem ND (T:Txt K mg A):az P w K mg base ba 1 A.pd A.p5 ["self", "form"] (K8 K A.bH):=by
 refine T.F9.ok Kv (fun vs H Q E h=>?_) (fun cdv Ar outer s H vs Q E hr h=>?_)
 ·obtain ⟨p,dx,q,c,d,b,o,g,s,rfl,_⟩:=h
  rfl
 ·obtain ⟨p,dx,q,c,d,b,o,g,s,rfl,hp,hq,k⟩:=h
  refine ⟨_,ai (bc (pv 0) (cH dY (pv 1) aq (fun _ _=>rfl)) rfl) (ai (bc (pv 0) (cH dY (pv 1) aq (fun _ _=>rfl)) rfl) (ai (bc (pv 0) (cH dY (pv 1) aq (fun _ _=>rfl)) rfl)
   (ai (bc (pv 0) (cH dY (pv 1) aq (fun _ _=>rfl)) rfl) (ai (bc (pv 0) (cH dY (pv 1) aq (fun _ _=>rfl)) rfl) (aj (bc (pv 0) (cH dY (pv 1) aq (fun _ _=>rfl)) rfl)))))),?_⟩
  have sq: ∀fs,ah K (upd H p (.ins A.bH dx fs)) q [.int c, .int d, .int b, .int o, .int g, .int s]:=fun fs=>by
   rcases hq with (h|⟨ob,h⟩)|h
   ·exact .inl (.inl (by rw[aG (rp h hp (by intro e;cases e))];exact h))
   ·exact .inl (.inr ⟨ob,by rw[aG (rp h hp (by intro e;cases e))];exact h⟩)
   ·exact .inr h
  refine ⟨_,rfl,aC q _ _ _ ⟨rfl,rfl,hq,cv (j:=0) rfl,_,rfl,p,A.bH,dx, [],rfl,hp,T.b4,T.rJ,(by show 0<1000;decide),?_⟩⟩
  refine ⟨_,rfl,aC q _ _ _ ⟨rfl,rfl,sq _,cv (j:=1) rfl,_,rfl,aC p A.bH dx _ ⟨rfl,ak,T.b4,T.nq,(by show 1<1000;decide),?_⟩⟩⟩
  rw[cB]
  refine ⟨_,rfl,aC q _ _ _ ⟨rfl,rfl,sq _,cv (j:=2) rfl,_,rfl,aC p A.bH dx _ ⟨rfl,ak,T.b4,T.jz,(by show 2<1000;decide),?_⟩⟩⟩
  rw[cB]
  refine ⟨_,rfl,aC q _ _ _ ⟨rfl,rfl,sq _,cv (j:=3) rfl,_,rfl,aC p A.bH dx _ ⟨rfl,ak,T.b4,T.NI,(by show 3<1000;decide),?_⟩⟩⟩
  rw[cB]
  refine ⟨_,rfl,aC q _ _ _ ⟨rfl,rfl,sq _,cv (j:=4) rfl,_,rfl,aC p A.bH dx _ ⟨rfl,ak,T.b4,T.sV,(by show 4<1000;decide),?_⟩⟩⟩
  rw[cB]
  refine ⟨_,rfl,aC q _ _ _ ⟨rfl,rfl,sq _,cv (j:=5) rfl,_,rfl,aC p A.bH dx _ ⟨rfl,ak,T.b4,T.vK,(by show 5<1000;decide),?_⟩⟩⟩
  rw[cB]
  exact k
theorem BN (F:Sound.Form) (n m:Nat) (ms:List Nat) (acc:List (List Int)) (l:Sound.Bits):Sound.takeChannels F n (m::ms) acc l=(lp F.depth n m l).then_ fun (ps:List (Int×Int)) (l:Sound.Bits)=>Sound.takeChannels F n ms (acc++ [ps.map fun (x:Int×Int)=>x.1,ps.map fun (x:Int×Int)=>x.2]) l:=by
 unfold lp
 rw[then_assoc]
 conv=>lhs;unfold Sound.takeChannels
 congr 1
 funext a l
 rw[then_assoc]
 rfl
def dS (H:Hp) (D:Addr) (cs:List (List Int)):Prop:= ∃as:List Addr,H D=some (.lst (as.map V.ref))∧as.length=cs.length∧ ∀(k:Nat) (a:Addr),as[k]?=some a→a≠D∧H a=some (.lst ((cs.getD k []).map V.int))
theorem dS.same {H H':Hp} {D:Addr} {cs:List (List Int)} (h:dS H D cs) (s:ae H H'):dS H' D cs:=by
 obtain ⟨as,h1,h2,h3⟩:=h
 exact ⟨as,s _ _ h1,h2,fun k a e=>⟨(h3 k a e).1,s _ _ (h3 k a e).2⟩⟩
theorem dS.add {H:Hp} {D:Addr} {cs:List (List Int)} {bs:List Addr} {ds:List (List Int)} (h:dS H D cs) (hl:bs.length=ds.length) (hb: ∀(k:Nat) (a:Addr),bs[k]?=some a→a≠D∧H a=some (.lst ((ds.getD k []).map V.int))): ∃as:List Addr,H D=some (.lst (as.map V.ref))∧dS (upd H D (.lst (as.map V.ref++bs.map V.ref))) D (cs++ds):=by
 obtain ⟨as,h1,h2,h3⟩:=h
 refine ⟨as,h1,as++bs,by rw[ak,List.map_append],by rw[List.length_append,List.length_append,h2,hl],fun k a e=>?_⟩
 by_cases hk:k<as.length
 ·rw[List.getElem?_append_left hk] at e
  obtain ⟨z1,z2⟩:=h3 k a e
  refine ⟨z1,?_⟩
  rw[aG z1,z2,List.getD_eq_getElem?_getD,List.getD_eq_getElem?_getD,List.getElem?_append_left (by omega)]
 ·rw[List.getElem?_append_right (by omega)] at e
  obtain ⟨z1,z2⟩:=hb _ a e
  refine ⟨z1,?_⟩
  rw[aG z1,z2,List.getD_eq_getElem?_getD,List.getD_eq_getElem?_getD,List.getElem?_append_right (by omega),h2]
theorem dS.aB {H H':Hp} {D:Addr} {cs:List (List Int)} {R:bF} {l:Sound.Bits} (h:dS H D cs) (st:bg A.aQ H R l) (s:ae (Wg.aB [R.r] H) H'):dS H' D cs:=by
 obtain ⟨as,h1,h2,h3⟩:=h
 obtain ⟨i,hx⟩:=st.obj
 have keep: ∀b xs,H b=some (.lst xs)→H' b=some (.lst xs):=fun b xs e=>s _ _ (by rw[cR (fun z=>by rw[List.mem_singleton.mp z,hx] at e;cases e)];exact e)
 exact ⟨as,keep _ _ h1,h2,fun k a e=>⟨(h3 k a e).1,keep _ _ (h3 k a e).2⟩⟩
def MW (K:PySem.W.Frag) (A:aT):Sp:=fun vs H Q E=> ∃(H0:Hp) (R:bF) (f:Addr) (F:Sound.Form) (n:Nat) (l:Sound.Bits),vs= [.ref f, .int n, .ref R.r]∧ae H0 H∧cE K H0 R∧fP A.bH H0 f F∧bg A.aQ H R l∧(F.ok=true∧n≤256)∧
 bE A H0 R ((Sound.takeMany (fun (_:List Nat) (l:Sound.Bits)=>Sound.takeU 2 l) (Sound.pairs F) [] l).then_ fun (ms:List Nat) (l:Sound.Bits)=>Sound.takeChannels F n ms.reverse [] l) (fun cs H'=> ∀D,H0 D=none→dS H' D cs→Q (.ref D) H') E
theorem oU:aK ["form", "n", "reader", "modes", "channels", "mode", "pair"] ["form", "n", "reader"] (aD DY):=⟨rfl,rfl,rfl,by decide+kernel,rfl,by decide+kernel,by decide+kernel⟩
theorem ib {F:Sound.Form} (h:F.ok=true):(1≤F.channels∧F.channels≤4)∧(4≤F.depth∧F.depth≤24)∧(16≤F.block∧F.block≤256)∧F.order≤4∧(1≤F.group∧F.group≤8)∧F.spare≤4:=by
 unfold Sound.Form.ok at h
 simp only [Bool.and_eq_true,decide_eq_true_eq] at h
 omega
theorem RY (T:Txt K mg A):az P w K mg base (aR P w) 11 A.lC A.pM ["form", "n", "reader"] (MW K A):=by
 refine T.A6.bN oU (fun vs H Q E h=>?_) (fun cdv Ar outer s H vs Q E hr h=>?_)
 ·obtain ⟨H0,R,f,F,n,l,rfl,_⟩:=h
  rfl
 ·obtain ⟨H0,R,f,F,n,l,rfl,s0,hI,hF,hS,⟨ao,hn⟩,k⟩:=h
  have hr1':aF 1 _:=hr.mono (by decide)
  have hr9':aF 9 _:=hr.mono (by decide)
  refine ⟨_,ai (LB (i:=3) (own:= [("pair",6)]) rfl rfl rfl jk rfl oU.nd rfl rfl rfl (fk rfl T.dQ (aa (aw jA (ax (pv 0) rfl) aq) af)) (dM (by kernel_rfl)) (fun _ _ _ _ _ _=>bo (i:=6) oU.nd rfl (Or.inl rfl)) (fun _ _ _ _ _ _=>dJ)
    (fun _ _ _ _ _ _ hp=>aP (pv 2) T.bP T.dZ (d6 T) hr1' T.dU .nil hp (aa aq af)))
   (ai (aI (i:=4) oU.nd rfl (Or.inl rfl) (cg af))
   (ai (cj PassesOwn.leaving rfl (dj (pv 3)) (bo (i:=5) oU.nd rfl (Or.inl rfl))
    (aj (a8 (gg PySem.F.plainAttrs_list PySem.F.slot_list_extend PySem.F.type_list_extend q0 (pv 4) (aa (aS (Jt T) hr rfl T.QG T.BP.kp T.Ku .nil aN (aa (ax (pv 0) rfl) (aa (pv 1) (aa (pv 5) (aa (pv 2) af))))) af)))))
   (ai (bp (bq dA (aw kR (ax (pv 0) rfl) aq) aq (aX _)) (aj (a8 (gg PySem.F.plainAttrs_list PySem.F.slot_list_append PySem.F.type_list_append l7 (pv 4) (aa (aS (xt T) hr9' rfl T.uO T.tO.kp T.vq .nil aN (aa (pv 2) (aa (pv 1) (aa (ax (pv 0) rfl) (aa iT af))))) af)))) bu)
   (aj (aW (pv 4)))))),?_⟩
  obtain ⟨⟨hc1,hc2⟩,⟨hd1,hd2⟩,_⟩:=ib ao
  have e62:(2:Int)^62=4611686018427387904:=by decide
  obtain ⟨df,hf⟩:=hF
  have hfH:=s0 _ _ hf
  refine (aA rfl hfH T.b4 T.rJ rfl (ag _ _ ⟨rfl,rfl,⟨by decide,by decide⟩,((F.channels/2:Nat):Int),(by show [V.int (((F.channels:Nat):Int)/2)]=_;congr 2),by omega,by omega,fun D hD=>?_⟩))
  rw[Int.toNat_natCast]
  have hD0:H0 D=none:=s0.none hD
  have hpr:Sound.pairs F=F.channels/2:=rfl
  rw[hpr] at k
  refine zc (F.channels/2) (by rw[sizeLine_eq];omega) (fun i acc H'=> ∃(ms:List Nat) (l':Sound.Bits),acc=vN ms.reverse∧ae (Wg.aB [R.r] H) H'∧bg A.aQ H' R l'∧ms.length=i∧(∀m∈ms,m<4)∧bE A H0 R ((Sound.takeMany (fun (_:List Nat) (l:Sound.Bits)=>Sound.takeU 2 l) (F.channels/2-i) ms l').then_ fun (ms:List Nat) (l:Sound.Bits)=>Sound.takeChannels F n ms.reverse [] l) (fun cs H'=> ∀D,H0 D=none→dS H' D cs→Q (.ref D) H') E) ?_ ?_ ?_ ?_ ?_
  ·refine ⟨[],l,rfl,fun b u e=>?_,?_,rfl,(fun m hm=>by cases hm),k⟩
   ·have:=bQ _ _ b u e
    rw[aG (cw this hD)];exact this
   ·obtain ⟨i,ei,hi,hxr⟩:=hS
    exact ⟨i,ei,hi,by rw[aG (cw hxr hD)];exact hxr⟩
  ·exact fun i acc H' hi _=>hi
  ·exact fun acc H' _=>Nat.le_refl _
  ·rintro i acc H3 x H3' hi ⟨ms,l3,rfl,s3,st3,hl3,hm3,k3⟩ hDx hal ⟨hH3,rfl⟩ C hC
   rw[hH3]
   obtain ⟨px3,hx3⟩:=st3.obj
   rw[show F.channels/2-i=(F.channels/2-(i+1))+1 by omega,kM,then_assoc] at k3
   obtain ⟨sh2,_⟩:=hI.aB s0
   obtain ⟨sh3,hIh3⟩:=hI.aB (sh2.trans s3)
   refine ⟨rfl,aO rfl hx3 rfl ⟨Wg.aB [R.r] H3,bG R 2 l3 ⟨rfl,bQ _ _,hIh3,st3,by decide,k3.cT sh3 fun y l4 H4 ey4 s4 st4 k4=>?_⟩⟩⟩
   have nDr:D≠R.r:=fun z=>by rw[z,hx3] at hDx;cases hDx
   refine hC _ H4 (s4 _ _ (by rw[cR (by simpa using nDr)];exact hDx)) ⟨y::ms,l4,?_,?_,?_,by rw[List.length_cons,hl3],?_,k4⟩
   ·rw[List.reverse_cons,gB];rfl
   ·intro b u e
    have e3:=s3 b u e
    by_cases hb:b=D
    ·subst hb
     have:=bQ _ _ _ u e
     rw[hD] at this;cases this
    ·rw[aG hb]
     refine s4 _ _ ?_
     rw[cR (fun z=>by
      rw[List.mem_singleton.mp z,gw (by simp)] at e;cases e)]
     exact e3
   ·obtain ⟨j,ej,hj,hxr⟩:=st4
    exact ⟨j,ej,hj,by rw[aG (Ne.symm nDr)];exact hxr⟩
   ·intro z hz
    rcases List.mem_cons.mp hz with rfl|hz
    ·exact kI ey4
    ·exact hm3 z hz
  ·rintro acc H3 ⟨ms,l3,rfl,s3,st3,hl3,hm3,k3⟩ hDx hal
   rw[Nat.sub_self] at k3
   have k3:bE A H0 R (Sound.takeChannels F n ms.reverse [] l3) (fun cs H'=> ∀D,H0 D=none→dS H' D cs→Q (.ref D) H') E:=k3
   obtain ⟨sh2,_⟩:=hI.aB s0
   have s03:=sh2.trans s3
   have hml:ms.reverse.length≤2:=by rw[List.length_reverse,hl3];omega
   have hm4: ∀m∈ms.reverse,m<4:=fun m hm=>hm3 m (List.mem_reverse.mp hm)
   generalize ms.reverse=mr at*
   refine ⟨by rw[sizeLine_eq];show 0≤_;omega,fun D2 hD2=>?_⟩
   have s4:=aL (o:= .lst []) hD2
   have hD20:H0 D2=none:=s03.none hD2
   have hDx4:upd H3 D2 (.lst []) D=some (.lst (vN mr)):=s4 _ _ hDx
   have hCh:dS (upd H3 D2 (.lst [])) D2 []:=⟨[],ak,rfl,fun k a e=>by simp at e⟩
   have st4:=st3.same s4
   have s04:=s03.trans s4
   have nD2:D≠D2:=fun z=>by rw[←z,hDx] at hD2;cases hD2
   generalize upd H3 D2 (.lst [])=H4 at*
   refine ⟨_,rfl,D,rfl,⟨_,ah.of hDx4⟩,?_⟩
   refine gk (K:=K) (a:=D) (xs:=vN mr) (fun i σ H'=>(ae H0 H'∧H' D=some (.lst (vN mr))∧ ∃(l':Sound.Bits) (cs:List (List Int)),bg A.aQ H' R l'∧dS H' D2 cs∧cs.length=2*i∧bE A H0 R (Sound.takeChannels F n (mr.drop i) cs l') (fun cs H'=> ∀D,H0 D=none→dS H' D cs→Q (.ref D) H') E)∧ ∃v5 v6:Option V,σ= [some (.ref f),some (.int (n:Nat)),some (.ref R.r),some (.ref D),some (.ref D2),v5,v6])
    ⟨⟨s04,hDx4,l3, [],st4,hCh,rfl,k3⟩,none,none,rfl⟩ (fun i σ H' _ ⟨⟨_,e,_⟩,_⟩=>ah.of e) ?_ ?_
   ·rintro i x σ H5 hi ⟨⟨s5,hDx5,l5,cs,st5,hC5,hcl,k5⟩,v5,v6,rfl⟩
    obtain ⟨rfl,hil⟩:=eI hi
    have hmi:mr.getD i 0<4:=qW hm4 hil
    have ed:mr.drop i=mr.getD i 0::mr.drop (i+1):=by
     rw[List.drop_eq_getElem_cons hil,getD_at hil]
    rw[ed,BN] at k5
    obtain ⟨as,has,_⟩:=id hC5
    obtain ⟨sh5,hIh5⟩:=hI.aB s5
    obtain ⟨ir,hxr⟩:=st5.obj
    have hf5:=s5 _ _ hf
    refine ⟨_,rfl, .inl ⟨rfl,_,ah.of has⟩,aA rfl hf5 T.b4 T.nq rfl ⟨_,rfl,_,rfl,_,rfl,Wg.aB [R.r] H5,R,F.depth,n,mr.getD i 0,l5,rfl,bQ _ _,hIh5,st5,⟨hd1,hd2,hmi,hn⟩,k5.cT sh5 fun ps l6 H6 _ s6 st6 k6 E1 a b ⟨hE1,ha,hb⟩ hxE hxa hxb=>?_⟩⟩
    have hC6:=hC5.aB st5 s6
    have nr: ∀c xs,H5 c=some (.lst xs)→H6 c=some (.lst xs):=fun c xs e=>s6 _ _ (by rw[cR (fun z=>by rw[List.mem_singleton.mp z,hxr] at e;cases e)];exact e)
    have na:a≠D2:=fun z=>by
     have:Wg.aB [R.r] H5 D2=some (.lst (as.map V.ref)):=by rw[cR (fun z=>by rw[List.mem_singleton.mp z,hxr] at has;cases has)];exact has
     rw[←z,ha] at this;cases this
    have nb:b≠D2:=fun z=>by
     have:Wg.aB [R.r] H5 D2=some (.lst (as.map V.ref)):=by rw[cR (fun z=>by rw[List.mem_singleton.mp z,hxr] at has;cases has)];exact has
     rw[←z,hb] at this;cases this
    obtain ⟨as2,h2,hC7⟩:=hC6.add (bs:= [a,b]) (ds:= [ps.map fun x=>x.1,ps.map fun x=>x.2]) rfl (fun k c e=>by
     match k,e with
     |0,e=>cases e;exact ⟨na,hxa⟩
     |1,e=>cases e;exact ⟨nb,hxb⟩)
    have hal2:as2.length=cs.length:=by
     obtain ⟨as3,h3,h4,_⟩:=hC6
     rw[h2] at h3
     injection h3 with h3
     injection h3 with h3
     have:=congrArg List.length h3
     rw[List.length_map,List.length_map] at this
     omega
    have hil2:i<2:=by omega
    refine (aC D2 E1 _ _ ⟨rfl,rfl,h2,hxE,(by rw[List.length_map,hal2,hcl,sizeLine_eq];show _+2≤_;omega),⟨⟨fK (sh5.trans s6) hD20,?_,l6,cs++ [ps.map fun x=>x.1,ps.map fun x=>x.2],?_,hC7,by rw[List.length_append,hcl];show 2*i+2=_;omega,k6⟩,some (.int (mr.getD i 0:Nat)),v6,rfl⟩⟩)
    ·rw[aG nD2];exact nr _ _ hDx5
    ·obtain ⟨j,ej,hj,hxr6⟩:=st6
     exact ⟨j,ej,hj,by rw[aG (fun z=>by rw[←z,hxr6] at h2;cases h2)];exact hxr6⟩
   ·rintro σ H5 ⟨⟨s5,hDx5,l5,cs,st5,hC5,hcl,k5⟩,v5,v6,rfl⟩
    rw[aZ,List.drop_length] at k5
    rw[aZ] at hcl
    have hf5:=s5 _ _ hf
    refine (aA rfl hf5 T.b4 T.rJ rfl (ag _ _ ⟨rfl,rfl,(by show (0:Int)<2;decide),rfl,_,rfl,?_⟩))
    unfold Sound.takeChannels at k5
    refine bZ (fun hc=>?_) fun hc=>?_
    ·have hc:=V.int.inj (of_decide_eq_true hc)
     rw[if_pos (by omega)] at k5
     obtain ⟨as,has,_⟩:=id hC5
     obtain ⟨sh5,hIh5⟩:=hI.aB s5
     obtain ⟨ir,hxr⟩:=st5.obj
     refine ⟨_,rfl, .inl ⟨rfl,_,ah.of has⟩,_,rfl,_,rfl,aA rfl hf5 T.b4 T.nq rfl ⟨Wg.aB [R.r] H5,rg R F.depth n .au _ l5 ⟨rfl,bQ _ _,hIh5, .inl ⟨rfl,rfl⟩,st5,⟨by omega,by omega,hn⟩,k5.cT sh5 fun ys l6 H6 _ s6 st6 k6 E1 hE1 hxE=>?_⟩⟩⟩
     have hC6:=hC5.aB st5 s6
     have na:E1≠D2:=fun z=>by
      have:Wg.aB [R.r] H5 D2=some (.lst (as.map V.ref)):=by rw[cR (fun z=>by rw[List.mem_singleton.mp z,hxr] at has;cases has)];exact has
      rw[←z,hE1] at this;cases this
     obtain ⟨as2,h2,hC7⟩:=hC6.add (bs:= [E1]) (ds:= [ys]) rfl (fun k c e=>by
      match k,e with
      |0,e=>cases e;exact ⟨na,hxE⟩)
     have hal2:as2.length=cs.length:=by
      obtain ⟨as3,h3,h4,_⟩:=hC6
      rw[h2] at h3
      injection h3 with h3
      injection h3 with h3
      have:=congrArg List.length h3
      rw[List.length_map,List.length_map] at this
      omega
     refine (bG D2 _ _ ⟨rfl,rfl,h2,(by rw[List.length_map,hal2,hcl,sizeLine_eq];omega),_,rfl,?_⟩)
     refine k6 _ (fK (sh5.trans s6) hD20) ?_ D2 hD20 hC7
     obtain ⟨j,ej,hj,hxr6⟩:=st6
     exact ⟨j,ej,hj,by rw[aG (fun z=>by rw[←z,hxr6] at h2;cases h2)];exact hxr6⟩
    ·have hc: ¬((F.channels:Nat):Int)%2=1:=fun z=>hc (decide_eq_true (show V.int (((F.channels:Nat):Int)%2)=V.int 1 by rw[z]))
     rw[if_neg (by omega)] at k5
     exact ⟨_,rfl,k5 H5 s5 st5 D2 hD20 hC5⟩
theorem uT {a b:Nat} (h:(!decide (V.int ((a:Nat):Int)=V.int ((b:Nat):Int)))=true):a≠b:=fun q=>by
 rw[q,decide_eq_true rfl] at h;cases h
theorem uV {a b:Nat} (h: ¬(!decide (V.int ((a:Nat):Int)=V.int ((b:Nat):Int)))=true):a=b:=Classical.byContradiction fun q=>h (by rw[i8,decide_eq_false q];rfl)
def lg (B:Sound.Bytes) (l:Sound.Bits):Sound.Got Nat:=(Sound.takeU (l.length%8) l).then_ fun (z:Nat) (l:Sound.Bits)=>if z≠0 then .bad else (Sound.takeU 16 l).then_ fun (c:Nat) (l':Sound.Bits)=>if c≠Sound.crc16 (B.take (B.length-l.length/8)) then .bad else .ok (B.length-l.length/8+2) l'
def LH (K:PySem.W.Frag) (A:aT):Sp:=fun vs H Q E=> ∃(H0:Hp) (R:bF) (l:Sound.Bits),vs= [.ref R.r]∧ae H0 H∧cE K H0 R∧bg A.aQ H R l∧bE A H0 R (lg R.B l) (fun z H'=>H' R.r=some (.ins A.aQ R.dr (fJ (.ref R.q) (.int ((8*z:Nat):Int))))→Q .au H') E
theorem AJ:aK ["reader", "check"] ["reader"] (aD Cm):=⟨rfl,rfl,rfl,by decide+kernel,rfl,by decide+kernel,by decide+kernel⟩
theorem ra {n:Nat} {l:Sound.Bits} {x:Nat} {r:Sound.Bits} (h:Sound.takeU n l= .ok x r):r=l.drop n∧n≤l.length:=by
 unfold Sound.takeU at h
 split at h
 ·cases h
 ·rename_i hc
  cases h
  exact ⟨rfl,Nat.le_of_not_lt fun z=>hc ((jG _ _).mpr z)⟩
theorem vC {H:Hp} {R:bF} {l:Sound.Bits} (h:bg A.aQ H R l):l.length≤8*R.B.length∧H R.r=some (.ins A.aQ R.dr (fJ (.ref R.q) (.int ((8*R.B.length-l.length:Nat):Int)))):=by
 obtain ⟨i,rfl,hi,hx⟩:=h
 rw[List.length_drop,jW]
 exact ⟨by omega,by rw[hx];congr 6;omega⟩
theorem Kl (T:Txt K mg A):az P w K mg base (aR P w) 2 A.mI A.o4 ["reader"] (LH K A):=by
 refine T.CB.bN AJ (fun vs H Q E h=>?_) (fun cdv Ar outer s H vs Q E hr h=>?_)
 ·obtain ⟨H0,R,l,rfl,_⟩:=h
  rfl
 ·obtain ⟨H0,R,l,rfl,s0,hI,hS,k⟩:=h
  refine ⟨_,ai (bp (bq gF (aP (pv 0) T.bP T.dZ (d6 T) hr T.dU .nil aN (aa (aw kR (jV ju (ax (pv 0) rfl)) aq) af)) aq (aX _)) (aj (fg rfl rfl T.eX T.d8.exc fq)) bu)
   (ai (aI (i:=1) AJ.nd rfl (Or.inl rfl) (aS (N6 T) hr rfl T.Ka T.BQ.kp T.IG .nil aU (aa (eZ fu (ax (pv 0) rfl) qe (cQ (aw jA (ax (pv 0) rfl) aq))) af)))
   (aj (bp (bq gF (aP (pv 0) T.bP T.dZ (d6 T) hr T.dU .nil aN (aa aq af)) (pv 1) (aX _)) (aj (fg rfl rfl T.eX T.d8.exc fq)) bu))),?_⟩
  obtain ⟨hle,hx⟩:=vC hS
  obtain ⟨sh,hIh⟩:=hI.aB s0
  unfold lg at k
  refine (aO rfl hx rfl (aA rfl hx T.bP T.jJ rfl ⟨_,rfl,ag _ _ ⟨rfl,rfl,(by show (0:Int)<8;decide),Wg.aB [R.r] H,R,l.length%8,l,?_,bQ _ _,hIh,hS,by omega,?_⟩⟩))
  ·show [V.ref R.r,V.int ((-((8*R.B.length-l.length:Nat):Int))%8)]=_
   congr 3;omega
  refine k.cT sh fun z l1 H1 ez s1 st1 k1=>?_
  obtain ⟨rfl,hz8⟩:=ra ez
  refine ⟨rfl,_,rfl,?_⟩
  have s01:=sh.trans s1
  refine bZ (fun hc=>?_) fun hc=>?_
  ·have hc: ¬z=0:=uT hc
   rw[if_pos hc] at k1
   exact k1 H1 s01
  ·have hc:z=0:=uV hc
   rw[if_neg (fun q=>q hc)] at k1
   obtain ⟨hle1,hx1⟩:=vC st1
   generalize hl1:l.drop (l.length%8)=l1 at*
   have hl18:l1.length%8=0:=by rw[←hl1,List.length_drop];omega
   have hq1:=s01.seq hI.1
   refine (aA rfl hx1 T.bP T.so rfl (aA rfl hx1 T.bP T.jJ rfl (ag _ _ ⟨rfl,rfl,⟨by decide,by decide⟩,_,rfl,ag R.q _ ⟨rfl,hq1,fun p hp=>?_⟩⟩)))
   have e1:((8*R.B.length-l1.length:Nat):Int)/8=((R.B.length-l1.length/8:Nat):Int):=by omega
   have e2:dE (vN (bn R.B)) none (some (((8*R.B.length-l1.length:Nat):Int)/8))=vN (bn (R.B.take (R.B.length-l1.length/8))):=by rw[e1,tP,fV]
   rw[e2]
   have s2:=aL (o:= .lst (vN (bn (R.B.take (R.B.length-l1.length/8))))) hp
   refine (ag p _ ⟨rfl,ah.of ak,fv _,?_⟩)
   have ec:su (bn (R.B.take (R.B.length-l1.length/8)))=Sound.crc16 (R.B.take (R.B.length-l1.length/8)):=GL _
   rw[ec]
   have st2:=st1.same s2
   have s02:=s01.trans s2
   obtain ⟨sh2,hIh2⟩:=hI.aB s02
   obtain ⟨i2,hx2⟩:=st2.obj
   generalize upd H1 p (.lst (vN (bn (R.B.take (R.B.length-l1.length/8)))))=H2 at*
   refine (aO rfl hx2 rfl ⟨Wg.aB [R.r] H2,bG R 16 l1 ⟨rfl,bQ _ _,hIh2,st2,by decide,k1.cT sh2 fun c l3 H3 e3 s3 st3 k3=>?_⟩⟩)
   obtain ⟨rfl,hl16⟩:=ra e3
   obtain ⟨hle3,hx3⟩:=vC st3
   have s03:=sh2.trans s3
   refine ⟨_,rfl,rfl,_,rfl,?_⟩
   refine bZ (fun hc2=>?_) fun hc2=>?_
   ·have hc2:c≠Sound.crc16 (R.B.take (R.B.length-l1.length/8)):=uT hc2
    rw[if_pos hc2] at k3
    exact k3 H3 s03
   ·have hc2:c=Sound.crc16 (R.B.take (R.B.length-l1.length/8)):=uV hc2
    rw[if_neg (fun q=>q hc2)] at k3
    refine k3 H3 s03 st3 ?_
    rw[hx3,List.length_drop]
    congr 6;omega
def vx (s k n d:V):List (Str×V):= [("size",s),("k",k),("n",n),("numbers",d)]
def Ao (C:Addr) (H:Hp) (o:Addr) (x:Sound.Frame):Prop:= ∃dx D,H o=some (.ins C dx (vx (.int x.size) (.int x.k) (.int x.n) (.ref D)))∧H D=some (.lst (x.s.map V.int))
def QP (C:Addr):Sp:=fun vs H Q _=> ∃(p dx:Addr) (a b c d:V),vs= [.ref p,a,b,c,d]∧H p=some (.ins C dx [])∧Q .au (upd H p (.ins C dx (vx a b c d)))
theorem Fv:aK ["self", "size", "k", "n", "numbers"] ["self", "size", "k", "n", "numbers"] (aD Cb):=⟨rfl,rfl,rfl,by decide+kernel,rfl,by decide+kernel,by decide+kernel⟩
theorem RS (T:Txt K mg A):az P w K mg base ba 1 A.oG A.lV ["self", "size", "k", "n", "numbers"] (QP A.dC):=by
 refine T.NH.ok Fv (fun vs H Q E h=>?_) (fun cdv Ar outer s H vs Q E hr h=>?_)
 ·obtain ⟨p,dx,a,b,c,d,rfl,_⟩:=h
  rfl
 ·obtain ⟨p,dx,a,b,c,d,rfl,hp,k⟩:=h
  refine ⟨_,ai (bc (pv 0) (pv 1) rfl) (ai (bc (pv 0) (pv 2) rfl) (ai (bc (pv 0) (pv 3) rfl) (aj (bc (pv 0) (pv 4) rfl)))),?_⟩
  refine ⟨_,rfl,_,rfl,p,A.dC,dx, [],rfl,hp,T.jb,T.Cd,(by show 0<1000;decide),?_⟩
  refine ⟨_,rfl,_,rfl,aC p A.dC dx _ ⟨rfl,ak,T.jb,T.EG,(by show 1<1000;decide),?_⟩⟩
  refine ⟨_,rfl,_,rfl,aC p A.dC dx _ ⟨rfl,ak,T.jb,T.Ec,(by show 2<1000;decide),?_⟩⟩
  refine ⟨_,rfl,_,rfl,aC p A.dC dx _ ⟨rfl,ak,T.jb,T.zX,(by show 3<1000;decide),?_⟩⟩
  rw[cB,cB,cB]
  exact k
theorem Lq {d n m:Nat} {l l':Sound.Bits} {ps:List (Int×Int)} (h:lp d n m l= .ok ps l'):ps.length=n:=by
 unfold lp at h
 obtain ⟨a,l1,e1,h⟩:=b7 h
 obtain ⟨b,l2,e2,h⟩:=b7 h
 cases h
 rw[List.length_zipWith,mm e1,mm e2];omega
theorem xn {F:Sound.Form} {n:Nat}: ∀{ms:List Nat} {acc cs:List (List Int)} {l l':Sound.Bits},Sound.takeChannels F n ms acc l= .ok cs l'→(∀c∈acc,c.length=n)→(∀c∈cs,c.length=n)∧cs.length≤acc.length+2*ms.length+1
 | [],acc,cs,l,l',h,ha=>by
  unfold Sound.takeChannels at h
  split at h
  ·obtain ⟨y,l1,e1,h⟩:=b7 h
   cases h
   refine ⟨fun c hc=>?_,by rw[List.length_append];show _+1≤_;omega⟩
   rcases List.mem_append.mp hc with hc|hc
   ·exact ha c hc
   ·rw[List.mem_singleton.mp hc];exact mm e1
  ·cases h
   exact ⟨ha,by omega⟩
 |m::ms,acc,cs,l,l',h,ha=>by
  rw[BN] at h
  obtain ⟨ps,l1,e1,h⟩:=b7 h
  have hp:=Lq e1
  obtain ⟨h1,h2⟩:=xn h (fun c hc=>by
   rcases List.mem_append.mp hc with hc|hc
   ·exact ha c hc
   ·rcases List.mem_cons.mp hc with rfl|hc
    ·rw[List.length_map];exact hp
    ·rw[List.mem_singleton.mp hc,List.length_map];exact hp)
  refine ⟨h1,?_⟩
  rw[List.length_append] at h2
  have h2:cs.length≤acc.length+2+2*ms.length+1:=h2
  rw[List.length_cons];omega
theorem r6: ∀(n:Nat) (cs:List (List Int)),Sound.woven n cs=(List.range n).flatMap fun t=>cs.map fun (c:List Int)=>c.getD t 0
 |0,cs=>rfl
 |n+1,cs=>by
  unfold Sound.woven
  rw[r6 n,List.range_succ_eq_map,List.flatMap_cons,List.flatMap_map]
  congr 1
  ·refine List.map_congr_left fun c _=>?_
   cases c<;>rfl
  ·congr 1
   funext t
   rw[List.map_map]
   refine List.map_congr_left fun c _=>?_
   cases c<;>simp
theorem zO (cs:List (List Int)) (t:Nat):((List.range (t+1)).flatMap fun t=>cs.map fun (c:List Int)=>c.getD t 0)=((List.range t).flatMap fun t=>cs.map fun (c:List Int)=>c.getD t 0)++cs.map fun (c:List Int)=>c.getD t 0:=by
 rw[List.range_succ,List.flatMap_append]
 congr 1
 rw[List.flatMap_cons,List.flatMap_nil,List.append_nil]
theorem u6 (cs:List (List Int)): ∀n,(Sound.woven n cs).length=n*cs.length
 |0=>by rw[Nat.zero_mul];rfl
 |n+1=>by
  have h:=u6 cs n
  rw[r6] at h⊢
  rw[zO,List.length_append,h,List.length_map,Nat.add_mul,Nat.one_mul]
theorem tL (F:Sound.Form) (B:Sound.Bytes):Sound.takeFrame F B=(Sound.takeU 16 (Sound.bitsOf B)).then_ fun (x:Nat) (l:Sound.Bits)=>if x≠0x4B57 then .bad else
  (Sound.takeU 20 l).then_ fun (k:Nat) (l:Sound.Bits)=>(Sound.takeU 8 l).then_ fun (n:Nat) (l:Sound.Bits)=>if F.block<n+1 then .bad else
  ((Sound.takeMany (fun (_:List Nat) (l:Sound.Bits)=>Sound.takeU 2 l) (Sound.pairs F) [] l).then_ fun (ms:List Nat) (l:Sound.Bits)=>Sound.takeChannels F (n+1) ms.reverse [] l).then_ fun (cs:List (List Int)) (l:Sound.Bits)=>(lg B l).then_ fun (z:Nat) (l:Sound.Bits)=> .ok ⟨k,n+1,Sound.woven (n+1) cs,z⟩ l:=by
 unfold Sound.takeFrame
 congr 1
 funext x l
 split
 ·rfl
 ·congr 1
  funext k l
  congr 1
  funext n l
  split
  ·rfl
  ·rw[then_assoc]
   congr 1
   funext ms l
   congr 1
   funext cs l
   unfold lg
   rw[then_assoc]
   congr 1
   funext z l
   split
   ·rfl
   ·show ((Sound.takeU 16 l).then_ fun (c:Nat) (l':Sound.Bits)=>if c≠Sound.crc16 (B.take (B.length-l.length/8)) then (.bad:Sound.Got Sound.Frame) else .ok (⟨k,n+1,Sound.woven (n+1) cs,B.length-l.length/8+2⟩:Sound.Frame) l')=_
    rw[then_assoc]
    congr 1
    funext c l'
    split<;>rfl
def MO (K:PySem.W.Frag) (A:aT):Sp:=fun vs H Q E=> ∃(H0:Hp) (R:bF) (f:Addr) (F:Sound.Form),vs= [.ref f, .ref R.r]∧ae H0 H∧cE K H0 R∧fP A.bH H0 f F∧bg A.aQ H R (Sound.bitsOf R.B)∧F.ok=true∧
 bE A H0 R (Sound.takeFrame F R.B) (fun x H'=> ∀o,H0 o=none→Ao A.dC H' o x→Q (.ref o) H') E
theorem iz:aK ["form", "reader", "k", "n", "channels", "numbers", "t", "channel"] ["form", "reader"] (aD yj):=⟨rfl,rfl,rfl,by decide+kernel,rfl,by decide+kernel,by decide+kernel⟩
theorem M7 (T:Txt K mg A):az P w K mg base (aR P w) 12 A.pD A.my ["form", "reader"] (MO K A):=by
 refine T.zd.bN iz (fun vs H Q E h=>?_) (fun cdv Ar outer s H vs Q E hr h=>?_)
 ·obtain ⟨H0,R,f,F,rfl,_⟩:=h
  rfl
 ·obtain ⟨H0,R,f,F,rfl,s0,hI,hF,hS,ao,k⟩:=h
  have hr1':aF 1 _:=hr.mono (by decide)
  have hr2':aF 2 _:=hr.mono (by decide)
  refine ⟨_,ai (bp (bq gF (aP (pv 1) T.bP T.dZ (d6 T) hr1' T.dU .nil aN (aa aq af)) (aV rfl T.NN) (aX _)) (aj (fg rfl rfl T.eX T.d8.exc fq)) bu)
   (ai (aI (i:=2) iz.nd rfl (Or.inl rfl) (aP (pv 1) T.bP T.dZ (d6 T) hr1' T.dU .nil aN (aa aq af)))
   (ai (aI (i:=3) iz.nd rfl (Or.inl rfl) (aw b5 (aP (pv 1) T.bP T.dZ (d6 T) hr1' T.dU .nil aN (aa aq af)) aq))
   (ai (bp (bq d4 (pv 3) (ax (pv 0) rfl) (aX _)) (aj (fg rfl rfl T.eX T.d8.exc fq)) bu)
   (ai (aI (i:=4) iz.nd rfl (Or.inl rfl) (aS (RY T) hr rfl T.LX T.A6.kp T.Gn .nil aN (aa (pv 0) (aa (pv 3) (aa (pv 1) af)))))
   (ai (a8 (aS (Kl T) hr2' rfl T.QX T.CB.kp T.QI .nil aN (aa (pv 1) af)))
   (ai (aI (i:=5) iz.nd rfl (Or.inl rfl) (cg af))
   (ai (cj PassesOwn.leaving rfl (fk rfl T.dQ (aa (pv 3) af)) (bo (i:=6) iz.nd rfl (Or.inr rfl))
    (aj (a8 (gg PySem.F.plainAttrs_list PySem.F.slot_list_extend PySem.F.type_list_extend q0 (pv 5) (aa (fh (own:= [("channel",7)]) rfl iz.nd (dj (pv 4)) (dM (by kernel_rfl)) (fun _ _ _ _ _=>bo (i:=7) iz.nd rfl (Or.inl rfl)) (fun _ _ _ _ _=>dJ) (fun _ _ _ _ _=>cH (Dq (K:=K) rfl) (pv 7) (pv 6) (fun _ _=>rfl))) af)))))
   (aj (aW (fY T.Io (RS T) hr2' rfl T.Ng T.Pa .nil aU (aa (aw jA (ax (pv 1) rfl) aq) (aa (pv 2) (aa (pv 3) (aa (pv 5) af)))))))))))))),?_⟩
  obtain ⟨⟨hc1,hc2⟩,_,⟨hb1,hb2⟩,_⟩:=ib ao
  have e62:(2:Int)^62=4611686018427387904:=by decide
  obtain ⟨df,hf⟩:=id hF
  obtain ⟨i0,hx⟩:=hS.obj
  obtain ⟨sh,hIh⟩:=hI.aB s0
  rw[tL] at k
  refine (aO rfl hx rfl ⟨Wg.aB [R.r] H,bG R 16 _ ⟨rfl,bQ _ _,hIh,hS,by decide,k.cT sh fun x l1 H1 _ s1 st1 k1=>?_⟩⟩)
  have s01:=sh.trans s1
  refine ⟨rfl,_,rfl,?_⟩
  refine bZ (fun hc=>?_) fun hc=>?_
  ·have hc:x≠0x4B57:=uT hc
   rw[if_pos hc] at k1
   exact k1 H1 s01
  have hc:x=0x4B57:=uV hc
  rw[if_neg (fun q=>q hc)] at k1
  obtain ⟨i1,hx1⟩:=st1.obj
  obtain ⟨sh1,hIh1⟩:=hI.aB s01
  refine (aO rfl hx1 rfl ⟨Wg.aB [R.r] H1,bG R 20 _ ⟨rfl,bQ _ _,hIh1,st1,by decide,k1.cT sh1 fun kk l2 H2 _ s2 st2 k2=>?_⟩⟩)
  have s02:=sh1.trans s2
  obtain ⟨i2,hx2⟩:=st2.obj
  obtain ⟨sh2,hIh2⟩:=hI.aB s02
  refine (aO rfl hx2 rfl ⟨Wg.aB [R.r] H2,bG R 8 _ ⟨rfl,bQ _ _,hIh2,st2,by decide,k2.cT sh2 fun n l3 H3 e3 s3 st3 k3=>?_⟩⟩)
  have s03:=sh2.trans s3
  have hn8:n<256:=kI e3
  refine (ag _ _ ⟨rfl,rfl,?_⟩)
  dsimp only
  rw[show ((n:Nat):Int)+1=((n+1:Nat):Int) by omega]
  have hf3:=s03 _ _ hf
  refine ⟨_,rfl,aA rfl hf3 T.b4 T.jz rfl (ag _ _ ⟨rfl,rfl,_,rfl,?_⟩)⟩
  refine bZ (fun hcb=>?_) fun hcb=>?_
  ·have hcb:((F.block:Nat):Int)<((n+1:Nat):Int):=of_decide_eq_true hcb
   rw[if_pos (by omega)] at k3
   exact k3 H3 s03
  have hcb: ¬((F.block:Nat):Int)<((n+1:Nat):Int):=fun q=>hcb (decide_eq_true q)
  rw[if_neg (by omega)] at k3
  refine ⟨_,rfl,_,rfl,_,rfl,rg H0 R f F (n+1) l3 ⟨rfl,s03,hI,hF,st3,⟨ao,by omega⟩,k3.seq fun cs l4 H4 e4 s4 st4 k4 C4 hC40 hCh=>?_⟩⟩
  have hcs:(∀c∈cs,c.length=n+1)∧cs.length≤10:=by
   obtain ⟨ms,l5,e5,e6⟩:=b7 e4
   have h1:=fU e5
   obtain ⟨h2,h3⟩:=xn e6 (fun c hc=>by cases hc)
   rw[List.length_reverse,h1] at h3
   unfold Sound.pairs at h3
   have h3:cs.length≤0+2*(0+F.channels/2)+1:=h3
   exact ⟨h2,by omega⟩
  obtain ⟨sh4,hIh4⟩:=hI.aB s4
  refine ⟨_,rfl,Wg.aB [R.r] H4,ag R l4 ⟨rfl,bQ _ _,hIh4,st4,k4.cT sh4 fun z l5 H5 _ s5 st5 k5 hx5=>?_⟩⟩
  have hCh5:=hCh.aB st4 s5
  have s05:=sh4.trans s5
  refine ⟨by rw[sizeLine_eq];show 0≤_;omega,fun D hD=>?_⟩
  have s6:=aL (o:= .lst []) hD
  have hD0:H0 D=none:=s05.none hD
  refine ⟨_,rfl,((n+1:Nat):Int),rfl,by omega,by omega,?_⟩
  rw[Int.toNat_natCast]
  have hx6:=s6 _ _ hx5
  have hCh6:=hCh5.same s6
  have st6:=st5.same s6
  have s06:=s05.trans s6
  have nDC:C4≠D:=fun q=>by
   obtain ⟨as,h1,_⟩:=hCh5
   rw[q,hD] at h1;cases h1
  have nAs: ∀as:List Addr,H5 C4=some (.lst (as.map V.ref))→True:=fun _ _=>trivial
  refine fE (lo:=0) (n:=n+1) (fun t σ H'=>(ae H0 H'∧bg A.aQ H' R l5∧H' R.r=some (.ins A.aQ R.dr (fJ (.ref R.q) (.int ((8*z:Nat):Int))))∧ae H5 (Wg.aB [D] H')∧H' D=some (.lst ((Sound.woven t cs).map V.int)))∧ ∃v6 v7:Option V,σ= [some (.ref f),some (.ref R.r),some (.int (kk:Nat)),some (.int ((n+1:Nat):Int)),some (.ref C4),some (.ref D),v6,v7])
   ⟨⟨s06,st6,hx6,s6.aB (fun b hb=>by rw[List.mem_singleton.mp hb];exact hD),ak⟩,none,none,rfl⟩ ?_ ?_
  ·rintro t σ H7 ht ⟨⟨s7,st7,hx7,sh7,hD7⟩,v6,v7,rfl⟩
   have hCh7:dS H7 C4 cs:=(hCh5.same sh7).same (bQ _ _)
   obtain ⟨as,ha1,ha2,ha3⟩:=id hCh7
   have hwl:=u6 cs t
   have hwl2:t*cs.length≤256*10:=Nat.mul_le_mul (by omega) hcs.2
   refine ⟨_,rfl, .inl ⟨rfl,_,ah.of hD7⟩,_,rfl,C4,rfl,⟨_,ah.of ha1⟩,fun D2 hD2=>?_⟩
   refine fc (J:=d9 K C4) hD2 cs.length (by rw[sizeLine_eq];omega) (fun i=> .int ((cs.getD i []).getD t 0)) (fun i Hh hi t1=>?_) (fun Hh t1=>⟨_,t1.seq (ah.of ha1),by rw[List.length_map];omega⟩) ?_ ?_
   ·obtain ⟨a,h1,_⟩:=qN (as:=as) (i:=i) (by omega)
    exact ⟨_,_,t1.seq (ah.of ha1),h1⟩
   ·rintro i Hh y H8 hi t1 ⟨rfl,hy⟩ C hC
    obtain ⟨a,rfl,hai⟩:=sI (hy _ (t1.seq (ah.of ha1)))
    have hci:(cs.getD i []).length=n+1:=hcs.1 _ (by rw[List.getD_eq_getElem?_getD,List.getElem?_eq_getElem hi];exact List.getElem_mem hi)
    refine ⟨rfl,_,rfl,_,rfl,aC a _ _ _ ⟨rfl,rfl,ah.of (t1 _ _ (ha3 i a hai).2),?_,hC _ (ae.refl _)⟩⟩
    rw[Int.zero_add]
    exact cv (kT (by omega))
   ·intro H8 s8 hx8
    have e8:(List.range cs.length).map (fun i=>V.int ((cs.getD i []).getD t 0))=(cs.map fun c=>c.getD t 0).map V.int:=by
     rw[List.map_map]
     refine List.ext_getElem (by simp) fun i h1 h2=>?_
     simp at h2
     simp [List.getD_eq_getElem?_getD,List.getElem?_eq_getElem h2]
    rw[e8] at hx8
    have hD8:=s8 _ _ hD7
    refine (aC D D2 _ _ ⟨rfl,rfl,hD8,hx8,(by rw[List.length_map,List.length_map,List.length_map,hwl,sizeLine_eq];omega),⟨⟨fK (s7.trans s8) hD0,?_,?_,?_,?_⟩,some (.int (0+(t:Nat))),v7,rfl⟩⟩)
    ·obtain ⟨j,ej,hj,hxr⟩:=st7
     exact ⟨j,ej,hj,by rw[aG (fun q=>by rw[q,hD7] at hxr;cases hxr)];exact s8 _ _ hxr⟩
    ·rw[aG (fun q=>by rw[q,hD7] at hx7;cases hx7)];exact s8 _ _ hx7
    ·intro b o e
     have e7:=sh7 b o e
     have nb:b≠D:=fun q=>by rw[q,gw (by simp)] at e7;cases e7
     rw[cR (by simpa using nb),aG nb]
     exact s8 _ _ (bQ _ _ _ _ e7)
    ·rw[ak,r6,r6,zO,List.map_append]
  ·rintro σ H7 ⟨⟨s7,st7,hx7,sh7,hD7⟩,v6,v7,rfl⟩
   refine (aA rfl hx7 T.bP T.jJ rfl (ag _ _ ⟨rfl,rfl,⟨by decide,by decide⟩,_,rfl,_,rfl,_,rfl,fun o dx ho hdx hne=>(rg o dx _ _ _ _ ⟨rfl,ak,rfl,?_⟩)⟩))
   rw[iv]
   have s8:ae H7 (upd (upd H7 dx (.own o)) o (.ins A.dC dx (vx (.int (((8*z:Nat):Int)/8)) (.int (kk:Nat)) (.int ((n+1:Nat):Int)) (.ref D)))):=eK ho hdx
   refine k5 _ (s7.trans s8) (st7.same s8) o (s7.none ho) ⟨dx,D,?_,s8 _ _ hD7⟩
   rw[ak]
   congr 5
   show ((8*z:Nat):Int)/8=((z:Nat):Int)
   omega
theorem yi {X:Cx} {K:PySem.W.Frag} (h:X.K=K):v8 X (zf K):=by subst h;exact fu
theorem K5 {F:Sound.Form} {B:Sound.Bytes} {x:Sound.Frame} {l:Sound.Bits} (ao:F.ok=true) (h:Sound.takeFrame F B= .ok x l):x.s.length≤2560:=by
 rw[tL] at h
 obtain ⟨m,l1,_,h⟩:=b7 h
 split at h
 ·cases h
 obtain ⟨k,l2,_,h⟩:=b7 h
 obtain ⟨n,l3,e3,h⟩:=b7 h
 have hn8:n<256:=kI e3
 split at h
 ·cases h
 obtain ⟨cs,l4,e4,h⟩:=b7 h
 obtain ⟨z,l5,_,h⟩:=b7 h
 cases h
 obtain ⟨ms,l6,e5,e6⟩:=b7 e4
 have h1:=fU e5
 obtain ⟨h2,h3⟩:=xn e6 (fun c hc=>by cases hc)
 rw[List.length_reverse,h1] at h3
 unfold Sound.pairs at h3
 have h3:cs.length≤0+2*(0+F.channels/2)+1:=h3
 obtain ⟨⟨hc1,hc2⟩,_⟩:=ib ao
 show (Sound.woven (n+1) cs).length≤_
 rw[u6]
 exact Nat.mul_le_mul (n₁:=n+1) (n₂:=256) (m₁:=cs.length) (m₂:=10) (by omega) (by omega)
theorem sk {F:Sound.Form} {B:Sound.Bytes} {x:Sound.Frame} (ao:F.ok=true) (h:Sound.unframe F B= .frame x):x.s.length≤2560:=by
 unfold Sound.unframe at h
 split at h
 ·rename_i e;cases h;exact K5 ao e
 ·cases h
 ·split at h<;>cases h
def Bw (A:aT) (H:Hp) (r:Sound.Read) (Q:VK) (E:XK):Prop:=match r with
 | .frame x=> ∀o H',H o=none→ae H H'→Ao A.dC H' o x→Q (.ref o) H'
 | .bad=> ∀H',ae H H'→E (.ref A.fz) none H'
 | .short=> ∀H',ae H H'→E (.ref A.iN) none H'
def Jx (K:PySem.W.Frag) (A:aT):Sp:=fun vs H Q E=> ∃(f q:Addr) (F:Sound.Form) (B:Sound.Bytes),vs= [.ref f, .ref q]∧fP A.bH H f F∧ah K H q (vN (bn B))∧F.ok=true∧Bw A H (Sound.unframe F B) Q E
theorem K3:aK ["form", "data"] ["form", "data"] (aD CV):=⟨rfl,rfl,rfl,by decide+kernel,rfl,by decide+kernel,by decide+kernel⟩
theorem M9 (T:Txt K mg A):az P w K mg base (aR P w) 13 A.ng A.lD ["form", "data"] (Jx K A):=by
 refine T.zJ.bN K3 (fun vs H Q E h=>?_) (fun cdv Ar outer s H vs Q E hr h=>?_)
 ·obtain ⟨f,q,F,B,rfl,_⟩:=h
  rfl
 ·obtain ⟨f,q,F,B,rfl,hF,hq,ao,k⟩:=h
  have hr2':aF 2 _:=hr.mono (by decide)
  refine ⟨_,aj (xH rfl rfl rfl (fun E pn xe hp ho=>aj (aW (EN (M7 T) hr rfl T.LI T.zd.kp T.OE .nil hp (aa (pv 0) (aa (fY T.O8 (OO T) hr2' rfl T.IU T.G2 .nil aU (aa (eZ (yi (K:=K) rfl) (pv 1) qe (cQ (aV rfl T.vi))) af)) af)))))
   (RT rfl jk T.rq rfl T.rh (fun x ps n hpc=>ai (bp (bq x6 (cq (zo (K:=K) rfl) (by rfl) T.cW PySem.boot_len (aa (pv 1) af)) (aV rfl T.vi) (aX _)) (aj (EM (sP hpc) rfl T.eX T.d8.exc (Bk hr.hd rfl rfl rfl jk))) bu)
    (aj (EM (sP hpc) rfl T.rh T.rq.exc (Bk hr.hd rfl rfl rfl jk)))))),?_⟩
  refine ⟨_,rfl,_,rfl,_,rfl,ag q _ ⟨rfl,hq,fun p hp=>?_⟩⟩
  have e0:dE (vN (bn B)) none (some 4096)=vN (bn (B.take 4096)):=by
   rw[show (4096:Int)=((4096:Nat):Int) from rfl,tP,fV]
  rw[e0]
  have s1:=aL (o:= .lst (vN (bn (B.take 4096)))) hp
  have hx1:upd H p (.lst (vN (bn (B.take 4096)))) p=some (.lst (vN (bn (B.take 4096)))):=ak
  generalize upd H p (.lst (vN (bn (B.take 4096))))=H1 at*
  intro o dx ho hdx hne
  refine ⟨o,dx,_,rfl,ak,rfl,?_⟩
  rw[iv]
  have s2:ae H1 (upd (upd H1 dx (.own o)) o (.ins A.aQ dx (fJ (.ref p) (.int 0)))):=eK ho hdx
  refine ⟨H1,⟨o,dx,p,B.take 4096⟩,ag f F ⟨rfl,s2,⟨ah.of hx1,ho,by rw[List.length_take];omega⟩,hF.same s1,⟨0,rfl,by omega,ak⟩,ao,?_⟩⟩
  unfold Sound.unframe at k
  show bE A H1 _ (Sound.takeFrame F (B.take Sound.LONGEST)) _ _
  cases e:Sound.takeFrame F (B.take Sound.LONGEST) with
  |ok x l=>
   rw[e] at k
   exact fun H' s3 _ o' ho' hI=>k o' H' (s1.none ho') (s1.trans s3) hI
  |bad=>
   rw[e] at k
   exact fun H' s3=> .inr ⟨⟨_,rfl,T.d8⟩,fun z=>T.zZ.symm (by injection z),k H' (s1.trans s3)⟩
  |short=>
   rw[e] at k
   dsimp only at k
   refine fun H' s3=> .inl ⟨rfl,?_⟩
   have hq':=(s1.trans s3).seq hq
   refine ⟨_,rfl,ag q _ ⟨rfl, .inl hq',ag _ _ ⟨rfl,rfl,_,rfl,?_⟩⟩⟩
   rw[aZ,b6]
   refine bZ (fun hc=>?_) fun hc=>?_
   ·have hc:(4096:Int)≤((B.length:Nat):Int):=of_decide_eq_true hc
    rw[if_pos (show Sound.LONGEST≤B.length by show 4096≤_;omega)] at k
    exact k H' (s1.trans s3)
   ·have hc: ¬(4096:Int)≤((B.length:Nat):Int):=fun q=>hc (decide_eq_true q)
    rw[if_neg (show¬Sound.LONGEST≤B.length by show¬4096≤_;omega)] at k
    exact k H' (s1.trans s3)
def bW (l:List Int):Sound.Bytes:=SoNeutral.bytes l
theorem RJ {l:List Int} (h: ∀x∈l,0≤x∧x≤255):l.map V.int=vN (bn (bW l)):=by
 unfold vN bn bW SoNeutral.bytes
 rw[List.map_map,List.map_map]
 refine List.map_congr_left fun x hx=>?_
 obtain ⟨h1,h2⟩:=h x hx
 show V.int x=V.int (((UInt8.ofNat x.toNat).toNat:Nat):Int)
 rw[UInt8.toNat_ofNat',Nat.mod_eq_of_lt (by omega)]
 congr 1;omega
theorem Es (l:List Int):(bW l).length=l.length:=by unfold bW SoNeutral.bytes;rw[List.length_map]
theorem Kj {l:List Int} (hl:l.length≤16384):Sound.tooLong (bW l)=false:=by
 unfold Sound.tooLong Sound.FILE
 rw[Es];exact decide_eq_false (by omega)
structure Rg where
 r:Addr
 dr:Addr
 q:Addr
 B:Sound.Bytes
def bC (d p f o:V):List (Str×V):= [("data",d),("place",p),("fault",f),("fault_place",o)]
theorem Rt (d p f o p':V):bz "place" p' (bC d p f o)=bC d p' f o:=by
 have n1: ¬("data" :Str)= "place" :=by decide
 simp only [bC,bz,if_neg n1];rfl
theorem BM (d p f o f':V):bz "fault" f' (bC d p f o)=bC d p f' o:=by
 have n1: ¬("data" :Str)= "fault" :=by decide
 have n2: ¬("place" :Str)= "fault" :=by decide
 simp only [bC,bz,if_neg n1,if_neg n2];rfl
theorem Ei (d p f o o':V):bz "fault_place" o' (bC d p f o)=bC d p f o':=by
 have n1: ¬("data" :Str)= "fault_place" :=by decide
 have n2: ¬("place" :Str)= "fault_place" :=by decide
 have n3: ¬("fault" :Str)= "fault_place" :=by decide
 simp only [bC,bz,if_neg n1,if_neg n2,if_neg n3];rfl
def aJ (C:Addr) (H:Hp) (R:Rg) (pl:Nat):Prop:=H R.r=some (.ins C R.dr (bC (.ref R.q) (.int (pl:Nat)) (.int 0) (.int (R.B.length:Nat))))
def dn (C:Addr) (H:Hp) (R:Rg) (k p:Nat):Prop:= ∃pl:V,H R.r=some (.ins C R.dr (bC (.ref R.q) pl (.int (k:Nat)) (.int (p:Nat))))
def dq (K:PySem.W.Frag) (H:Hp) (R:Rg):Prop:=ah K (hide R.r H) R.q (vN (bn R.B))∧R.B.length≤16384
theorem sr {r:Addr} {H H':Hp} (s:ae (hide r H) H'):ae (hide r H) (hide r H'):=fun b o e=>by
 rw[hide_ne (cu e).2];exact s b o e
theorem bh {r:Addr} {H H' H'':Hp} (s:ae (hide r H) H') (s':ae (hide r H') H''):ae (hide r H) H'':=(sr s).trans s'
theorem j7 {r:Addr} {H H':Hp} (s:ae H H'):ae (hide r H) H':=(dI r H).trans s
theorem cO {r:Addr} {H:Hp} {o:HO}:ae (hide r H) (upd H r o):=fun b u e=>by
 obtain ⟨e1,e2⟩:=cu e
 rw[aG e2];exact e1
theorem dq.go {H H':Hp} {R:Rg} (h:dq K H R) (s:ae (hide R.r H) H'):dq K H' R:=⟨(sr s).seq h.1,h.2⟩
theorem dq.sq {H:Hp} {R:Rg} (h:dq K H R):ah K H R.q (vN (bn R.B)):=(dI _ _).seq h.1
def cJ (A:aT) (H:Hp) (R:Rg) {α:Type} (o:Except (Nat×Nat) (α×Nat)) (Q:α→Hp→Prop) (E:XK):Prop:=match o with
 | .ok (a,pl)=> ∀H',ae (hide R.r H) H'→aJ A.ay H' R pl→Q a H'
 | .error (k,p)=> ∀H',ae (hide R.r H) H'→dn A.ay H' R k p→E (.ref A.bT) none H'
def dD (B:Sound.Bytes) (pl n:Nat):Except (Nat×Nat) (Sound.Bytes×Nat):=if B.length<pl+n then .error (1,B.length) else .ok ((B.drop pl).take n,pl+n)
def qj (B:Sound.Bytes) (begin_ pl f:Nat):Except (Nat×Nat) (Unit×Nat):=if B.length<pl+4 then .error (1,B.length) else if Sound.fromHigh ((B.drop pl).take 4)≠Sound.crc32 ((B.drop begin_).take (pl-begin_)) then .error (f,pl) else .ok ((),pl+4)
def Fn (K:PySem.W.Frag) (C:Addr):Sp:=fun vs H Q _=> ∃(p dx q:Addr) (xs:List V),vs= [.ref p, .ref q]∧H p=some (.ins C dx [])∧ah K H q xs∧Q .au (upd H p (.ins C dx (bC (.ref q) (.int 0) (.int 0) (.int (xs.length:Nat)))))
theorem R0:aK ["self", "data"] ["self", "data"] (aD CO):=⟨rfl,rfl,rfl,by decide+kernel,rfl,by decide+kernel,by decide+kernel⟩
theorem Af {H:Hp} {p q C dx:Addr} {fs fs':List (Str×V)} {xs:List V} (hp:H p=some (.ins C dx fs)) (hq:ah K H q xs):ah K (upd H p (.ins C dx fs')) q xs:=by
 rcases hq with (h|⟨ob,h⟩)|h
 ·exact .inl (.inl (by rw[aG (rp h hp (by intro e;cases e))];exact h))
 ·exact .inl (.inr ⟨ob,by rw[aG (rp h hp (by intro e;cases e))];exact h⟩)
 ·exact .inr h
theorem GX (T:Txt K mg A):az P w K mg base ba 1 A.qa A.nU ["self", "data"] (Fn K A.ay):=by
 refine T.Qv.ok R0 (fun vs H Q E h=>?_) (fun cdv Ar outer s H vs Q E hr h=>?_)
 ·obtain ⟨p,dx,q,xs,rfl,_⟩:=h
  rfl
 ·obtain ⟨p,dx,q,xs,rfl,hp,hq,k⟩:=h
  refine ⟨_,ai (bc (pv 0) (pv 1) rfl) (ai (bc (pv 0) aq rfl) (ai (bc (pv 0) aq rfl) (aj (bc (pv 0) (cq di (by rfl) T.cW PySem.boot_len (aa (pv 1) af)) rfl)))),?_⟩
  refine ⟨_,rfl,_,rfl,p,A.ay,dx, [],rfl,hp,T.aM,T.fW,(by show 0<1000;decide),?_⟩
  refine ⟨_,rfl,aC p A.ay dx _ ⟨rfl,ak,T.aM,T.cG,(by show 1<1000;decide),?_⟩⟩
  rw[cB]
  refine ⟨_,rfl,aC p A.ay dx _ ⟨rfl,ak,T.aM,T.sX,(by show 2<1000;decide),?_⟩⟩
  rw[cB]
  refine ⟨_,rfl,ag q xs ⟨rfl, .inl (Af hp hq),_,rfl,aC p A.ay dx _ ⟨rfl,ak,T.aM,T.sS,(by show 3<1000;decide),?_⟩⟩⟩
  rw[cB]
  exact k
def yE (A:aT):Sp:=fun vs H _ E=> ∃(p dx:Addr) (d pl f0 o0:V) (k q:Nat),vs= [.ref p, .int (k:Nat), .int (q:Nat)]∧H p=some (.ins A.ay dx (bC d pl f0 o0))∧E (.ref A.bT) none (upd H p (.ins A.ay dx (bC d pl (.int (k:Nat)) (.int (q:Nat)))))
theorem BH:aK ["self", "fault", "place"] ["self", "fault", "place"] (aD AW):=⟨rfl,rfl,rfl,by decide+kernel,rfl,by decide+kernel,by decide+kernel⟩
theorem dR (T:Txt K mg A):az P w K mg base (aR P w) 1 A.kK A.kn ["self", "fault", "place"] (yE A):=by
 refine T.A1.bN BH (fun vs H Q E h=>?_) (fun cdv Ar outer s H vs Q E hr h=>?_)
 ·obtain ⟨p,dx,d,pl,f0,o0,k,q,rfl,_⟩:=h
  rfl
 ·obtain ⟨p,dx,d,pl,f0,o0,k,q,rfl,hp,e⟩:=h
  refine ⟨_,ai (bc (pv 0) (pv 1) rfl) (ai (bc (pv 0) (pv 2) rfl) (aj (fg rfl rfl T.vH T.xa.exc fq))),?_⟩
  refine ⟨_,rfl,_,rfl,aC p A.ay dx _ ⟨rfl,hp,T.aM,T.sX,(by show 4<1000;decide),?_⟩⟩
  rw[BM]
  refine ⟨_,rfl,_,rfl,aC p A.ay dx _ ⟨rfl,ak,T.aM,T.sS,(by show 4<1000;decide),?_⟩⟩
  rw[cB,Ei]
  exact e
def B6 (K:PySem.W.Frag) (A:aT):Sp:=fun vs H _ E=> ∃(p dx q:Addr) (pl f0 o0:V) (xs:List V),vs= [.ref p]∧H p=some (.ins A.ay dx (bC (.ref q) pl f0 o0))∧ah K H q xs∧E (.ref A.bT) none (upd H p (.ins A.ay dx (bC (.ref q) pl (.int ((1:Nat):Int)) (.int (xs.length:Nat)))))
theorem Ad:aK ["self"] ["self"] (aD Br):=⟨rfl,rfl,rfl,by decide+kernel,rfl,by decide+kernel,by decide+kernel⟩
theorem Nh (T:Txt K mg A):az P w K mg base (aR P w) 2 A.ko A.kL ["self"] (B6 K A):=by
 refine T.C0.bN Ad (fun vs H Q E h=>?_) (fun cdv Ar outer s H vs Q E hr h=>?_)
 ·obtain ⟨p,dx,q,pl,f0,o0,xs,rfl,_⟩:=h
  rfl
 ·obtain ⟨p,dx,q,pl,f0,o0,xs,rfl,hp,hq,e⟩:=h
  refine ⟨_,aj (a8 (aP (pv 0) T.aM T.dv (dR T) hr T.dw .nil aN (aa (aV rfl T.AV) (aa (cq di (by rfl) T.cW PySem.boot_len (aa (ax (pv 0) rfl) af)) af)))),?_⟩
  exact (aO rfl hp rfl (aA rfl hp T.aM T.fW rfl (ag q xs ⟨rfl, .inl hq,p,dx,_,_,_,_,1,xs.length,rfl,hp,e⟩)))
def NW (K:PySem.W.Frag) (A:aT):Sp:=fun vs H Q E=> ∃(R:Rg) (pl n:Nat),vs= [.ref R.r, .int (n:Nat)]∧dq K H R∧aJ A.ay H R pl∧cJ A H R (dD R.B pl n) (fun b H'=> ∀D,H D=none→H' D=some (.lst (vN (bn b)))→Q (.ref D) H') E
theorem zR:aK ["self", "count", "begin"] ["self", "count"] (aD DG):=⟨rfl,rfl,rfl,by decide+kernel,rfl,by decide+kernel,by decide+kernel⟩
theorem iH (T:Txt K mg A):az P w K mg base (aR P w) 3 A.pB A.mi ["self", "count"] (NW K A):=by
 refine T.O3.bN zR (fun vs H Q E h=>?_) (fun cdv Ar outer s H vs Q E hr h=>?_)
 ·obtain ⟨R,pl,n,rfl,_⟩:=h
  rfl
 ·obtain ⟨R,pl,n,rfl,hI,hx,k⟩:=h
  refine ⟨_,ai (aI (i:=2) zR.nd rfl (Or.inl rfl) (ax (pv 0) rfl))
   (ai (bp (bq d4 (aw b5 (pv 2) (pv 1)) (cq di (by rfl) T.cW PySem.boot_len (aa (ax (pv 0) rfl) af)) (aX _)) (aj (a8 (Bj (pv 0) T.aM T.C9 (Nh T) hr T.AA .nil aN))) bu)
   (ai (bc (pv 0) (aw b5 (pv 2) (pv 1)) rfl)
   (aj (aW (eZ fu (ax (pv 0) rfl) (cQ (pv 2)) (cQ (ax (pv 0) rfl))))))),?_⟩
  have hq:=hI.sq
  unfold aJ at hx
  refine (aA rfl hx T.aM T.cG rfl ?_)
  refine ⟨_,rfl,_,rfl,ag _ _ ⟨rfl,rfl,aA rfl hx T.aM T.fW rfl (ag R.q _ ⟨rfl, .inl hq,ag _ _ ⟨rfl,rfl,_,rfl,?_⟩⟩)⟩⟩
  rw[aZ,b6]
  dsimp only
  rw[show ((pl:Nat):Int)+((n:Nat):Int)=((pl+n:Nat):Int) by omega]
  unfold dD cJ at k
  refine bZ (fun c=>?_) fun c=>?_
  ·have c:((R.B.length:Nat):Int)<((pl+n:Nat):Int):=of_decide_eq_true c
   rw[if_pos (by omega)] at k
   refine (aO rfl hx rfl (uo R.r R.dr R.q _ _ _ _ ⟨rfl,hx,hq,k _ cO ⟨.int (pl:Nat),?_⟩⟩))
   rw[ak,aZ,b6]
  ·have c: ¬((R.B.length:Nat):Int)<((pl+n:Nat):Int):=fun z=>c (decide_eq_true z)
   rw[if_neg (by omega)] at k
   refine ⟨_,rfl,_,rfl,ag _ _ ⟨rfl,rfl,_,rfl,aC R.r A.ay R.dr _ ⟨rfl,hx,T.aM,T.cG,(by show 4<1000;decide),?_⟩⟩⟩
   dsimp only
   rw[Rt,show ((pl:Nat):Int)+((n:Nat):Int)=((pl+n:Nat):Int) by omega]
   refine (aA rfl ak T.aM T.fW rfl ⟨_,rfl,_,rfl,aA rfl ak T.aM T.cG rfl ⟨_,rfl,ag R.q _ ⟨rfl,Af hx hq,fun D hD=>?_⟩⟩⟩)
   have hDr:D≠R.r:=fun z=>by rw[z,ak] at hD;cases hD
   have hD0:H D=none:=by rw[aG hDr] at hD;exact hD
   have s1:ae (hide R.r H) (upd (upd H R.r (.ins A.ay R.dr (bC (.ref R.q) (.int ((pl+n:Nat):Int)) (.int 0) (.int (R.B.length:Nat))))) D (.lst (dE (vN (bn R.B)) (some ((pl:Nat):Int)) (some ((pl+n:Nat):Int))))):=cO.trans (aL hD)
   refine k _ s1 ?_ D hD0 ?_
   ·unfold aJ
    rw[aG (Ne.symm hDr),ak]
   ·rw[ak,jo,show pl+n-pl=n by omega,iP,fV]
def FJ (K:PySem.W.Frag) (A:aT):Sp:=fun vs H Q E=> ∃(R:Rg) (pl n:Nat),vs= [.ref R.r, .int (n:Nat)]∧dq K H R∧aJ A.ay H R pl∧n≤1000∧cJ A H R (dD R.B pl n) (fun b H'=>Q (.int (Sound.fromHigh b:Nat)) H') E
theorem Kr:aK ["self", "count"] ["self", "count"] (aD ym):=⟨rfl,rfl,rfl,by decide+kernel,rfl,by decide+kernel,by decide+kernel⟩
theorem kX (T:Txt K mg A):az P w K mg base (aR P w) 4 A.p9 A.oM ["self", "count"] (FJ K A):=by
 refine T.PL.bN Kr (fun vs H Q E h=>?_) (fun cdv Ar outer s H vs Q E hr h=>?_)
 ·obtain ⟨R,pl,n,rfl,_⟩:=h
  rfl
 ·obtain ⟨R,pl,n,rfl,hI,hx,hn,k⟩:=h
  have hr1':aF 1 _:=hr.mono (by decide)
  refine ⟨_,aj (aW (aS (rf T) hr1' rfl T.rl T.pJ.kp T.rC .nil aU (aa (aP (pv 0) T.aM T.iJ (iH T) hr T.iE .nil aN (aa (pv 1) af)) af))),?_⟩
  refine (aO rfl hx rfl ⟨_,rfl,bG R pl n ⟨rfl,hI,hx,?_⟩⟩)
  unfold cJ dD at k⊢
  by_cases c:R.B.length<pl+n
  ·rw[if_pos c] at k⊢
   exact k
  ·rw[if_neg c] at k⊢
   dsimp only at k⊢
   intro H' s' hS D hD hxD
   refine (ag D _ ⟨rfl,ah.of hxD,(by rw[b6,List.length_take];omega),fv _,?_⟩)
   have e:bL (bn ((R.B.drop pl).take n))=Sound.fromHigh ((R.B.drop pl).take n):=(pF _).symm
   rw[e]
   exact k H' s' hS
def LP (K:PySem.W.Frag) (A:aT):Sp:=fun vs H Q E=> ∃(R:Rg) (pl b f:Nat),vs= [.ref R.r, .int (b:Nat), .int (f:Nat)]∧dq K H R∧aJ A.ay H R pl∧cJ A H R (qj R.B b pl f) (fun _ H'=>Q .au H') E
theorem DF:aK ["self", "begin", "fault", "place"] ["self", "begin", "fault"] (aD zp):=⟨rfl,rfl,rfl,by decide+kernel,rfl,by decide+kernel,by decide+kernel⟩
theorem ud (T:Txt K mg A):az P w K mg base (aR P w) 5 A.m8 A.mP ["self", "begin", "fault"] (LP K A):=by
 refine T.FK.bN DF (fun vs H Q E h=>?_) (fun cdv Ar outer s H vs Q E hr h=>?_)
 ·obtain ⟨R,pl,b,f,rfl,_⟩:=h
  rfl
 ·obtain ⟨R,pl,b,f,rfl,hI,hx,k⟩:=h
  have hr1':aF 1 _:=hr.mono (by decide)
  refine ⟨_,ai (aI (i:=3) DF.nd rfl (Or.inl rfl) (ax (pv 0) rfl))
   (aj (bp (bq gF (aP (pv 0) T.aM T.kh (kX T) hr T.lq .nil aN (aa (aV rfl T.sJ) af)) (aS (xr T) hr1' rfl T.wq T.tU.kp T.wy .nil aU (aa (eZ fu (ax (pv 0) rfl) (cQ (pv 1)) (cQ (pv 3))) af)) (aX _))
    (aj (a8 (aP (pv 0) T.aM T.dv (dR T) hr1' T.dw .nil aN (aa (pv 2) (aa (pv 3) af))))) bu)),?_⟩
  have hx':=hx
  unfold aJ at hx'
  refine (aA rfl hx' T.aM T.cG rfl ?_)
  refine (aO rfl hx' rfl (bG R pl 4 ⟨rfl,hI,hx,by decide,?_⟩))
  unfold cJ qj at k
  unfold cJ dD
  by_cases c:R.B.length<pl+4
  ·rw[if_pos c] at k⊢
   exact k
  ·rw[if_neg c] at k⊢
   dsimp only
   intro H1 s1 hS
   have hS':=hS
   unfold aJ at hS'
   refine (aA rfl hS' T.aM T.fW rfl ⟨_,rfl,_,rfl,_,rfl,_,rfl,ag R.q _ ⟨rfl,(hI.go s1).sq,fun p hp=>?_⟩⟩)
   rw[jo,iP,fV]
   have s2:=aL (o:= .lst (vN (bn ((R.B.drop b).take (pl-b))))) hp
   have hS2:=s2 _ _ hS'
   refine (ag p _ ⟨rfl,ah.of ak,fv _,rfl,_,rfl,?_⟩)
   have ec:jS (bn ((R.B.drop b).take (pl-b)))=Sound.crc32 ((R.B.drop b).take (pl-b)):=wF _
   rw[ec]
   generalize upd H1 p (.lst (vN (bn ((R.B.drop b).take (pl-b)))))=H2 at*
   by_cases c2:Sound.fromHigh ((R.B.drop pl).take 4)=Sound.crc32 ((R.B.drop b).take (pl-b))
   ·rw[decide_eq_true (by rw[c2])]
    rw[if_neg (fun z=>z c2)] at k
    exact bB (k H2 (s1.trans s2) hS2)
   ·rw[decide_eq_false (fun z=>c2 (by have:=V.int.inj z;omega))]
    rw[if_pos c2] at k
    refine bt (aO rfl hS2 rfl ⟨_,rfl,_,rfl,dF R.r R.dr _ _ _ _ f pl ⟨rfl,hS2,k _ (bh (s1.trans s2) cO) ⟨_,ak⟩⟩⟩)
def kJ (a b:V):List (Str×V):= [("key",a),("value",b)]
def MY (C:Addr):Sp:=fun vs H Q _=> ∃(p dx:Addr) (a b:V),vs= [.ref p,a,b]∧H p=some (.ins C dx [])∧Q .au (upd H p (.ins C dx (kJ a b)))
theorem Pb:aK ["self", "key", "value"] ["self", "key", "value"] (aD Bu):=⟨rfl,rfl,rfl,by decide+kernel,rfl,by decide+kernel,by decide+kernel⟩
theorem KA (T:Txt K mg A):az P w K mg base ba 1 A.qu A.nW ["self", "key", "value"] (MY A.bU):=by
 refine T.Mt.ok Pb (fun vs H Q E h=>?_) (fun cdv Ar outer s H vs Q E hr h=>?_)
 ·obtain ⟨p,dx,a,b,rfl,_⟩:=h
  rfl
 ·obtain ⟨p,dx,a,b,rfl,hp,k⟩:=h
  refine ⟨_,ai (bc (pv 0) (pv 1) rfl) (aj (bc (pv 0) (pv 2) rfl)),?_⟩
  refine ⟨_,rfl,_,rfl,p,A.bU,dx, [],rfl,hp,T.vj,T.yS,(by show 0<1000;decide),?_⟩
  refine ⟨_,rfl,_,rfl,aC p A.bU dx _ ⟨rfl,ak,T.vj,T.Lf,(by show 1<1000;decide),?_⟩⟩
  rw[cB]
  exact k
def kB (n:Nat):Bool:=decide (33≤n)&&(decide (n≤126)&&n !=61)
theorem GZ (b:Sound.Bytes):Sound.mayKey b=(bn b).all kB:=by
 unfold Sound.mayKey bn
 rw[List.all_map]
 congr 1
 funext c
 unfold kB
 show _=(decide (33≤c.toNat)&&(decide (c.toNat≤126)&&c.toNat !=61))
 congr 2
 by_cases h:c=61
 ·subst h;rfl
 ·have h2: ¬c.toNat=61:=fun z=>h (UInt8.toNat_inj.mp z)
  rw[show (c !=61)=true from bne_iff_ne.mpr h,show (c.toNat !=61)=true from bne_iff_ne.mpr h2]
def FD (K:PySem.W.Frag):Sp:=fun vs H Q _=> ∃(q:Addr) (b:Sound.Bytes),vs= [.ref q]∧ah K H q (vN (bn b))∧b.length≤1000∧ ∀H',ae H H'→Q (.bl (Sound.mayKey b)) H'
theorem w8:aK ["key", "byte"] ["key"] (aD DI):=⟨rfl,rfl,rfl,by decide+kernel,rfl,by decide+kernel,by decide+kernel⟩
theorem Iu (T:Txt K mg A):az P w K mg base ba 1 A.qg A.qb ["key"] (FD K):=by
 refine T.Bb.ok w8 (fun vs H Q E h=>?_) (fun cdv Ar outer s H vs Q E hr h=>?_)
 ·obtain ⟨q,b,rfl,_⟩:=h
  rfl
 ·obtain ⟨q,b,rfl,hq,hl,k⟩:=h
  refine ⟨_,aj (aW (cq (zx rfl) rfl T.zE (by decide+kernel:bootBuiltins "all" =some (.builtin "all")) (aa (fh (own:= [("byte",1)]) rfl w8.nd (dj (pv 0)) (dM (by kernel_rfl)) (fun _ _ _ _ _=>bo (i:=1) w8.nd rfl (Or.inl rfl)) (fun _ _ _ _ _=>dJ)
   (fun _ _ _ _ _=>wH (xC gD gD aq (pv 1) aq) (uY (gP gF (pv 1) (aV rfl T.J6) (aX _))))) af))),?_⟩
  refine ⟨_,rfl,q,rfl,⟨_,hq⟩,fun D hD=>?_⟩
  refine fc (J:=d9 K q) hD (bn b).length (by rw[b6,sizeLine_eq];omega) (fun i=> .bl (kB ((bn b).getD i 0))) (fun i Hh hi t1=>⟨_,_,t1.seq hq,fH hi⟩) (fun Hh t1=>⟨_,t1.seq hq,by rw[aZ];exact Nat.le_refl _⟩) ?_ ?_
  ·rintro i Hh z H' hi t1 ⟨rfl,hz⟩ C hC
   obtain ⟨rfl,_⟩:=eI (hz _ (t1.seq hq))
   have hC:=hC _ (ae.refl _)
   generalize (bn b).getD i 0=c at*
   refine ⟨rfl,_,rfl,ag _ _ ⟨rfl,rfl,_,rfl,?_⟩⟩
   unfold kB at hC
   by_cases c1:33≤c
   ·rw[decide_eq_true c1,Bool.true_and] at hC
    rw[decide_eq_true (show (33:Int)≤((c:Nat):Int) by omega)]
    refine bt (ag _ _ ⟨rfl,rfl,_,rfl,?_⟩)
    by_cases c2:c≤126
    ·rw[decide_eq_true c2,Bool.true_and] at hC
     rw[decide_eq_true (show ((c:Nat):Int)≤126 by omega)]
     refine bt ⟨_,rfl,rfl,?_⟩
     have e:(!decide (V.int ((c:Nat):Int)=V.int 61))=(c !=61):=by
      by_cases c3:c=61
      ·subst c3;rfl
      ·rw[decide_eq_false (fun z=>c3 (by have:=V.int.inj z;omega)),show (c !=61)=true from bne_iff_ne.mpr c3];rfl
     rw[e]
     exact hC
    ·rw[decide_eq_false c2,Bool.false_and] at hC
     rw[decide_eq_false (show¬((c:Nat):Int)≤126 by omega)]
     exact bB hC
   ·rw[decide_eq_false c1,Bool.false_and] at hC
    rw[decide_eq_false (show¬(33:Int)≤((c:Nat):Int) by omega)]
    exact bB ⟨_,rfl,bB hC⟩
  ·intro H2 s2 hx2
   have e:(List.range (bn b).length).map (fun i=>V.bl (kB ((bn b).getD i 0)))=((bn b).map kB).map V.bl:=by
    rw[List.map_map]
    refine List.ext_getElem (by simp) fun i h1 h2=>?_
    simp at h1
    simp [List.getD_eq_getElem?_getD,List.getElem?_eq_getElem h1]
   rw[e] at hx2
   refine (ag D _ ⟨rfl,ah.of hx2,?_⟩)
   have e2:((bn b).map kB).all id=Sound.mayKey b:=by rw[GZ,List.all_map];rfl
   rw[e2]
   exact k H2 s2
def valOf (t:Sound.Bytes):Sound.Bytes:=t.drop ((Sound.keyOf t).length+3)
def ky (C:Addr) (H:Hp) (x:Addr) (t:Sound.Bytes):Prop:= ∃dx a b,H x=some (.ins C dx (kJ (.ref a) (.ref b)))∧H a=some (.lst (vN (bn (Sound.keyOf t))))∧H b=some (.lst (vN (bn (valOf t))))
theorem ky.same {C:Addr} {H H':Hp} {x:Addr} {t:Sound.Bytes} (h:ky C H x t) (s:ae H H'):ky C H' x t:=by
 obtain ⟨dx,a,b,h1,h2,h3⟩:=h
 exact ⟨dx,a,b,s _ _ h1,s _ _ h2,s _ _ h3⟩
theorem C3 {Z H H':Hp} (s:ae H H'):ae (newOf Z H) (newOf Z H'):=fun b o e=>by
 obtain ⟨e1,e2⟩:=ke e
 rw[gU e1];exact s b o e2
def dP (C:Addr) (Z H:Hp) (r D:Addr) (l:List Sound.Bytes):Prop:= ∃as:List Addr,hide r H D=some (.lst (as.map V.ref))∧as.length=l.length∧(∀(k:Nat) (a:Addr),as[k]?=some a→ky C (newOf Z (hide D (hide r H))) a (l.getD k []))∧ ∀b,H b=none→b≠D→b≠r→Z b=none
theorem dP.go {C:Addr} {Z H H':Hp} {r D:Addr} {l:List Sound.Bytes} (h:dP C Z H r D l) (s:ae (hide r H) H'):dP C Z H' r D l:=by
 obtain ⟨as,h1,h2,h3,h4⟩:=h
 refine ⟨as,sr s _ _ h1,h2,fun k a e=>(h3 k a e).same (C3 (mn (sr s))),fun b hb hD hr=>h4 b ?_ hD hr⟩
 cases e:H b with
 |none=>rfl
 |some o=>rw[s b o (by rw[hide_ne hr];exact e)] at hb;cases hb
def ft (at_ n:Nat) (seen:List Sound.Bytes) (b:Sound.Bytes):Sound.Stand⊕Nat:=
 if n=0 then .inl (.fault 5 at_) else if b.length<1 then .inl .more else
 let m:=Sound.fromHigh (b.take 1)
 if m=0∨32<m∨n<m+3 then .inl (.fault 5 at_)
 else if b.length<1+m then .inl .more
 else if (Sound.mayKey ((b.drop 1).take m)&&!(seen.any fun (x:Sound.Bytes)=>Sound.keyOf x==(b.drop 1).take m))=false then .inl (.fault 5 at_)
 else if b.length<m+3 then .inl .more
 else
  let v:=Sound.fromHigh ((b.drop (1+m)).take 2)
  if n<m+3+v then .inl (.fault 5 at_) else if b.length<m+3+v then .inl .more else .inr (m+3+v)
theorem qM (c:UInt8) (r:Sound.Bytes):Sound.fromHigh ((c::r).take 1)=c.toNat:=by
 rw[pF]
 show 256*0+c.toNat=_
 omega
theorem xK (k at_ n:Nat) (seen:List Sound.Bytes) (b:Sound.Bytes):Sound.tagItems (k+1) at_ n seen b=match ft at_ n seen b with
  | .inl s=>(seen, .inl s)
  | .inr z=>Sound.tagItems k (at_+z) (n-z) (seen++ [b.take z]) (b.drop z):=by
 conv=>lhs;unfold Sound.tagItems
 unfold ft
 by_cases h0:n=0
 ·rw[if_pos h0,if_pos h0]
 ·rw[if_neg h0,if_neg h0]
  cases b with
  |nil=>rfl
  |cons c r=>
   rw[if_neg (by simp)]
   simp only [qM]
   split
   ·rfl
   ·split
    ·rfl
    ·split
     ·rfl
     ·split
      ·rfl
      ·split
       ·rfl
       ·split
        ·rfl
        ·simp only [Nat.add_assoc]
def cM (len:Nat):Sound.Stand→Nat×Nat
 | .more=>(1,len)
 | .whole=>(0,len)
 | .fault k p=>(k,p)
theorem rm {B:Sound.Bytes} {pl N i j:Nat} (h:i+j≤N):(((B.drop pl).take N).drop i).take j=(B.drop (pl+i)).take j:=by
 rw[List.drop_take,List.take_take,List.drop_drop,Nat.min_eq_left (by omega)]
theorem tp {B:Sound.Bytes} {pl N j:Nat} (h:j≤N) (hp:pl≤B.length):((B.drop pl).take N).length<j↔B.length<pl+j:=by
 rw[List.length_take,List.length_drop]
 omega
def BD (A:aT) (H:Hp) (R:Rg) (Z:Hp) (D:Addr) (pl:Nat) (seen:List Sound.Bytes) (b:Sound.Bytes) (o:Sound.Stand⊕Nat) (Q:VK) (E:XK):Prop:=match o with
 | .inl st=> ∀H',ae (hide D (hide R.r H)) H'→dn A.ay H' R (cM R.B.length st).1 (cM R.B.length st).2→dP A.bU Z H' R.r D seen→E (.ref A.bT) none H'
 | .inr z=> ∀H',ae (hide D (hide R.r H)) H'→aJ A.ay H' R (pl+z)→dP A.bU Z H' R.r D (seen++ [b.take z])→Q .au H'
def Nc (K:PySem.W.Frag) (A:aT):Sp:=fun vs H Q E=> ∃(R:Rg) (Z:Hp) (D:Addr) (pl n:Nat) (seen:List Sound.Bytes),vs= [.ref R.r, .int ((pl+n:Nat):Int), .ref D]∧dq K H R∧aJ A.ay H R pl∧dP A.bU Z H R.r D seen∧(pl≤R.B.length∧seen.length≤100000)∧
 BD A H R Z D pl seen ((R.B.drop pl).take (n+4)) (ft pl n seen ((R.B.drop pl).take (n+4))) Q E
theorem jY:aK ["reading", "end", "tags", "begin", "key_size", "key", "value_size", "tag"] ["reading", "end", "tags"] (aD AZ):=⟨rfl,rfl,rfl,by decide+kernel,rfl,by decide+kernel,by decide+kernel⟩
theorem IQ {a c:Sound.Bytes} (z:bn a=bn c):a=c:=by
 unfold bn at z
 exact (List.map_inj_right fun _ _=>UInt8.toNat_inj.mp).mp z
theorem iV {a c:Sound.Bytes}:((bn a).map (fun (n:Nat)=>(n:Int))=(bn c).map fun (n:Nat)=>(n:Int))↔a=c:=by
 constructor
 ·intro z
  exact IQ ((List.map_inj_right fun _ _ h=>Int.ofNat.inj h).mp z)
 ·rintro rfl;rfl
theorem GB (T:Txt K mg A):az P w K mg base (aR P w) 6 A.qH A.lE ["reading", "end", "tags"] (Nc K A):=by
 refine T.yY.bN jY (fun vs H Q E h=>?_) (fun cdv Ar outer s H vs Q E hr h=>?_)
 ·obtain ⟨R,Z,D,pl,n,seen,rfl,_⟩:=h
  rfl
 ·obtain ⟨R,Z,D,pl,n,seen,rfl,hI,hx,ht,⟨hplB,hseen⟩,k⟩:=h
  have hr1':aF 1 _:=hr.mono (by decide)
  have hr2':aF 2 _:=hr.mono (by decide)
  have hr3':aF 3 _:=hr.mono (by decide)
  have hr4':aF 4 _:=hr.mono (by decide)
  refine ⟨_,ai (aI (i:=3) jY.nd rfl (Or.inl rfl) (ax (pv 0) rfl))
   (ai (bp (bq dA (pv 3) (pv 1) (aX _)) (aj (a8 (aP (pv 0) T.aM T.dv (dR T) hr1' T.dw .nil aN (aa (aV rfl T.kC) (aa (pv 3) af))))) bu)
   (ai (aI (i:=4) jY.nd rfl (Or.inl rfl) (aP (pv 0) T.aM T.kh (kX T) hr4' T.lq .nil aN (aa aq af)))
   (ai (bp (PW.pt (mx (iW (yp gD gD aq (pv 4) (aV rfl T.Rp))) (nE (bq d4 (aw b5 (aw b5 (ax (pv 0) rfl) (pv 4)) (aV rfl T.Av)) (pv 1) (aX _))))) (aj (a8 (aP (pv 0) T.aM T.dv (dR T) hr1' T.dw .nil aN (aa (aV rfl T.kC) (aa (pv 3) af))))) bu)
   (ai (aI (i:=5) jY.nd rfl (Or.inr rfl) (aP (pv 0) T.aM T.iJ (iH T) hr3' T.iE .nil aN (aa (pv 4) af)))
   (ai (bp (PW.pt (mx (iW (iF (aS (Iu T) hr1' rfl T.QU T.Bb.kp T.QA .nil aU (aa (pv 5) af)))) (nE (iF (cq (LO rfl) rfl T.Fi (by decide+kernel:bootBuiltins "any" =some (.builtin "any")) (aa (fh (own:= [("tag",7)]) rfl jY.nd (dj (pv 2)) (dM (by kernel_rfl)) (fun _ _ _ _ _=>bo (i:=7) jY.nd rfl (Or.inl rfl)) (fun _ _ _ _ _=>dJ)
     (fun _ _ _ _ _=>gP (PN (K:=K) rfl hr.units) (vD (K:=K) rfl (pv 7) rfl) (pv 5) (aX _))) af)))))) (aj (a8 (aP (pv 0) T.aM T.dv (dR T) hr1' T.dw .nil aN (aa (aV rfl T.kC) (aa (pv 3) af))))) bu)
   (ai (aI (i:=6) jY.nd rfl (Or.inl rfl) (aP (pv 0) T.aM T.kh (kX T) hr4' T.lq .nil aN (aa (aV rfl T.Av) af)))
   (ai (bp (bq d4 (aw b5 (ax (pv 0) rfl) (pv 6)) (pv 1) (aX _)) (aj (a8 (aP (pv 0) T.aM T.dv (dR T) hr1' T.dw .nil aN (aa (aV rfl T.kC) (aa (pv 3) af))))) bu)
   (aj (a8 (gg PySem.F.plainAttrs_list PySem.F.slot_list_append PySem.F.type_list_append l7 (pv 2) (aa (fY T.Nm (KA T) hr2' rfl T.FZ T.Gw .nil aU (aa (pv 5) (aa (aP (pv 0) T.aM T.iJ (iH T) hr3' T.iE .nil aN (aa (pv 6) af)) af))) af))))))))))),?_⟩
  generalize hb:(R.B.drop pl).take (n+4)=b at*
  have hblen: ∀j,j≤n+4→(b.length<j↔R.B.length<pl+j):=fun j hj=>by rw[←hb];exact tp hj hplB
  have hcut: ∀i j,i+j≤n+4→(b.drop i).take j=(R.B.drop (pl+i)).take j:=fun i j hj=>by rw[←hb];exact rm hj
  unfold ft at k
  have stop: ∀(H1:Hp) (p1:Nat),ae (hide R.r H) H1→aJ A.ay H1 R p1→(∀H',ae (hide D (hide R.r H)) H'→dn A.ay H' R 5 pl→dP A.bU Z H' R.r D seen→E (.ref A.bT) none H')→
    E (.ref A.bT) none (upd H1 R.r (.ins A.ay R.dr (bC (.ref R.q) (.int (p1:Nat)) (.int ((5:Nat):Int)) (.int (pl:Nat))))):=fun H1 p1 s1 h1 kk=>by
   have s2:ae (hide R.r H) (upd H1 R.r (.ins A.ay R.dr (bC (.ref R.q) (.int (p1:Nat)) (.int ((5:Nat):Int)) (.int (pl:Nat))))):=bh s1 cO
   exact kk _ ((dI D _).trans s2) ⟨_,ak⟩ (ht.go s2)
  have hx':=hx
  unfold aJ at hx'
  refine (aA rfl hx' T.aM T.cG rfl ?_)
  refine ⟨_,rfl,_,rfl,rfl,_,rfl,?_⟩
  by_cases c0:n=0
  ·rw[decide_eq_true (by rw[c0];rfl)]
   rw[if_pos c0] at k
   exact bt (aO rfl hx' rfl ⟨_,rfl,dF R.r R.dr _ _ _ _ 5 pl ⟨rfl,hx',stop H pl (j7 (ae.refl _)) hx k⟩⟩)
  rw[decide_eq_false (fun z=>c0 (by have:=V.int.inj z;omega)),if_neg c0] at*
  refine bB (aO rfl hx' rfl (bG R pl 1 ⟨rfl,hI,hx,by decide,?_⟩))
  unfold cJ dD
  by_cases c1:R.B.length<pl+1
  ·rw[if_pos c1]
   rw[if_pos ((hblen 1 (by omega)).mpr c1)] at k
   exact fun H' s' hF=>k H' ((dI D _).trans s') hF (ht.go s')
  rw[if_neg c1]
  rw[if_neg (fun z=>c1 ((hblen 1 (by omega)).mp z))] at k
  dsimp only at k⊢
  intro H1 s1 hS1
  have e1:(R.B.drop pl).take 1=b.take 1:=by
   have:=hcut 0 1 (by omega)
   rw[List.drop_zero,Nat.add_zero] at this
   exact this.symm
  rw[e1]
  have hm256:Sound.fromHigh (b.take 1)<256:=by
   rw[pF]
   have h1:=rA (l:=(b.take 1).map UInt8.toNat) (fun x hx=>fv (b.take 1) x hx)
   have h2:256^((b.take 1).map UInt8.toNat).length≤256^1:=Nat.pow_le_pow_right (by decide) (by rw[List.length_map,List.length_take];omega)
   omega
  generalize hm:Sound.fromHigh (b.take 1)=m at*
  have hS1':=hS1
  unfold aJ at hS1'
  have I1:=hI.go s1
  refine ⟨_,rfl,ag _ _ ⟨rfl,rfl,_,rfl,?_⟩⟩
  have bad1:(m=0∨32<m∨n<m+3)→ ∀H',ae (hide D (hide R.r H)) H'→dn A.ay H' R 5 pl→dP A.bU Z H' R.r D seen→E (.ref A.bT) none H':=fun c=>by
   rw[if_pos c] at k
   exact k
  by_cases c2:(1:Int)≤((m:Nat):Int)
  case neg=>
   rw[decide_eq_false c2]
   exact bB ⟨_,rfl,bt (bt (aO rfl hS1' rfl ⟨_,rfl,dF R.r R.dr _ _ _ _ 5 pl ⟨rfl,hS1',stop H1 _ s1 hS1 (bad1 (.inl (by omega)))⟩⟩))⟩
  rw[decide_eq_true c2]
  refine bt (ag _ _ ⟨rfl,rfl,_,rfl,?_⟩)
  by_cases c3:((m:Nat):Int)≤32
  case neg=>
   rw[decide_eq_false c3]
   exact bt (bt (aO rfl hS1' rfl ⟨_,rfl,dF R.r R.dr _ _ _ _ 5 pl ⟨rfl,hS1',stop H1 _ s1 hS1 (bad1 (.inr (.inl (by omega))))⟩⟩))
  rw[decide_eq_true c3]
  refine bB (aA rfl hS1' T.aM T.cG rfl ⟨_,rfl,ag _ _ ⟨rfl,rfl,ag _ _ ⟨rfl,rfl,_,rfl,ag _ _ ⟨rfl,rfl,_,rfl,?_⟩⟩⟩⟩)
  dsimp only
  refine bZ (fun c4=>?_) fun c4=>?_
  ·have c4:((pl+n:Nat):Int)<((pl+1:Nat):Int)+((m:Nat):Int)+2:=of_decide_eq_true c4
   exact (aO rfl hS1' rfl ⟨_,rfl,dF R.r R.dr _ _ _ _ 5 pl ⟨rfl,hS1',stop H1 _ s1 hS1 (bad1 (.inr (.inr (by omega))))⟩⟩)
  have c4: ¬((pl+n:Nat):Int)<((pl+1:Nat):Int)+((m:Nat):Int)+2:=fun z=>c4 (decide_eq_true z)
  rw[if_neg (by rintro (z|z|z)<;>omega)] at k
  refine (aO rfl hS1' rfl ⟨_,rfl,bG R (pl+1) m ⟨rfl,I1,hS1,?_⟩⟩)
  unfold cJ dD
  by_cases c5:R.B.length<pl+1+m
  ·rw[if_pos c5]
   rw[if_pos ((hblen (1+m) (by omega)).mpr (by omega))] at k
   exact fun H' s' hF=>k H' ((dI D _).trans (bh s1 s')) hF (ht.go (bh s1 s'))
  rw[if_neg c5]
  rw[if_neg (fun z=>c5 (by have:=(hblen (1+m) (by omega)).mp z;omega))] at k
  dsimp only
  intro H2 s2 hS2 Dk hDk hDkx
  rw[←hcut 1 m (by omega)] at hDkx
  have s12:=bh s1 s2
  have hDkr:Dk≠R.r:=fun z=>by rw[z,hS1'] at hDk;cases hDk
  generalize hkey:(b.drop 1).take m=key at*
  have hkl:key.length=m:=by
   rw[←hkey,List.length_take,List.length_drop]
   have:=(hblen (1+m) (by omega))
   omega
  refine ⟨_,rfl,ag Dk key ⟨rfl,ah.of hDkx,by omega,fun H3 s3=>⟨_,rfl,?_⟩⟩⟩
  have hS3:aJ A.ay H3 R (pl+1+m):=s3 _ _ hS2
  have hS3':=hS3
  unfold aJ at hS3'
  have s13:ae (hide R.r H) H3:=s12.trans s3
  have hDk3:=s3 _ _ hDkx
  have bad2:(Sound.mayKey key&&!(seen.any fun (x:Sound.Bytes)=>Sound.keyOf x==key))=false→ ∀H',ae (hide D (hide R.r H)) H'→dn A.ay H' R 5 pl→dP A.bU Z H' R.r D seen→E (.ref A.bT) none H':=fun c=>by
   rw[if_pos c] at k
   exact k
  cases c6:Sound.mayKey key with
  |false=>
   exact bt (bt (aO rfl hS3' rfl ⟨_,rfl,dF R.r R.dr _ _ _ _ 5 pl ⟨rfl,hS3',stop H3 _ s13 hS3 (bad2 (by rw[c6];rfl))⟩⟩))
  |true=>
  refine bB ?_
  obtain ⟨as,ht1,ht2,ht3,_⟩:=ht.go s13
  have hD3:H3 D=some (.lst (as.map V.ref)):=(cu ht1).1
  have hDr:D≠R.r:=(cu ht1).2
  refine ⟨_,rfl,D,rfl,⟨_,ah.of hD3⟩,fun D4 hD4=>?_⟩
  refine fc (J:=d9 K D) hD4 seen.length (by rw[sizeLine_eq];omega) (fun i=> .bl (Sound.keyOf (seen.getD i [])==key)) (fun i Hh hi t1=>?_) (fun Hh t1=>⟨_,t1.seq (ah.of hD3),by rw[List.length_map];omega⟩) ?_ ?_
  ·obtain ⟨a,ha1,_⟩:=qN (as:=as) (i:=i) (by omega)
   exact ⟨_,_,t1.seq (ah.of hD3),ha1⟩
  ·rintro i Hh z H' hi t1 ⟨rfl,hz⟩ C hC
   obtain ⟨a,rfl,ha⟩:=sI (hz _ (t1.seq (ah.of hD3)))
   obtain ⟨da,ka,va,hq1,hq2,hq3⟩:=((ht3 i a ha).same (((Kh _ _).trans (dI _ _)).trans (dI _ _))).same t1
   refine ⟨rfl,aA rfl hq1 T.vj T.yS rfl ⟨_,rfl,ka,Dk,(bn (Sound.keyOf (seen.getD i []))).map (fun (n:Nat)=>(n:Int)),(bn key).map (fun (n:Nat)=>(n:Int)),rfl,rfl,(by rw[←iI];exact ah.of hq2),(by rw[←iI];exact ah.of (t1 _ _ hDk3)),?_⟩⟩
   have e:decide ((bn (Sound.keyOf (seen.getD i []))).map (fun (n:Nat)=>(n:Int))=(bn key).map fun (n:Nat)=>(n:Int))=(Sound.keyOf (seen.getD i [])==key):=by
    by_cases c:Sound.keyOf (seen.getD i [])=key
    ·rw[decide_eq_true (iV.mpr c),beq_iff_eq.mpr c]
    ·rw[decide_eq_false (fun z=>c (iV.mp z)),beq_eq_false_iff_ne.mpr c]
   rw[e]
   exact hC _ (ae.refl _)
  ·intro H4 s4 hx4
   have ebs:(List.range seen.length).map (fun i=>V.bl (Sound.keyOf (seen.getD i [])==key))=(seen.map fun x=>Sound.keyOf x==key).map V.bl:=by
    rw[List.map_map]
    refine List.ext_getElem (by simp) fun i h1 h2=>?_
    simp at h1
    simp [List.getD_eq_getElem?_getD,List.getElem?_eq_getElem h1]
   rw[ebs] at hx4
   refine (ag D4 _ ⟨rfl,ah.of hx4,_,rfl,?_⟩)
   have eany:(seen.map fun x=>Sound.keyOf x==key).any id=seen.any fun x=>Sound.keyOf x==key:=by rw[List.any_map];rfl
   rw[eany]
   have s14:ae (hide R.r H) H4:=s13.trans s4
   have hS4:aJ A.ay H4 R (pl+1+m):=s4 _ _ hS3
   have hS4':=hS4
   unfold aJ at hS4'
   cases c7:seen.any fun x=>Sound.keyOf x==key with
   |true=>
    exact bt (aO rfl hS4' rfl ⟨_,rfl,dF R.r R.dr _ _ _ _ 5 pl ⟨rfl,hS4',stop H4 _ s14 hS4 (bad2 (by rw[c6,c7];rfl))⟩⟩)
   |false=>
    refine bB ?_
    rw[if_neg (by rw[c6,c7];decide)] at k
    refine (aO rfl hS4' rfl (bG R (pl+1+m) 2 ⟨rfl,hI.go s14,hS4,by decide,?_⟩))
    unfold cJ dD
    by_cases c8:R.B.length<pl+1+m+2
    ·rw[if_pos c8]
     rw[if_pos ((hblen (m+3) (by omega)).mpr (by omega))] at k
     exact fun H' s' hF=>k H' ((dI D _).trans (bh s14 s')) hF (ht.go (bh s14 s'))
    rw[if_neg c8]
    rw[if_neg (fun z=>c8 (by have:=(hblen (m+3) (by omega)).mp z;omega))] at k
    dsimp only at k⊢
    intro H5 s5 hS5
    have e5:(R.B.drop (pl+1+m)).take 2=(b.drop (1+m)).take 2:=by rw[hcut (1+m) 2 (by omega),Nat.add_assoc]
    rw[e5]
    generalize Sound.fromHigh ((b.drop (1+m)).take 2)=v at*
    have s15:=bh s14 s5
    have hS5':=hS5
    unfold aJ at hS5'
    refine (aA rfl hS5' T.aM T.cG rfl ⟨_,rfl,ag _ _ ⟨rfl,rfl,_,rfl,ag _ _ ⟨rfl,rfl,_,rfl,?_⟩⟩⟩)
    dsimp only
    refine bZ (fun c9=>?_) fun c9=>?_
    ·have c9:((pl+n:Nat):Int)<((pl+1+m+2:Nat):Int)+((v:Nat):Int):=of_decide_eq_true c9
     rw[if_pos (by omega)] at k
     exact (aO rfl hS5' rfl ⟨_,rfl,dF R.r R.dr _ _ _ _ 5 pl ⟨rfl,hS5',stop H5 _ s15 hS5 k⟩⟩)
    have c9: ¬((pl+n:Nat):Int)<((pl+1+m+2:Nat):Int)+((v:Nat):Int):=fun z=>c9 (decide_eq_true z)
    rw[if_neg (by omega)] at k
    have ht5:=ht.go s15
    obtain ⟨as5,hu1,hu2,hu3,hu4⟩:=id ht5
    refine ⟨_,rfl, .inl ⟨rfl,_,ah.of (cu hu1).1⟩,_,rfl,aO rfl hS5' rfl ⟨_,rfl,bG R (pl+1+m+2) v ⟨rfl,hI.go s15,hS5,?_⟩⟩⟩
    unfold cJ dD
    by_cases cA:R.B.length<pl+1+m+2+v
    ·rw[if_pos cA]
     rw[if_pos ((hblen (m+3+v) (by omega)).mpr (by omega))] at k
     exact fun H' s' hF=>k H' ((dI D _).trans (bh s15 s')) hF (ht.go (bh s15 s'))
    rw[if_neg cA]
    rw[if_neg (fun z=>cA (by have:=(hblen (m+3+v) (by omega)).mp z;omega))] at k
    dsimp only at k⊢
    intro H6 s6 hS6 Dv hDv hDvx
    have eV:(R.B.drop (pl+1+m+2)).take v=(b.drop (m+3)).take v:=by rw[hcut (m+3) v (by omega),show pl+1+m+2=pl+(m+3) by omega]
    rw[eV] at hDvx
    have s16:=bh s15 s6
    obtain ⟨as6,hw1,hw2,hw3,hw4⟩:=ht.go s16
    have hD6:H6 D=some (.lst (as6.map V.ref)):=(cu hw1).1
    have hDk5:H5 Dk=some (.lst (vN (bn key))):=s5 _ _ (by rw[hide_ne hDkr];exact s4 _ _ hDk3)
    have hDk6:H6 Dk=some (.lst (vN (bn key))):=s6 _ _ (by rw[hide_ne hDkr];exact hDk5)
    have hDkD:Dk≠D:=fun z=>by
     have:H1 D=some _:=(cu (ht.go s1).choose_spec.1).1
     rw[z,this] at hDk;cases hDk
    have hDvr:Dv≠R.r:=fun z=>by rw[z,hS5'] at hDv;cases hDv
    have hDvD:Dv≠D:=fun z=>by rw[z,(cu hu1).1] at hDv;cases hDv
    intro x dx hx0 hdx hne
    refine (aC x dx _ _ ⟨rfl,ak,rfl,?_⟩)
    rw[iv]
    have s7:ae H6 (upd (upd H6 dx (.own x)) x (.ins A.bU dx (kJ (.ref Dk) (.ref Dv)))):=eK hx0 hdx
    have hx7:upd (upd H6 dx (.own x)) x (.ins A.bU dx (kJ (.ref Dk) (.ref Dv))) x=some (.ins A.bU dx (kJ (.ref Dk) (.ref Dv))):=ak
    have hxr:x≠R.r:=fun z=>by rw[z] at hx0;unfold aJ at hS6;rw[hS6] at hx0;cases hx0
    have hxD:x≠D:=fun z=>by rw[z,hD6] at hx0;cases hx0
    generalize upd (upd H6 dx (.own x)) x (.ins A.bU dx (kJ (.ref Dk) (.ref Dv)))=H7 at*
    refine (bG D _ _ ⟨rfl,rfl,s7 _ _ hD6,(by rw[List.length_map,sizeLine_eq];omega),?_⟩)
    have s17:ae (hide R.r H) H7:=s16.trans s7
    have hup: ∀o,hide D (hide R.r (upd H7 D o))=hide D (hide R.r H7):=fun o=>by
     funext y
     by_cases hy:y=D
     ·rw[hy];unfold hide;rw[if_pos rfl,if_pos rfl]
     ·rw[hide_ne hy,hide_ne hy]
      by_cases hy2:y=R.r
      ·rw[hy2];unfold hide;rw[if_pos rfl,if_pos rfl]
      ·rw[hide_ne hy2,hide_ne hy2,aG hy]
    refine k _ ?_ ?_ ⟨as6++ [x],?_,?_,fun kk a e=>?_,fun y hy hyD hyr=>hw4 y (s7.none (by rw[aG hyD] at hy;exact hy)) hyD hyr⟩
    ·intro y o ey
     obtain ⟨e1,e2⟩:=cu ey
     rw[aG e2]
     exact s17 _ _ e1
    ·have e:pl+(m+3+v)=pl+1+m+2+v:=by omega
     rw[e]
     unfold aJ
     rw[aG (Ne.symm hDr)]
     exact s7 _ _ hS6
    ·rw[hide_ne hDr,ak];simp
    ·rw[List.length_append,List.length_append,hw2];rfl
    ·rw[hup]
     by_cases hk:kk<as6.length
     ·rw[List.getElem?_append_left hk] at e
      rw[List.getD_eq_getElem?_getD,List.getElem?_append_left (by omega),←List.getD_eq_getElem?_getD]
      exact (hw3 kk a e).same (C3 (mn (mn s7)))
     ·rw[List.getElem?_append_right (by omega)] at e
      have hk0:kk-as6.length=0:=by
       have:=(List.getElem?_eq_some_iff.mp e).1
       simp at this;omega
      rw[hk0] at e
      obtain rfl:x=a:=Option.some.inj e
      rw[List.getD_eq_getElem?_getD,List.getElem?_append_right (by omega),show kk-seen.length=0 by omega]
      show ky _ _ x (b.take (m+3+v))
      have hb1:1≤b.length:=by
       have:=hblen (1+m) (by omega)
       omega
      have hbl2:m+3+v≤b.length:=by
       have:=hblen (m+3+v) (by omega)
       omega
      have hkey2:Sound.keyOf (b.take (m+3+v))=key:=by
       have hh:((b.take (m+3+v)).headD 0).toNat=m:=by
        rw[←hm]
        obtain ⟨c,r,hcr⟩:=List.exists_cons_of_ne_nil (List.length_pos_iff.mp (show 0<b.length by omega))
        rw[hcr,qM]
        obtain ⟨q,hq⟩: ∃q,Sound.fromHigh ((c::r).take 1)+3+v=q+1:=⟨Sound.fromHigh ((c::r).take 1)+2+v,by omega⟩
        rw[qM] at hq
        rw[hq]
        rfl
       unfold Sound.keyOf
       rw[hh,List.drop_take,List.take_take,Nat.min_eq_left (by omega)]
       exact hkey
      have hval2:valOf (b.take (m+3+v))=(b.drop (m+3)).take v:=by
       unfold valOf
       rw[hkey2,hkl,List.drop_take,show m+3+v-(m+3)=v by omega]
      refine ⟨dx,Dk,Dv,?_,?_,?_⟩
      ·rw[gU (hw4 x hx0 hxD hxr),hide_ne hxD,hide_ne hxr];exact hx7
      ·rw[hkey2,gU ((ht.go s1).choose_spec.2.2.2 Dk hDk hDkD hDkr),hide_ne hDkD,hide_ne hDkr];exact s7 _ _ hDk6
      ·rw[hval2,gU (hu4 Dv hDv hDvD hDvr),hide_ne hDvD,hide_ne hDvr];exact s7 _ _ hDvx
theorem Mw {at_ n:Nat} {seen:List Sound.Bytes} {b:Sound.Bytes} {z:Nat} (h:ft at_ n seen b= .inr z):z≤n∧z≤b.length:=by
 unfold ft at h
 simp only at h
 split at h
 ·cases h
 ·split at h
  ·cases h
  ·split at h
   ·cases h
   ·split at h
    ·cases h
    ·split at h
     ·cases h
     ·split at h
      ·cases h
      ·split at h
       ·cases h
       ·split at h
        ·cases h
        ·cases h
         omega
theorem Ak {at_ n:Nat} {seen:List Sound.Bytes} {b:Sound.Bytes} (h:ft at_ n seen b= .inl .whole):False:=by
 unfold ft at h
 simp only at h
 split at h
 ·cases h
 ·split at h
  ·cases h
  ·split at h
   ·cases h
   ·split at h
    ·cases h
    ·split at h
     ·cases h
     ·split at h
      ·cases h
      ·split at h
       ·cases h
       ·split at h
        ·cases h
        ·cases h
def rZ (A:aT) (H:Hp) (R:Rg) (Z:Hp) (D:Addr) (pl:Nat) (o:List Sound.Bytes×Sound.Stand) (Q:VK) (E:XK):Prop:=match o with
 |(l, .whole)=> ∀H',ae (hide D (hide R.r H)) H'→aJ A.ay H' R pl→dP A.bU Z H' R.r D l→Q .au H'
 |(l, .more)=> ∀H',ae (hide D (hide R.r H)) H'→dn A.ay H' R 1 R.B.length→dP A.bU Z H' R.r D l→E (.ref A.bT) none H'
 |(l, .fault k p)=> ∀H',ae (hide D (hide R.r H)) H'→dn A.ay H' R k p→dP A.bU Z H' R.r D l→E (.ref A.bT) none H'
def Jv (K:PySem.W.Frag) (A:aT):Sp:=fun vs H Q E=> ∃(R:Rg) (Z:Hp) (D:Addr) (t:Nat),vs= [.ref R.r, .int (t:Nat), .ref D]∧dq K H R∧aJ A.ay H R 26∧dP A.bU Z H R.r D []∧(6≤t∧t≤1024∧26≤R.B.length∧ah K (hide D (hide R.r H)) R.q (vN (bn R.B)))∧
 rZ A H R Z D (26+t) (Sound.areaOf t ((R.B.drop 26).take t)) Q E
theorem ly:aK ["reading", "size", "tags", "begin", "end", "count", "step", "place"] ["reading", "size", "tags"] (aD Dj):=⟨rfl,rfl,rfl,by decide+kernel,rfl,by decide+kernel,by decide+kernel⟩
theorem iQ {D r:Addr} {H H' H'':Hp} (s:ae (hide D (hide r H)) H') (s':ae (hide D (hide r H')) H''):ae (hide D (hide r H)) H'':=fun b o e=>by
 obtain ⟨e1,e2⟩:=cu e
 obtain ⟨e3,e4⟩:=cu e1
 refine s' b o ?_
 rw[hide_ne e2,hide_ne e4]
 exact s b o e
theorem je {D r:Addr} {H H':Hp} (s:ae (hide r H) H'):ae (hide D (hide r H)) H':=(dI D _).trans s
theorem BS {B:Sound.Bytes} {pl:Nat} (h:pl<B.length):Sound.fromHigh ((B.drop pl).take 1)=(B[pl]).toNat:=by
 rw[List.drop_eq_getElem_cons h,qM]
theorem dq.of2 {H H':Hp} {R:Rg} {D:Addr} (h:ah K (hide D (hide R.r H)) R.q (vN (bn R.B))) (hl:R.B.length≤16384) (s:ae (hide D (hide R.r H)) H'):dq K H' R:=by
 refine ⟨?_,hl⟩
 have s2:ae (hide D (hide R.r H)) (hide R.r H'):=fun b o e=>by
  obtain ⟨e1,e2⟩:=cu e
  rw[hide_ne (cu e1).2];exact s b o e
 exact s2.seq h
theorem Jk (T:Txt K mg A):az P w K mg base (aR P w) 7 A.qp A.mX ["reading", "size", "tags"] (Jv K A):=by
 refine T.AS.bN ly (fun vs H Q E h=>?_) (fun cdv Ar outer s H vs Q E hr h=>?_)
 ·obtain ⟨R,Z,D,t,rfl,_⟩:=h
  rfl
 ·obtain ⟨R,Z,D,t,rfl,hI,hx,ht,⟨ht6,ht10,hB26,hqD⟩,k⟩:=h
  have hr1':aF 1 _:=hr.mono (by decide)
  have hr4':aF 4 _:=hr.mono (by decide)
  have hr5':aF 5 _:=hr.mono (by decide)
  refine ⟨_,ai (aI (i:=3) ly.nd rfl (Or.inl rfl) (ax (pv 0) rfl))
   (ai (aI (i:=4) ly.nd rfl (Or.inl rfl) (aw du (aw b5 (pv 3) (pv 1)) (aV rfl T.sJ)))
   (ai (aI (i:=5) ly.nd rfl (Or.inl rfl) (aP (pv 0) T.aM T.kh (kX T) hr4' T.lq .nil aN (aa (aV rfl T.Ic) af)))
   (ai (bp (bq d4 (pv 5) (aV rfl T.Kc) (aX _)) (aj (a8 (aP (pv 0) T.aM T.dv (dR T) hr1' T.dw .nil aN (aa (aV rfl T.kC) (aa (pv 3) af))))) bu)
   (ai (cj PassesOwn.leaving rfl (fk rfl T.dQ (aa (pv 5) af)) (bo (i:=6) ly.nd rfl (Or.inl rfl))
    (aj (a8 (aS (GB T) hr rfl T.Lr T.yY.kp T.JC .nil aN (aa (pv 0) (aa (pv 4) (aa (pv 2) af)))))))
   (ai (cj PassesOwn.leaving rfl (L8 rfl T.dQ (aa (ax (pv 0) rfl) (aa (pv 4) af))) (bo (i:=7) ly.nd rfl (Or.inl rfl))
    (aj (bp (bq gF (aP (pv 0) T.aM T.kh (kX T) hr4' T.lq .nil aN (aa aq af)) aq (aX _)) (aj (a8 (aP (pv 0) T.aM T.dv (dR T) hr1' T.dw .nil aN (aa (aV rfl T.kC) (aa (pv 7) af))))) bu)))
   (aj (a8 (aP (pv 0) T.aM T.uF (ud T) hr5' T.uK .nil aN (aa (pv 3) (aa (aV rfl T.L9) af)))))))))),?_⟩
  have hx':=hx
  unfold aJ at hx'
  generalize hb:(R.B.drop 26).take t=b at*
  have hblen: ∀j,j≤t→(b.length<j↔R.B.length<26+j):=fun j hj=>by rw[←hb];exact tp hj hB26
  have hcut: ∀i j,i+j≤t→(b.drop i).take j=(R.B.drop (26+i)).take j:=fun i j hj=>by rw[←hb];exact rm hj
  obtain ⟨as0,ha1,ha2,ha3,ha4⟩:=id ht
  have has0:as0= []:=List.length_eq_zero_iff.mp ha2
  subst has0
  have hDr:D≠R.r:=(cu ha1).2
  refine (aA rfl hx' T.aM T.cG rfl ?_)
  refine ⟨_,rfl,_,rfl,ag _ _ ⟨rfl,rfl,ag _ _ ⟨rfl,rfl,?_⟩⟩⟩
  dsimp only
  rw[show ((26:Nat):Int)+((t:Nat):Int)-4=((26+t-4:Nat):Int) by omega]
  refine (aO rfl hx' rfl (bG R 26 2 ⟨rfl,hI,hx,by decide,?_⟩))
  unfold rZ Sound.areaOf Sound.TAGS Sound.HEAD at k
  unfold cJ dD
  by_cases c1:R.B.length<26+2
  ·rw[if_pos c1]
   rw[if_pos ((hblen 2 (by omega)).mpr c1)] at k
   exact fun H' s' hF=>k H' (je s') hF (ht.go s')
  rw[if_neg c1]
  rw[if_neg (fun z=>c1 ((hblen 2 (by omega)).mp z))] at k
  dsimp only
  intro H1 s1 hS1
  have e1:(R.B.drop 26).take 2=b.take 2:=by
   have:=hcut 0 2 (by omega)
   rw[List.drop_zero,Nat.add_zero] at this
   exact this.symm
  rw[e1]
  generalize Sound.fromHigh (b.take 2)=cnt at*
  have hS1':=hS1
  unfold aJ at hS1'
  refine ⟨_,rfl,ag _ _ ⟨rfl,rfl,_,rfl,?_⟩⟩
  refine bZ (fun c2=>?_) fun c2=>?_
  ·have c2:(16:Int)<((cnt:Nat):Int):=of_decide_eq_true c2
   rw[if_pos (show 16<cnt by omega)] at k
   refine (aO rfl hS1' rfl ⟨_,rfl,dF R.r R.dr _ _ _ _ 5 26 ⟨rfl,hS1',?_⟩⟩)
   have s2:=bh s1 (cO (r:=R.r) (H:=H1) (o:= .ins A.ay R.dr (bC (.ref R.q) (.int ((26+2:Nat):Int)) (.int ((5:Nat):Int)) (.int ((26:Nat):Int)))))
   exact k _ (je s2) ⟨_,ak⟩ (ht.go s2)
  have c2: ¬(16:Int)<((cnt:Nat):Int):=fun z=>c2 (decide_eq_true z)
  rw[if_neg (show¬16<cnt by omega)] at k
  refine ⟨_,rfl,_,rfl,by omega,by omega,?_⟩
  have eb2:b.drop 2=(R.B.drop 28).take (t-6+4):=by
   rw[←hb,List.drop_take,List.drop_drop,show t-2=t-6+4 by omega]
  rw[eb2] at k
  refine fE (lo:=0) (n:=((cnt:Nat):Int).toNat) (fun i σ H'=> ∃(pl n:Nat) (seen:List Sound.Bytes) (v6 v7:Option V),Sound.tagItems cnt (26+2) (t-6) [] ((R.B.drop 28).take (t-6+4))=Sound.tagItems (cnt-i) pl n seen ((R.B.drop pl).take (n+4))∧pl+n=26+t-4∧pl≤R.B.length∧seen.length=i∧
    ae (hide D (hide R.r H)) H'∧dq K H' R∧aJ A.ay H' R pl∧dP A.bU Z H' R.r D seen∧σ= [some (.ref R.r),some (.int (t:Nat)),some (.ref D),some (.int ((26:Nat):Int)),some (.int ((26+t-4:Nat):Int)),some (.int (cnt:Nat)),v6,v7])
   ⟨28,t-6, [],none,none,rfl,by omega,by omega,rfl,je s1,hI.go s1,hS1,ht.go s1,rfl⟩ ?_ ?_
  ·rintro i σ H2 hi ⟨pl,n,seen,v6,v7,heq,hpn,hpB,hsl,s2,hI2,hS2,ht2,rfl⟩
   rw[Int.toNat_natCast] at hi
   obtain ⟨j,hj⟩: ∃j,cnt-i=j+1:=⟨cnt-i-1,by omega⟩
   rw[hj,xK] at heq
   refine ⟨_,rfl,_,rfl,_,rfl,R,Z,D,pl,n,seen,(by rw[hpn];rfl),hI2,hS2,ht2,⟨hpB,by omega⟩,?_⟩
   unfold BD
   cases eo:ft pl n seen ((R.B.drop pl).take (n+4)) with
   |inl st=>
    rw[eo] at heq
    rw[heq] at k
    dsimp only at k⊢
    intro H3 s3 hF ht3
    have s23:=iQ s2 s3
    cases st with
    |more=>exact k H3 s23 hF ht3
    |whole=>exact (Ak eo).elim
    |fault kk p=>exact k H3 s23 hF ht3
   |inr z=>
    rw[eo] at heq
    dsimp only at heq⊢
    obtain ⟨hzn,hzb⟩:=Mw eo
    rw[List.length_take,List.length_drop] at hzb
    intro H3 s3 hS3 ht3
    refine ⟨pl+z,n-z,_,_,_,?_,by omega,by omega,by rw[List.length_append,hsl];rfl,iQ s2 s3,?_,hS3,ht3,rfl⟩
    ·rw[heq,show cnt-(i+1)=j by omega,List.drop_take,List.drop_drop,show n+4-z=n-z+4 by omega]
    ·exact dq.of2 hqD hI.2 (iQ s2 s3)
  ·rintro σ H2 ⟨pl,n,seen,v6,v7,heq,hpn,hpB,hsl,s2,hI2,hS2,ht2,rfl⟩
   rw[Int.toNat_natCast,Nat.sub_self] at heq
   have h0:Sound.tagItems 0 pl n seen ((R.B.drop pl).take (n+4))=(seen, .inr (pl,n,(R.B.drop pl).take (n+4))):=by unfold Sound.tagItems;rfl
   rw[h0] at heq
   rw[heq] at k
   dsimp only at k
   generalize hr4:(R.B.drop pl).take (n+4)=r4 at*
   have hrlen: ∀j,j≤n+4→(r4.length<j↔R.B.length<pl+j):=fun j hj=>by rw[←hr4];exact tp hj hpB
   have hrget: ∀i,i<r4.length→ ∃h:pl+i<R.B.length,r4[i]?=some (R.B[pl+i]):=fun i hi=>by
    rw[←hr4,List.length_take,List.length_drop] at hi
    refine ⟨by omega,?_⟩
    rw[←hr4,List.getElem?_take,if_pos (by omega),List.getElem?_drop,List.getElem?_eq_getElem (by omega)]
   have hS2':=hS2
   unfold aJ at hS2'
   refine (aA rfl hS2' T.aM T.cG rfl ⟨_,rfl,ag _ _ ⟨rfl,⟨by omega,by omega,by omega,by omega⟩,?_⟩⟩)
   refine fE (lo:=((pl:Nat):Int)) (n:=(((26+t-4:Nat):Int)-((pl:Nat):Int)).toNat) (fun j σ H'=> ∃(v7:Option V),(∀i,i<j→r4[i]?=some 0)∧ae (hide R.r H2) H'∧aJ A.ay H' R (pl+j)∧σ= [some (.ref R.r),some (.int (t:Nat)),some (.ref D),some (.int ((26:Nat):Int)),some (.int ((26+t-4:Nat):Int)),some (.int (cnt:Nat)),v6,v7])
    ⟨v7,fun i hi=>by omega,j7 (ae.refl _),hS2,rfl⟩ ?_ ?_
   ·rintro j σ H3 hj ⟨v7,hz,s3,hS3,rfl⟩
    have hjn:j<n:=by omega
    have hS3':=hS3
    unfold aJ at hS3'
    refine (aO rfl hS3' rfl (bG R (pl+j) 1 ⟨rfl,hI2.go s3,hS3,by decide,?_⟩))
    unfold cJ dD
    by_cases c3:R.B.length<pl+j+1
    ·rw[if_pos c3]
     have hlt:r4.length<j+1:=(hrlen (j+1) (by omega)).mpr (by omega)
     have hnone:(r4.take n).findIdx? (fun (x:UInt8)=>x !=0)=none:=by
      rw[List.findIdx?_eq_none_iff]
      intro x hx
      obtain ⟨i,hi,rfl⟩:=List.getElem_of_mem (List.mem_of_mem_take hx)
      have:=hz i (by omega)
      rw[List.getElem?_eq_getElem hi] at this
      rw[Option.some.inj this];rfl
     rw[hnone] at k
     dsimp only at k
     rw[if_pos ((hblen t (by omega)).mpr (by omega))] at k
     exact fun H' s' hF=>k H' (iQ s2 (je (bh s3 s'))) hF (ht2.go (bh s3 s'))
    rw[if_neg c3]
    dsimp only
    intro H4 s4 hS4
    have s24:=bh s3 s4
    have hS4':=hS4
    unfold aJ at hS4'
    rw[BS (by omega)]
    have hjr:j<r4.length:=by
     have:=hrlen (j+1) (by omega)
     omega
    obtain ⟨hh,hgj⟩:=hrget j hjr
    refine ⟨rfl,_,rfl,?_⟩
    by_cases c4:R.B[pl+j]=0
    ·rw[decide_eq_true (by rw[c4];rfl)]
     refine bB ⟨_,fun i hi=>?_,s24,hS4,rfl⟩
     by_cases hij:i=j
     ·rw[hij,hgj,c4]
     ·exact hz i (by omega)
    ·have c4': ¬(R.B[pl+j]).toNat=0:=fun z=>c4 (UInt8.toNat_inj.mp z)
     rw[decide_eq_false (fun z=>c4' (by have:=V.int.inj z;omega))]
     have hsome:(r4.take n).findIdx? (fun (x:UInt8)=>x !=0)=some j:=by
      rw[List.findIdx?_eq_some_iff_getElem]
      have hjl:j<(r4.take n).length:=by rw[List.length_take];omega
      refine ⟨hjl,?_,fun i hi=>?_⟩
      ·rw[List.getElem_take]
       have:=hgj
       rw[List.getElem?_eq_getElem hjr] at this
       rw[Option.some.inj this]
       simpa using c4
      ·rw[List.getElem_take]
       have:=hz i hi
       rw[List.getElem?_eq_getElem (by omega)] at this
       rw[Option.some.inj this]
       decide
     rw[hsome] at k
     dsimp only at k
     refine bt (aO rfl hS4' rfl ⟨_,rfl,R.r,R.dr,_,_,_,_,5,pl+j,?_,hS4',?_⟩)
     ·show [V.ref R.r,V.int 5,V.int (((pl:Nat):Int)+((j:Nat):Int))]=_
      rw[show ((pl:Nat):Int)+((j:Nat):Int)=((pl+j:Nat):Int) by omega];rfl
     ·have s5:=bh s24 (cO (r:=R.r) (H:=H4) (o:= .ins A.ay R.dr (bC (.ref R.q) (.int ((pl+j+1:Nat):Int)) (.int ((5:Nat):Int)) (.int ((pl+j:Nat):Int)))))
      exact k _ (iQ s2 (je s5)) ⟨_,ak⟩ (ht2.go s5)
   ·rintro σ H3 ⟨v7,hz,s3,hS3,rfl⟩
    have hnn:(((26+t-4:Nat):Int)-((pl:Nat):Int)).toNat=n:=by omega
    rw[hnn] at hz hS3
    have hS3':=hS3
    unfold aJ at hS3'
    have hnone:(r4.take n).findIdx? (fun (x:UInt8)=>x !=0)=none:=by
     rw[List.findIdx?_eq_none_iff]
     intro x hx
     obtain ⟨i,hi,rfl⟩:=List.getElem_of_mem hx
     rw[List.length_take] at hi
     rw[List.getElem_take]
     have:=hz i (by omega)
     rw[List.getElem?_eq_getElem (by omega)] at this
     rw[Option.some.inj this];rfl
    rw[hnone] at k
    dsimp only at k
    refine (aO rfl hS3' rfl ⟨_,rfl,aC R (pl+n) 26 6 ⟨rfl,hI2.go s3,hS3,?_⟩⟩)
    unfold cJ qj
    rw[hpn]
    by_cases c5:R.B.length<26+t-4+4
    ·rw[if_pos c5]
     rw[if_pos ((hblen t (by omega)).mpr (by omega))] at k
     exact fun H' s' hF=>k H' (iQ s2 (je (bh s3 s'))) hF (ht2.go (bh s3 s'))
    rw[if_neg c5]
    rw[if_neg (fun z=>c5 (by have:=(hblen t (by omega)).mp z;omega))] at k
    have ec1:(b.drop (t-4)).take 4=(R.B.drop (26+t-4)).take 4:=by rw[hcut (t-4) 4 (by omega),show 26+(t-4)=26+t-4 by omega]
    have ec2:b.take (t-4)=(R.B.drop 26).take (26+t-4-26):=by
     have:=hcut 0 (t-4) (by omega)
     rw[List.drop_zero,Nat.add_zero] at this
     rw[this,show 26+t-4-26=t-4 by omega]
    rw[ec1,ec2] at k
    by_cases c6:Sound.fromHigh ((R.B.drop (26+t-4)).take 4)=Sound.crc32 ((R.B.drop 26).take (26+t-4-26))
    ·rw[if_neg (fun z=>z c6)]
     rw[if_pos c6] at k
     dsimp only at k⊢
     intro H' s' hS'
     rw[show 26+t-4+4=26+t by omega] at hS'
     exact k H' (iQ s2 (je (bh s3 s'))) hS' (ht2.go (bh s3 s'))
    ·rw[if_pos c6]
     rw[if_neg c6] at k
     dsimp only at k⊢
     exact fun H' s' hF=>k H' (iQ s2 (je (bh s3 s'))) hF (ht2.go (bh s3 s'))
def kU (f n t:V):List (Str×V):= [("form",f),("samples",n),("tags_size",t)]
def jT (A:aT) (H:Hp) (x:Addr) (h:Sound.Head):Prop:= ∃dx f,H x=some (.ins A.eC dx (kU (.ref f) (.int (h.n:Nat)) (.int (h.t:Nat))))∧fP A.bH H f (Sound.eager h.form)
theorem jT.same {H H':Hp} {x:Addr} {h:Sound.Head} (i:jT A H x h) (s:ae H H'):jT A H' x h:=by
 obtain ⟨dx,f,h1,h2⟩:=i
 exact ⟨dx,f,s _ _ h1,h2.same s⟩
def Fq (C:Addr):Sp:=fun vs H Q _=> ∃(p dx:Addr) (a b c:V),vs= [.ref p,a,b,c]∧H p=some (.ins C dx [])∧Q .au (upd H p (.ins C dx (kU a b c)))
theorem Ni:aK ["self", "form", "samples", "tags_size"] ["self", "form", "samples", "tags_size"] (aD Bi):=⟨rfl,rfl,rfl,by decide+kernel,rfl,by decide+kernel,by decide+kernel⟩
theorem LV (T:Txt K mg A):az P w K mg base ba 1 A.nM A.nv ["self", "form", "samples", "tags_size"] (Fq A.eC):=by
 refine T.Mz.ok Ni (fun vs H Q E h=>?_) (fun cdv Ar outer s H vs Q E hr h=>?_)
 ·obtain ⟨p,dx,a,b,c,rfl,_⟩:=h
  rfl
 ·obtain ⟨p,dx,a,b,c,rfl,hp,k⟩:=h
  refine ⟨_,ai (bc (pv 0) (pv 1) rfl) (ai (bc (pv 0) (pv 2) rfl) (aj (bc (pv 0) (pv 3) rfl))),?_⟩
  refine ⟨_,rfl,_,rfl,p,A.eC,dx, [],rfl,hp,T.e9,T.lr,(by show 0<1000;decide),?_⟩
  refine ⟨_,rfl,_,rfl,aC p A.eC dx _ ⟨rfl,ak,T.e9,T.r8,(by show 1<1000;decide),?_⟩⟩
  refine ⟨_,rfl,_,rfl,aC p A.eC dx _ ⟨rfl,ak,T.e9,T.xE,(by show 2<1000;decide),?_⟩⟩
  rw[cB,cB]
  exact k
def og (d:Sound.Bytes):Sound.Head:=⟨⟨Sound.fromHigh (d.take 1),Sound.fromHigh ((d.drop 1).take 1),Sound.fromHigh ((d.drop 2).take 2),0,Sound.fromHigh ((d.drop 4).take 1),Sound.fromHigh ((d.drop 5).take 1)⟩,Sound.fromHigh ((d.drop 6).take 4),Sound.fromHigh ((d.drop 10).take 4)⟩
theorem KG (B:Sound.Bytes):Sound.fields B=og ((B.drop 8).take 14):=by
 unfold Sound.fields og
 have c: ∀i j,i+j≤14→(((B.drop 8).take 14).drop i).take j=(B.drop (8+i)).take j:=fun i j h=>rm h
 have c0:((B.drop 8).take 14).take 1=(B.drop 8).take 1:=by rw[List.take_take];rfl
 rw[c0,c 1 1 (by decide),c 2 2 (by decide),c 4 1 (by decide),c 5 1 (by decide),c 6 4 (by decide),c 10 4 (by decide)]
theorem Ji (F:Sound.Form) (h:F.order=0):(Sound.eager F).ok=F.ok:=by
 unfold Sound.eager Sound.Form.ok
 rw[h];rfl
theorem Em {l:Sound.Bytes} {k:Nat} (h:l.length≤k):Sound.fromHigh l<256^k:=by
 rw[pF]
 have h1:=rA (l:=l.map UInt8.toNat) (fun x hx=>fv l x hx)
 have h2:256^(l.map UInt8.toNat).length≤256^k:=Nat.pow_le_pow_right (by decide) (by rw[List.length_map];exact h)
 omega
theorem rG {d:Sound.Bytes} {i:Nat} (h:i<d.length):(vN (bn d))[i]?=some (.int (Sound.fromHigh ((d.drop i).take 1):Nat)):=by
 rw[fH (by rw[b6];exact h),BS h]
 unfold bn
 rw[List.getD_eq_getElem?_getD,List.getElem?_map,List.getElem?_eq_getElem h]
 rfl
def Kb (K:PySem.W.Frag) (A:aT):Sp:=fun vs H Q _=> ∃(q:Addr) (d:Sound.Bytes),vs= [.ref q]∧ah K H q (vN (bn d))∧d.length=14∧(if Sound.mayHead (og d)=true then∀x H',ae H H'→jT A (newOf H H') x (og d)→Q (.ref x) H' else∀H',ae H H'→Q .au H')
theorem si:aK ["data", "form", "samples", "tags_size"] ["data"] (aD yW):=⟨rfl,rfl,rfl,by decide+kernel,rfl,by decide+kernel,by decide+kernel⟩
theorem PR (T:Txt K mg A):az P w K mg base ba 3 A.nc A.nO ["data"] (Kb K A):=by
 refine T.DD.ok si (fun vs H Q E h=>?_) (fun cdv Ar outer s H vs Q E hr h=>?_)
 ·obtain ⟨q,d,rfl,_⟩:=h
  rfl
 ·obtain ⟨q,d,rfl,hq,hd,k⟩:=h
  have hr1':aF 1 _:=hr.mono (by decide)
  have hr2':aF 2 _:=hr.mono (by decide)
  refine ⟨_,ai (aI (i:=1) si.nd rfl (Or.inl rfl) (cg (aa (cH dY (pv 0) aq (fun _ _=>rfl)) (aa (cH dY (pv 0) aq (fun _ _=>rfl)) (aa (aS (rf T) hr1' rfl T.rl T.pJ.kp T.rC .nil aU (aa (eZ fu (pv 0) (cQ aq) (cQ aq)) af))
    (aa (aV rfl T.LA) (aa (cH dY (pv 0) aq (fun _ _=>rfl)) (aa (cH dY (pv 0) aq (fun _ _=>rfl)) af))))))))
   (ai (aI (i:=2) si.nd rfl (Or.inl rfl) (aS (rf T) hr1' rfl T.rl T.pJ.kp T.rC .nil aU (aa (eZ fu (pv 0) (cQ aq) (cQ aq)) af)))
   (ai (aI (i:=3) si.nd rfl (Or.inl rfl) (aS (rf T) hr1' rfl T.rl T.pJ.kp T.rC .nil aU (aa (eZ fu (pv 0) (cQ aq) qe) af)))
   (ai (bp (PW.pt (mx (iW (iF (aS (G7 T) hr1' rfl T.QO T.DE.kp T.Lb .nil aU (aa (pv 1) af)))) (nE (bq d4 (aw k9 (pv 2) (cH dY (pv 1) aq (fun _ _=>rfl))) (aV rfl T.Fm) (aX _))))) (aj (aW iT)) bu)
   (ai (bp (iW (yp gD gD (aV rfl T.P4) (pv 3) (aV rfl T.IJ))) (aj (aW iT)) bu)
   (aj (aW (fY T.J7 (LV T) hr2' rfl T.RH T.OM .nil aU (aa (fY T.GJ (ND T) hr2' rfl T.OL T.O9 .nil aU (aa (pv 1) af)) (aa (pv 2) (aa (pv 3) af)))))))))),?_⟩
  have fr: ∀l:Sound.Bytes,bL (bn l)=Sound.fromHigh l:=fun l=>(pF l).symm
  have c2: ∀(a b:Nat),dE (vN (bn d)) (some (a:Int)) (some (b:Int))=vN (bn ((d.drop a).take (b-a))):=fun a b=>by rw[jo,iP,fV]
  have h0:(vN (bn d))[0]?=some (.int (Sound.fromHigh (d.take 1):Nat)):=by
   have:=rG (d:=d) (i:=0) (by omega)
   rwa [List.drop_zero] at this
  refine ⟨_,rfl,aC q _ _ _ ⟨rfl,rfl,hq,cv (j:=0) h0,_,rfl,aC q _ _ _ ⟨rfl,rfl,hq,cv (j:=1) (rG (by omega)),_,rfl,_,rfl,_,rfl,ag q _ ⟨rfl,hq,fun p1 hp1=>?_⟩⟩⟩⟩
  have e1:dE (vN (bn d)) (some (2:Int)) (some (4:Int))=vN (bn ((d.drop 2).take 2)):=c2 2 4
  rw[e1]
  have s1:=aL (o:= .lst (vN (bn ((d.drop 2).take 2)))) hp1
  refine ⟨p1,bn ((d.drop 2).take 2),rfl,ah.of ak,(by rw[b6,List.length_take];omega),fv _,?_⟩
  rw[fr]
  generalize upd H p1 (.lst (vN (bn ((d.drop 2).take 2))))=H1 at*
  refine ⟨_,rfl,aC q _ _ _ ⟨rfl,rfl,s1.seq hq,cv (j:=4) (rG (by omega)),_,rfl,aC q _ _ _ ⟨rfl,rfl,s1.seq hq,cv (j:=5) (rG (by omega)),by rw[sizeLine_eq];show 6≤_;omega,fun F hF=>?_⟩⟩⟩
  have efm:([V.int (Sound.fromHigh (d.take 1):Nat),V.int (Sound.fromHigh ((d.drop 1).take 1):Nat),V.int (Sound.fromHigh ((d.drop 2).take 2):Nat),V.int 4,V.int (Sound.fromHigh ((d.drop 4).take 1):Nat),V.int (Sound.fromHigh ((d.drop 5).take 1):Nat)]:List V)=
   vN [Sound.fromHigh (d.take 1),Sound.fromHigh ((d.drop 1).take 1),Sound.fromHigh ((d.drop 2).take 2),4,Sound.fromHigh ((d.drop 4).take 1),Sound.fromHigh ((d.drop 5).take 1)]:=rfl
  rw[efm]
  have s2:=s1.trans (aL (o:= .lst (vN [Sound.fromHigh (d.take 1),Sound.fromHigh ((d.drop 1).take 1),Sound.fromHigh ((d.drop 2).take 2),4,Sound.fromHigh ((d.drop 4).take 1),Sound.fromHigh ((d.drop 5).take 1)])) hF)
  have hFx:upd H1 F (.lst (vN [Sound.fromHigh (d.take 1),Sound.fromHigh ((d.drop 1).take 1),Sound.fromHigh ((d.drop 2).take 2),4,Sound.fromHigh ((d.drop 4).take 1),Sound.fromHigh ((d.drop 5).take 1)])) F=some (.lst (vN [Sound.fromHigh (d.take 1),Sound.fromHigh ((d.drop 1).take 1),Sound.fromHigh ((d.drop 2).take 2),4,Sound.fromHigh ((d.drop 4).take 1),Sound.fromHigh ((d.drop 5).take 1)])):=ak
  have nF:H F=none:=s1.none hF
  generalize upd H1 F (.lst (vN [Sound.fromHigh (d.take 1),Sound.fromHigh ((d.drop 1).take 1),Sound.fromHigh ((d.drop 2).take 2),4,Sound.fromHigh ((d.drop 4).take 1),Sound.fromHigh ((d.drop 5).take 1)]))=H2 at*
  refine ⟨_,rfl,_,rfl,_,rfl,ag q _ ⟨rfl,s2.seq hq,fun p3 hp3=>?_⟩⟩
  have e3:dE (vN (bn d)) (some (6:Int)) (some (10:Int))=vN (bn ((d.drop 6).take 4)):=c2 6 10
  rw[e3]
  have s3:=aL (o:= .lst (vN (bn ((d.drop 6).take 4)))) hp3
  refine ⟨p3,bn ((d.drop 6).take 4),rfl,ah.of ak,(by rw[b6,List.length_take];omega),fv _,?_⟩
  rw[fr]
  have s03:=s2.trans s3
  have hF3:=s3 _ _ hFx
  generalize upd H2 p3 (.lst (vN (bn ((d.drop 6).take 4))))=H3 at*
  refine ⟨_,rfl,_,rfl,ag q _ ⟨rfl,s03.seq hq,fun p4 hp4=>?_⟩⟩
  have e4:dE (vN (bn d)) (some (10:Int)) none=vN (bn ((d.drop 10).take 4)):=by
   rw[show (some (10:Int))=some ((10:Nat):Int) from rfl,GR,iP,List.take_of_length_le (by rw[List.length_drop];omega)]
  rw[e4]
  have s4:=aL (o:= .lst (vN (bn ((d.drop 10).take 4)))) hp4
  refine ⟨p4,bn ((d.drop 10).take 4),rfl,ah.of ak,(by rw[b6,List.length_take];omega),fv _,?_⟩
  rw[fr]
  have s04:=s03.trans s4
  have hF4:=s4 _ _ hF3
  generalize upd H3 p4 (.lst (vN (bn ((d.drop 10).take 4))))=H4 at*
  have hn32:Sound.fromHigh ((d.drop 6).take 4)<256^4:=Em (by rw[List.length_take];omega)
  have hc8:Sound.fromHigh (d.take 1)<256^1:=Em (by rw[List.length_take];omega)
  have ehd:og d=⟨⟨Sound.fromHigh (d.take 1),Sound.fromHigh ((d.drop 1).take 1),Sound.fromHigh ((d.drop 2).take 2),0,Sound.fromHigh ((d.drop 4).take 1),Sound.fromHigh ((d.drop 5).take 1)⟩,Sound.fromHigh ((d.drop 6).take 4),Sound.fromHigh ((d.drop 10).take 4)⟩:=rfl
  rw[ehd] at k
  generalize Sound.fromHigh (d.take 1)=c at*
  generalize Sound.fromHigh ((d.drop 1).take 1)=de at*
  generalize Sound.fromHigh ((d.drop 2).take 2)=bl at*
  generalize Sound.fromHigh ((d.drop 4).take 1)=gr at*
  generalize Sound.fromHigh ((d.drop 5).take 1)=sp at*
  generalize Sound.fromHigh ((d.drop 6).take 4)=n at*
  generalize Sound.fromHigh ((d.drop 10).take 4)=t at*
  have ao:(Sound.formOf [c,de,bl,4,gr,sp]).isSome=(⟨c,de,bl,0,gr,sp⟩:Sound.Form).ok:=by
   rw[←Ji ⟨c,de,bl,0,gr,sp⟩ rfl]
   unfold Sound.formOf Sound.eager
   simp only
   cases (⟨c,de,bl,4,gr,sp⟩:Sound.Form).ok<;>rfl
  have hmay:Sound.mayHead ⟨⟨c,de,bl,0,gr,sp⟩,n,t⟩=((⟨c,de,bl,0,gr,sp⟩:Sound.Form).ok&&(decide (n*c≤2048)&&(decide (6≤t)&&decide (t≤1024)))):=rfl
  rw[hmay] at k
  refine ⟨_,rfl,ag F _ ⟨rfl,ah.of hF4,fun H5 s5=>⟨_,rfl,?_⟩⟩⟩
  rw[ao]
  have s05:=s04.trans s5
  have hF5:=s5 _ _ hF4
  cases hk:(⟨c,de,bl,0,gr,sp⟩:Sound.Form).ok with
  |false=>
   rw[hk,if_neg (by simp)] at k
   exact bt (bt (k _ s05))
  |true=>
   rw[hk,Bool.true_and] at k
   refine bB ⟨_,rfl,_,rfl,aC F _ _ _ ⟨rfl,rfl,ah.of hF5,cv (j:=0) rfl,ag _ _ ⟨rfl,rfl, .inl ⟨by omega,by omega⟩,ag _ _ ⟨rfl,rfl,_,rfl,?_⟩⟩⟩⟩
   have emul:((n:Nat):Int)*((c:Nat):Int)=((n*c:Nat):Int):=by simp
   dsimp only
   rw[emul]
   refine bZ (fun c1=>?_) fun c1=>?_
   ·have c1:(2048:Int)<((n*c:Nat):Int):=of_decide_eq_true c1
    rw[decide_eq_false (show¬n*c≤2048 by omega),if_neg (by simp)] at k
    exact k _ s05
   have c1: ¬(2048:Int)<((n*c:Nat):Int):=fun z=>c1 (decide_eq_true z)
   rw[decide_eq_true (show n*c≤2048 by omega),Bool.true_and] at k
   refine ⟨_,rfl,ag _ _ ⟨rfl,rfl,_,rfl,?_⟩⟩
   by_cases c3:(6:Int)≤((t:Nat):Int)
   ·rw[decide_eq_true c3]
    refine bt (ag _ _ ⟨rfl,rfl,_,rfl,?_⟩)
    by_cases c4:((t:Nat):Int)≤1024
    ·rw[decide_eq_true c4]
     rw[decide_eq_true (show 6≤t by omega),decide_eq_true (show t≤1024 by omega),if_pos (by rfl)] at k
     refine bB ⟨_,rfl,fun x dx hx hdx hne=>?_⟩
     have sm:ae H5 (upd (upd H5 dx (.own x)) x (.ins A.bH dx [])):=eK hx hdx
     refine (wN x dx F _ _ _ _ _ _ ⟨rfl,ak,sm.seq (ah.of hF5),rfl,_,rfl,_,rfl,?_⟩)
     rw[iv]
     have s6:ae H5 (upd (upd H5 dx (.own x)) x (.ins A.bH dx (mB (.int (c:Nat)) (.int (de:Nat)) (.int (bl:Nat)) (.int ((4:Nat):Int)) (.int (gr:Nat)) (.int (sp:Nat))))):=eK hx hdx
     have hx6:upd (upd H5 dx (.own x)) x (.ins A.bH dx (mB (.int (c:Nat)) (.int (de:Nat)) (.int (bl:Nat)) (.int ((4:Nat):Int)) (.int (gr:Nat)) (.int (sp:Nat)))) x=some (.ins A.bH dx (mB (.int (c:Nat)) (.int (de:Nat)) (.int (bl:Nat)) (.int ((4:Nat):Int)) (.int (gr:Nat)) (.int (sp:Nat)))):=ak
     have nx:H x=none:=s05.none hx
     show∀y dy,_
     intro y dy hy hdy hney
     refine (tF y dy _ _ _ ⟨rfl,ak,rfl,?_⟩)
     rw[iv]
     have s06:=s05.trans s6
     have s7:=eK (o:= .own y) (u:= .ins A.eC dy (kU (.ref x) (.int (n:Nat)) (.int (t:Nat)))) hy hdy
     refine k y _ (s06.trans s7) ⟨dy,x,?_,⟨dx,?_⟩⟩
     ·rw[gU (s06.none hy),ak]
     ·rw[gU nx]
      exact s7 _ _ hx6
    ·rw[decide_eq_false c4]
     rw[decide_eq_false (show¬t≤1024 by omega),Bool.and_false,if_neg (by simp)] at k
     exact bt (k _ s05)
   ·rw[decide_eq_false c3]
    rw[decide_eq_false (show¬6≤t by omega),Bool.false_and,if_neg (by simp)] at k
    exact bB ⟨_,rfl,bt (k _ s05)⟩
def cN (B:Sound.Bytes):Except (Nat×Nat) Sound.Head:=if B.length<8 then .error (1,B.length) else if B.take 8≠Sound.MAGIC then .error (2,0) else if B.length<22 then .error (1,B.length) else if Sound.mayHead (Sound.fields B)=false then .error (3,8)
 else if B.length<26 then .error (1,B.length) else if Sound.fromHigh ((B.drop 22).take 4)≠Sound.crc32 (B.take 22) then .error (4,22) else .ok (Sound.fields B)
def rW (A:aT) (H:Hp) (R:Rg) (o:Except (Nat×Nat) Sound.Head) (Q:Sound.Head→Addr→Hp→Prop) (E:XK):Prop:=match o with
 | .ok h=> ∀x H',ae (hide R.r H) H'→aJ A.ay H' R 26→jT A (newOf H H') x h→Q h x H'
 | .error (k,p)=> ∀H',ae (hide R.r H) H'→dn A.ay H' R k p→E (.ref A.bT) none H'
def J9 (K:PySem.W.Frag) (A:aT):Sp:=fun vs H Q E=> ∃(R:Rg),vs= [.ref R.r]∧dq K H R∧aJ A.ay H R 0∧rW A H R (cN R.B) (fun _ x H'=>Q (.ref x) H') E
theorem vb:aK ["reading", "place", "head"] ["reading"] (aD Cf):=⟨rfl,rfl,rfl,by decide+kernel,rfl,by decide+kernel,by decide+kernel⟩
theorem JM (T:Txt K mg A):az P w K mg base (aR P w) 6 A.pO A.mq ["reading"] (J9 K A):=by
 refine T.yq.bN vb (fun vs H Q E h=>?_) (fun cdv Ar outer s H vs Q E hr h=>?_)
 ·obtain ⟨R,rfl,_⟩:=h
  rfl
 ·obtain ⟨R,rfl,hI,hx,k⟩:=h
  have hr1':aF 1 _:=hr.mono (by decide)
  have hr3':aF 3 _:=hr.mono (by decide)
  refine ⟨_,ai (bp (bq (xo hr.units) (aP (pv 0) T.aM T.iJ (iH T) hr3' T.iE .nil aN (aa (cq di (by rfl) T.cW PySem.boot_len (aa (eS rfl T.DA) af)) af)) (wg ve rfl T.xB (by decide+kernel:bootBuiltins "list" =some (.type "list")) (aa (eS rfl T.DA) af)) (aX _))
    (aj (a8 (aP (pv 0) T.aM T.dv (dR T) hr1' T.dw .nil aN (aa (aV rfl T.Ru) (aa aq af))))) bu)
   (ai (aI (i:=1) vb.nd rfl (Or.inl rfl) (ax (pv 0) rfl))
   (ai (aI (i:=2) vb.nd rfl (Or.inl rfl) (aS (PR T) hr3' rfl T.IY T.DD.kp T.Lh .nil aU (aa (aP (pv 0) T.aM T.iJ (iH T) hr3' T.iE .nil aN (aa aq af)) af)))
   (ai (bp (bq Bp (pv 2) iT (aX _)) (aj (a8 (aP (pv 0) T.aM T.dv (dR T) hr1' T.dw .nil aN (aa (aV rfl T.OK) (aa (pv 1) af))))) bu)
   (ai (a8 (aP (pv 0) T.aM T.uF (ud T) hr T.uK .nil aN (aa aq (aa (aV rfl T.Pt) af))))
   (aj (aW (pv 2))))))),?_⟩
  have hx':=hx
  unfold aJ at hx'
  unfold cN at k
  refine (aO rfl hx' rfl (ag A.kG _ ⟨rfl, .inr (T.Ca _),bG R 0 8 ⟨rfl,hI,hx,?_⟩⟩))
  unfold cJ dD
  rw[Nat.zero_add]
  by_cases c1:R.B.length<8
  ·rw[if_pos c1] at k⊢
   exact k
  rw[if_neg c1] at k⊢
  dsimp only
  intro H1 s1 hS1 D1 hD1 hx1
  rw[List.drop_zero] at hx1
  refine (ag A.kG _ ⟨rfl, .inr (T.Ca _),fun L hL=>?_⟩)
  have s2:=aL (o:= .lst [V.int (83),V.int (75),V.int (69),V.int (69),V.int (80),V.int (1),V.int (13),V.int (10)]) hL
  refine ⟨D1,L,(bn (R.B.take 8)).map (fun (n:Nat)=>(n:Int)),(bn Sound.MAGIC).map (fun (n:Nat)=>(n:Int)),rfl,rfl,(by rw[←iI];exact s2.seq (ah.of hx1)),ah.of ak,_,rfl,?_⟩
  have hS2:aJ A.ay _ R 8:=s2 _ _ hS1
  have s12:=s1.trans s2
  generalize upd H1 L (.lst [V.int (83),V.int (75),V.int (69),V.int (69),V.int (80),V.int (1),V.int (13),V.int (10)])=H2 at*
  have hS2':=hS2
  unfold aJ at hS2'
  by_cases c2:R.B.take 8=Sound.MAGIC
  case neg=>
   rw[if_pos c2] at k
   rw[decide_eq_false (fun z=>c2 (iV.mp z))]
   exact bt (aO rfl hS2' rfl (dF R.r R.dr _ _ _ _ 2 0 ⟨rfl,hS2',k _ (bh s12 cO) ⟨_,ak⟩⟩))
  rw[if_neg (fun z=>z c2)] at k
  rw[decide_eq_true (iV.mpr c2)]
  refine bB (aA rfl hS2' T.aM T.cG rfl ?_)
  refine (aO rfl hS2' rfl (bG R 8 14 ⟨rfl,hI.go s12,hS2,?_⟩))
  unfold cJ dD
  by_cases c3:R.B.length<8+14
  ·rw[if_pos c3]
   rw[if_pos (show R.B.length<22 by omega)] at k
   exact fun H' s' hF=>k H' (bh s12 s') hF
  rw[if_neg c3]
  rw[if_neg (show¬R.B.length<22 by omega)] at k
  dsimp only
  intro H3 s3 hS3 D3 hD3 hx3
  have s13:=bh s12 s3
  refine ⟨D3,(R.B.drop 8).take 14,rfl,ah.of hx3,(by rw[List.length_take,List.length_drop];omega),?_⟩
  rw[←KG]
  have sealed: ∀(x:V) (H4:Hp) (HQ:Hp→Prop),ae (hide R.r H) H4→aJ A.ay H4 R 22→(∀kk p,cN R.B= .error (kk,p)→ ∀H',ae (hide R.r H) H'→dn A.ay H' R kk p→E (.ref A.bT) none H')→True:=fun _ _ _ _ _ _=>trivial
  cases hm:Sound.mayHead (Sound.fields R.B) with
  |false=>
   rw[if_neg (by decide)]
   rw[if_pos hm] at k
   intro H4 s4
   have hS4:=s4 _ _ hS3
   refine ⟨_,rfl,rfl,_,rfl,bt (aO rfl hS4 rfl ⟨_,rfl,dF R.r R.dr _ _ _ _ 3 8 ⟨rfl,hS4,k _ (bh (s13.trans s4) cO) ⟨_,ak⟩⟩⟩)⟩
  |true=>
   rw[if_pos rfl]
   rw[if_neg (by rw[hm];decide)] at k
   intro x H4 s4 hH
   have hS4:aJ A.ay H4 R 22:=s4 _ _ hS3
   have hS4':=hS4
   unfold aJ at hS4'
   have s14:=s13.trans s4
   refine ⟨_,rfl,rfl,_,rfl,bB (aO rfl hS4' rfl (aC R 22 0 4 ⟨rfl,hI.go s14,hS4,?_⟩))⟩
   unfold cJ qj
   by_cases c4:R.B.length<22+4
   ·rw[if_pos c4]
    rw[if_pos (show R.B.length<26 by omega)] at k
    exact fun H' s' hF=>k H' (bh s14 s') hF
   rw[if_neg c4]
   rw[if_neg (show¬R.B.length<26 by omega)] at k
   rw[List.drop_zero,Nat.sub_zero]
   by_cases c5:Sound.fromHigh ((R.B.drop 22).take 4)=Sound.crc32 (R.B.take 22)
   ·rw[if_neg (fun z=>z c5)] at k⊢
    dsimp only at k⊢
    intro H5 s5 hS5
    refine ⟨_,rfl,k x H5 (bh s14 s5) hS5 (hH.same fun b o e=>?_)⟩
    obtain ⟨e1,e2⟩:=ke e
    have hbr:b≠R.r:=fun z=>by
     unfold aJ at hS3
     rw[z,hS3] at e1;cases e1
    have h0:H b=none:=by
     cases q:H b with
     |none=>rfl
     |some u=>rw[s13 b u (by rw[hide_ne hbr];exact q)] at e1;cases e1
    rw[gU h0]
    exact s5 _ _ (by rw[hide_ne hbr];exact e2)
   ·rw[if_pos c5] at k⊢
    exact fun H' s' hF=>k H' (bh s14 s') hF
def bY (l:List Addr) (H:Hp):Hp:=fun b=>if b∈l then none else H b
theorem dO {l:List Addr} {H:Hp} {b:Addr} (h:b∉l):bY l H b=H b:=by unfold bY;rw[if_neg h]
theorem cy {l:List Addr} {H:Hp} {b:Addr} {o:HO} (h:bY l H b=some o):H b=some o∧b∉l:=by
 unfold bY at h
 by_cases e:b∈l
 ·rw[if_pos e] at h;cases h
 ·rw[if_neg e] at h;exact ⟨h,e⟩
theorem gG {l:List Addr} {b r:Addr} (h:r∈l) (e:b∉l):b≠r:=fun z=>by rw[z] at e;exact e h
theorem kW (l:List Addr) (H:Hp):ae (bY l H) H:=fun b o h=>(cy h).1
theorem fQ {l:List Addr} {H H':Hp} (s:ae (bY l H) H'):ae (bY l H) (bY l H'):=fun b o e=>by
 rw[dO (cy e).2];exact s b o e
theorem cc {l:List Addr} {H H' H'':Hp} (s:ae (bY l H) H') (s':ae (bY l H') H''):ae (bY l H) H'':=(fQ s).trans s'
theorem kl {l:List Addr} {H H':Hp} (s:ae H H'):ae (bY l H) H':=(kW l H).trans s
theorem iZ {l:List Addr} {H:Hp} {r:Addr} {o:HO} (h:r∈l):ae (bY l H) (upd H r o):=fun b u e=>by
 obtain ⟨e1,e2⟩:=cy e
 rw[aG (gG h e2)];exact e1
theorem cI {l:List Addr} {H H':Hp} {r:Addr} (h:r∈l) (s:ae (hide r H) H'):ae (bY l H) H':=fun b u e=>by
 obtain ⟨e1,e2⟩:=cy e
 exact s b u (by rw[hide_ne (gG h e2)];exact e1)
theorem qL {l:List Addr} {H H':Hp} {r t:Addr} (hr:r∈l) (ht:t∈l) (s:ae (hide t (hide r H)) H'):ae (bY l H) H':=fun b u e=>by
 obtain ⟨e1,e2⟩:=cy e
 exact s b u (by rw[hide_ne (gG ht e2),hide_ne (gG hr e2)];exact e1)
theorem RD {l:List Addr} {H H':Hp} (h: ∀x∈l,H x=none) (s:ae H H'):ae H (bY l H'):=fun b o e=>by
 rw[dO (fun z=>by rw[h b z] at e;cases e)];exact s b o e
def cC (r h t s i f n:V):List (Str×V):= [("reading",r),("head",h),("tags",t),("starts",s),("index_bytes",i),("frames_taken",f),("numbers",n)]
theorem IH (r h t s i f n h':V):bz "head" h' (cC r h t s i f n)=cC r h' t s i f n:=by
 have n1: ¬("reading" :Str)= "head" :=by decide
 simp only [cC,bz,if_neg n1];rfl
structure Hg where
 p:Addr
 dp:Addr
 t:Addr
 s:V
 i:V
 f:V
 n:V
def jy (A:aT) (H:Hp) (G:Hg) (R:Rg) (h:V):Prop:=H G.p=some (.ins A.br G.dp (cC (.ref R.r) h (.ref G.t) G.s G.i G.f G.n))
def JU (K:PySem.W.Frag) (A:aT):Sp:=fun vs H Q _=> ∃(p dp q:Addr) (B:Sound.Bytes),vs= [.ref p, .ref q]∧H p=some (.ins A.br dp [])∧ah K H q (vN (bn B))∧
 ∀H' r dr t a b c,ae (hide p H) H'→(H r=none∧H t=none∧H a=none∧H b=none∧H c=none)→ [p,r,t,a,c].Nodup→jy A H' ⟨p,dp,t, .ref a, .ref b, .int 0, .ref c⟩ ⟨r,dr,q,B⟩ .au→aJ A.ay H' ⟨r,dr,q,B⟩ 0→(H' t=some (.lst [])∧H' a=some (.lst [])∧bY [p,r,t,a,c] H' b=some (.lst [])∧H' c=some (.lst []))→Q .au H'
theorem Qr:aK ["self", "data"] ["self", "data"] (aD Cu):=⟨rfl,rfl,rfl,by decide+kernel,rfl,by decide+kernel,by decide+kernel⟩
theorem bJ {H:Hp} {p b:Addr} {o u:HO} (hb:b≠p) (h:H b=some u):upd H p o b=some u:=by rw[aG hb];exact h
theorem Q6 (T:Txt K mg A):az P w K mg base ba 3 A.mV A.oW ["self", "data"] (JU K A):=by
 refine T.L5.ok Qr (fun vs H Q E h=>?_) (fun cdv Ar outer s H vs Q E hr h=>?_)
 ·obtain ⟨p,dp,q,B,rfl,_⟩:=h
  rfl
 ·obtain ⟨p,dp,q,B,rfl,hp,hq,k⟩:=h
  refine ⟨_,ai (bc (pv 0) (fY T.QE (GX T) hr rfl T.Lu T.KY .nil aU (aa (pv 1) af)) rfl) (ai (bc (pv 0) iT rfl) (ai (bc (pv 0) (cg af) rfl) (ai (bc (pv 0) (cg af) rfl) (ai (bc (pv 0) (cg af) rfl) (ai (bc (pv 0) aq rfl) (aj (bc (pv 0) (cg af) rfl))))))),?_⟩
  have z0:([]:List V).length≤sizeLine:=by rw[sizeLine_eq];exact Nat.zero_le _
  refine ⟨_,rfl,fun r dr hr0 hdr hne=>?_⟩
  have sm:ae H (upd (upd H dr (.own r)) r (.ins A.ay dr [])):=eK hr0 hdr
  refine (aC r dr q _ ⟨rfl,ak,sm.seq hq,rfl,?_⟩)
  rw[iv]
  have s1:ae H (upd (upd H dr (.own r)) r (.ins A.ay dr (bC (.ref q) (.int 0) (.int 0) (.int ((vN (bn B)).length:Nat))))):=eK hr0 hdr
  have hr1:upd (upd H dr (.own r)) r (.ins A.ay dr (bC (.ref q) (.int 0) (.int 0) (.int ((vN (bn B)).length:Nat)))) r=some (.ins A.ay dr (bC (.ref q) (.int 0) (.int 0) (.int ((vN (bn B)).length:Nat)))):=ak
  generalize upd (upd H dr (.own r)) r (.ins A.ay dr (bC (.ref q) (.int 0) (.int 0) (.int ((vN (bn B)).length:Nat))))=H1 at*
  have hrp:r≠p:=fun z=>by rw[z,hp] at hr0;cases hr0
  refine ⟨_,rfl,p,A.br,dp, [],rfl,s1 _ _ hp,T.bD,T.iu,(by show 0<1000;decide),?_⟩
  generalize hH1b:upd H1 p _=H1b
  have s1b:ae (hide p H) H1b:=by rw[←hH1b];exact bh (j7 s1) cO
  have hp1b:H1b p=some (.ins A.br dp [("reading", .ref r)]):=by rw[←hH1b];exact ak
  have hr1b:H1b r=some (.ins A.ay dr (bC (.ref q) (.int 0) (.int 0) (.int ((vN (bn B)).length:Nat)))):=by rw[←hH1b];exact bJ hrp hr1
  refine ⟨_,rfl,aC p A.br dp _ ⟨rfl,hp1b,T.bD,T.f7,(by show 1<1000;decide),?_⟩⟩
  generalize hH2:upd H1b p _=H2
  have hp2:H2 p=some (.ins A.br dp [("reading", .ref r),("head", .au)]):=by rw[←hH2];exact ak
  have hr2:H2 r=some (.ins A.ay dr (bC (.ref q) (.int 0) (.int 0) (.int ((vN (bn B)).length:Nat)))):=by rw[←hH2];exact bJ hrp hr1b
  have s2:ae (hide p H) H2:=by rw[←hH2];exact bh s1b cO
  have fresh: ∀(Hx:Hp) (y:Addr) (fs:List (Str×V)),Hx p=some (.ins A.br dp fs)→ae (hide p H) Hx→Hx y=none→y≠p∧H y=none:=fun Hx y fs h1 h2 h3=>by
   have e1:y≠p:=fun z=>by rw[z,h1] at h3;cases h3
   refine ⟨e1,?_⟩
   cases e:H y with
   |none=>rfl
   |some u=>rw[h2 _ _ (by rw[hide_ne e1];exact e)] at h3;cases h3
  have apart: ∀(Hx:Hp) (y z:Addr) (o:HO),Hx y=none→Hx z=some o→z≠y:=fun Hx y z o h1 h2 e=>by rw[e,h1] at h2;cases h2
  refine ⟨z0,fun t ht=>⟨_,rfl,aC p A.br dp _ ⟨rfl,aL ht _ _ hp2,T.bD,T.uQ,(by show 2<1000;decide),?_⟩⟩⟩
  obtain ⟨htp,ht0⟩:=fresh H2 t _ hp2 s2 ht
  have hrt:=apart H2 t r _ ht hr2
  generalize hH3:upd (upd H2 t (.lst [])) p _=H3
  have hp3:H3 p=some (.ins A.br dp [("reading", .ref r),("head", .au),("tags", .ref t)]):=by rw[←hH3];exact ak
  have hr3:H3 r=some (.ins A.ay dr (bC (.ref q) (.int 0) (.int 0) (.int ((vN (bn B)).length:Nat)))):=by rw[←hH3];exact bJ hrp (aL ht _ _ hr2)
  have ht3:H3 t=some (.lst []):=by rw[←hH3];exact bJ htp ak
  have s3:ae (hide p H) H3:=by rw[←hH3];exact bh (s2.trans (aL ht)) cO
  refine ⟨z0,fun a ha=>⟨_,rfl,aC p A.br dp _ ⟨rfl,aL ha _ _ hp3,T.bD,T.qF,(by show 3<1000;decide),?_⟩⟩⟩
  obtain ⟨hap,ha0⟩:=fresh H3 a _ hp3 s3 ha
  have hra:=apart H3 a r _ ha hr3
  have hta:=apart H3 a t _ ha ht3
  generalize hH4:upd (upd H3 a (.lst [])) p _=H4
  have hp4:H4 p=some (.ins A.br dp [("reading", .ref r),("head", .au),("tags", .ref t),("starts", .ref a)]):=by rw[←hH4];exact ak
  have hr4:H4 r=some (.ins A.ay dr (bC (.ref q) (.int 0) (.int 0) (.int ((vN (bn B)).length:Nat)))):=by rw[←hH4];exact bJ hrp (aL ha _ _ hr3)
  have ht4:H4 t=some (.lst []):=by rw[←hH4];exact bJ htp (aL ha _ _ ht3)
  have ha4:H4 a=some (.lst []):=by rw[←hH4];exact bJ hap ak
  have s4:ae (hide p H) H4:=by rw[←hH4];exact bh (s3.trans (aL ha)) cO
  refine ⟨z0,fun b hb=>⟨_,rfl,aC p A.br dp _ ⟨rfl,aL hb _ _ hp4,T.bD,T.vw,(by show 4<1000;decide),?_⟩⟩⟩
  obtain ⟨hbp,hb0⟩:=fresh H4 b _ hp4 s4 hb
  have hrb:=apart H4 b r _ hb hr4
  have htb:=apart H4 b t _ hb ht4
  have hab:=apart H4 b a _ hb ha4
  generalize hH5:upd (upd H4 b (.lst [])) p _=H5
  have hp5:H5 p=some (.ins A.br dp [("reading", .ref r),("head", .au),("tags", .ref t),("starts", .ref a),("index_bytes", .ref b)]):=by rw[←hH5];exact ak
  have hr5:H5 r=some (.ins A.ay dr (bC (.ref q) (.int 0) (.int 0) (.int ((vN (bn B)).length:Nat)))):=by rw[←hH5];exact bJ hrp (aL hb _ _ hr4)
  have ht5:H5 t=some (.lst []):=by rw[←hH5];exact bJ htp (aL hb _ _ ht4)
  have ha5:H5 a=some (.lst []):=by rw[←hH5];exact bJ hap (aL hb _ _ ha4)
  have hb5:H5 b=some (.lst []):=by rw[←hH5];exact bJ hbp ak
  have s5:ae (hide p H) H5:=by rw[←hH5];exact bh (s4.trans (aL hb)) cO
  refine ⟨_,rfl,aC p A.br dp _ ⟨rfl,hp5,T.bD,T.vc,(by show 5<1000;decide),?_⟩⟩
  generalize hH6:upd H5 p _=H6
  have hp6:H6 p=some (.ins A.br dp [("reading", .ref r),("head", .au),("tags", .ref t),("starts", .ref a),("index_bytes", .ref b),("frames_taken", .int 0)]):=by rw[←hH6];exact ak
  have hr6:H6 r=some (.ins A.ay dr (bC (.ref q) (.int 0) (.int 0) (.int ((vN (bn B)).length:Nat)))):=by rw[←hH6];exact bJ hrp hr5
  have ht6:H6 t=some (.lst []):=by rw[←hH6];exact bJ htp ht5
  have ha6:H6 a=some (.lst []):=by rw[←hH6];exact bJ hap ha5
  have hb6:H6 b=some (.lst []):=by rw[←hH6];exact bJ hbp hb5
  have s6:ae (hide p H) H6:=by rw[←hH6];exact bh s5 cO
  refine ⟨z0,fun c hc=>⟨_,rfl,aC p A.br dp _ ⟨rfl,aL hc _ _ hp6,T.bD,T.nL,(by show 6<1000;decide),?_⟩⟩⟩
  obtain ⟨hcp,hc0⟩:=fresh H6 c _ hp6 s6 hc
  have hrc:=apart H6 c r _ hc hr6
  have htc:=apart H6 c t _ hc ht6
  have hac:=apart H6 c a _ hc ha6
  have hbc:=apart H6 c b _ hc hb6
  refine k _ r dr t a b c (bh (s6.trans (aL hc)) cO) ⟨hr0,ht0,ha0,hb0,hc0⟩ ?_ ?_ ?_ ⟨bJ htp (aL hc _ _ ht6),bJ hap (aL hc _ _ ha6),?_,bJ hcp ak⟩
  ·simp only [List.nodup_cons,List.mem_cons,List.not_mem_nil,or_false,not_or,not_false_eq_true,List.nodup_nil,and_true]
   exact ⟨⟨hrp.symm,htp.symm,hap.symm,hcp.symm⟩,⟨hrt,hra,hrc⟩,⟨hta,htc⟩,hac⟩
  ·unfold jy
   rw[ak]
   rfl
  ·unfold aJ
   have:=bJ (o:= .ins A.br dp (cC (.ref r) .au (.ref t) (.ref a) (.ref b) (.int 0) (.ref c))) hrp (aL (o:= .lst []) hc _ _ hr6)
   rw[aZ,b6] at this
   exact this
  ·rw[dO (by simp only [List.mem_cons,List.not_mem_nil,or_false,not_or];exact ⟨hbp,hrb.symm,htb.symm,hab.symm,hbc⟩)]
   exact bJ hbp (aL hc _ _ hb6)
def Oq (K:PySem.W.Frag) (A:aT):Sp:=fun vs H Q E=> ∃(G:Hg) (R:Rg) (h0:V),vs= [.ref G.p]∧jy A H G R h0∧dq K H R∧aJ A.ay H R 0∧
 rW A H R (cN R.B) (fun h x H'=> ∀H'',ae (hide G.p H') H''→jy A H'' G R (.ref x)→Q .au H'') E
theorem MB:aK ["hearing"] ["hearing"] (aD y8):=⟨rfl,rfl,rfl,by decide+kernel,rfl,by decide+kernel,by decide+kernel⟩
theorem FC (T:Txt K mg A):az P w K mg base (aR P w) 8 A.iG A.lz ["hearing"] (Oq K A):=by
 refine T.xU.bN MB (fun vs H Q E h=>?_) (fun cdv Ar outer s H vs Q E hr h=>?_)
 ·obtain ⟨G,R,h0,rfl,_⟩:=h
  rfl
 ·obtain ⟨G,R,h0,rfl,hG,hI,hx,k⟩:=h
  have hr6':aF 6 _:=hr.mono (by decide)
  refine ⟨_,aj (bc (pv 0) (aS (JM T) hr6' rfl T.L4 T.yq.kp T.Qu .nil aN (aa (ax (pv 0) rfl) af)) rfl),?_⟩
  have hG':=hG
  unfold jy at hG'
  refine (aA rfl hG' T.bD T.iu rfl ⟨R,rfl,hI,hx,?_⟩)
  unfold rW at k⊢
  cases e:cN R.B with
  |error z=>rw[e] at k;exact k
  |ok h=>
   rw[e] at k
   dsimp only at k⊢
   intro x H1 s1 hS1 hH1
   have hpr:G.p≠R.r:=fun z=>by
    unfold aJ at hx
    rw[z,hx] at hG'
    have e:=congrArg List.length (HO.ins.inj (Option.some.inj hG')).2.2
    simp [bC,cC] at e
   have hG1:H1 G.p=some (.ins A.br G.dp (cC (.ref R.r) h0 (.ref G.t) G.s G.i G.f G.n)):=s1 _ _ (by rw[hide_ne hpr];exact hG')
   refine ⟨_,rfl,aC G.p A.br G.dp _ ⟨rfl,hG1,T.bD,T.f7,(by show 7<1000;decide),?_⟩⟩
   rw[IH]
   exact k x H1 s1 hS1 hH1 _ cO ak
def RL (K:PySem.W.Frag) (A:aT):Sp:=fun vs H Q E=> ∃(G:Hg) (R:Rg) (Z:Hp) (x:Addr) (h:Sound.Head),vs= [.ref G.p]∧jy A H G R (.ref x)∧jT A H x h∧dq K H R∧aJ A.ay H R 26∧dP A.bU Z H R.r G.t []∧(6≤h.t∧h.t≤1024∧26≤R.B.length∧ah K (hide G.t (hide R.r H)) R.q (vN (bn R.B)))∧
 rZ A H R Z G.t (26+h.t) (Sound.areaOf h.t ((R.B.drop 26).take h.t)) Q E
theorem Qk:aK ["hearing"] ["hearing"] (aD zH):=⟨rfl,rfl,rfl,by decide+kernel,rfl,by decide+kernel,by decide+kernel⟩
theorem Jm (T:Txt K mg A):az P w K mg base (aR P w) 8 A.iB A.kr ["hearing"] (RL K A):=by
 refine T.DS.bN Qk (fun vs H Q E h=>?_) (fun cdv Ar outer s H vs Q E hr h=>?_)
 ·obtain ⟨G,R,Z,x,h,rfl,_⟩:=h
  rfl
 ·obtain ⟨G,R,Z,x,h,rfl,hG,⟨dx,f,hh1,hh2⟩,hI,hx,ht,hb,k⟩:=h
  refine ⟨_,aj (a8 (aS (Jk T) hr rfl T.JR T.AS.kp T.MV .nil aN (aa (ax (pv 0) rfl) (aa (ax (ax (pv 0) rfl) rfl) (aa (ax (pv 0) rfl) af))))),?_⟩
  unfold jy at hG
  exact (aA rfl hG T.bD T.iu rfl (aA rfl hG T.bD T.f7 rfl (fI hh1 T.e9 T.xE rfl (aA rfl hG T.bD T.uQ rfl (aC R Z G.t h.t ⟨rfl,hI,hx,ht,hb,k⟩)))))
theorem Lg {t:Nat} {b l:_} (h:Sound.areaOf t b=(l, .whole)):t≤b.length:=by
 unfold Sound.areaOf at h
 split at h
 ·cases h
 ·split at h
  ·cases h
  ·split at h
   ·rename_i l' a e
    cases h
    exfalso
    revert e
    generalize Sound.fromHigh (b.take 2)=k
    generalize Sound.HEAD+2=a0
    generalize t-6=n0
    generalize ([]:List Sound.Bytes)=s0
    generalize b.drop 2=b0
    induction k generalizing a0 n0 s0 b0 with
    |zero=>unfold Sound.tagItems;intro e;cases e
    |succ k ih=>
     rw[xK]
     cases e1:ft a0 n0 s0 b0 with
     |inl st=>
      intro e
      cases e
      exact Ak e1
     |inr z=>exact ih _ _ _ _
   ·split at h
    ·cases h
    ·split at h
     ·cases h
     ·omega
def Al (B:Sound.Bytes):Option (Sound.Head×List Sound.Bytes):=match cN B with
 | .error _=>none
 | .ok h=>match Sound.areaOf h.t ((B.drop 26).take h.t) with
  |(l, .whole)=>some (h,l)
  |_=>none
structure Hs where
 w:Sound.Told
 starts:List Nat
 idx:Sound.Bytes
 pl:Nat
structure Hx where
 p:Addr
 dp:Addr
 r:Addr
 dr:Addr
 q:Addr
 t:Addr
 a:Addr
 c:Addr
 B:Sound.Bytes
def Hx.R (X:Hx):Rg:=⟨X.r,X.dr,X.q,X.B⟩
def Hx.l (X:Hx):List Addr:= [X.p,X.r,X.t,X.a,X.c]
def Hx.f (X:Hx) (H:Hp):Hp:=bY X.l H
theorem Hx.mp (X:Hx):X.p∈X.l:= .head _
theorem Hx.mr (X:Hx):X.r∈X.l:= .tail _ (.head _)
theorem Hx.mt (X:Hx):X.t∈X.l:= .tail _ (.tail _ (.head _))
theorem Hx.ma (X:Hx):X.a∈X.l:= .tail _ (.tail _ (.tail _ (.head _)))
theorem Hx.mc (X:Hx):X.c∈X.l:= .tail _ (.tail _ (.tail _ (.tail _ (.head _))))
theorem fC {p r t a c:Addr} (h: [p,r,t,a,c].Nodup):(p≠r∧p≠t∧p≠a∧p≠c)∧(r≠t∧r≠a∧r≠c)∧(t≠a∧t≠c)∧a≠c:=by
 simp only [List.nodup_cons,List.mem_cons,List.not_mem_nil,or_false,not_or,not_false_eq_true,List.nodup_nil,and_true] at h
 exact h
def me (A:aT) (F:Hp) (o:Option Sound.Head) (hv:V):Prop:=match o with
 |none=>hv= .au
 |some h=> ∃x,hv= .ref x∧jT A F x h
def tN (A:aT) (H F:Hp) (t:Addr) (l:List Sound.Bytes):Prop:= ∃as:List Addr,H t=some (.lst (as.map V.ref))∧as.length=l.length∧ ∀(k:Nat) (a:Addr),as[k]?=some a→ky A.bU F a (l.getD k [])
structure HI (K:PySem.W.Frag) (A:aT) (H:Hp) (X:Hx) (S:Hs) (hv:V) (b:Addr):Prop where
 nd:X.l.Nodup
 hp:H X.p=some (.ins A.br X.dp (cC (.ref X.r) hv (.ref X.t) (.ref X.a) (.ref b) (.int (S.w.frames:Nat)) (.ref X.c)))
 hh:me A (X.f H) S.w.head hv
 ht:tN A H (X.f H) X.t S.w.tags
 ha:H X.a=some (.lst (vN S.starts))
 hc:H X.c=some (.lst (S.w.s.map V.int))
 hb:X.f H b=some (.lst (vN (bn S.idx)))
 hq:ah K (X.f H) X.q (vN (bn X.B))
 hl:X.B.length≤16384
theorem me.same {F F':Hp} {o:Option Sound.Head} {hv:V} (h:me A F o hv) (s:ae F F'):me A F' o hv:=by
 cases o with
 |none=>exact h
 |some x=>
  obtain ⟨y,h1,h2⟩:=h
  exact ⟨y,h1,h2.same s⟩
theorem tN.same {H H' F F':Hp} {t:Addr} {l:List Sound.Bytes} (h:tN A H F t l) (e:H' t=H t) (s:ae F F'):tN A H' F' t l:=by
 obtain ⟨as,h1,h2,h3⟩:=h
 exact ⟨as,by rw[e];exact h1,h2,fun k a q=>(h3 k a q).same s⟩
theorem HI.go {H H':Hp} {X:Hx} {S:Hs} {hv:V} {b:Addr} (h:HI K A H X S hv b) (s:ae (hide X.r H) H'):HI K A H' X S hv b:=by
 obtain ⟨⟨n1,n2,n3,n4⟩,⟨n5,n6,n7⟩,⟨n8,n9⟩,n10⟩:=fC h.nd
 have sf:ae (X.f H) (X.f H'):=fQ (cI X.mr s)
 have keep: ∀y o,y≠X.r→H y=some o→H' y=some o:=fun y o hy e=>s y o (by rw[hide_ne hy];exact e)
 obtain ⟨as,t1,t2,t3⟩:=h.ht
 exact ⟨h.nd,keep _ _ n1 h.hp,h.hh.same sf,⟨as,keep _ _ n5.symm t1,t2,fun k a q=>(t3 k a q).same sf⟩,keep _ _ n6.symm h.ha,keep _ _ n7.symm h.hc,sf _ _ h.hb,sf.seq h.hq,h.hl⟩
theorem HI.fB {H:Hp} {X:Hx} {S:Hs} {hv:V} {b:Addr} (h:HI K A H X S hv b):dq K H X.R:=by
 refine ⟨?_,h.hl⟩
 have s:ae (X.f H) (hide X.r H):=fun y o e=>by
  obtain ⟨e1,e2⟩:=cy e
  rw[hide_ne (gG X.mr e2)];exact e1
 exact s.seq h.hq
theorem HI.off {H:Hp} {X:Hx} {S:Hs} {hv:V} {b:Addr} {y:Addr} {pl:Nat} (h:HI K A H X S hv b) (hS:H X.r≠none) (hy:H y=none):y∉X.l:=by
 intro z
 obtain ⟨as,t1,_⟩:=h.ht
 simp only [Hx.l,List.mem_cons,List.not_mem_nil,or_false] at z
 rcases z with z|z|z|z|z
 ·rw[z,h.hp] at hy;cases hy
 ·rw[z] at hy;exact hS hy
 ·rw[z,t1] at hy;cases hy
 ·rw[z,h.ha] at hy;cases hy
 ·rw[z,h.hc] at hy;cases hy
structure dW where
 pre:Sound.Bytes→Hs→Prop
 f:Sound.Bytes→Hs→Except (Sound.Told×Nat×Nat) Hs
def gN (K:PySem.W.Frag) (A:aT) (H:Hp) (X:Hx) (o:Except (Sound.Told×Nat×Nat) Hs) (Q:VK) (E:XK):Prop:=match o with
 | .ok S=> ∀H' hv b,ae (X.f H) H'→HI K A H' X S hv b→aJ A.ay H' X.R S.pl→Q .au H'
 | .error (w,k,p)=> ∀H' S hv b,ae (X.f H) H'→HI K A H' X S hv b→S.w=w→dn A.ay H' X.R k p→E (.ref A.bT) none H'
def jc (K:PySem.W.Frag) (A:aT) (s:dW):Sp:=fun vs H Q E=> ∃(X:Hx) (S:Hs) (hv:V) (b:Addr),vs= [.ref X.p]∧HI K A H X S hv b∧aJ A.ay H X.R S.pl∧s.pre X.B S∧gN K A H X (s.f X.B S) Q E
def jM:dW:=⟨fun _ S=>S.pl=0,fun B S=>match cN B with
 | .error (k,p)=> .error (S.w,k,p)
 | .ok h=> .ok ⟨⟨some h,S.w.tags,S.w.s,S.w.frames⟩,S.starts,S.idx,26⟩⟩
def wD (X:Hx) (S:Hs) (b:Addr):Hg:=⟨X.p,X.dp,X.t, .ref X.a, .ref b, .int (S.w.frames:Nat), .ref X.c⟩
theorem OQ (T:Txt K mg A):az P w K mg base (aR P w) 8 A.iG A.lz ["hearing"] (jc K A jM):=by
 refine (FC T).imp fun vs H Q E h=>?_
 obtain ⟨X,S,hv,b,rfl,hi,hS,hp0,k⟩:=h
 have hp0:S.pl=0:=hp0
 obtain ⟨⟨n1,n2,n3,n4⟩,⟨n5,n6,n7⟩,⟨n8,n9⟩,n10⟩:=fC hi.nd
 refine ⟨wD X S b,X.R,hv,rfl,hi.hp,hi.fB,by rw[←hp0];exact hS,?_⟩
 unfold gN jM at k
 dsimp only at k
 unfold rW
 show match cN X.B with
  | .ok h=>_
  | .error (k,p)=>_
 cases e:cN X.B with
 |error z=>
  obtain ⟨kk,pp⟩:=z
  rw[e] at k
  exact fun H' s' hF=>k H' S hv b (cI X.mr s') (hi.go s') rfl hF
 |ok h=>
  rw[e] at k
  dsimp only at k⊢
  intro x H1 s1 hS1 hH1 H2 s2 hG2
  have i1:=hi.go s1
  have keep: ∀y o,y≠X.p→H1 y=some o→H2 y=some o:=fun y o hy e=>s2 y o (by rw[show (wD X S b).p=X.p from rfl,hide_ne hy];exact e)
  have sf:ae (X.f H1) (X.f H2):=fQ (cI X.mp s2)
  obtain ⟨as,t1,t2,t3⟩:=i1.ht
  refine k H2 (.ref x) b (cc (cI X.mr s1) (cI X.mp s2)) ⟨hi.nd,hG2,⟨x,rfl,hH1.same fun y o e=>?_⟩,⟨as,keep _ _ n2.symm t1,t2,fun k a q=>(t3 k a q).same sf⟩,keep _ _ n3.symm i1.ha,keep _ _ n4.symm i1.hc,sf _ _ i1.hb,sf.seq i1.hq,hi.hl⟩ (keep _ _ n1.symm hS1)
  obtain ⟨e1,e2⟩:=ke e
  have ho:=hi.off (pl:=0) (by unfold aJ at hS;rw[show X.r=X.R.r from rfl,hS];exact fun z=>by cases z) e1
  rw[show X.f H2 y=H2 y from dO ho]
  exact keep _ _ (gG X.mp ho) e2
def jd:dW:=⟨fun B S=>S.pl=26∧S.w.tags= []∧ ∃h,S.w.head=some h∧6≤h.t∧h.t≤1024∧26≤B.length,fun B S=>match S.w.head with
 |none=> .ok S
 |some h=>match Sound.areaOf h.t ((B.drop 26).take h.t) with
  |(l, .whole)=> .ok ⟨⟨some h,l,S.w.s,S.w.frames⟩,S.starts,S.idx,26+h.t⟩
  |(l, .more)=> .error (⟨some h,l,S.w.s,S.w.frames⟩,1,B.length)
  |(l, .fault k p)=> .error (⟨some h,l,S.w.s,S.w.frames⟩,k,p)⟩
theorem E4 (T:Txt K mg A):az P w K mg base (aR P w) 8 A.iB A.kr ["hearing"] (jc K A jd):=by
 refine (Jm T).imp fun vs H Q E h=>?_
 obtain ⟨X,S,hv,b,rfl,hi,hS,⟨hp0,hts,h,eh,hh⟩,k⟩:=h
 obtain ⟨⟨n1,n2,n3,n4⟩,⟨n5,n6,n7⟩,⟨n8,n9⟩,n10⟩:=fC hi.nd
 have hx:=hi.hh
 rw[eh] at hx
 obtain ⟨x,rfl,hx⟩:=hx
 obtain ⟨as,t1,t2,t3⟩:=hi.ht
 rw[hts] at t2
 have has:as= []:=List.length_eq_zero_iff.mp t2
 subst has
 have sff:ae (X.f H) (hide X.t (hide X.r H)):=fun y o e=>by
  obtain ⟨e1,e2⟩:=cy e
  rw[hide_ne (gG X.mt e2),hide_ne (gG X.mr e2)];exact e1
 refine ⟨wD X S b,aC X.R H x h ⟨rfl,hi.hp,hx.same (kW _ _),hi.fB,by rw[←hp0];exact hS,⟨[],by show hide X.r H X.t=_;rw[hide_ne n5.symm];exact t1,rfl,fun k a e=>by simp at e,fun y hy _ _=>hy⟩,⟨hh.1,hh.2.1,hh.2.2,sff.seq hi.hq⟩,?_⟩⟩
 unfold gN jd at k
 dsimp only at k
 rw[eh] at k
 dsimp only at k
 have fin: ∀(l:List Sound.Bytes) (H':Hp) (pl':Nat),ae (hide X.t (hide X.r H)) H'→dP A.bU H H' X.r X.t l→HI K A H' X ⟨⟨some h,l,S.w.s,S.w.frames⟩,S.starts,S.idx,pl'⟩ (.ref x) b:=fun l H' pl' s' ht'=>by
  have keep: ∀y o,y≠X.r→y≠X.t→H y=some o→H' y=some o:=fun y o hy hy2 e=>s' y o (by rw[hide_ne hy2,hide_ne hy];exact e)
  have sf:ae (X.f H) (X.f H'):=fQ (qL X.mr X.mt s')
  obtain ⟨as',u1,u2,u3,_⟩:=ht'
  refine ⟨hi.nd,keep _ _ n1 n2 hi.hp,⟨x,rfl,hx.same sf⟩,⟨as',(cu u1).1,u2,fun k a e=>(u3 k a e).same fun y o e=>?_⟩,keep _ _ n6.symm n8.symm hi.ha,keep _ _ n7.symm n9.symm hi.hc,sf _ _ hi.hb,sf.seq hi.hq,hi.hl⟩
  obtain ⟨e1,e2⟩:=ke e
  have ho:=hi.off (pl:=0) (by unfold aJ at hS;rw[show X.r=X.R.r from rfl,hS];exact fun z=>by cases z) e1
  rw[show X.f H' y=H' y from dO ho]
  exact (cu (cu e2).1).1
 unfold rZ
 show match Sound.areaOf h.t ((X.B.drop 26).take h.t) with
  |(l, .whole)=>_
  |(l, .more)=>_
  |(l, .fault k p)=>_
 cases ea:Sound.areaOf h.t ((X.B.drop 26).take h.t) with
 |mk l st=>
  rw[ea] at k
  cases st with
  |whole=>exact fun H' s' hS' ht'=>k H' (.ref x) b (qL X.mr X.mt s') (fin l H' _ s' ht') hS'
  |more=>exact fun H' s' hF ht'=>k H' _ (.ref x) b (qL X.mr X.mt s') (fin l H' 0 s' ht') rfl hF
  |fault kk pp=>exact fun H' s' hF ht'=>k H' _ (.ref x) b (qL X.mr X.mt s') (fin l H' 0 s' ht') rfl hF
theorem ite_val {c:Prop} [Decidable c] {ta tb:TE} {σ:L2.St} {H:Hp} {Q:VK} (v:V) (H1:Hp) (hA:c→ ∀Q:VK,Q v H1→ta σ H Q) (hB: ¬c→ ∀Q:VK,Q v H1→tb σ H Q) (r:Q v H1):if c then ta σ H Q else tb σ H Q:=by
 by_cases h:c
 ·rw[if_pos h];exact hA h Q r
 ·rw[if_neg h];exact hB h Q r
theorem Rr {F:Sound.Form} (n:Nat) (hb:1≤F.block):Sound.framesOf F n≤n:=by
 unfold Sound.framesOf
 rcases Nat.eq_zero_or_pos n with h|h
 ·rw[h,Nat.div_eq_of_lt (by omega)];exact Nat.le_refl _
 ·refine Nat.div_le_of_le_mul ?_
  have:=Nat.mul_le_mul (show 1≤F.block from hb) (show 1≤n from h)
  obtain ⟨b,hb'⟩: ∃b,F.block=b+1:=⟨F.block-1,by omega⟩
  obtain ⟨m,hm⟩: ∃m,n=m+1:=⟨n-1,by omega⟩
  rw[hb',hm,Nat.add_mul,Nat.mul_add]
  omega
def Iw (C:Addr):Sp:=fun vs H Q _=> ∃(f:Addr) (F:Sound.Form) (n:Nat),vs= [.ref f, .int (n:Nat)]∧fP C H f F∧(1≤F.block∧F.block≤256)∧Q (.int (Sound.framesOf F n:Nat)) H
theorem LG:aK ["self", "samples"] ["self", "samples"] (aD Cr):=⟨rfl,rfl,rfl,by decide+kernel,rfl,by decide+kernel,by decide+kernel⟩
theorem FL (T:Txt K mg A):az P w K mg base ba 1 A.m9 A.pN ["self", "samples"] (Iw A.bH):=by
 refine T.Ke.ok LG (fun vs H Q E h=>?_) (fun cdv Ar outer s H vs Q E hr h=>?_)
 ·obtain ⟨f,F,n,rfl,_⟩:=h
  rfl
 ·obtain ⟨f,F,n,rfl,⟨df,hf⟩,hb,k⟩:=h
  refine ⟨_,aj (aW (aw jA (aw du (aw b5 (pv 1) (ax (pv 0) rfl)) aq) (ax (pv 0) rfl))),?_⟩
  refine ⟨_,rfl,aA rfl hf T.b4 T.jz rfl (ag _ _ ⟨rfl,rfl,ag _ _ ⟨rfl,rfl,aA rfl hf T.b4 T.jz rfl (ag _ _ ⟨rfl,rfl,⟨by omega,by omega⟩,?_⟩)⟩⟩)⟩
  have e:((n:Nat):Int)+((F.block:Nat):Int)-1=((n+F.block-1:Nat):Int):=by omega
  dsimp only
  rw[e,←Int.natCast_ediv]
  exact k
def fA (x:Sound.Bytes) (k:Nat):Bool:=if k=0 then Sound.entry x 0 !=0 else decide (Sound.entry x k≤Sound.entry x (k-1))
theorem JA {n k:Nat} {x:Sound.Bytes} (h:k<n) (hx:3*k+3≤x.length) (h1:fA x k=true) (h2: ∀j,j<k→fA x j=false):Sound.indexFault n x=some k:=by
 unfold Sound.indexFault
 refine List.find?_range_eq_some.mpr ⟨h1,List.mem_range.mpr (by omega),fun j hj=>?_⟩
 have:=h2 j hj
 unfold fA at this
 rw[this];rfl
theorem Bn {n:Nat} {x:Sound.Bytes} (h2: ∀j,j<n→3*j+3≤x.length→fA x j=false):Sound.indexFault n x=none:=by
 unfold Sound.indexFault
 refine List.find?_range_eq_none.mpr fun j hj=>?_
 have:=h2 j (by omega) (by omega)
 unfold fA at this
 rw[this];rfl
def dH (B:Sound.Bytes) (at_ n:Nat):Except (Nat×Nat) Unit:=match Sound.indexFault n ((B.drop at_).take (3*n)) with
 |some k=> .error (7,at_+3*k)
 |none=>if B.length<at_+3*n+4 then .error (1,B.length) else if Sound.fromHigh ((B.drop (at_+3*n)).take 4)≠Sound.crc32 ((B.drop at_).take (3*n)) then .error (8,at_+3*n) else .ok ()
def entries (B:Sound.Bytes) (at_ n:Nat):List Nat:=(List.range n).map (Sound.entry ((B.drop at_).take (3*n)))
def i7:dW:=⟨fun B S=>S.starts= []∧S.pl≤B.length∧ ∃h,S.w.head=some h∧Sound.mayHead h=true∧S.pl=26+h.t,fun B S=>match S.w.head with
 |none=> .ok S
 |some h=>match dH B (26+h.t) (Sound.framesOf h.form h.n) with
  | .error (k,p)=> .error (S.w,k,p)
  | .ok _=> .ok ⟨S.w,entries B (26+h.t) (Sound.framesOf h.form h.n),(B.drop (26+h.t)).take (3*Sound.framesOf h.form h.n+4),26+h.t+3*Sound.framesOf h.form h.n+4⟩⟩
theorem gA {h:Sound.Head} (e:Sound.mayHead h=true):h.form.ok=true∧h.n*h.form.channels≤2048∧6≤h.t∧h.t≤1024:=by
 unfold Sound.mayHead at e
 simp only [Bool.and_eq_true,decide_eq_true_eq] at e
 exact ⟨e.1,e.2.1,e.2.2.1,e.2.2.2⟩
theorem zk {h:Sound.Head} (e:Sound.mayHead h=true):h.n≤2048:=by
 obtain ⟨e1,e2,_⟩:=gA e
 have hc:=(ib e1).1.1
 exact Nat.le_trans (Nat.le_mul_of_pos_right _ hc) e2
theorem Me (r h t s i f n i':V):bz "index_bytes" i' (cC r h t s i f n)=cC r h t s i' f n:=by
 have n1: ¬("reading" :Str)= "index_bytes" :=by decide
 have n2: ¬("head" :Str)= "index_bytes" :=by decide
 have n3: ¬("tags" :Str)= "index_bytes" :=by decide
 have n4: ¬("starts" :Str)= "index_bytes" :=by decide
 simp only [cC,bz,if_neg n1,if_neg n2,if_neg n3,if_neg n4];rfl
theorem HI.starts {H:Hp} {X:Hx} {S:Hs} {hv:V} {b:Addr} (h:HI K A H X S hv b) (l:List Nat) (pl:Nat):HI K A (upd H X.a (.lst (vN l))) X ⟨S.w,l,S.idx,pl⟩ hv b:=by
 obtain ⟨⟨n1,n2,n3,n4⟩,⟨n5,n6,n7⟩,⟨n8,n9⟩,n10⟩:=fC h.nd
 have sf:ae (X.f H) (X.f (upd H X.a (.lst (vN l)))):=fQ (iZ X.ma)
 exact ⟨h.nd,bJ n3 h.hp,h.hh.same sf,h.ht.same (aG n8) sf,ak,bJ n10.symm h.hc,sf _ _ h.hb,sf.seq h.hq,h.hl⟩
theorem HI.qY {H:Hp} {X:Hx} {S:Hs} {hv:V} {b:Addr} (h:HI K A H X S hv b) (pl:Nat):HI K A H X ⟨S.w,S.starts,S.idx,pl⟩ hv b:=⟨h.nd,h.hp,h.hh,h.ht,h.ha,h.hc,h.hb,h.hq,h.hl⟩
theorem HI.Na {H:Hp} {X:Hx} {S:Hs} {hv:V} {b D:Addr} (h:HI K A H X S hv b) (hD:H D=none) (ho:D∉X.l) (l:Sound.Bytes) (pl:Nat):HI K A (upd (upd H D (.lst (vN (bn l)))) X.p (.ins A.br X.dp (cC (.ref X.r) hv (.ref X.t) (.ref X.a) (.ref D) (.int (S.w.frames:Nat)) (.ref X.c)))) X ⟨S.w,S.starts,l,pl⟩ hv D:=by
 obtain ⟨⟨n1,n2,n3,n4⟩,⟨n5,n6,n7⟩,⟨n8,n9⟩,n10⟩:=fC h.nd
 generalize hG:HO.ins A.br X.dp (cC (.ref X.r) hv (.ref X.t) (.ref X.a) (.ref D) (.int (S.w.frames:Nat)) (.ref X.c))=o
 have sf:ae (X.f H) (X.f (upd (upd H D (.lst (vN (bn l)))) X.p o)):=fQ (cc (kl (aL hD)) (iZ X.mp))
 have keep: ∀y u,y≠X.p→H y=some u→upd (upd H D (.lst (vN (bn l)))) X.p o y=some u:=fun y u hy e=>bJ hy (aL hD _ _ e)
 obtain ⟨as,t1,t2,t3⟩:=h.ht
 refine ⟨h.nd,by rw[ak,←hG],h.hh.same sf,⟨as,keep _ _ n2.symm t1,t2,fun k a q=>(t3 k a q).same sf⟩,keep _ _ n3.symm h.ha,keep _ _ n4.symm h.hc,?_,sf.seq h.hq,h.hl⟩
 rw[show X.f (upd (upd H D (.lst (vN (bn l)))) X.p o) D=_ from dO ho]
 exact bJ (gG X.mp ho) ak
theorem jF:aK ["hearing", "reading", "begin", "k", "place", "start", "right"] ["hearing"] (aD z8):=⟨rfl,rfl,rfl,by decide+kernel,rfl,by decide+kernel,by decide+kernel⟩
theorem EX (l:List Nat) (n:Nat):vN l++ [V.int (n:Nat)]=vN (l++ [n]):=by unfold vN;simp
theorem entry_at {B:Sound.Bytes} {at_ n i:Nat} (h:i<n):Sound.entry ((B.drop at_).take (3*n)) i=Sound.fromHigh ((B.drop (at_+3*i)).take 3):=by
 unfold Sound.entry
 rw[rm (by omega)]
theorem Qj (T:Txt K mg A):az P w K mg base (aR P w) 6 A.jt A.qd ["hearing"] (jc K A i7):=by
 refine T.zW.bN jF (fun vs H Q E h=>?_) (fun cdv Ar outer s H vs Q E hr h=>?_)
 ·obtain ⟨X,S,hv,b,rfl,_⟩:=h
  rfl
 ·obtain ⟨X,S,hv,b,rfl,hi,hS,⟨hs0,hplB,h,eh,hm,hpl⟩,k⟩:=h
  have hr1':aF 1 _:=hr.mono (by decide)
  have hr4':aF 4 _:=hr.mono (by decide)
  have hr5':aF 5 _:=hr.mono (by decide)
  refine ⟨_,ai (aI (i:=1) jF.nd rfl (Or.inl rfl) (ax (pv 0) rfl))
   (ai (aI (i:=2) jF.nd rfl (Or.inl rfl) (ax (pv 1) rfl))
   (ai (cj PassesOwn.leaving rfl (fk rfl T.dQ (aa (aP (ax (ax (pv 0) rfl) rfl) T.b4 T.QY (FL T) hr1' T.Jz .nil aU (aa (ax (ax (pv 0) rfl) rfl) af)) af)) (bo (i:=3) jF.nd rfl (Or.inl rfl))
    (ai (aI (i:=4) jF.nd rfl (Or.inl rfl) (ax (pv 1) rfl))
    (ai (aI (i:=5) jF.nd rfl (Or.inl rfl) (aP (pv 1) T.aM T.kh (kX T) hr4' T.lq .nil aN (aa (aV rfl T.N3) af)))
    (ai (aI (i:=6) jF.nd rfl (Or.inl rfl) (lH (bq d4 (pv 3) aq (aX _)) (gP d4 (pv 5) (cH dY (ax (pv 0) rfl) (jV ju aq) (fun _ _=>rfl)) (aX _)) (gP dA (pv 5) aq (aX _))))
    (ai (bp (iW (iF (pv 6))) (aj (a8 (aP (pv 1) T.aM T.dv (dR T) hr1' T.dw .nil aN (aa (aV rfl T.Om) (aa (pv 4) af))))) bu)
    (aj (a8 (gg PySem.F.plainAttrs_list PySem.F.slot_list_append PySem.F.type_list_append l7 (ax (pv 0) rfl) (aa (pv 5) af)))))))))
   (ai (a8 (aP (pv 1) T.aM T.uF (ud T) hr5' T.uK .nil aN (aa (pv 2) (aa (aV rfl T.Gm) af))))
   (aj (bc (pv 0) (eZ fu (ax (pv 1) rfl) (cQ (pv 2)) (cQ (ax (pv 1) rfl))) rfl))))),?_⟩
  obtain ⟨⟨n1,n2,n3,n4⟩,⟨n5,n6,n7⟩,⟨n8,n9⟩,n10⟩:=fC hi.nd
  have hx:=hi.hh
  rw[eh] at hx
  obtain ⟨x,rfl,dx,f,hx1,df,hf⟩:=hx
  have hx1':=(cy hx1).1
  have hf':=(cy hf).1
  have ao:=(gA hm).1
  have hn:=zk hm
  obtain ⟨_,_,⟨hb1,hb2⟩,_⟩:=ib ao
  have e62:(2:Int)^62=4611686018427387904:=by decide
  have hSr:=hS
  unfold aJ at hSr
  refine (aA rfl hi.hp T.bD T.iu rfl ?_)
  refine (aA rfl hSr T.aM T.cG rfl ?_)
  refine (aA rfl hi.hp T.bD T.f7 rfl (fI hx1' T.e9 T.lr rfl (mJ hf' rfl (aA rfl hi.hp T.bD T.f7 rfl (fI hx1' T.e9 T.r8 rfl (bG f (Sound.eager h.form) h.n ⟨rfl,⟨df,hf'⟩,⟨by show 1≤h.form.block;omega,by show h.form.block≤256;omega⟩,?_⟩))))))
  have eN:Sound.framesOf (Sound.eager h.form) h.n=Sound.framesOf h.form h.n:=rfl
  rw[eN]
  have hNn:=Rr h.n (F:=h.form) (by omega)
  unfold gN i7 at k
  dsimp only at k
  rw[eh] at k
  dsimp only at k
  generalize hN:Sound.framesOf h.form h.n=N at*
  refine ⟨_,rfl,by omega,by omega,?_⟩
  rw[←hpl] at k
  generalize hat:S.pl=at_ at*
  clear hpl
  generalize hxb:(X.B.drop at_).take (3*N)=xb at*
  have hxl: ∀j,j≤3*N→(xb.length<j↔X.B.length<at_+j):=fun j hj=>by rw[←hxb];exact tp hj hplB
  have hxe: ∀i,i<N→Sound.entry xb i=Sound.fromHigh ((X.B.drop (at_+3*i)).take 3):=fun i hi=>by rw[←hxb];exact entry_at hi
  refine fE (lo:=0) (n:=((N:Nat):Int).toNat) (fun i σ H'=> ∃v3 v4 v5 v6:Option V,σ= [some (.ref X.p),some (.ref X.r),some (.int (at_:Nat)),v3,v4,v5,v6]∧ae (X.f H) H'∧HI K A H' X ⟨S.w,(List.range i).map (Sound.entry xb),S.idx,at_+3*i⟩ (.ref x) b∧aJ A.ay H' X.R (at_+3*i)∧(∀j,j<i→fA xb j=false)∧at_+3*i≤X.B.length)
   ⟨none,none,none,none,rfl,kW _ _,by have:=hi.qY at_;rw[hs0] at this;exact this,hS,fun j hj=>by omega,hplB⟩ ?_ ?_
  ·rintro i σ H1 bf ⟨v3,v4,v5,v6,rfl,s1,i1,hS1,hg1,hB1⟩
   rw[Int.toNat_natCast] at bf
   have hS1r:=hS1
   unfold aJ at hS1r
   refine (aA rfl hS1r T.aM T.cG rfl ?_)
   refine (aO rfl hS1r rfl ⟨X.R,at_+3*i,3,rfl,i1.fB,hS1,by decide,?_⟩)
   unfold cJ dD
   by_cases c1:X.R.B.length<at_+3*i+3
   ·rw[if_pos c1]
    have c1:X.B.length<at_+3*i+3:=c1
    have e1:Sound.indexFault N xb=none:=Bn fun j hj hl=>hg1 j (by have:=hxl (3*i+3) (by omega);omega)
    have e2:dH X.B at_ N= .error (1,X.B.length):=by
     unfold dH
     rw[hxb,e1]
     dsimp only
     rw[if_pos (by omega)]
    rw[e2] at k
    exact fun H' s' hF=>k H' _ _ _ (cc s1 (cI X.mr s')) (i1.go s') rfl hF
   rw[if_neg c1]
   have c1: ¬X.B.length<at_+3*i+3:=c1
   dsimp only
   intro H2 s2 hS2
   have i2:=i1.go s2
   have s12:=cc s1 (cI X.mr s2)
   have hS2r:=hS2
   unfold aJ at hS2r
   rw[show X.R.B=X.B from rfl,←hxe i bf]
   have hlx: ¬xb.length<3*i+3:=fun z=>c1 (by have:=(hxl (3*i+3) (by omega)).mp z;omega)
   refine ⟨_,rfl,ag _ _ ⟨rfl,rfl,_,rfl,?_⟩⟩
   refine ite_val (.bl (!fA xb i)) H2 (fun c Q' r=>?A) (fun c Q' r=>?B) ?C
   case A=>
    have c:(0:Int)<0+((i:Nat):Int):=of_decide_eq_true c
    obtain ⟨j,rfl⟩: ∃j,i=j+1:=⟨i-1,by omega⟩
    refine ⟨_,rfl,_,rfl,X.p,A.br,X.dp,_,_,rfl,i2.hp,T.bD,T.qF,rfl,_,rfl,X.a,_,_,_,rfl,rfl,ah.of i2.ha,(by
     show fZ (vN ((List.range (j+1)).map (Sound.entry xb))) (-1)=some (V.int ((Sound.entry xb j:Nat):Int))
     rw[List.range_succ,List.map_append,List.map_cons,List.map_nil,←EX]
     exact JV _ _),_,_,rfl,rfl,?_⟩
    have e:decide (((Sound.entry xb j:Nat):Int)<((Sound.entry xb (j+1):Nat):Int))=!fA xb (j+1):=by
     unfold fA
     rw[if_neg (by omega),Nat.add_sub_cancel]
     by_cases q:Sound.entry xb (j+1)≤Sound.entry xb j
     ·rw[decide_eq_true q,decide_eq_false (by omega)];rfl
     ·rw[decide_eq_false q,decide_eq_true (by omega)];rfl
    dsimp only
    rw[e]
    exact r
   case B=>
    have c: ¬(0:Int)<0+((i:Nat):Int):=fun z=>c (decide_eq_true z)
    obtain rfl:i=0:=by omega
    refine ⟨_,rfl,rfl,?_⟩
    have e:decide (V.int ((Sound.entry xb 0:Nat):Int)=V.int 0)=!fA xb 0:=by
     unfold fA
     rw[if_pos rfl]
     by_cases q:Sound.entry xb 0=0
     ·rw[q];rfl
     ·rw[decide_eq_false (fun z=>q (by have:=V.int.inj z;omega)),bne_iff_ne.mpr q];rfl
    rw[e]
    exact r
   case C=>
    refine ⟨_,rfl,_,rfl,?_⟩
    cases hbad:fA xb i with
    |true=>
     have e2:dH X.B at_ N= .error (7,at_+3*i):=by
      unfold dH
      rw[hxb,JA bf (by omega) hbad hg1]
     rw[e2] at k
     refine bt (aO rfl hS2r rfl ⟨_,rfl,X.r,X.dr,_,_,_,_,7,at_+3*i,rfl,hS2r,?_⟩)
     have s3:=cO (r:=X.r) (H:=H2) (o:= .ins A.ay X.dr (bC (.ref X.R.q) (.int ((at_+3*i+3:Nat):Int)) (.int ((7:Nat):Int)) (.int ((at_+3*i:Nat):Int))))
     exact k _ _ _ _ (cc s12 (cI X.mr s3)) (i2.go s3) rfl ⟨_,ak⟩
    |false=>
     refine bB (aA rfl i2.hp T.bD T.qF rfl ⟨.inl ⟨rfl,_,ah.of i2.ha⟩,_,rfl,bG X.a _ _ ⟨rfl,rfl,i2.ha,(by rw[aZ,List.length_map,List.length_range,sizeLine_eq];omega),?_⟩⟩)
     rw[EX,show (List.range i).map (Sound.entry xb)++ [Sound.entry xb i]=(List.range (i+1)).map (Sound.entry xb) by rw[List.range_succ,List.map_append];rfl]
     refine (aC _ _ _ _ ⟨rfl,cc s12 (iZ X.ma),i2.starts _ _,?_,fun j hj=>?_,by omega⟩)
     ·unfold aJ
      rw[show X.R.r=X.r from rfl,aG n6]
      exact hS2r
     ·by_cases hj2:j<i
      ·exact hg1 j hj2
      ·rw[show j=i by omega];exact hbad
  ·rintro σ H1 ⟨v3,v4,v5,v6,rfl,s1,i1,hS1,hg1,hB1⟩
   rw[Int.toNat_natCast] at i1 hS1 hg1 hB1
   have hS1r:=hS1
   unfold aJ at hS1r
   have e1:Sound.indexFault N xb=none:=Bn fun j hj hl=>hg1 j hj
   refine (aO rfl hS1r rfl ⟨_,rfl,X.R,at_+3*N,ag at_ 8 ⟨rfl,i1.fB,hS1,?_⟩⟩)
   unfold cJ qj
   unfold dH at k
   rw[hxb,e1] at k
   dsimp only at k
   by_cases c1:X.R.B.length<at_+3*N+4
   ·rw[if_pos c1]
    rw[if_pos (show X.B.length<at_+3*N+4 from c1)] at k
    exact fun H' s' hF=>k H' _ _ _ (cc s1 (cI X.mr s')) (i1.go s') rfl hF
   rw[if_neg c1]
   rw[if_neg (show¬X.B.length<at_+3*N+4 from c1)] at k
   rw[show at_+3*N-at_=3*N by omega,show X.R.B=X.B from rfl,hxb]
   by_cases c2:Sound.fromHigh ((X.B.drop (at_+3*N)).take 4)≠Sound.crc32 xb
   ·rw[if_pos c2]
    rw[if_pos c2] at k
    exact fun H' s' hF=>k H' _ _ _ (cc s1 (cI X.mr s')) (i1.go s') rfl hF
   rw[if_neg c2]
   rw[if_neg c2] at k
   dsimp only at k⊢
   intro H2 s2 hS2
   have i2:=i1.go s2
   have s12:=cc s1 (cI X.mr s2)
   have hS2r:=hS2
   unfold aJ at hS2r
   refine (aA rfl hS2r T.aM T.fW rfl ⟨_,rfl,_,rfl,aA rfl hS2r T.aM T.cG rfl ⟨_,rfl,ag X.q _ ⟨rfl,i2.fB.sq,fun D hD=>?_⟩⟩⟩)
   refine ⟨_,rfl,aC X.p A.br X.dp _ ⟨rfl,aL hD _ _ i2.hp,T.bD,T.vw,(by show 7<1000;decide),?_⟩⟩
   rw[Me,show X.R.B=X.B from rfl,jo,show at_+3*N+4-at_=3*N+4 by omega,iP,fV]
   have hrn:H2 X.r≠none:=fun z=>by rw[show X.r=X.R.r from rfl,hS2r] at z;cases z
   have hDo:=i2.off (pl:=0) hrn hD
   refine k _ (.ref x) D (cc s12 (cc (kl (aL hD)) (iZ X.mp))) ?_ ?_
   ·have:=i2.Na hD hDo ((X.B.drop at_).take (3*N+4)) (at_+3*N+4)
    unfold entries
    rw[hxb]
    exact this
   ·unfold aJ
    exact bJ n1.symm (aL hD _ _ hS2r)
theorem Ro {X:Cx} {K:PySem.W.Frag} {tg l:Expr} {tl:TE} (h:X.K=K) (hl:PE X l tl):PI X tg l (ui K tl):=by subst h;exact dj hl
def S0:Hs:=⟨Sound.nothing, [], [],0⟩
def eM:List dW→Sound.Bytes→Hs→Except (Sound.Told×Nat×Nat) Hs
 | [],_,S=> .ok S
 |s::l,B,S=>match s.f B S with
  | .ok S'=>eM l B S'
  | .error z=> .error z
theorem ki (s:dW) (l:List dW) (B:Sound.Bytes) (S:Hs):eM (s::l) B S=match s.f B S with
  | .ok S'=>eM l B S'
  | .error z=> .error z:=rfl
def kb:List dW→Sound.Bytes→Hs→Prop
 | [],_,_=>True
 |s::l,B,S=>s.pre B S∧ ∀S',s.f B S= .ok S'→kb l B S'
def w9 (K:PySem.W.Frag) (A:aT) (H:Hp) (X:Hx) (o:Except (Sound.Told×Nat×Nat) Hs):Prop:=match o with
 | .ok S=> ∃hv b,HI K A H X S hv b∧aJ A.ay H X.R S.pl
 | .error (w,k,p)=> ∃S hv b,HI K A H X S hv b∧S.w=w∧dn A.ay H X.R k p
def KD (K:PySem.W.Frag) (A:aT) (L:List (Addr×dW)):Sp:=fun vs H Q _=> ∃(q g:Addr) (B:Sound.Bytes),vs= [.ref q, .ref g]∧ah K H q (vN (bn B))∧ah K H g (L.map fun x=> .ref x.1)∧B.length≤16384∧kb (L.map Prod.snd) B S0∧ ∀X H',X.B=B→ae H H'→(∀y∈X.l,H y=none)→w9 K A H' X (eM (L.map Prod.snd) B S0)→Q (.ref X.p) H'
theorem uG:aK ["data", "stages", "hearing", "stage"] ["data", "stages"] (aD zy):=⟨rfl,rfl,rfl,by decide+kernel,rfl,by decide+kernel,by decide+kernel⟩
theorem Gs (T:Txt K mg A) {N:Nat} (hN:4≤N) (L:List (Addr×dW)) (hL: ∀x∈L,∃d,az P w K mg base (aR P w) N x.1 d ["hearing"] (jc K A x.2)∧PySem.W.keepIn K (.ref x.1)=true∧Binds K d ["hearing"] []):az P w K mg base ba (N+1) A.qv A.pP ["data", "stages"] (KD K A L):=by
 refine T.zU.ok uG (fun vs H Q E h=>?_) (fun cdv Ar outer s H vs Q E hr h=>?_)
 ·obtain ⟨q,g,B,rfl,_⟩:=h
  rfl
 ·obtain ⟨q,g,B,rfl,hq,hg,hB,hf0,k⟩:=h
  have hr4':aF 4 _:=hr.mono hN
  refine ⟨_,ai (aI (i:=2) uG.nd rfl (Or.inl rfl) (fY T.F3 (Q6 T) hr4' rfl T.KO T.LF .nil aU (aa (pv 0) af)))
   (ai (xH rfl rfl rfl (fun E pn xe hp ho=>aj (cj (X:=Cx.tr _ pn xe) ho rfl (Ro (K:=K) rfl (pv 1)) (bo (i:=3) uG.nd rfl (Or.inl rfl))
     (aj (a8 (LZ (i:=3) (tab:=fun f sp=> ∃x∈L,f=x.1∧sp=jc K A x.2) (pv 3) (fun f sp ht=>by
      obtain ⟨x,hx,rfl,rfl⟩:=ht
      obtain ⟨d,h1,h2,h3⟩:=hL x hx
      exact ⟨_,_,h1,h2,h3⟩) hr hp (aa (pv 2) af))))))
    (Gh rfl T.xa rfl T.vH (fun x ps n _=>aj (aW (pv 2)))))
   (aj (aW (pv 2)))),?_⟩
  refine ⟨_,rfl,fun p dp hp0 hdp hne=>?_⟩
  have sm:ae H (upd (upd H dp (.own p)) p (.ins A.br dp [])):=eK hp0 hdp
  refine (aC p dp q B ⟨rfl,ak,sm.seq hq,fun H1 r dr t a b c s1 ⟨r0,t0,a0,b0,c0⟩ nd hG hS ⟨ht1,ha1,hb1,hc1⟩=>⟨rfl,?_⟩⟩)
  have sH:ae H H1:=fun b o e=>s1 b o (by rw[hide_ne (cw e hp0)];exact sm b o e)
  obtain ⟨X,hX⟩: ∃X:Hx,X=⟨p,dp,r,dr,q,t,a,c,B⟩:=⟨_,rfl⟩
  have hfree: ∀y∈X.l,H y=none:=fun y hy=>by
   rw[hX] at hy
   simp only [Hx.l,List.mem_cons,List.not_mem_nil,or_false] at hy
   rcases hy with rfl|rfl|rfl|rfl|rfl
   ·exact hp0
   ·exact sm.none r0
   ·exact sm.none t0
   ·exact sm.none a0
   ·exact sm.none c0
  have sF: ∀H',ae H H'→ae H (X.f H'):=fun H' s'=>RD hfree s'
  have hi:HI K A H1 X S0 .au b:=by
   have hq1:=(sF H1 sH).seq hq
   rw[hX] at hq1⊢
   exact ⟨nd,hG,rfl,⟨[],ht1,rfl,fun k a e=>by simp at e⟩,ha1,hc1,hb1,hq1,hB⟩
  have hS':aJ A.ay H1 X.R S0.pl:=by rw[hX];exact hS
  have hXp:X.p=p:=by rw[hX]
  have hXB:X.B=B:=by rw[hX]
  clear hX hG hS ht1 ha1 hb1 hc1
  refine ⟨_,rfl,g,rfl,⟨_,sH.seq hg⟩,?_⟩
  refine gk (K:=K) (a:=g) (xs:=L.map fun x=> .ref x.1) (fun i σ H'=>(∃v3:Option V,σ= [some (.ref q),some (.ref g),some (.ref p),v3])∧ae H H'∧ ∃S hv b,HI K A H' X S hv b∧aJ A.ay H' X.R S.pl∧kb ((L.map Prod.snd).drop i) B S∧eM (L.map Prod.snd) B S0=eM ((L.map Prod.snd).drop i) B S) ⟨⟨none,rfl⟩,sH,S0,_,_,hi,hS',hf0,rfl⟩ (fun i σ H' _ ⟨_,s',_⟩=>s'.seq hg) ?_ ?_
  ·rintro i x σ H2 hiL ⟨⟨v3,rfl⟩,s2,S,hv,b2,i2,hS2,hf2,hrun⟩
   rw[List.getElem?_map] at hiL
   cases ei:L[i]? with
   |none=>rw[ei] at hiL;cases hiL
   |some y=>
    rw[ei] at hiL
    obtain rfl:V.ref y.1=x:=Option.some.inj hiL
    have hyL:y∈L:=List.mem_of_getElem? ei
    have ed:(L.map Prod.snd).drop i=y.2::(L.map Prod.snd).drop (i+1):=by
     obtain ⟨hlt,hy⟩:=List.getElem?_eq_some_iff.mp ei
     rw[List.drop_eq_getElem_cons (by rw[List.length_map];exact hlt),List.getElem_map,hy]
    rw[ed] at hf2 hrun
    refine ⟨y.1,_,rfl,⟨y,hyL,rfl,rfl⟩,_,rfl,X,S,hv,b2,by rw[hXp],i2,hS2,by rw[hXB];exact hf2.1,?_⟩
    unfold gN
    rw[hXB]
    rw[ki] at hrun
    cases es:y.2.f B S with
    |error z=>
     obtain ⟨w',kk,pp⟩:=z
     rw[es] at hrun
     dsimp only at hrun⊢
     intro H' S' hv' b' s' i' ew hF
     refine ⟨rfl,_,rfl,?_⟩
     rw[←hXp]
     refine k X H' hXB ((sF H2 s2).trans s') hfree ?_
     rw[hrun]
     exact ⟨S',hv',b',i',ew,hF⟩
    |ok S'=>
     rw[es] at hrun
     dsimp only at hrun⊢
     intro H' hv' b' s' i' hS3
     exact ⟨⟨_,rfl⟩,(sF H2 s2).trans s',S',hv',b',i',hS3,hf2.2 S' es,hrun⟩
  ·rintro σ H2 ⟨⟨v3,rfl⟩,s2,S,hv,b2,i2,hS2,hf2,hrun⟩
   refine ⟨_,rfl,?_⟩
   rw[←hXp]
   refine k X H2 hXB s2 hfree ?_
   rw[hrun,List.length_map,List.drop_eq_nil_of_le (by rw[List.length_map];exact Nat.le_refl _)]
   exact ⟨hv,b2,i2,hS2⟩
theorem HI.same {H H':Hp} {X:Hx} {S:Hs} {hv:V} {b:Addr} (h:HI K A H X S hv b) (s:ae H H'):HI K A H' X S hv b:=h.go ((dI _ _).trans s)
theorem zQ (f:Sound.Form) (n:Nat): ∀(ms:List Nat) (acc:List (List Int)) (l:Sound.Bits),Sound.takeChannels (Sound.eager f) n ms acc l=Sound.takeChannels f n ms acc l
 | [],_,_=>rfl
 |m::ms,acc,l=>by
  unfold Sound.takeChannels
  simp only [zQ f n ms]
  rfl
theorem Kq (f:Sound.Form) (b:Sound.Bytes):Sound.takeFrame (Sound.eager f) b=Sound.takeFrame f b:=by
 unfold Sound.takeFrame
 simp only [zQ]
 rfl
theorem GH (f:Sound.Form) (b:Sound.Bytes):Sound.unframe (Sound.eager f) b=Sound.unframe f b:=by
 unfold Sound.unframe
 rw[Kq]
theorem Gx (f:Sound.Form) (b:Sound.Bytes):Sound.unframe f (b.take 4096)=Sound.unframe f b:=by
 unfold Sound.unframe Sound.LONGEST
 rw[List.take_take,Nat.min_self]
 have:4096≤(b.take 4096).length↔4096≤b.length:=by rw[List.length_take];omega
 simp only [this]
theorem Ol {F:Sound.Form} {B:Sound.Bytes} {x:Sound.Frame} {l:Sound.Bits} (h:Sound.takeFrame F B= .ok x l):1≤x.n∧x.k<2^20:=by
 rw[tL] at h
 obtain ⟨m,l1,_,h⟩:=b7 h
 split at h
 ·cases h
 obtain ⟨k,l2,e2,h⟩:=b7 h
 obtain ⟨n,l3,e3,h⟩:=b7 h
 split at h
 ·cases h
 obtain ⟨cs,l4,e4,h⟩:=b7 h
 obtain ⟨z,l5,_,h⟩:=b7 h
 cases h
 exact ⟨by show 1≤n+1;omega,kI e2⟩
theorem Nn {F:Sound.Form} {B:Sound.Bytes} {x:Sound.Frame} (h:Sound.unframe F B= .frame x):1≤x.n∧x.k<2^20:=by
 unfold Sound.unframe at h
 split at h
 ·rename_i e;cases h;exact Ol e
 ·cases h
 ·split at h<;>cases h
def IP (C:Addr):Sp:=fun vs H Q _=> ∃(f:Addr) (F:Sound.Form) (k n:Nat),vs= [.ref f, .int (k:Nat), .int (n:Nat)]∧fP C H f F∧F.block≤256∧Q (.int (min (F.block:Int) ((n:Int)-(k:Int)*(F.block:Int)))) H
theorem Pc:aK ["self", "k", "samples"] ["self", "k", "samples"] (aD Bz):=⟨rfl,rfl,rfl,by decide+kernel,rfl,by decide+kernel,by decide+kernel⟩
theorem E8 (T:Txt K mg A):az P w K mg base ba 1 A.nI A.nS ["self", "k", "samples"] (IP A.bH):=by
 refine T.My.ok Pc (fun vs H Q E h=>?_) (fun cdv Ar outer s H vs Q E hr h=>?_)
 ·obtain ⟨f,F,k,n,rfl,_⟩:=h
  rfl
 ·obtain ⟨f,F,k,n,rfl,⟨df,hf⟩,hb,q⟩:=h
  refine ⟨_,aj (aW (cq (Pg rfl) (by rfl) T.RU (by decide+kernel:bootBuiltins "min" =some (.builtin "min")) (aa (ax (pv 0) rfl) (aa (aw du (pv 2) (aw k9 (pv 1) (ax (pv 0) rfl))) af)))),?_⟩
  have e64:(2:Int)^64=18446744073709551616:=by decide
  refine (aA rfl hf T.b4 T.jz rfl ⟨_,rfl,_,rfl,aA rfl hf T.b4 T.jz rfl (ag _ _ ⟨rfl,rfl, .inr ⟨by omega,by omega⟩,ag _ _ ⟨rfl,rfl,ag _ _ ⟨rfl,?_⟩⟩⟩)⟩)
  have e:(if (n:Int)-(k:Int)*(F.block:Int)<(F.block:Int) then (n:Int)-(k:Int)*(F.block:Int) else (F.block:Int))=min (F.block:Int) ((n:Int)-(k:Int)*(F.block:Int)):=by
   split<;>omega
  dsimp only
  rw[e]
  exact q
theorem MR {B:Sound.Bytes} {k p:Nat} (h:cN B= .error (k,p)):k≠0:=by
 unfold cN at h
 repeat' split at h
 all_goals first|(cases h;decide)|cases h
theorem ur {B:Sound.Bytes} {h:Sound.Head} (e:cN B= .ok h):h=Sound.fields B∧Sound.mayHead h=true∧26≤B.length:=by
 unfold cN at e
 split at e
 ·cases e
 ·split at e
  ·cases e
  ·split at e
   ·cases e
   ·split at e
    ·cases e
    ·rename_i hm
     split at e
     ·cases e
     ·split at e
      ·cases e
      ·cases e
       refine ⟨rfl,?_,by omega⟩
       cases q:Sound.mayHead (Sound.fields B) with
       |true=>rfl
       |false=>exact absurd q hm
theorem Kn {at_ n:Nat} {seen:List Sound.Bytes} {b:Sound.Bytes} {k p:Nat} (h:ft at_ n seen b= .inl (.fault k p)):k≠0:=by
 unfold ft at h
 simp only at h
 repeat' split at h
 all_goals first|(cases h;decide)|cases h
theorem By: ∀(j at_ n:Nat) (seen:List Sound.Bytes) (b:Sound.Bytes) (l:List Sound.Bytes) (k p:Nat),Sound.tagItems j at_ n seen b=(l, .inl (.fault k p))→k≠0
 |0,at_,n,seen,b,l,k,p,h=>by unfold Sound.tagItems at h;cases h
 |j+1,at_,n,seen,b,l,k,p,h=>by
  rw[xK] at h
  cases e:ft at_ n seen b with
  |inl st=>
   rw[e] at h
   cases h
   exact Kn e
  |inr z=>
   rw[e] at h
   exact By j _ _ _ _ l k p h
theorem P6 {t:Nat} {b:Sound.Bytes} {l:List Sound.Bytes} {k p:Nat} (h:Sound.areaOf t b=(l, .fault k p)):k≠0:=by
 unfold Sound.areaOf at h
 split at h
 ·cases h
 ·split at h
  ·cases h;decide
  ·split at h
   ·rename_i l' a e
    cases h
    exact By _ _ _ _ _ _ _ _ e
   ·split at h
    ·cases h;decide
    ·split at h
     ·cases h
     ·split at h
      ·cases h
      ·cases h;decide
theorem IK {B:Sound.Bytes} {at_ n k p:Nat} (h:dH B at_ n= .error (k,p)):k≠0:=by
 unfold dH at h
 split at h
 ·cases h;decide
 ·split at h
  ·cases h;decide
  ·split at h
   ·cases h;decide
   ·cases h
def eY (B:Sound.Bytes) (h:Sound.Head) (l:List Sound.Bytes):Hs:=⟨⟨some h,l, [],0⟩,entries B (26+h.t) (Sound.framesOf h.form h.n),(B.drop (26+h.t)).take (3*Sound.framesOf h.form h.n+4),26+h.t+3*Sound.framesOf h.form h.n+4⟩
theorem PF (B:Sound.Bytes) (L:List dW) (hL: ∀h l,Al B=some (h,l)→Sound.mayHead h=true→26+h.t≤B.length→kb L B ⟨⟨some h,l, [],0⟩, [], [],26+h.t⟩):kb (jM::jd::L) B S0:=by
 refine ⟨rfl,fun S1 e1=>?_⟩
 unfold jM at e1
 dsimp only at e1
 cases e:cN B with
 |error z=>rw[e] at e1;cases e1
 |ok h=>
  rw[e] at e1
  cases e1
  obtain ⟨_,hm,h26⟩:=ur e
  obtain ⟨_,_,h1,h2⟩:=gA hm
  refine ⟨⟨rfl,rfl,h,rfl,h1,h2,h26⟩,fun S2 e2=>?_⟩
  unfold jd at e2
  dsimp only at e2
  cases ea:Sound.areaOf h.t ((B.drop 26).take h.t) with
  |mk l st=>
   rw[ea] at e2
   cases st with
   |more=>cases e2
   |fault k p=>cases e2
   |whole=>
    cases e2
    have hl:=Lg ea
    rw[List.length_take,List.length_drop] at hl
    exact hL h l (by unfold Al;rw[e];dsimp only;rw[ea]) hm (by omega)
theorem Ah (T:Txt K mg A):lx P w K mg base 1 A.kK A.kn ["self", "fault", "place"] (yE A):=by
 refine T.A1.BU BH (fun vs H Q E h=>?_) (fun cdv Ar outer s H vs Q E pn hr hn h=>?_)
 ·obtain ⟨p,dx,d,pl,f0,o0,k,q,rfl,_⟩:=h
  rfl
 ·obtain ⟨p,dx,d,pl,f0,o0,k,q,rfl,hp,e⟩:=h
  refine ⟨_,ai (bc (pv 0) (pv 1) rfl) (ai (bc (pv 0) (pv 2) rfl) (aj (Gu hn rfl T.vH T.xa.exc Et))),?_⟩
  refine ⟨_,rfl,_,rfl,p,A.ay,dx,_,rfl,hp,T.aM,T.sX,(by show 4<1000;decide),?_⟩
  rw[BM]
  refine ⟨_,rfl,_,rfl,p,A.ay,dx,_,rfl,ak,T.aM,T.sS,(by show 4<1000;decide),?_⟩
  rw[cB,Ei]
  exact e
theorem KR (T:Txt K mg A):lx P w K mg base 2 A.ko A.kL ["self"] (B6 K A):=by
 refine T.C0.BU Ad (fun vs H Q E h=>?_) (fun cdv Ar outer s H vs Q E pn hr hn h=>?_)
 ·obtain ⟨p,dx,q,pl,f0,o0,xs,rfl,_⟩:=h
  rfl
 ·obtain ⟨p,dx,q,pl,f0,o0,xs,rfl,hp,hq,e⟩:=h
  refine ⟨_,aj (a8 (Bl hn (pv 0) T.aM T.dv (Ah T) hr T.dw zt (aa (aV rfl T.AV) (aa (cq di (by rfl) T.cW PySem.boot_len (aa (ax (pv 0) rfl) af)) af)))),?_⟩
  exact ⟨_,rfl,p,dx,_,rfl,hp,rfl,_,rfl,p,A.ay,dx,_,_,rfl,hp,T.aM,T.fW,rfl,q,xs,rfl, .inl hq,p,dx,_,_,_,_,1,xs.length,rfl,hp,e⟩
theorem IC {w b:Sound.Bytes} {c:Nat} (hc:c∈ [2,4,5,7]) (h1:c≤b.length) (h2:b.take c≠w.take c):Sound.expects [2,4,5,7] w b=some false:=by
 unfold Sound.expects
 rw[if_pos]
 rw[List.any_eq_true]
 exact ⟨c,hc,by rw[decide_eq_true h1,Bool.true_and,bne_iff_ne];exact h2⟩
theorem kZ {w b:Sound.Bytes} (cuts:List Nat) (h: ∀c∈cuts,c≤b.length→b.take c=w.take c):Sound.expects cuts w b=if b.length<w.length then none else some (b.take w.length==w):=by
 unfold Sound.expects
 rw[if_neg]
 rw[List.any_eq_true]
 rintro ⟨c,hc,hz⟩
 rw[Bool.and_eq_true,decide_eq_true_eq,bne_iff_ne] at hz
 exact hz.2 (h c hc hz.1)
def CJ (A:aT) (H:Hp) (R:Rg) (pl n:Nat) (o:Option Bool) (Q:VK) (E:XK):Prop:=match o with
 |some true=> ∀H',ae (hide R.r H) H'→aJ A.ay H' R (pl+n)→Q .au H'
 |some false=> ∀H',ae (hide R.r H) H'→dn A.ay H' R 9 pl→E (.ref A.bT) none H'
 |none=> ∀H',ae (hide R.r H) H'→dn A.ay H' R 1 R.B.length→E (.ref A.bT) none H'
def JF (K:PySem.W.Frag) (A:aT):Sp:=fun vs H Q E=> ∃(R:Rg) (pl:Nat) (q:Addr) (w:Sound.Bytes),vs= [.ref R.r, .ref q]∧dq K H R∧aJ A.ay H R pl∧ah K (hide R.r H) q (vN (bn w))∧(7≤w.length∧w.length≤10000∧pl≤R.B.length)∧CJ A H R pl w.length (Sound.expects [2,4,5,7] w (R.B.drop pl)) Q E
theorem uD:aK ["reading", "piece", "begin", "look"] ["reading", "piece"] (aD Ez):=⟨rfl,rfl,rfl,by decide+kernel,rfl,by decide+kernel,by decide+kernel⟩
def cZ (n:Nat):List Nat:= [2,4,5,7,n]
theorem uw {n i j:Nat} (hn:7≤n) (hi:i<5) (hj:j<i):(cZ n).getD j 0≤(cZ n).getD i 0:=by
 unfold cZ
 have gj:j=0∨j=1∨j=2∨j=3:=by omega
 have gi:i=1∨i=2∨i=3∨i=4:=by omega
 rcases gi with rfl|rfl|rfl|rfl<;>rcases gj with rfl|rfl|rfl|rfl<;>first|omega|exact (by decide:2≤4)|exact (by decide:2≤5)|exact (by decide:4≤5)|exact (by decide:2≤7)|exact (by decide:4≤7)|exact (by decide:5≤7)|(show 2≤n;omega)|(show 4≤n;omega)|(show 5≤n;omega)|(show 7≤n;omega)
theorem En {n c:Nat} (h:c∈ [2,4,5,7]): ∃j,j<4∧(cZ n).getD j 0=c:=by
 simp only [List.mem_cons,List.not_mem_nil,or_false] at h
 rcases h with rfl|rfl|rfl|rfl
 ·exact ⟨0,by decide,rfl⟩
 ·exact ⟨1,by decide,rfl⟩
 ·exact ⟨2,by decide,rfl⟩
 ·exact ⟨3,by decide,rfl⟩
def eT (n i:Nat):Nat:=(0::cZ n).getD i 0
theorem NC {n i:Nat} (hn:7≤n) (hi:i<5):eT n i≤(cZ n).getD i 0:=by
 unfold eT
 cases i with
 |zero=>exact Nat.zero_le _
 |succ j=>exact uw (j:=j) hn hi (by omega)
theorem Ja (T:Txt K mg A):az P w K mg base (aR P w) 4 A.pI A.ow ["reading", "piece"] (JF K A):=by
 refine T.xY.bN uD (fun vs H Q E h=>?_) (fun cdv Ar outer s H vs Q E hr h=>?_)
 ·obtain ⟨R,pl,q,w,rfl,_⟩:=h
  rfl
 ·obtain ⟨R,pl,q,w,rfl,hI,hS,hq,⟨hw7,hwm,hpl⟩,k⟩:=h
  have hr1':aF 1 _:=hr.mono (by decide)
  refine ⟨_,ai (aI (i:=2) uD.nd rfl (Or.inl rfl) (ax (pv 0) rfl))
   (aj (cj PassesOwn.leaving rfl (dj (aw jv (wg ve rfl T.xB (by decide+kernel:bootBuiltins "list" =some (.type "list")) (aa (eS rfl T.MC) af)) (cg (aa (cq di (by rfl) T.cW PySem.boot_len (aa (pv 1) af)) af)))) (bo (i:=3) uD.nd rfl (Or.inl rfl))
    (ai (a8 (aP (pv 0) T.aM T.iJ (iH T) hr T.iE .nil aN (aa (aw du (aw b5 (pv 2) (pv 3)) (ax (pv 0) rfl)) af)))
    (aj (bp (bq (xo hr.units) (eZ fu (ax (pv 0) rfl) (cQ (pv 2)) (cQ (aw b5 (pv 2) (pv 3)))) (eZ fu (pv 1) qe (cQ (pv 3))) (aX _)) (aj (a8 (aP (pv 0) T.aM T.dv (dR T) hr1' T.dw .nil aN (aa (aV rfl T.rQ) (aa (pv 2) af))))) bu))))),?_⟩
  have hSr:=hS
  unfold aJ at hSr
  refine ⟨_,rfl,R.r,A.ay,R.dr,_,_,rfl,hSr,T.aM,T.cG,rfl,?_⟩
  have one1:(1:Nat)≤sizeLine:=by rw[sizeLine_eq];omega
  have hq0:ah K H q (vN (bn w)):=(dI _ _).seq hq
  refine ⟨A.mz,_,rfl, .inr (T.E5 _),fun L1 hL1=>?_⟩
  have t1:=aL (o:= .lst [V.int (2),V.int (4),V.int (5),V.int (7)]) hL1
  refine ⟨_,rfl,q,_,rfl, .inl (t1.seq hq0),one1,fun L2 hL2=>?_⟩
  have t2:=aL (o:= .lst [V.int ((vN (bn w)).length:Nat)]) hL2
  refine ⟨L1,L2,_,_,rfl,rfl,t2 _ _ ak,ak,(by rw[sizeLine_eq];show 5≤_;omega),fun L hL=>?_⟩
  have t3:=aL (o:= .lst (vN (cZ w.length))) hL
  have eL: [V.int (2),V.int (4),V.int (5),V.int (7)]++ [V.int ((vN (bn w)).length:Nat)]=vN (cZ w.length):=by rw[aZ,b6];rfl
  rw[eL]
  have t0:=t1.trans (t2.trans t3)
  have hL0:upd (upd (upd H L1 (.lst [V.int (2),V.int (4),V.int (5),V.int (7)])) L2 (.lst [V.int ((vN (bn w)).length:Nat)])) L (.lst (vN (cZ w.length))) L=some (.lst (vN (cZ w.length))):=ak
  have hLH:H L=none:=(t1.trans t2).none hL
  have hLr:L≠R.r:=fun z=>by rw[z,hSr] at hLH;cases hLH
  generalize upd (upd (upd H L1 (.lst [V.int (2),V.int (4),V.int (5),V.int (7)])) L2 (.lst [V.int ((vN (bn w)).length:Nat)])) L (.lst (vN (cZ w.length)))=H0 at*
  refine ⟨L,rfl,⟨_,ah.of hL0⟩,?_⟩
  generalize hb:R.B.drop pl=b at*
  have hbl:b.length=R.B.length-pl:=by rw[←hb,List.length_drop]
  refine gk (K:=K) (a:=L) (xs:=vN (cZ w.length)) (fun i σ H'=>(∃v3:Option V,σ= [some (.ref R.r),some (.ref q),some (.int (pl:Nat)),v3])∧ae (hide R.r H) H'∧H' L=some (.lst (vN (cZ w.length)))∧aJ A.ay H' R (pl+eT w.length i)∧ ∀j,j<i→(cZ w.length).getD j 0≤b.length∧b.take ((cZ w.length).getD j 0)=w.take ((cZ w.length).getD j 0))
   ⟨⟨none,rfl⟩,j7 t0,hL0,t0 _ _ hS,fun j hj=>by omega⟩ (fun i σ H' _ ⟨_,_,h,_⟩=>ah.of h) ?_ ?_
  ·rintro i x σ H1 hi ⟨⟨v3,rfl⟩,s1,hL1',hS1,hm⟩
   obtain ⟨rfl,hi5⟩:=eI hi
   have hi5:i<5:=hi5
   have hle:=NC (n:=w.length) hw7 hi5
   have hnx:eT w.length (i+1)=(cZ w.length).getD i 0:=rfl
   generalize hlk:(cZ w.length).getD i 0=lk at*
   have hS1r:=hS1
   unfold aJ at hS1r
   refine ⟨_,rfl,R.r,R.dr,_,rfl,hS1r,rfl,_,rfl,_,rfl,_,_,rfl,rfl,_,rfl,R.r,A.ay,R.dr,_,_,rfl,hS1r,T.aM,T.cG,rfl,_,_,rfl,rfl,R,pl+eT w.length i,lk-eT w.length i,?_,hI.go s1,hS1,?_⟩
   ·show [V.ref R.r,V.int (((pl:Nat):Int)+((lk:Nat):Int)-((pl+eT w.length i:Nat):Int))]=_
    rw[show ((pl:Nat):Int)+((lk:Nat):Int)-((pl+eT w.length i:Nat):Int)=((lk-eT w.length i:Nat):Int) by omega]
   unfold cJ dD
   have cutOk: ∀c∈ [2,4,5,7],c≤b.length→(b.length<lk∨i=4)→b.take c=w.take c:=fun c hc hcb hlt=>by
    obtain ⟨j,hj4,hj⟩:=En (n:=w.length) hc
    have hji:j<i:=by
     rcases hlt with hlt|hlt
     ·refine Nat.lt_of_not_le fun z=>?_
      rcases Nat.lt_or_ge i j with z2|z2
      ·have:=uw (n:=w.length) hw7 (show j<5 by omega) z2
       omega
      ·have:i=j:=by omega
       subst this
       omega
     ·omega
    have:=(hm j hji).2
    rw[hj] at this
    exact this
   by_cases c1:R.B.length<pl+eT w.length i+(lk-eT w.length i)
   ·rw[if_pos c1]
    have hlt:b.length<lk:=by omega
    have hlw:lk≤w.length:=by
     rcases Nat.lt_or_ge i 4 with z|z
     ·have:=uw (n:=w.length) hw7 (show 4<5 by decide) z
      rw[hlk] at this
      exact this
     ·have:i=4:=by omega
      subst this
      exact Nat.le_of_eq hlk.symm
    rw[kZ _ (fun c hc hcb=>cutOk c hc hcb (.inl hlt)),if_pos (by omega)] at k
    exact fun H' s' hF=>k H' (bh s1 s') hF
   rw[if_neg c1]
   dsimp only
   intro H2 s2 hS2 D hD hDx
   have s12:=bh s1 s2
   have hL2':H2 L=some (.lst (vN (cZ w.length))):=s2 _ _ (by rw[hide_ne hLr];exact hL1')
   have hS2r:=hS2
   unfold aJ at hS2r
   have epl:pl+eT w.length i+(lk-eT w.length i)=pl+lk:=by omega
   refine ⟨_,rfl,R.r,A.ay,R.dr,_,_,rfl,hS2r,T.aM,T.fW,rfl,_,rfl,_,rfl,_,rfl,_,rfl,_,_,rfl,rfl,_,rfl,R.q,_,rfl,(hI.go s12).sq,fun D1 hD1=>?_⟩
   dsimp only
   rw[show ((pl:Nat):Int)+((lk:Nat):Int)=((pl+lk:Nat):Int) by omega,jo,show pl+lk-pl=lk by omega,iP,fV,hb]
   have t4:=aL (o:= .lst (vN (bn (b.take lk)))) hD1
   refine ⟨_,rfl,_,rfl,_,rfl,q,_,rfl,t4.seq (s12.seq hq),fun D2 hD2=>?_⟩
   rw[tP,fV]
   have t5:=aL (o:= .lst (vN (bn (w.take lk)))) hD2
   refine ⟨D1,D2,(bn (b.take lk)).map (fun (n:Nat)=>(n:Int)),(bn (w.take lk)).map (fun (n:Nat)=>(n:Int)),rfl,rfl,(by rw[←iI];exact t5.seq (ah.of ak)),(by rw[←iI];exact ah.of ak),_,rfl,?_⟩
   have t45:=t4.trans t5
   have hS3:=t45 _ _ hS2
   have hS3r:=hS3
   generalize upd (upd H2 D1 (.lst (vN (bn (b.take lk))))) D2 (.lst (vN (bn (w.take lk))))=H3 at*
   have s13:=s12.trans t45
   by_cases c2:b.take lk=w.take lk
   ·rw[decide_eq_true (iV.mpr c2)]
    refine bB ⟨⟨_,rfl⟩,s13,t45 _ _ hL2',?_,fun j hj=>?_⟩
    ·rw[hnx,←epl];exact hS3
    ·by_cases hj2:j<i
     ·exact hm j hj2
     ·rw[show j=i by omega,hlk]
      exact ⟨by omega,c2⟩
   ·rw[decide_eq_false (fun z=>c2 (iV.mp z))]
    have ef:Sound.expects [2,4,5,7] w b=some false:=by
     rcases Nat.lt_or_ge i 4 with z|z
     ·have hlk4:lk∈ [2,4,5,7]:=by
       rw[←hlk]
       rcases (by omega:i=0∨i=1∨i=2∨i=3) with rfl|rfl|rfl|rfl
       ·exact .head _
       ·exact .tail _ (.head _)
       ·exact .tail _ (.tail _ (.head _))
       ·exact .tail _ (.tail _ (.tail _ (.head _)))
      exact IC hlk4 (by omega) c2
     ·have:i=4:=by omega
      subst this
      have hlw:lk=w.length:=hlk.symm
      rw[kZ _ (fun c hc hcb=>cutOk c hc hcb (.inr rfl)),if_neg (by omega),←hlw,beq_eq_false_iff_ne.mpr]
      rw[List.take_of_length_le (l:=w) (by omega)] at c2
      exact c2
    rw[ef] at k
    exact bt ⟨_,rfl,R.r,R.dr,_,rfl,hS3r,rfl,_,rfl,R.r,R.dr,_,_,_,_,9,pl,rfl,hS3r,k _ (bh s13 cO) ⟨_,ak⟩⟩
  ·rintro σ H1 ⟨⟨v3,rfl⟩,s1,hL1',hS1,hm⟩
   have hm4:=hm 4 (by show 4<5;decide)
   have e5:(cZ w.length).getD 4 0=w.length:=rfl
   rw[e5,List.take_of_length_le (l:=w) (Nat.le_refl _)] at hm4
   have et:Sound.expects [2,4,5,7] w b=some true:=by
    rw[kZ _ (fun c hc hcb=>?_),if_neg (by omega),hm4.2,beq_self_eq_true]
    obtain ⟨j,hj4,hj⟩:=En (n:=w.length) hc
    have:=(hm j (show j<5 by omega)).2
    rw[hj] at this
    exact this
   rw[et] at k
   exact k H1 s1 hS1
theorem Gy {B:Sound.Bytes} {l r:Sound.Bits} {z:Nat} (hB:2≤B.length) (h:lg B l= .ok z r):2≤z∧z≤B.length:=by
 unfold lg at h
 obtain ⟨x,l1,e1,h⟩:=b7 h
 split at h
 ·cases h
 obtain ⟨c,l2,e2,h⟩:=b7 h
 split at h
 ·cases h
 ·obtain ⟨q3,q4⟩:=ra e2
  cases h
  omega
theorem Pl {F:Sound.Form} {B:Sound.Bytes} {x:Sound.Frame} {l:Sound.Bits} (h:Sound.takeFrame F B= .ok x l):2≤x.size∧x.size≤B.length:=by
 rw[tL] at h
 obtain ⟨m,l1,e0,h⟩:=b7 h
 have hB:=(ra e0).2
 rw[jW] at hB
 split at h
 ·cases h
 obtain ⟨k,l2,e2,h⟩:=b7 h
 obtain ⟨n,l3,e3,h⟩:=b7 h
 split at h
 ·cases h
 obtain ⟨cs,l4,e4,h⟩:=b7 h
 obtain ⟨z,l5,e5,h⟩:=b7 h
 cases h
 exact Gy (by omega) e5
theorem wk {F:Sound.Form} {B:Sound.Bytes} {x:Sound.Frame} (h:Sound.unframe F B= .frame x):2≤x.size∧x.size≤4096∧x.size≤B.length:=by
 unfold Sound.unframe at h
 split at h
 ·rename_i e
  cases h
  have:=Pl e
  rw[List.length_take,show Sound.LONGEST=4096 from rfl] at this
  omega
 ·cases h
 ·split at h<;>cases h
theorem Lm (r h t s i f n f':V):bz "frames_taken" f' (cC r h t s i f n)=cC r h t s i f' n:=by
 have n1: ¬("reading" :Str)= "frames_taken" :=by decide
 have n2: ¬("head" :Str)= "frames_taken" :=by decide
 have n3: ¬("tags" :Str)= "frames_taken" :=by decide
 have n4: ¬("starts" :Str)= "frames_taken" :=by decide
 have n5: ¬("index_bytes" :Str)= "frames_taken" :=by decide
 simp only [cC,bz,if_neg n1,if_neg n2,if_neg n3,if_neg n4,if_neg n5];rfl
theorem HI.fr {H:Hp} {X:Hx} {S:Hs} {hv:V} {b:Addr} (h:HI K A H X S hv b) (n:Nat):HI K A (upd H X.p (.ins A.br X.dp (cC (.ref X.r) hv (.ref X.t) (.ref X.a) (.ref b) (.int (n:Nat)) (.ref X.c)))) X ⟨⟨S.w.head,S.w.tags,S.w.s,n⟩,S.starts,S.idx,S.pl⟩ hv b:=by
 obtain ⟨⟨n1,n2,n3,n4⟩,⟨n5,n6,n7⟩,⟨n8,n9⟩,n10⟩:=fC h.nd
 generalize hG:HO.ins A.br X.dp (cC (.ref X.r) hv (.ref X.t) (.ref X.a) (.ref b) (.int (n:Nat)) (.ref X.c))=o
 have sf:ae (X.f H) (X.f (upd H X.p o)):=fQ (iZ X.mp)
 exact ⟨h.nd,by rw[ak,←hG],h.hh.same sf,h.ht.same (aG n2.symm) sf,bJ n3.symm h.ha,bJ n4.symm h.hc,sf _ _ h.hb,sf.seq h.hq,h.hl⟩
theorem HI.num {H:Hp} {X:Hx} {S:Hs} {hv:V} {b:Addr} (h:HI K A H X S hv b) (l:List Int):HI K A (upd H X.c (.lst (l.map V.int))) X ⟨⟨S.w.head,S.w.tags,l,S.w.frames⟩,S.starts,S.idx,S.pl⟩ hv b:=by
 obtain ⟨⟨n1,n2,n3,n4⟩,⟨n5,n6,n7⟩,⟨n8,n9⟩,n10⟩:=fC h.nd
 have sf:ae (X.f H) (X.f (upd H X.c (.lst (l.map V.int)))):=fQ (iZ X.mc)
 exact ⟨h.nd,bJ n4 h.hp,h.hh.same sf,h.ht.same (aG n9) sf,bJ n10 h.ha,ak,sf _ _ h.hb,sf.seq h.hq,h.hl⟩
theorem NX {F:Sound.Form} (h:F.ok=true):(Sound.eager F).ok=true:=by
 unfold Sound.eager Sound.Form.ok at*
 simp only [Bool.and_eq_true,decide_eq_true_eq] at h⊢
 omega
def xf (B:Sound.Bytes) (h:Sound.Head) (pl k:Nat):Except (Nat×Nat) Sound.Frame:=match Sound.unframe h.form (B.drop pl) with
 | .bad=> .error (9,pl)
 | .short=> .error (1,B.length)
 | .frame x=>if x.k≠k∨x.n≠Sound.frameLen h.form h.n k then .error (9,pl) else .ok x
def eW (w:Sound.Told) (x:Sound.Frame):Sound.Told:=⟨w.head,w.tags,w.s++x.s,w.frames+1⟩
theorem CF {l l':List Addr} {H H':Hp} (h: ∀y∈l,y∈l') (s:ae (bY l H) H'):ae (bY l' H) H':=fun b o e=>by
 obtain ⟨e1,e2⟩:=cy e
 exact s b o (by rw[dO (fun z=>e2 (h b z))];exact e1)
def Hx.l3 (X:Hx):List Addr:= [X.p,X.r,X.c]
theorem Hx.PB (X:Hx):X.p∈X.l3:= .head _
theorem Hx.Oi (X:Hx):X.r∈X.l3:= .tail _ (.head _)
theorem Hx.F1 (X:Hx):X.c∈X.l3:= .tail _ (.tail _ (.head _))
theorem Hx.tR (X:Hx): ∀y∈X.l3,y∈X.l:=fun y hy=>by
 simp only [Hx.l3,Hx.l,List.mem_cons,List.not_mem_nil,or_false] at hy⊢
 rcases hy with h|h|h<;>simp [h]
def B5 (K:PySem.W.Frag) (A:aT) (H:Hp) (X:Hx) (S:Hs) (hv:V) (b:Addr) (o:Except (Nat×Nat) Sound.Frame) (Q:VK) (E:XK):Prop:=match o with
 | .ok x=> ∀D H',ae (bY X.l3 H) H'→HI K A H' X ⟨eW S.w x,S.starts,S.idx,S.pl+x.size⟩ hv b→aJ A.ay H' X.R (S.pl+x.size)→H D=none→X.f H' D=some (.lst (vN (bn ((X.B.drop S.pl).take x.size))))→Q (.ref D) H'
 | .error (k,p)=> ∀H' S' hv b,ae (X.f H) H'→HI K A H' X S' hv b→S'.w=S.w→dn A.ay H' X.R k p→E (.ref A.bT) none H'
def JO (K:PySem.W.Frag) (A:aT):Sp:=fun vs H Q E=> ∃(X:Hx) (S:Hs) (hv:V) (b:Addr) (h:Sound.Head) (k:Nat),vs= [.ref X.p, .int (k:Nat)]∧HI K A H X S hv b∧aJ A.ay H X.R S.pl∧(S.w.head=some h∧Sound.mayHead h=true∧S.w.s.length≤1000000)∧B5 K A H X S hv b (xf X.B h S.pl k) Q E
theorem o7:aK ["hearing", "k", "form", "reading", "begin", "taken"] ["hearing", "k"] (aD zj):=⟨rfl,rfl,rfl,by decide+kernel,rfl,by decide+kernel,by decide+kernel⟩
theorem Ky (T:Txt K mg A):az P w K mg base (aR P w) 14 A.qf A.pY ["hearing", "k"] (JO K A):=by
 refine T.zb.bN o7 (fun vs H Q E h=>?_) (fun cdv Ar outer s H vs Q E hr h=>?_)
 ·obtain ⟨X,S,hv,b,h,k,rfl,_⟩:=h
  rfl
 ·obtain ⟨X,S,hv,b,h,k,rfl,hi,hS,⟨eh,hm,hsl⟩,q⟩:=h
  have hr1':aF 1 _:=hr.mono (by decide)
  have hr2':aF 2 _:=hr.mono (by decide)
  have hr3':aF 3 _:=hr.mono (by decide)
  refine ⟨_,ai (aI (i:=2) o7.nd rfl (Or.inl rfl) (ax (ax (pv 0) rfl) rfl))
   (ai (aI (i:=3) o7.nd rfl (Or.inl rfl) (ax (pv 0) rfl))
   (ai (aI (i:=4) o7.nd rfl (Or.inl rfl) (ax (pv 3) rfl))
   (ai (xH rfl rfl rfl (fun E pn xe hp ho=>aj (aI (i:=5) o7.nd rfl (Or.inl rfl) (EN (M9 T) hr rfl T.RZ T.zJ.kp T.RK .nil hp (aa (pv 2) (aa (eZ (yi (K:=K) rfl) (vD (K:=K) rfl (pv 3) rfl) (cQ (pv 4)) (cQ (aw b5 (pv 4) (aV rfl T.vi)))) af)))))
    (Mm rfl T.d8 rfl T.eX (fun x ps n hpc=>aj (a8 (Bl (sP hpc) (pv 3) T.aM T.dv (Ah T) (hr1'.h _) T.dw (CW hr.hd rfl rfl rfl jk) (aa (aV rfl T.rQ) (aa (pv 4) af)))))
     T.rq rfl T.rh (fun x ps n hpc=>aj (a8 (Nf (sP hpc) (pv 3) T.aM T.C9 (KR T) (hr2'.h _) T.AA (CW hr.hd rfl rfl rfl jk)))) T.zZ.symm))
   (ai (bp (PW.pt (mx (bq gF (ax (pv 5) rfl) (pv 1) (aX _)) (nE (bq gF (ax (pv 5) rfl) (aP (pv 2) T.b4 T.N2 (E8 T) hr1' T.IB .nil aU (aa (pv 1) (aa (ax (ax (pv 0) rfl) rfl) af))) (aX _))))) (aj (a8 (aP (pv 3) T.aM T.dv (dR T) hr1' T.dw .nil aN (aa (aV rfl T.rQ) (aa (pv 4) af))))) bu)
   (ai (K9 (pv 0) aq KZ)
   (ai (a8 (gg PySem.F.plainAttrs_list PySem.F.slot_list_extend PySem.F.type_list_extend q0 (ax (pv 0) rfl) (aa (ax (pv 5) rfl) af)))
   (aj (aW (aP (pv 3) T.aM T.iJ (iH T) hr3' T.iE .nil aN (aa (ax (pv 5) rfl) af)))))))))),?_⟩
  obtain ⟨⟨n1,n2,n3,n4⟩,⟨n5,n6,n7⟩,⟨n8,n9⟩,n10⟩:=fC hi.nd
  have hx:=hi.hh
  rw[eh] at hx
  obtain ⟨x,rfl,dx,f,hx1,df,hf⟩:=hx
  have hx1':=(cy hx1).1
  have hf':=(cy hf).1
  have ao:=(gA hm).1
  obtain ⟨_,_,⟨hb1,hb2⟩,_⟩:=ib ao
  have hSr:=hS
  unfold aJ at hSr
  refine (aA rfl hi.hp T.bD T.f7 rfl (fI hx1' T.e9 T.lr rfl ?_))
  refine (aA rfl hi.hp T.bD T.iu rfl ?_)
  refine (aA rfl hSr T.aM T.cG rfl ?_)
  refine ⟨_,rfl,aA rfl hSr T.aM T.fW rfl ⟨_,rfl,_,rfl,_,rfl,ag _ _ ⟨rfl,rfl,_,rfl,ag X.q _ ⟨rfl,hi.fB.sq,fun D0 hD0=>?_⟩⟩⟩⟩
  dsimp only
  rw[show ((S.pl:Nat):Int)+4096=((S.pl+4096:Nat):Int) by omega,show X.R.B=X.B from rfl,jo,show S.pl+4096-S.pl=4096 by omega,iP,fV]
  have s1:=aL (o:= .lst (vN (bn ((X.B.drop S.pl).take 4096)))) hD0
  refine (aC f D0 (Sound.eager h.form) _ ⟨rfl,⟨df,s1 _ _ hf'⟩,ah.of ak,NX ao,?_⟩)
  generalize upd H D0 (.lst (vN (bn ((X.B.drop S.pl).take 4096))))=H1 at*
  rw[GH,Gx]
  unfold Bw
  unfold xf at q
  have stop: ∀(H2:Hp) (kk pp:Nat),ae H H2→(∀H' S' hv b,ae (X.f H) H'→HI K A H' X S' hv b→S'.w=S.w→dn A.ay H' X.R kk pp→E (.ref A.bT) none H')→E (.ref A.bT) none (upd H2 X.r (.ins A.ay X.dr (bC (.ref X.R.q) (.int (S.pl:Nat)) (.int (kk:Nat)) (.int (pp:Nat))))):=fun H2 kk pp s2 z=>by
   have s3:=bh (j7 s2) (cO (r:=X.r) (H:=H2) (o:= .ins A.ay X.dr (bC (.ref X.R.q) (.int (S.pl:Nat)) (.int (kk:Nat)) (.int (pp:Nat)))))
   exact z _ S _ _ (cI X.mr s3) (hi.go s3) rfl ⟨_,ak⟩
  cases e:Sound.unframe h.form (X.B.drop S.pl) with
  |bad=>
   rw[e] at q
   intro H2 s2
   have hS2:=s2 _ _ (s1 _ _ hSr)
   exact .inl ⟨rfl,aO rfl hS2 rfl ⟨_,rfl,dF X.r X.dr _ _ _ _ 9 S.pl ⟨rfl,hS2,stop H2 9 S.pl (s1.trans s2) q⟩⟩⟩
  |short=>
   rw[e] at q
   intro H2 s2
   have hS2:=s2 _ _ (s1 _ _ hSr)
   refine .inr ⟨rfl,aO rfl hS2 rfl (uo X.r X.dr X.q _ _ _ _ ⟨rfl,hS2,(s1.trans s2).seq hi.fB.sq,?_⟩)⟩
   rw[aZ,b6]
   exact stop H2 1 X.B.length (s1.trans s2) q
  |frame y=>
   rw[e] at q
   dsimp only at q⊢
   intro o H2 ho s2 hy
   obtain ⟨dy,Dy,hy1,hy2⟩:=id hy
   obtain ⟨hn1,hk20⟩:=Nn e
   obtain ⟨hz1,hz2,hz3⟩:=wk e
   have hyl:=sk ao e
   rw[List.length_drop] at hz3
   have s12:=s1.trans s2
   have hS2:=s12 _ _ hSr
   have i2:=hi.same s12
   have hf2:=s12 _ _ hf'
   refine (aA rfl hy1 T.jb T.EG rfl ⟨_,rfl,rfl,_,rfl,?_⟩)
   by_cases ck:y.k=k
   case neg=>
    rw[decide_eq_false (fun z=>ck (by have:=V.int.inj z;omega))]
    rw[if_pos (.inl ck)] at q
    exact bt (bt (aO rfl hS2 rfl ⟨_,rfl,dF X.r X.dr _ _ _ _ 9 S.pl ⟨rfl,hS2,stop H2 9 S.pl s12 q⟩⟩))
   rw[decide_eq_true (by rw[ck])]
   refine bB (aA rfl hy1 T.jb T.Ec rfl (aO rfl hf2 rfl ⟨_,rfl,aA rfl i2.hp T.bD T.f7 rfl (fI (s12 _ _ hx1') T.e9 T.r8 rfl (aC f (Sound.eager h.form) k h.n ⟨rfl,⟨df,hf2⟩,by show h.form.block≤256;omega,rfl,_,rfl,?_⟩))⟩))
   have el:decide (V.int ((y.n:Nat):Int)=V.int (min (((Sound.eager h.form).block:Nat):Int) ((h.n:Int)-(k:Int)*(((Sound.eager h.form).block:Nat):Int))))=decide (y.n=Sound.frameLen h.form h.n k):=by
    rw[show (Sound.eager h.form).block=h.form.block from rfl]
    unfold Sound.frameLen
    have e1:((k*h.form.block:Nat):Int)=(k:Int)*(h.form.block:Int):=by omega
    by_cases c:y.n=min h.form.block (h.n-k*h.form.block)
    ·rw[decide_eq_true c,decide_eq_true]
     congr 1
     rw[←e1];omega
    ·rw[decide_eq_false c,decide_eq_false]
     intro z
     have z:=V.int.inj z
     rw[←e1] at z
     exact c (by omega)
   rw[el]
   by_cases cn:y.n=Sound.frameLen h.form h.n k
   case neg=>
    rw[decide_eq_false cn]
    rw[if_pos (.inr cn)] at q
    exact bt (aO rfl hS2 rfl ⟨_,rfl,dF X.r X.dr _ _ _ _ 9 S.pl ⟨rfl,hS2,stop H2 9 S.pl s12 q⟩⟩)
   rw[decide_eq_true cn]
   rw[if_neg (fun z=>z.elim (fun z=>z ck) fun z=>z cn)] at q
   refine bB ⟨_,rfl,X.p,A.br,X.dp,_,_,rfl,i2.hp,T.bD,T.vc,rfl,_,_,rfl,rfl,X.dp,_,i2.hp,(by show 7<1000;decide),?_⟩
   rw[Lm,show ((S.w.frames:Nat):Int)+1=((S.w.frames+1:Nat):Int) by omega]
   have i3:=i2.fr (S.w.frames+1)
   have s3:ae (bY X.l3 H2) _:=iZ (o:= .ins A.br X.dp (cC (.ref X.r) (.ref x) (.ref X.t) (.ref X.a) (.ref b) (.int ((S.w.frames+1:Nat):Int)) (.ref X.c))) X.PB
   have hop:o≠X.p:=fun z=>by rw[z,s1 _ _ hi.hp] at ho;cases ho
   have hoc:o≠X.c:=fun z=>by rw[z,s1 _ _ hi.hc] at ho;cases ho
   have hDp:Dy≠X.p:=fun z=>by rw[z,i2.hp] at hy2;cases hy2
   have hy1':=bJ (o:= .ins A.br X.dp (cC (.ref X.r) (.ref x) (.ref X.t) (.ref X.a) (.ref b) (.int ((S.w.frames+1:Nat):Int)) (.ref X.c))) hop hy1
   have hy2':=bJ (o:= .ins A.br X.dp (cC (.ref X.r) (.ref x) (.ref X.t) (.ref X.a) (.ref b) (.int ((S.w.frames+1:Nat):Int)) (.ref X.c))) hDp hy2
   have hS3:=bJ (o:= .ins A.br X.dp (cC (.ref X.r) (.ref x) (.ref X.t) (.ref X.a) (.ref b) (.int ((S.w.frames+1:Nat):Int)) (.ref X.c))) n1.symm hS2
   generalize upd H2 X.p (.ins A.br X.dp (cC (.ref X.r) (.ref x) (.ref X.t) (.ref X.a) (.ref b) (.int ((S.w.frames+1:Nat):Int)) (.ref X.c)))=H3 at*
   refine (aA rfl i3.hp T.bD T.nL rfl ⟨.inl ⟨rfl,_,ah.of i3.hc⟩,aA rfl hy1' T.jb T.zX rfl (aC X.c Dy _ _ ⟨rfl,rfl,i3.hc,hy2',(by rw[List.length_map,List.length_map,sizeLine_eq];show S.w.s.length+_≤_;omega),?_⟩)⟩)
   rw[←List.map_append]
   generalize hH4:upd H3 X.c _=H4
   have hH4:upd H3 X.c (.lst ((S.w.s++y.s).map V.int))=H4:=hH4
   have i4:=i3.num (S.w.s++y.s)
   have s4:ae (bY X.l3 H3) H4:=by rw[←hH4];exact iZ X.F1
   have hy1'':=bJ (o:= .lst ((S.w.s++y.s).map V.int)) hoc hy1'
   have hS4:=bJ (o:= .lst ((S.w.s++y.s).map V.int)) n7 hS3
   rw[hH4] at i4 hy1'' hS4
   have sA:ae (bY X.l3 H) H4:=cc (cc (kl s12) s3) s4
   refine (aO rfl hS4 rfl (aA rfl hy1'' T.jb T.Cd rfl (bG X.R S.pl y.size ⟨rfl,i4.fB,hS4,?_⟩)))
   unfold cJ dD
   rw[if_neg (show¬X.R.B.length<S.pl+y.size by show¬X.B.length<_;omega)]
   dsimp only
   intro H5 s5 hS5 D hD hDx
   have hDo:=i4.off (pl:=0) (by rw[hS4];exact fun z=>by cases z) hD
   refine q D H5 (cc sA (cI X.Oi s5)) ((i4.go s5).qY _) hS5 ?_ ?_
   ·cases z:H D with
    |none=>rfl
    |some u=>
     have:=sA D u (by rw[dO (fun y=>hDo (X.tR D y))];exact z)
     rw[this] at hD;cases hD
   ·rw[show X.f H5 D=H5 D from dO hDo]
    exact hDx
def eO (fs:List Sound.Bytes):List (List Nat):=fs.map bn
theorem Rf {l:List Nat} (h: ∀x∈l,x<256):bn (Sound.toBytes l)=l:=by
 unfold bn Sound.toBytes
 rw[List.map_map]
 conv=>rhs;rw[←List.map_id l]
 refine List.map_congr_left fun x hx=>?_
 have:=h x hx
 simp [UInt8.toNat_ofNat',Nat.mod_eq_of_lt this]
theorem jB (c n:Nat):bn (Sound.high c n)=bf c n:=RX c n
theorem JK {j:Nat} (h:j<256):bf 1 j= [j]:=by
 unfold bf
 simp [List.range_succ,Nat.mod_eq_of_lt h]
theorem Qh {r:Nat} {b:Sound.Bytes} (h:b.length+2≤r):Sound.rowIn r b=cX r (bn b):=by
 unfold Sound.rowIn cX
 have e:(Sound.rowOf b).map UInt8.toNat=bf 2 (bn b).length++bn b:=by
  unfold Sound.rowOf
  rw[b6,←jB,←jQ];rfl
 simp only [e]
 rw[List.length_append,cD,b6,show r-(2+b.length)=r-2-b.length by omega,List.take_of_length_le]
 rw[List.length_append,List.length_append,cD,b6,List.length_replicate];omega
theorem Kt {r j:Nat} {fs:List Sound.Bytes} (h: ∀b∈fs,b.length+2≤r):Sound.sumRows r j (Sound.numbered fs)=ik r j (eO fs):=by
 unfold Sound.sumRows Sound.numbered ik eO
 rw[List.foldl_map,List.zipIdx_map,List.foldl_map]
 have key: ∀(L:List (Sound.Bytes×Nat)) (a:List Nat),(∀x∈L,x.1.length+2≤r)→L.foldl (fun a x=>Sound.added a (Sound.scaled (Sound.factor x.2 j) (Sound.rowIn r x.1))) a=L.foldl (fun a x=>Sound.added a ((cX r (Prod.map bn id x).1).map (Sound.mul (Sound.factor (Prod.map bn id x).2 j)))) a:=by
  intro L
  induction L with
  |nil=>intro a _;rfl
  |cons x L ih=>
   intro a hx
   rw[List.foldl_cons,List.foldl_cons,ih _ fun y hy=>hx y (List.mem_cons_of_mem _ hy),Qh (hx x (List.mem_cons_self ..))]
   rfl
 exact key _ _ fun x hx=>h _ (List.fst_mem_of_mem_zipIdx hx)
theorem IA {fs:List Sound.Bytes} (h:fs≠ []):Sound.longest fs=cU (eO fs):=by
 unfold Sound.longest cU fj eO
 rw[List.map_map]
 have e:(List.length∘bn)=fun b:Sound.Bytes=>b.length:=by funext b;exact b6 b
 rw[e]
 obtain ⟨a,b,c⟩:=md (fs.map fun b:Sound.Bytes=>b.length) 0
 generalize hm:(fs.map fun b:Sound.Bytes=>b.length).foldl max 0=m at*
 refine Cq ?_ fun x hx=>?_
 ·rcases c with c|c
  ·subst c
   obtain ⟨x,fs,rfl⟩:=List.exists_cons_of_ne_nil h
   have:=b x.length (by simp)
   exact List.mem_map.mpr ⟨x,by simp,by omega⟩
  ·obtain ⟨x,hx,rfl⟩:=List.mem_map.mp c
   exact List.mem_map.mpr ⟨x,hx,rfl⟩
 ·obtain ⟨y,hy,rfl⟩:=List.mem_map.mp hx
  have:=b y.length (List.mem_map.mpr ⟨y,hy,rfl⟩)
  omega
theorem Oe (b:Sound.Bytes):bn (b++Sound.high 4 (Sound.crc32 b))=ll (bn b):=by
 unfold ll
 rw[jQ,jB,←wF];rfl
theorem Ld {g j:Nat} {row:Sound.Bytes} (hj:j<256):bn (Sound.pieceOf g j row)=ll (bf 2 0x4B50++bf 2 g++ [j]++bf 2 row.length++bn row):=by
 unfold Sound.pieceOf
 simp only
 rw[Oe]
 congr 1
 rw[jQ,jQ,jQ,jQ,jB,jB,jB,jB,JK hj]
 simp only [List.append_assoc]
theorem Ba {g j:Nat} {fs:List Sound.Bytes} (hj:j<4) (h:fs≠ []) (hl:fs.length≤8):bn (Sound.spare fs g j)=lj g j (eO fs):=by
 unfold Sound.spare lj
 rw[Ld (by omega),IA h]
 unfold Sound.spareRow
 have hge: ∀b∈fs,b.length+2≤cU (eO fs):=fun b hb=>by
  have:=oJ (M:=eO fs) (List.mem_map_of_mem hb)
  rwa [b6] at this
 have hge2: ∀m∈eO fs,m.length+2≤cU (eO fs):=fun m hm=>oJ hm
 rw[Kt hge,Rf (Er hj (by unfold eO;rw[List.length_map];exact hl))]
 have e:(Sound.toBytes (ik (cU (eO fs)) j (eO fs))).length=cU (eO fs):=by
  unfold Sound.toBytes;rw[List.length_map,xD hge2]
 rw[e]
def G0 (C:Addr):Sp:=fun vs H Q _=> ∃(f:Addr) (F:Sound.Form) (k n:Nat),vs= [.ref f, .int (k:Nat), .int (n:Nat)]∧fP C H f F∧1≤F.group∧Q (.bl (decide ((k+1)%F.group=0∨k+1=n))) H
theorem Ig:aK ["self", "k", "frame_count"] ["self", "k", "frame_count"] (aD zN):=⟨rfl,rfl,rfl,by decide+kernel,rfl,by decide+kernel,by decide+kernel⟩
theorem O6 (T:Txt K mg A):az P w K mg base ba 1 A.pH A.ny ["self", "k", "frame_count"] (G0 A.bH):=by
 refine T.Qq.ok Ig (fun vs H Q E h=>?_) (fun cdv Ar outer s H vs Q E hr h=>?_)
 ·obtain ⟨f,F,k,n,rfl,_⟩:=h
  rfl
 ·obtain ⟨f,F,k,n,rfl,⟨df,hf⟩,hg,q⟩:=h
  refine ⟨_,aj (aW (LR (gP dA (aw kR (aw b5 (pv 1) aq) (ax (pv 0) rfl)) aq (aX _)) (uY (gP dA (aw b5 (pv 1) aq) (pv 2) (aX _))))),?_⟩
  refine ⟨_,rfl,ag _ _ ⟨rfl,rfl,aA rfl hf T.b4 T.sV rfl (ag _ _ ⟨rfl,rfl,(by show (0:Int)<(F.group:Nat);omega),rfl,_,rfl,?_⟩)⟩⟩
  have e2:(((k:Nat):Int)+1)%((F.group:Nat):Int)=(((k+1)%F.group:Nat):Int):=by
   rw[show ((k:Nat):Int)+1=((k+1:Nat):Int) by omega,←Int.natCast_emod]
  by_cases c:(k+1)%F.group=0
  ·rw[decide_eq_true (by show V.int ((((k:Nat):Int)+1)%((F.group:Nat):Int))=V.int 0;rw[e2,c];rfl)]
   rw[decide_eq_true (.inl c)] at q
   exact bt q
  ·rw[decide_eq_false (fun z=>c (by have z:V.int ((((k:Nat):Int)+1)%((F.group:Nat):Int))=V.int 0:=z;rw[e2] at z;have:=V.int.inj z;omega))]
   refine bB ⟨_,rfl,ag _ _ ⟨rfl,rfl,_,rfl,rfl,?_⟩⟩
   by_cases c2:k+1=n
   ·rw[decide_eq_true (by show V.int (((k:Nat):Int)+1)=V.int (n:Nat);rw[←c2];rfl)]
    rw[decide_eq_true (.inr c2)] at q
    exact q
   ·rw[decide_eq_false (fun z=>c2 (by have z:V.int (((k:Nat):Int)+1)=V.int (n:Nat):=z;have:=V.int.inj z;omega))]
    rw[decide_eq_false (fun z=>z.elim c c2)] at q
    exact q
def gu (F:Hp) (g:Addr) (grp:List Sound.Bytes):Prop:= ∃as:List Addr,F g=some (.lst (as.map V.ref))∧as.length=grp.length∧ ∀(k:Nat) (a:Addr),as[k]?=some a→F a=some (.lst (vN (bn (grp.getD k []))))
theorem gu.same {F F':Hp} {g:Addr} {grp:List Sound.Bytes} (h:gu F g grp) (s:ae F F'):gu F' g grp:=by
 obtain ⟨as,h1,h2,h3⟩:=h
 exact ⟨as,s _ _ h1,h2,fun k a e=>s _ _ (h3 k a e)⟩
theorem gu.rows {F:Hp} {g:Addr} {grp:List Sound.Bytes} (h:gu F g grp):jh K F g (grp.map bn):=by
 obtain ⟨as,h1,h2,h3⟩:=h
 refine ⟨as,ah.of h1,by rw[List.length_map];exact h2,fun k a e=>?_⟩
 have hk:k<grp.length:=by rw[←h2];exact (List.getElem?_eq_some_iff.mp e).1
 have:=ah.of (K:=K) (h3 k a e)
 rw[List.getD_eq_getElem?_getD,List.getElem?_map,List.getElem?_eq_getElem hk]
 rw[List.getD_eq_getElem?_getD,List.getElem?_eq_getElem hk] at this
 exact this
theorem gu.push {H:Hp} {g D:Addr} {as:List Addr} {grp:List Sound.Bytes} {x:Sound.Bytes} (h1:H g=some (.lst (as.map V.ref))) (h2:as.length=grp.length) (h3: ∀(k:Nat) (a:Addr),as[k]?=some a→H a=some (.lst (vN (bn (grp.getD k []))))) (hD:H D=some (.lst (vN (bn x)))) (hne:D≠g):gu (upd H g (.lst (as.map V.ref++ [V.ref D]))) g (grp++ [x]):=by
 refine ⟨as++ [D],by rw[ak];simp,by rw[List.length_append,List.length_append,h2];rfl,fun k a e=>?_⟩
 by_cases hk:k<as.length
 ·rw[List.getElem?_append_left hk] at e
  have ha:=h3 k a e
  have hag:a≠g:=fun z=>by
   rw[z,h1] at ha
   have ha:=HO.lst.inj (Option.some.inj ha)
   cases as with
   |nil=>simp at hk
   |cons y ys=>
    cases hq:bn (grp.getD k []) with
    |nil=>rw[hq] at ha;cases ha
    |cons m ms=>rw[hq] at ha;cases ha
  rw[aG hag,List.getD_eq_getElem?_getD,List.getElem?_append_left (by omega),←List.getD_eq_getElem?_getD]
  exact ha
 ·rw[List.getElem?_append_right (by omega)] at e
  have hk0:k-as.length=0:=by
   have:=(List.getElem?_eq_some_iff.mp e).1
   simp at this;omega
  rw[hk0] at e
  obtain rfl:D=a:=Option.some.inj e
  rw[aG hne,List.getD_eq_getElem?_getD,List.getElem?_append_right (by omega),show k-grp.length=0 by omega]
  exact hD
def Bm (n:Nat) (v:Sound.Told×(Sound.Stand⊕(Nat×Sound.Bytes))):Except (Sound.Told×Nat×Nat) (Sound.Told×Nat):=match v with
 |(w, .inl s)=> .error (w,cM n s)
 |(w, .inr (p,_))=> .ok (w,p)
def eD (B:Sound.Bytes) (h:Sound.Head) (S:Hs):Sound.Told×(Sound.Stand⊕(Nat×Sound.Bytes)):=Sound.judgeFrames h.form h.n S.pl ((B.drop (26+h.t)).take (3*Sound.framesOf h.form h.n)) (Sound.framesOf h.form h.n+1) 0 S.pl [] (B.drop S.pl) S.w
def fT:dW:=⟨fun B S=>S.pl≤B.length∧S.w.s= []∧ ∃h,S.w.head=some h∧Sound.mayHead h=true∧S.starts=entries B (26+h.t) (Sound.framesOf h.form h.n),fun B S=>match S.w.head with
 |none=> .ok S
 |some h=>match Bm B.length (eD B h S) with
  | .error z=> .error z
  | .ok (w,p)=> .ok ⟨w,S.starts,S.idx,p⟩⟩
theorem qZ (f:Sound.Form) (n start:Nat) (idx:Sound.Bytes) (fuel k place:Nat) (grp:List Sound.Bytes) (b:Sound.Bytes) (w:Sound.Told) (hk:k≠Sound.framesOf f n):Sound.judgeFrames f n start idx (fuel+1) k place grp b w=
  if start+Sound.entry idx k≠place then (w, .inl (.fault 9 place)) else match Sound.unframe f b with
  | .bad=>(w, .inl (.fault 9 place))
  | .short=>(w, .inl .more)
  | .frame x=>if x.k≠k∨x.n≠Sound.frameLen f n k then (w, .inl (.fault 9 place)) else
   if (k+1)%f.group=0∨k+1=Sound.framesOf f n then (match Sound.judgeSpares (Sound.sparesOf f (grp++ [b.take x.size]) (k/f.group)) (place+x.size) (b.drop x.size) with
    | .inl s=>(eW w x, .inl s)
    | .inr (p,r)=>Sound.judgeFrames f n start idx fuel (k+1) p [] r (eW w x))
   else Sound.judgeFrames f n start idx fuel (k+1) (place+x.size) (grp++ [b.take x.size]) (b.drop x.size) (eW w x):=by
 conv=>lhs;unfold Sound.judgeFrames
 rw[if_neg hk]
 rfl
theorem rV (f:Sound.Form) (n start:Nat) (idx:Sound.Bytes) (fuel k place:Nat) (grp:List Sound.Bytes) (b:Sound.Bytes) (w:Sound.Told) (hk:k=Sound.framesOf f n):Sound.judgeFrames f n start idx (fuel+1) k place grp b w=(w, .inr (place,b)):=by
 unfold Sound.judgeFrames
 rw[if_pos hk]
theorem ue {h:Sound.Head} (e:Sound.mayHead h=true):Sound.framesOf h.form h.n≤129:=by
 have hn:=zk e
 obtain ⟨_,_,⟨hb1,hb2⟩,_⟩:=ib (gA e).1
 unfold Sound.framesOf
 refine Nat.div_le_of_le_mul ?_
 have:=Nat.mul_le_mul (show 16≤h.form.block from hb1) (Nat.le_refl 128)
 omega
theorem HI.next {H H':Hp} {X:Hx} {S S':Hs} {hv:V} {b g:Addr} (h:HI K A (hide g H) X S hv b) (s:ae (bY X.l3 H) H') (h':HI K A H' X S' hv b) (e1:S'.w.head=S.w.head) (e2:S'.w.tags=S.w.tags) (e3:S'.starts=S.starts) (e4:S'.idx=S.idx):HI K A (hide g H') X S' hv b:=by
 obtain ⟨⟨n1,n2,n3,n4⟩,⟨n5,n6,n7⟩,⟨n8,n9⟩,n10⟩:=fC h.nd
 have sf:ae (X.f (hide g H)) (X.f (hide g H')):=fun y o e=>by
  obtain ⟨q1,q2⟩:=cy e
  obtain ⟨q3,q4⟩:=cu q1
  rw[show X.f (hide g H') y=hide g H' y from dO q2,hide_ne q4]
  exact s y o (by rw[dO (fun z=>q2 (X.tR y z))];exact q3)
 have off: ∀{y o},hide g H y=some o→y≠g:=fun q=>(cu q).2
 have kt: ∀y o,y≠X.p→y≠X.r→y≠X.c→hide g H y=some o→hide g H' y=some o:=fun y o z1 z2 z3 q=>by
  rw[hide_ne (off q)]
  refine s y o ?_
  rw[dO (fun z=>by
   simp only [Hx.l3,List.mem_cons,List.not_mem_nil,or_false] at z
   rcases z with z|z|z
   ·exact z1 z
   ·exact z2 z
   ·exact z3 z)]
  exact (cu q).1
 obtain ⟨as,t1,t2,t3⟩:=h.ht
 refine ⟨h.nd,by rw[hide_ne (off h.hp)];exact h'.hp,by rw[e1];exact h.hh.same sf,⟨as,kt _ _ n2.symm n5.symm n9 t1,by rw[e2];exact t2,fun k a q=>by rw[e2];exact (t3 k a q).same sf⟩,by rw[e3];exact kt _ _ n3.symm n6.symm n10 h.ha,by rw[hide_ne (off h.hc)];exact h'.hc,by rw[e4];exact sf _ _ h.hb,sf.seq h.hq,h.hl⟩
theorem HI.lK {H H':Hp} {X:Hx} {S:Hs} {hv:V} {b g:Addr} (h:HI K A (hide g H) X S hv b) (s:ae (hide X.r H) H'):HI K A (hide g H') X S hv b:=h.go fun y o e=>by
 obtain ⟨e1,e2⟩:=cu e
 obtain ⟨e3,e4⟩:=cu e1
 rw[hide_ne e4]
 exact s y o (by rw[hide_ne e2];exact e3)
theorem HI.full {H:Hp} {X:Hx} {S:Hs} {hv:V} {b g:Addr} (h:HI K A (hide g H) X S hv b):HI K A H X S hv b:=h.same (dI _ _)
theorem O2 {l:List Addr} {H:Hp} {g:Addr} {o:HO} (hg:g∉l):bY l (upd H g o)=upd (bY l H) g o:=by
 funext y
 by_cases e:y=g
 ·rw[e,ak,dO hg,ak]
 ·rw[aG e]
  unfold bY
  split
  ·rfl
  ·rw[aG e]
theorem zY {H H':Hp} {g:Addr} (hg:H g=none) (s:ae H H'):ae H (hide g H'):=fun b o e=>by rw[hide_ne (cw e hg)];exact s b o e
theorem RW {g j:Nat} {fs:List Sound.Bytes} (hj:j<4) (hne:fs≠ []) (h8:fs.length≤8) (hl: ∀b∈fs,b.length≤4096):7≤(Sound.spare fs g j).length∧(Sound.spare fs g j).length≤5000:=by
 have e:=congrArg List.length (Ba (g:=g) hj hne h8)
 rw[b6] at e
 rw[e]
 have hall: ∀m∈eO fs,m.length≤4096:=fun m hm=>by
  obtain ⟨b,hb,rfl⟩:=List.mem_map.mp hm
  rw[b6];exact hl b hb
 unfold lj ll
 have:=yV hall
 rw[List.length_append,cD,List.length_append,xD (fun m hm=>oJ hm),List.length_append,List.length_append,List.length_append,cD,cD,cD]
 show 7≤_+1+_+_+_∧_+1+_+_+_≤_
 omega
theorem xc (w:Sound.Bytes) (ws:List Sound.Bytes) (place:Nat) (b:Sound.Bytes):Sound.judgeSpares (w::ws) place b=match Sound.expects [2,4,5,7] w b with
  |some false=> .inl (.fault 9 place)
  |none=> .inl .more
  |some true=>Sound.judgeSpares ws (place+w.length) (b.drop w.length):=by
 conv=>lhs;unfold Sound.judgeSpares
 cases Sound.expects [2,4,5,7] w b with
 |none=>rfl
 |some c=>cases c<;>rfl
theorem Ks {f:Sound.Form} {fs:List Sound.Bytes} {g j:Nat} (h:j<f.spare):(Sound.sparesOf f fs g).drop j=Sound.spare fs g j::(Sound.sparesOf f fs g).drop (j+1):=by
 unfold Sound.sparesOf
 rw[List.drop_eq_getElem_cons (by rw[List.length_map,List.length_range];exact h),List.getElem_map,List.getElem_range]
theorem ic:aK ["hearing", "form", "reading", "first", "group", "k", "start", "j"] ["hearing"] (aD Aj):=⟨rfl,rfl,rfl,by decide+kernel,rfl,by decide+kernel,by decide+kernel⟩
theorem yt {w b:Sound.Bytes} {cuts:List Nat} (h:Sound.expects cuts w b=some true):w.length≤b.length:=by
 unfold Sound.expects at h
 split at h
 ·cases h
 ·split at h
  ·cases h
  ·omega
theorem Pz (T:Txt K mg A):az P w K mg base (aR P w) 15 A.jn A.om ["hearing"] (jc K A fT):=by
 refine T.CM.bN ic (fun vs H Q E h=>?_) (fun cdv Ar outer s H vs Q E hr h=>?_)
 ·obtain ⟨X,S,hv,b,rfl,_⟩:=h
  rfl
 ·obtain ⟨X,S,hv,b,rfl,hi,hS,⟨hplB,hs0,h,eh,hm,hst⟩,k⟩:=h
  have hr1':aF 1 _:=hr.mono (by decide)
  have hr4':aF 4 _:=hr.mono (by decide)
  have hr5':aF 5 _:=hr.mono (by decide)
  refine ⟨_,ai (aI (i:=1) ic.nd rfl (Or.inl rfl) (ax (ax (pv 0) rfl) rfl))
   (ai (aI (i:=2) ic.nd rfl (Or.inl rfl) (ax (pv 0) rfl))
   (ai (aI (i:=3) ic.nd rfl (Or.inl rfl) (ax (pv 2) rfl))
   (ai (aI (i:=4) ic.nd rfl (Or.inl rfl) (cg af))
   (aj (cj PassesOwn.leaving rfl (DQ rfl T.zP (aa (ax (pv 0) rfl) af)) (o5 (K:=K) (n:=2) rfl rfl (gq (bo (i:=5) ic.nd rfl (Or.inl rfl)) (gq (bo (i:=6) ic.nd rfl (Or.inl rfl)) oq)))
    (ai (bp (bq gF (ax (pv 2) rfl) (aw b5 (pv 3) (pv 6)) (aX _)) (aj (a8 (aP (pv 2) T.aM T.dv (dR T) hr1' T.dw .nil aN (aa (aV rfl T.rQ) (aa (ax (pv 2) rfl) af))))) bu)
    (ai (a8 (gg PySem.F.plainAttrs_list PySem.F.slot_list_append PySem.F.type_list_append l7 (pv 4) (aa (aS (Ky T) hr rfl T.Ip T.zb.kp T.Jp .nil aN (aa (pv 0) (aa (pv 5) af))) af)))
    (aj (bp (iF (aP (pv 1) T.b4 T.JH (O6 T) hr1' T.Ox .nil aU (aa (pv 5) (aa (cq di (by rfl) T.cW PySem.boot_len (aa (ax (pv 0) rfl) af)) af))))
     (ai (cj PassesOwn.leaving rfl (fk rfl T.dQ (aa (ax (pv 1) rfl) af)) (bo (i:=7) ic.nd rfl (Or.inl rfl))
       (aj (a8 (aS (Ja T) hr4' rfl T.N0 T.xY.kp T.RE .nil aN (aa (pv 2) (aa (aS (Rw T) hr5' rfl T.IW T.Ea.kp T.OH .nil aU (aa (aw jA (pv 5) (ax (pv 1) rfl)) (aa (pv 7) (aa (pv 4) af)))) af))))))
      (aj (aI (i:=4) ic.nd rfl (Or.inl rfl) (cg af))))
     bu))))))))),?_⟩
  obtain ⟨⟨n1,n2,n3,n4⟩,⟨n5,n6,n7⟩,⟨n8,n9⟩,n10⟩:=fC hi.nd
  have hx:=hi.hh
  rw[eh] at hx
  obtain ⟨x,rfl,dx,f,hx1,df,hf⟩:=hx
  have hx1':=(cy hx1).1
  have hf':=(cy hf).1
  have ao:=(gA hm).1
  have hN129:=ue hm
  obtain ⟨_,_,⟨hb1,hb2⟩,hord,⟨hg1,hg2⟩,hsp⟩:=ib ao
  have e62:(2:Int)^62=4611686018427387904:=by decide
  have z0:([]:List V).length≤sizeLine:=by rw[sizeLine_eq];exact Nat.zero_le _
  have hSr:=hS
  unfold aJ at hSr
  have kE: ∀w' st,eD X.B h S=(w', .inl st)→ ∀H' S' hv b,ae (X.f H) H'→HI K A H' X S' hv b→S'.w=w'→dn A.ay H' X.R (cM X.B.length st).1 (cM X.B.length st).2→E (.ref A.bT) none H':=fun w' st e=>by
   unfold gN fT at k
   dsimp only at k
   rw[eh] at k
   dsimp only at k
   rw[e] at k
   exact k
  have kO: ∀w' p r,eD X.B h S=(w', .inr (p,r))→ ∀H' hv b,ae (X.f H) H'→HI K A H' X ⟨w',S.starts,S.idx,p⟩ hv b→aJ A.ay H' X.R p→Q .au H':=fun w' p r e=>by
   unfold gN fT at k
   dsimp only at k
   rw[eh] at k
   dsimp only at k
   rw[e] at k
   exact k
  clear k
  generalize hJ:eD X.B h S=J at*
  unfold eD at hJ
  have hsl:S.starts.length=Sound.framesOf h.form h.n:=by rw[hst];unfold entries;rw[List.length_map,List.length_range]
  have hse: ∀i,i<Sound.framesOf h.form h.n→S.starts.getD i 0=Sound.entry ((X.B.drop (26+h.t)).take (3*Sound.framesOf h.form h.n)) i:=fun i bf=>by
   rw[hst];unfold entries
   rw[List.getD_eq_getElem?_getD,List.getElem?_map,List.getElem?_range bf];rfl
  generalize hxb:(X.B.drop (26+h.t)).take (3*Sound.framesOf h.form h.n)=xb at*
  refine (aA rfl hi.hp T.bD T.f7 rfl (fI hx1' T.e9 T.lr rfl ?_))
  refine (aA rfl hi.hp T.bD T.iu rfl ?_)
  refine (aA rfl hSr T.aM T.cG rfl ?_)
  refine ⟨z0,fun g0 hg0=>?_⟩
  have sg:=aL (o:= .lst []) hg0
  refine (aA rfl (sg _ _ hi.hp) T.bD T.qF rfl (ag X.a _ ⟨rfl,ah.of (sg _ _ hi.ha),?_⟩))
  have hrn:H X.r≠none:=fun z=>by rw[show X.r=X.R.r from rfl,hSr] at z;cases z
  refine zw (J:=rR K X.a) (Sound.framesOf h.form h.n) (fun i σ H'=> ∃(g:Addr) (grp:List Sound.Bytes) (w':Sound.Told) (pl:Nat) (v5 v6 v7:Option V),σ= [some (.ref X.p),some (.ref f),some (.ref X.r),some (.int (S.pl:Nat)),some (.ref g),v5,v6,v7]∧
    H g=none∧g∉X.l∧ae (X.f H) H'∧HI K A (hide g H') X ⟨w',S.starts,S.idx,pl⟩ (.ref x) b∧aJ A.ay H' X.R pl∧gu (X.f H') g grp∧(pl≤X.B.length∧(i<Sound.framesOf h.form h.n→grp.length=i%h.form.group)∧(∀m∈grp,m.length≤4096)∧w'.s.length≤2560*i∧w'.head=some h)∧
    Sound.judgeFrames h.form h.n S.pl xb (Sound.framesOf h.form h.n-i+1) i pl grp (X.B.drop pl) w'=J) ?_ ?_ ?_ ?_ ?_
  ·refine ⟨g0, [],S.w,S.pl,none,none,none,rfl,hg0,hi.off (pl:=0) hrn hg0,kl sg,hi.same (zY hg0 sg),sg _ _ hS,⟨[],?_,rfl,fun k a e=>by simp at e⟩,⟨hplB,fun _=>by simp,(fun m hm=>by cases hm),by rw[hs0];exact Nat.zero_le _,eh⟩,hJ⟩
   rw[show X.f _ g0=_ from dO (hi.off (pl:=0) hrn hg0)]
   exact ak
  ·rintro i σ H1 bf ⟨g,grp,w',pl,v5,v6,v7,rfl,hgn,hgl,s1,i1,hS1,hG1,_⟩
   exact ⟨_,_,ah.of i1.full.ha,fH (by show i<S.starts.length;omega)⟩
  ·rintro σ H1 ⟨g,grp,w',pl,v5,v6,v7,rfl,hgn,hgl,s1,i1,hS1,hG1,_⟩
   exact ⟨_,ah.of i1.full.ha,by rw[aZ];show S.starts.length≤_;omega⟩
  ·rintro i σ H0 x0 H0' bf ⟨g,grp,w',pl,v5,v6,v7,rfl,hgn,hgl,s0,i0,hS0,hG0,⟨hpl,hgi,hgm,hws,hwh⟩,hJi⟩ ⟨T1,x1,rfl,hT1,rfl,hzz⟩
   obtain ⟨rfl,_⟩:=eI (hzz _ (ah.of i0.full.ha))
   have sT:=aL (o:= .tup [.int (i:Nat), .int ((S.starts.getD i 0:Nat):Int)]) hT1
   refine (ag T1 _ ⟨rfl,aY.of ak,rfl,ag _ _ ⟨rfl,ag _ _ ⟨rfl,rfl,?_⟩⟩⟩)
   have s1:=s0.trans sT
   have i1:=i0.same (mn (D:=g) sT)
   have hS1:=sT _ _ hS0
   have hG1:=hG0.same (fQ ((kW X.l H0).trans sT))
   generalize upd H0 T1 (.tup [.int (i:Nat), .int ((S.starts.getD i 0:Nat):Int)])=H1 at*
   rw[qZ _ _ _ _ _ _ _ _ _ _ (by omega)] at hJi
   rw[hse i bf]
   generalize hent:Sound.entry xb i=en at*
   have hi1:i1.full.ha=i1.full.ha:=rfl
   have hS1r:=hS1
   unfold aJ at hS1r
   have hgr:X.r≠g:=fun z=>hgl (by rw[←z];exact X.mr)
   have stop: ∀(H2:Hp) (w2:Sound.Told) (p2 kk pp:Nat),ae (X.f H) H2→HI K A H2 X ⟨w2,S.starts,S.idx,p2⟩ (.ref x) b→(∀H' S' hv b,ae (X.f H) H'→HI K A H' X S' hv b→S'.w=w2→dn A.ay H' X.R kk pp→E (.ref A.bT) none H')→E (.ref A.bT) none (upd H2 X.r (.ins A.ay X.dr (bC (.ref X.R.q) (.int (p2:Nat)) (.int (kk:Nat)) (.int (pp:Nat))))):=fun H2 w2 p2 kk pp s2 i2 z=>by
    have s3:=cO (r:=X.r) (H:=H2) (o:= .ins A.ay X.dr (bC (.ref X.R.q) (.int (p2:Nat)) (.int (kk:Nat)) (.int (pp:Nat))))
    exact z _ _ _ _ (cc s2 (cI X.mr s3)) (i2.go s3) rfl ⟨_,ak⟩
   refine (aA rfl hS1r T.aM T.cG rfl ⟨_,rfl,_,rfl,ag _ _ ⟨rfl,rfl,rfl,_,rfl,?_⟩⟩)
   by_cases c1:S.pl+en=pl
   case neg=>
    rw[if_pos c1] at hJi
    rw[decide_eq_false (fun z=>c1 (by have:=V.int.inj z;omega))]
    exact bt (aO rfl hS1r rfl (aA rfl hS1r T.aM T.cG rfl (dF X.r X.dr _ _ _ _ 9 pl ⟨rfl,hS1r,stop H1 w' pl 9 pl s1 i1.full (kE w' _ hJi.symm)⟩)))
   rw[if_neg (fun z=>z c1)] at hJi
   rw[decide_eq_true (by rw[←c1];rfl)]
   have hG1':=hG1
   obtain ⟨as,ha1,ha2,ha3⟩:=hG1'
   refine bB ⟨_,rfl, .inl ⟨rfl,_,ah.of (cy ha1).1⟩,_,rfl,_,rfl,rg X ⟨w',S.starts,S.idx,pl⟩ (.ref x) b h i ⟨rfl,i1.full,hS1,⟨hwh,hm,by show w'.s.length≤_;omega⟩,?_⟩⟩
   unfold B5 xf
   dsimp only
   cases eu:Sound.unframe h.form (X.B.drop pl) with
   |bad=>
    rw[eu] at hJi
    dsimp only at hJi⊢
    exact fun H' S' hv b s' i' ew hF=>kE w' _ hJi.symm H' S' hv b (cc s1 s') i' ew hF
   |short=>
    rw[eu] at hJi
    dsimp only at hJi⊢
    exact fun H' S' hv b s' i' ew hF=>kE w' _ hJi.symm H' S' hv b (cc s1 s') i' ew hF
   |frame y=>
   rw[eu] at hJi
   dsimp only at hJi⊢
   by_cases c2:y.k≠i∨y.n≠Sound.frameLen h.form h.n i
   ·rw[if_pos c2] at hJi⊢
    exact fun H' S' hv b s' i' ew hF=>kE w' _ hJi.symm H' S' hv b (cc s1 s') i' ew hF
   rw[if_neg c2] at hJi⊢
   dsimp only
   obtain ⟨hz1,hz2,hz3⟩:=wk eu
   have hyl:=sk ao eu
   rw[List.length_drop] at hz3
   intro D H2 s2 i2 hS2 hD hDx
   have sf2:ae (X.f H1) (X.f H2):=fQ (CF X.tR s2)
   have s12:ae (X.f H) H2:=cc s1 (CF X.tR s2)
   have i2g:=i1.next s2 i2 rfl rfl rfl rfl
   have hDg:D≠g:=fun z=>by rw[z,(cy ha1).1] at hD;cases hD
   have hg2:=sf2 _ _ ha1
   refine (bG g _ _ ⟨rfl,rfl,(cy hg2).1,(by rw[List.length_map,ha2,sizeLine_eq,hgi bf];have:=Nat.mod_lt i hg1;omega),?_⟩)
   have hGp:gu (X.f (upd H2 g (.lst (as.map V.ref++ [V.ref D])))) g (grp++ [(X.B.drop pl).take y.size]):=by
    rw[show X.f (upd H2 g (.lst (as.map V.ref++ [V.ref D])))=upd (X.f H2) g (.lst (as.map V.ref++ [V.ref D])) from O2 hgl]
    exact gu.push hg2 ha2 (fun k a e=>sf2 _ _ (ha3 k a e)) hDx hDg
   have s23:ae (X.f H) (upd H2 g (.lst (as.map V.ref++ [V.ref D]))):=fun yy o e=>by
    rw[aG (cw (cy e).1 hgn)]
    exact s12 _ _ e
   have i3:HI K A (hide g (upd H2 g (.lst (as.map V.ref++ [V.ref D])))) X ⟨eW w' y,S.starts,S.idx,pl+y.size⟩ (.ref x) b:=by rw[Dd];exact i2g
   have hS3:aJ A.ay (upd H2 g (.lst (as.map V.ref++ [V.ref D]))) X.R (pl+y.size):=bJ hgr hS2
   rw[List.drop_drop] at hJi
   generalize hfb:(X.B.drop pl).take y.size=fb at*
   have hfl:fb.length≤4096:=by rw[←hfb,List.length_take];omega
   generalize upd H2 g (.lst (as.map V.ref++ [V.ref D]))=H3 at*
   have hf3:H3 f=_:=s23 _ _ hf
   have i3f:=i3.full
   refine (aO rfl hf3 rfl ⟨_,rfl,aA rfl i3f.hp T.bD T.qF rfl (ag X.a _ ⟨rfl, .inl (ah.of i3f.ha),aC f (Sound.eager h.form) i _ ⟨rfl,⟨df,hf3⟩,hg1,_,rfl,?_⟩⟩)⟩)
   rw[aZ,show (Sound.eager h.form).group=h.form.group from rfl,show (⟨eW w' y,S.starts,S.idx,pl+y.size⟩:Hs).starts.length=Sound.framesOf h.form h.n from hsl]
   have hall: ∀m∈grp++ [fb],m.length≤4096:=fun m hmm=>by
    rcases List.mem_append.mp hmm with hmm|hmm
    ·exact hgm m hmm
    ·rw[List.mem_singleton.mp hmm];exact hfl
   have hws2:(eW w' y).s.length≤2560*(i+1):=by
    show (w'.s++y.s).length≤_
    rw[List.length_append];omega
   have hne:grp++ [fb]≠ []:=by simp
   have hgl8:(grp++ [fb]).length≤8:=by
    rw[List.length_append,hgi bf]
    have:=Nat.mod_lt i hg1
    show _+1≤8
    omega
   by_cases c3:(i+1)%h.form.group=0∨i+1=Sound.framesOf h.form h.n
   case neg=>
    rw[if_neg c3] at hJi
    rw[decide_eq_false c3]
    refine bB ⟨g,grp++ [fb],eW w' y,aC (pl+y.size) _ _ _ ⟨rfl,hgn,hgl,s23,i3,hS3,hGp,⟨by omega,fun hi2=>?_,hall,hws2,hwh⟩,?_⟩⟩
    ·have hc:=fun z=>c3 (.inl z)
     rw[List.length_append,hgi bf]
     show i%h.form.group+1=_
     have h1:=Nat.mod_lt i hg1
     have h2:=Nat.add_mod i 1 h.form.group
     rcases Nat.lt_or_ge (i%h.form.group+1) h.form.group with z|z
     ·rw[Nat.add_mod,Nat.mod_eq_of_lt (show 1<h.form.group by omega),Nat.mod_eq_of_lt z]
     ·exfalso
      refine hc ?_
      have e1:i+1=(i%h.form.group+1)+h.form.group*(i/h.form.group):=by
       have:=Nat.mod_add_div i h.form.group
       omega
      rw[e1,Nat.add_mul_mod_self_left,show i%h.form.group+1=h.form.group by omega,Nat.mod_self]
    ·rw[show Sound.framesOf h.form h.n-(i+1)+1=Sound.framesOf h.form h.n-i by omega]
     exact hJi
   rw[if_pos c3] at hJi
   rw[decide_eq_true c3]
   refine bt (aA rfl hf3 T.b4 T.vK rfl ⟨_,rfl,(by show _≤((h.form.spare:Nat):Int);omega),(by show ((h.form.spare:Nat):Int)<_;omega),?_⟩)
   generalize hjs:Sound.judgeSpares (Sound.sparesOf h.form (grp++ [fb]) (i/h.form.group)) (pl+y.size) (X.B.drop (pl+y.size))=js at*
   have esp:(((Sound.eager h.form).spare:Nat):Int).toNat=h.form.spare:=Int.toNat_natCast _
   refine fE (lo:=0) (n:=(((Sound.eager h.form).spare:Nat):Int).toNat) (fun j σ H'=> ∃(v7:Option V) (p':Nat),σ= [some (.ref X.p),some (.ref f),some (.ref X.r),some (.int (S.pl:Nat)),some (.ref g),some (.int (i:Nat)),some (.int (en:Nat)),v7]∧ae (hide X.r H3) H'∧aJ A.ay H' X.R p'∧p'≤X.B.length∧Sound.judgeSpares ((Sound.sparesOf h.form (grp++ [fb]) (i/h.form.group)).drop j) p' (X.B.drop p')=js)
    (ag v7 (pl+y.size) ⟨rfl,dI _ _,hS3,by omega,hjs⟩) ?_ ?_
   ·rintro j σ H4 hj ⟨v7,p',rfl,s4,hS4,hp',hj4⟩
    rw[esp] at hj
    rw[Ks hj,xc] at hj4
    have i4:=i3.lK s4
    have sf4:ae (X.f H3) (X.f H4):=fQ (cI X.mr s4)
    have hG4:=hGp.same sf4
    have hf4:H4 f=_:=s4 _ _ (by rw[hide_ne (fun z=>(cy hf).2 (by rw[z];exact X.mr))];exact hf3)
    have hgc:7≤(Sound.spare (grp++ [fb]) (i/h.form.group) j).length∧(Sound.spare (grp++ [fb]) (i/h.form.group) j).length≤5000:=RW (by omega) hne hgl8 hall
    refine ⟨_,rfl,_,rfl,aA rfl hf4 T.b4 T.sV rfl (ag _ _ ⟨rfl,rfl,⟨by show (0:Int)<((h.form.group:Nat):Int);omega,by show ((h.form.group:Nat):Int)<_;omega⟩,_,rfl,_,rfl,i/h.form.group,j,g,(grp++ [fb]).map bn,?_,(hG4.same (kW _ _)).rows,⟨by omega,by rw[List.length_map];exact List.length_pos_iff.mpr hne,by rw[List.length_map];exact hgl8⟩,fun m hmm=>?_,fun D5 H5 hD5 s5 hx5=>?_⟩)⟩
    ·show [V.int (((i:Nat):Int)/((h.form.group:Nat):Int)),V.int (0+((j:Nat):Int)),V.ref g]=_
     rw[←Int.natCast_ediv,Int.zero_add]
    ·obtain ⟨bb,hbb,rfl⟩:=List.mem_map.mp hmm
     exact ⟨by rw[b6];exact hall bb hbb,fv bb⟩
    ·rw[show lj (i/h.form.group) j ((grp++ [fb]).map bn)=bn (Sound.spare (grp++ [fb]) (i/h.form.group) j) from (Ba (by omega) hne hgl8).symm] at hx5
     have hS5:=s5 _ _ hS4
     have hS4r:=hS4
     unfold aJ at hS4r
     have hDr:D5≠X.r:=fun z=>by rw[z,show X.r=X.R.r from rfl,hS4r] at hD5;cases hD5
     have i5:=i4.lK (j7 s5)
     refine (aC X.R p' D5 (Sound.spare (grp++ [fb]) (i/h.form.group) j) ⟨rfl,i5.full.fB,hS5,ah.of (by rw[show X.R.r=X.r from rfl,hide_ne hDr];exact hx5),⟨hgc.1,by omega,hp'⟩,?_⟩)
     unfold CJ
     have s45:=bh s4 (j7 s5)
     show match Sound.expects [2,4,5,7] (Sound.spare (grp++ [fb]) (i/h.form.group) j) (X.B.drop p') with
      |some true=>_
      |some false=>_
      |none=>_
     cases ee:Sound.expects [2,4,5,7] (Sound.spare (grp++ [fb]) (i/h.form.group) j) (X.B.drop p') with
     |none=>
      rw[ee] at hj4
      dsimp only at hj4⊢
      subst hj4
      exact fun H6 s6 hF=>kE (eW w' y) _ hJi.symm H6 _ _ _ (cc s23 (cI X.mr (bh s45 s6))) ((i5.lK s6).full) rfl hF
     |some c=>
      rw[ee] at hj4
      cases c with
      |false=>
       dsimp only at hj4⊢
       subst hj4
       exact fun H6 s6 hF=>kE (eW w' y) _ hJi.symm H6 _ _ _ (cc s23 (cI X.mr (bh s45 s6))) ((i5.lK s6).full) rfl hF
      |true=>
       dsimp only at hj4⊢
       have hel:=yt ee
       rw[List.length_drop] at hel
       rw[List.drop_drop] at hj4
       exact fun H6 s6 hS6=>(ag _ _ ⟨rfl,bh s45 s6,hS6,by omega,hj4⟩)
   ·rintro σ H4 ⟨v7,p',rfl,s4,hS4,hp',hj4⟩
    rw[esp,List.drop_eq_nil_of_le (by unfold Sound.sparesOf;rw[List.length_map,List.length_range];exact Nat.le_refl _)] at hj4
    have hj4:(.inr (p',X.B.drop p'):Sound.Stand⊕(Nat×Sound.Bytes))=js:=hj4
    subst hj4
    dsimp only at hJi
    have i4:=(i3.lK s4).full
    have s34:ae (X.f H) H4:=cc s23 (cI X.mr s4)
    refine ⟨z0,fun g' hg'=>?_⟩
    have sg':=aL (o:= .lst []) hg'
    have hS4r:=hS4
    unfold aJ at hS4r
    have hgl':=i4.off (pl:=0) (fun z=>by rw[show X.r=X.R.r from rfl,hS4r] at z;cases z) hg'
    refine ⟨g', [],eW w' y,aC p' _ _ _ ⟨rfl,?_,hgl',s34.trans sg',(i4.same (zY hg' sg')).qY p',sg' _ _ hS4,⟨[],?_,rfl,fun k a e=>by simp at e⟩,⟨hp',fun hi2=>?_,(fun m hmm=>by cases hmm),hws2,hwh⟩,?_⟩⟩
    ·cases z:H g' with
     |none=>rfl
     |some u=>
      have:=s34 g' u (by rw[show X.f H g'=H g' from dO hgl'];exact z)
      rw[this] at hg';cases hg'
    ·rw[show X.f _ g'=_ from dO hgl']
     exact ak
    ·rcases c3 with c3|c3
     ·rw[c3];rfl
     ·omega
    ·rw[show Sound.framesOf h.form h.n-(i+1)+1=Sound.framesOf h.form h.n-i by omega]
     exact hJi
  ·rintro σ H1 ⟨g,grp,w',pl,v5,v6,v7,rfl,hgn,hgl,s1,i1,hS1,hG1,_,hJi⟩
   rw[rV _ _ _ _ _ _ _ _ _ _ rfl] at hJi
   exact kO w' pl _ hJi.symm H1 (.ref x) b s1 i1.full hS1
theorem Kz {i j c:Int} {m:Nat} (hi:0≤i) (hi2:i<4096) (hj:0≤j) (hj2:j<4096) (hc:0<c) (hc2:c<4096) (hm:Builtin.Range.rangeSize i j c=m) (hm2:m≤4096):rT i j c m:=by
 refine ⟨by omega,by omega,?_,hm⟩
 unfold Builtin.Range.small
 rw[hm]
 simp only [Builtin.Range.rangeFitsLong,Bool.and_eq_true,Bool.or_eq_true,decide_eq_true_eq,beq_iff_eq,show c>0 from hc,if_true]
 omega
theorem L3 {d:Nat} (h:d≤24):rT 0 (d:Int) 8 ((d+7)/8):=by
 refine Kz (by decide) (by decide) (by omega) (by omega) (by decide) (by decide) ?_ (by omega)
 unfold Builtin.Range.rangeSize
 rw[if_pos (by decide)]
 split<;>omega
def eF (d:Nat) (s:List Int):Sound.Bytes:=s.flatMap fun (x:Int)=>Sound.low ((d+7)/8) (x%(2^(8*((d+7)/8)):Int)).toNat
theorem LQ (x:Int) (m i:Nat) (h:i<m):x/2^(8*i)%256=(((x%(2^(8*m):Int)).toNat/256^i%256:Nat):Int):=by
 have hp:(0:Int)<2^(8*m):=by
  have:(2:Int)^(8*m)=((2^(8*m):Nat):Int):=by simp
  rw[this];exact Int.natCast_pos.mpr (Nat.two_pow_pos _)
 have h0:=Int.emod_nonneg x (Int.ne_of_gt hp)
 have e1:((x%(2^(8*m):Int)).toNat:Int)=x%2^(8*m):=Int.toNat_of_nonneg h0
 have e2:(((x%(2^(8*m):Int)).toNat/256^i%256:Nat):Int)=(x%2^(8*m))/2^(8*i)%256:=by
  rw[Int.natCast_emod,Int.natCast_ediv,e1,tu];simp
 rw[e2]
 have e3:(2:Int)^(8*m)=2^(8*i)*(256*2^(8*(m-i-1))):=by
  rw[show (256:Int)=2^8 by decide,←Int.pow_add,←Int.pow_add]
  congr 1;omega
 have hq:(0:Int)<2^(8*i):=by
  have:(2:Int)^(8*i)=((2^(8*i):Nat):Int):=by simp
  rw[this];exact Int.natCast_pos.mpr (Nat.two_pow_pos _)
 have e4:x%2^(8*m)=x-2^(8*i)*(256*2^(8*(m-i-1))*(x/2^(8*m))):=by
  rw[Int.emod_def]
  conv=>lhs;rw[show (2:Int)^(8*m)*(x/2^(8*m))=2^(8*i)*(256*2^(8*(m-i-1)))*(x/2^(8*m)) by rw[←e3]]
  rw[Int.mul_assoc]
 rw[e4,Int.sub_eq_add_neg,←Int.mul_neg,Int.add_mul_ediv_left _ _ (Int.ne_of_gt hq),Int.mul_assoc,←Int.mul_neg,Int.add_mul_emod_self_left]
theorem RQ (m v:Nat):bn (Sound.low m v)=(List.range m).map fun i=>v/256^i%256:=by
 unfold bn Sound.low
 rw[List.map_map]
 refine List.map_congr_left fun i _=>?_
 simp [UInt8.toNat_ofNat']
def Gz (K:PySem.W.Frag):Sp:=fun vs H Q _=> ∃(d:Nat) (q:Addr) (s:List Int),vs= [.int d, .ref q]∧ah K H q (s.map V.int)∧(d≤24∧s.length≤1000000)∧gE H Q (bn (eF d s))
theorem pL:aK ["depth", "numbers", "plain", "number", "shift"] ["depth", "numbers"] (aD yg):=⟨rfl,rfl,rfl,by decide+kernel,rfl,by decide+kernel,by decide+kernel⟩
theorem Gf (d:Nat) (s:List Int):(eF d s).length=s.length*((d+7)/8):=by
 unfold eF
 induction s with
 |nil=>simp
 |cons x s ih=>
  rw[List.flatMap_cons,List.length_append,ih,List.length_cons,Nat.add_mul,Nat.one_mul]
  unfold Sound.low
  rw[List.length_map,List.length_range];omega
theorem IM (T:Txt K mg A):az P w K mg base ba 1 A.oV A.m7 ["depth", "numbers"] (Gz K):=by
 refine T.B7.ok pL (fun vs H Q E h=>?_) (fun cdv Ar outer s H vs Q E hr h=>?_)
 ·obtain ⟨d,q,s,rfl,_⟩:=h
  rfl
 ·obtain ⟨d,q,ns,rfl,hq,⟨hd,hl⟩,k⟩:=h
  refine ⟨_,ai (aI (i:=2) pL.nd rfl (Or.inl rfl) (cg af))
   (ai (cj PassesOwn.never rfl (dj (pv 1)) (bo (i:=3) pL.nd rfl (Or.inr rfl))
    (aj (a8 (gg PySem.F.plainAttrs_list PySem.F.slot_list_extend PySem.F.type_list_extend q0 (pv 2) (aa (fh (own:= [("shift",4)]) rfl pL.nd (zq rfl T.dQ (aa aq (aa (pv 0) (aa aq af)))) (dM (by kernel_rfl)) (fun _ _ _ _ _=>bo (i:=4) pL.nd rfl (Or.inl rfl)) (fun _ _ _ _ _=>dJ) (fun _ _ _ _ _=>aw kq (aw eU (pv 3) (pv 4)) aq)) af)))))
   (aj (aW (pv 2)))),?_⟩
  refine ⟨(by rw[sizeLine_eq];exact Nat.zero_le _),fun L hL=>?_⟩
  have sL:=aL (o:= .lst []) hL
  refine ⟨_,rfl,q,rfl,⟨_,sL.seq hq⟩,?_⟩
  refine gk (K:=K) (a:=q) (xs:=ns.map V.int) (fun i σ H'=>(∃v3 v4:Option V,σ= [some (.int (d:Nat)),some (.ref q),some (.ref L),v3,v4])∧ae H H'∧H' L=some (.lst (vN (bn (eF d (ns.take i)))))) ⟨⟨none,none,rfl⟩,sL,ak⟩ (fun i σ H' _ ⟨_,s',_⟩=>s'.seq hq) ?_ ?_
  ·rintro i x σ H1 hi ⟨⟨v3,v4,rfl⟩,s1,hL1⟩
   rw[List.getElem?_map] at hi
   cases ex:ns[i]? with
   |none=>rw[ex] at hi;cases hi
   |some n=>
    rw[ex] at hi
    obtain rfl:V.int n=x:=Option.some.inj hi
    obtain ⟨hil,hin⟩:=List.getElem?_eq_some_iff.mp ex
    refine ⟨_,rfl, .inl ⟨rfl,_,ah.of hL1⟩,_,rfl,0,(d:Int),8,(d+7)/8,rfl,L3 (by omega),fun D hD=>?_⟩
    refine fc (J:=rS 0 8 ((d+7)/8)) hD ((d+7)/8) (by rw[sizeLine_eq];omega) (fun j=> .int (((n%(2^(8*((d+7)/8)):Int)).toNat/256^j%256:Nat):Int)) (fun i Hh hi s1=>hi) (fun Hh s1=>Nat.le_refl _) ?_ ?_
    ·rintro j Hh z H' hj s2 ⟨rfl,rfl⟩ C hC
     have e1:(0:Int)+(j:Nat)*8=((8*j:Nat):Int):=by omega
     rw[e1]
     refine ⟨rfl,_,rfl,_,rfl,ag _ _ ⟨rfl,rfl,(by omega),ag _ _ ⟨rfl,rfl,?_⟩⟩⟩
     have e2:Builtin.bitAnd (n/2^((8*j:Nat):Int).toNat) 255=(((n%(2^(8*((d+7)/8)):Int)).toNat/256^j%256:Nat):Int):=by
      rw[Int.toNat_natCast,show (255:Int)=2^8-1 by decide,mask,show (2:Int)^8=256 by decide]
      exact LQ n _ j hj
     dsimp only
     rw[e2]
     exact hC _ (ae.refl _)
    ·intro H2 s2 hx2
     have ag:(List.range ((d+7)/8)).map (fun j=>V.int (((n%(2^(8*((d+7)/8)):Int)).toNat/256^j%256:Nat):Int))=vN (bn (Sound.low ((d+7)/8) (n%(2^(8*((d+7)/8)):Int)).toNat)):=by
      rw[RQ];unfold vN;rw[List.map_map];rfl
     rw[ag] at hx2
     have hlt:(eF d (ns.take i)).length≤4000000:=by
      rw[Gf,List.length_take]
      exact Nat.le_trans (Nat.mul_le_mul (show min i ns.length≤1000000 by omega) (show (d+7)/8≤4 by omega)) (by decide)
     refine ⟨L,D,_,_,rfl,rfl,s2 _ _ hL1,hx2,(by rw[aZ,aZ,b6,b6,sizeLine_eq];unfold Sound.low;rw[List.length_map,List.length_range];omega),⟨_,_,rfl⟩,fun y o e=>?_,?_⟩
     ·rw[aG (cw e hL)]
      exact s2 _ _ (s1 _ _ e)
     ·rw[ak,←gB,←jQ]
      have:eF d (ns.take (i+1))=eF d (ns.take i)++Sound.low ((d+7)/8) (n%(2^(8*((d+7)/8)):Int)).toNat:=by
       unfold eF
       rw[List.take_succ,ex,List.flatMap_append]
       simp
      rw[this]
  ·rintro σ H1 ⟨⟨v3,v4,rfl⟩,s1,hL1⟩
   rw[List.length_map,List.take_length] at hL1
   exact ⟨_,rfl,k L H1 hL s1 hL1⟩
def JQ (K:PySem.W.Frag):Sp:=fun vs H Q _=> ∃(d:Nat) (q:Addr) (s:List Int),vs= [.int d, .ref q]∧ah K H q (s.map V.int)∧(d≤24∧s.length≤1000000)∧gE H Q (bn (Sound.high 4 (Sound.crc32 (eF d s))))
theorem NA:aK ["depth", "numbers"] ["depth", "numbers"] (aD EF):=⟨rfl,rfl,rfl,by decide+kernel,rfl,by decide+kernel,by decide+kernel⟩
theorem Nw (T:Txt K mg A):az P w K mg base ba 2 A.pK A.qc ["depth", "numbers"] (JQ K):=by
 refine T.BX.ok NA (fun vs H Q E h=>?_) (fun cdv Ar outer s H vs Q E hr h=>?_)
 ·obtain ⟨d,q,s,rfl,_⟩:=h
  rfl
 ·obtain ⟨d,q,ns,rfl,hq,hd,k⟩:=h
  refine ⟨_,aj (aW (aS (kg T) hr rfl T.kH T.jm.kp T.kP .nil aU (aa (aV rfl T.sJ) (aa (aS (xr T) hr rfl T.wq T.tU.kp T.wy .nil aU (aa (aS (IM T) hr rfl T.FI T.B7.kp T.Nb .nil aU (aa (pv 0) (aa (pv 1) af))) af)) af)))),?_⟩
  refine ⟨_,rfl,_,rfl,bG d q ns ⟨rfl,hq,hd,fun D H1 hD s1 hx=>?_⟩⟩
  refine (ag D _ ⟨rfl,ah.of hx,fv _,4,jS (bn (eF d ns)),rfl,by decide,fun D2 H2 hD2 s2 hx2=>k D2 H2 (s1.none hD2) (s1.trans s2) ?_⟩)
  rw[hx2,jB,←wF];rfl
def cV:List Sound.Bytes→Nat→Sound.Bytes→Sound.Stand⊕Nat
 | [],place,_=> .inr place
 |w::ws,place,b=>if b.length<w.length then .inl .more else if b.take w.length≠w then .inl (.fault 10 place) else cV ws (place+w.length) (b.drop w.length)
def gX (B:Sound.Bytes) (h:Sound.Head) (S:Hs):List Sound.Bytes:= [S.idx,B.take 26,Sound.high 4 (Sound.crc32 (eF h.form.depth S.w.s))]
def gp:dW:=⟨fun B S=>(S.pl≤B.length∧S.w.s.length≤1000000)∧ ∃h,S.w.head=some h∧Sound.mayHead h=true,fun B S=>match S.w.head with
 |none=> .ok S
 |some h=>match cV (gX B h S) S.pl (B.drop S.pl) with
  | .inl s=> .error (S.w,cM B.length s)
  | .inr p=>if p<B.length then .error (S.w,11,p) else .ok ⟨S.w,S.starts,S.idx,p⟩⟩
theorem qx:aK ["hearing", "reading", "recording_sum", "part", "begin"] ["hearing"] (aD yn):=⟨rfl,rfl,rfl,by decide+kernel,rfl,by decide+kernel,by decide+kernel⟩
theorem Fw (T:Txt K mg A):az P w K mg base (aR P w) 4 A.jq A.ph ["hearing"] (jc K A gp):=by
 refine T.x8.bN qx (fun vs H Q E h=>?_) (fun cdv Ar outer s H vs Q E hr h=>?_)
 ·obtain ⟨X,S,hv,b,rfl,_⟩:=h
  rfl
 ·obtain ⟨X,S,hv,b,rfl,hi,hS,⟨⟨hplB,hsl⟩,h,eh,hm⟩,k⟩:=h
  have hr1':aF 1 _:=hr.mono (by decide)
  have hr2':aF 2 _:=hr.mono (by decide)
  refine ⟨_,ai (aI (i:=1) qx.nd rfl (Or.inl rfl) (ax (pv 0) rfl))
   (ai (aI (i:=2) qx.nd rfl (Or.inl rfl) (aS (Nw T) hr2' rfl T.L6 T.BX.kp T.QB .nil aU (aa (ax (ax (ax (pv 0) rfl) rfl) rfl) (aa (ax (pv 0) rfl) af))))
   (ai (cj PassesOwn.leaving rfl (dj (cg (aa (ax (pv 0) rfl) (aa (eZ fu (ax (pv 1) rfl) qe (cQ (aV rfl T.Jd))) (aa (pv 2) af))))) (bo (i:=3) qx.nd rfl (Or.inl rfl))
    (ai (aI (i:=4) qx.nd rfl (Or.inl rfl) (ax (pv 1) rfl))
    (aj (bp (bq (xo hr.units) (aP (pv 1) T.aM T.iJ (iH T) hr T.iE .nil aN (aa (cq di (by rfl) T.cW PySem.boot_len (aa (pv 3) af)) af)) (pv 3) (aX _)) (aj (a8 (aP (pv 1) T.aM T.dv (dR T) hr1' T.dw .nil aN (aa (aV rfl T.F6) (aa (pv 4) af))))) bu))))
   (aj (bp (bq tX (ax (pv 1) rfl) (cq di (by rfl) T.cW PySem.boot_len (aa (ax (pv 1) rfl) af)) (aX _)) (aj (a8 (aP (pv 1) T.aM T.dv (dR T) hr1' T.dw .nil aN (aa (aV rfl T.JG) (aa (ax (pv 1) rfl) af))))) bu)))),?_⟩
  obtain ⟨⟨n1,n2,n3,n4⟩,⟨n5,n6,n7⟩,⟨n8,n9⟩,n10⟩:=fC hi.nd
  have hx:=hi.hh
  rw[eh] at hx
  obtain ⟨x,rfl,dx,f,hx1,df,hf⟩:=hx
  have hx1':=(cy hx1).1
  have hf':=(cy hf).1
  have ao:=(gA hm).1
  obtain ⟨_,⟨hd1,hd2⟩,_⟩:=ib ao
  have hSr:=hS
  unfold aJ at hSr
  have kE: ∀st,cV (gX X.B h S) S.pl (X.B.drop S.pl)= .inl st→ ∀H' S' hv b,ae (X.f H) H'→HI K A H' X S' hv b→S'.w=S.w→dn A.ay H' X.R (cM X.B.length st).1 (cM X.B.length st).2→E (.ref A.bT) none H':=fun st e=>by
   unfold gN gp at k
   dsimp only at k
   rw[eh] at k
   dsimp only at k
   rw[e] at k
   exact k
  have kO: ∀p,cV (gX X.B h S) S.pl (X.B.drop S.pl)= .inr p→(p<X.B.length→ ∀H' S' hv b,ae (X.f H) H'→HI K A H' X S' hv b→S'.w=S.w→dn A.ay H' X.R 11 p→E (.ref A.bT) none H')∧(¬p<X.B.length→ ∀H' hv b,ae (X.f H) H'→HI K A H' X ⟨S.w,S.starts,S.idx,p⟩ hv b→aJ A.ay H' X.R p→Q .au H'):=fun p e=>by
   unfold gN gp at k
   dsimp only at k
   rw[eh] at k
   dsimp only at k
   rw[e] at k
   dsimp only at k
   refine ⟨fun c=>?_,fun c=>?_⟩
   ·rw[if_pos c] at k;exact k
   ·rw[if_neg c] at k;exact k
  clear k
  refine (aA rfl hi.hp T.bD T.iu rfl ?_)
  refine (aA rfl hi.hp T.bD T.f7 rfl (fI hx1' T.e9 T.lr rfl (fI hf' T.b4 T.nq rfl (aA rfl hi.hp T.bD T.nL rfl ⟨h.form.depth,ag X.c S.w.s ⟨rfl,ah.of hi.hc,⟨by omega,hsl⟩,fun Ds H1 hDs s1 hxs=>?_⟩⟩))))
  have i1:=hi.same s1
  have hS1:=s1 _ _ hSr
  refine (aA rfl i1.hp T.bD T.vw rfl (aA rfl hS1 T.aM T.fW rfl ⟨_,rfl,ag X.q _ ⟨rfl,i1.fB.sq,fun Dh hDh=>?_⟩⟩))
  rw[show X.R.B=X.B from rfl,show (26:Int)=((26:Nat):Int) from rfl,tP,fV]
  have s2:=aL (o:= .lst (vN (bn (X.B.take 26)))) hDh
  have hxh:upd H1 Dh (.lst (vN (bn (X.B.take 26)))) Dh=some (.lst (vN (bn (X.B.take 26)))):=ak
  have hrn: ∀(H2:Hp) (o:HO),H2 X.r=some o→ ∀(y:Addr),H2 y=none→y≠X.r:=fun H2 o e y hy z=>by rw[z,e] at hy;cases hy
  have hDsr:=hrn _ _ hSr _ hDs
  have hDhr:=hrn _ _ hS1 _ hDh
  generalize upd H1 Dh (.lst (vN (bn (X.B.take 26))))=H2 at*
  have i2:=i1.same s2
  have hS2:=s2 _ _ hS1
  refine ⟨_,rfl,(by rw[sizeLine_eq];show 3≤_;omega),fun L hL=>?_⟩
  have s3:=aL (o:= .lst [V.ref b,V.ref Dh,V.ref Ds]) hL
  have hLr:=hrn _ _ hS2 _ hL
  have hxL:upd H2 L (.lst [V.ref b,V.ref Dh,V.ref Ds]) L=some (.lst [V.ref b,V.ref Dh,V.ref Ds]):=ak
  have i3:=i2.same s3
  have hS3:aJ A.ay _ X.R S.pl:=s3 _ _ hS2
  have s13:=s1.trans (s2.trans s3)
  have hxs3:=(s2.trans s3) _ _ hxs
  have hxh3:=s3 _ _ hxh
  generalize upd H2 L (.lst [V.ref b,V.ref Dh,V.ref Ds])=H3 at*
  refine ⟨L,rfl,⟨_,ah.of hxL⟩,?_⟩
  have hpt: ∀(i:Nat) (y:V), [V.ref b,V.ref Dh,V.ref Ds][i]?=some y→ ∃a w,y= .ref a∧(gX X.B h S).drop i=w::(gX X.B h S).drop (i+1)∧hide X.r H3 a=some (.lst (vN (bn w))):=fun i y e=>by
   have hbr:b≠X.r:=gG X.mr (cy i3.hb).2
   match i,e with
   |0,e=>
    obtain rfl:V.ref b=y:=Option.some.inj e
    exact (ag b _ ⟨rfl,rfl,by rw[hide_ne hbr];exact (cy i3.hb).1⟩)
   |1,e=>
    obtain rfl:V.ref Dh=y:=Option.some.inj e
    exact (ag Dh _ ⟨rfl,rfl,by rw[hide_ne hDhr];exact hxh3⟩)
   |2,e=>
    obtain rfl:V.ref Ds=y:=Option.some.inj e
    exact (ag Ds _ ⟨rfl,rfl,by rw[hide_ne hDsr];exact hxs3⟩)
   |i+3,e=>simp at e
  generalize hT:cV (gX X.B h S) S.pl (X.B.drop S.pl)=tot at*
  have h3p:(gX X.B h S).drop 3= []:=rfl
  generalize gX X.B h S=pts at*
  refine gk (K:=K) (a:=L) (xs:= [V.ref b,V.ref Dh,V.ref Ds]) (fun i σ H'=> ∃(v3 v4:Option V) (pl:Nat),σ= [some (.ref X.p),some (.ref X.r),some (.ref Ds),v3,v4]∧ae (hide X.r H3) H'∧aJ A.ay H' X.R pl∧pl≤X.B.length∧cV (pts.drop i) pl (X.B.drop pl)=tot)
   ⟨none,none,S.pl,rfl,dI _ _,hS3,hplB,hT⟩ (fun i σ H' _ ⟨_,_,_,_,s',_⟩=>ah.of (s' _ _ (by rw[hide_ne hLr];exact hxL))) ?_ ?_
  ·rintro i y σ H4 hi4 ⟨v3,v4,pl,rfl,s4,hS4,hpl4,hj4⟩
   obtain ⟨a,w,rfl,ed,ha⟩:=hpt i y hi4
   rw[ed] at hj4
   have hS4r:=hS4
   unfold aJ at hS4r
   have i4:=i3.go s4
   have s04:ae (X.f H) H4:=cc (kl s13) (cI X.mr s4)
   refine (aA rfl hS4r T.aM T.cG rfl ?_)
   refine (aO rfl hS4r rfl ⟨_,rfl,ag a _ ⟨rfl, .inl (ah.of (s4 _ _ ha)),X.R,pl,w.length,?_,i4.fB,hS4,?_⟩⟩)
   ·rw[aZ,b6];rfl
   unfold cJ dD
   unfold cV at hj4
   rw[List.length_drop] at hj4
   by_cases c1:X.R.B.length<pl+w.length
   ·rw[if_pos c1]
    have c1:X.B.length<pl+w.length:=c1
    rw[if_pos (by omega)] at hj4
    exact fun H5 s5 hF=>kE _ hj4.symm H5 _ _ _ (cc s04 (cI X.mr s5)) (i4.go s5) rfl hF
   rw[if_neg c1]
   have c1: ¬X.B.length<pl+w.length:=c1
   rw[if_neg (by omega)] at hj4
   dsimp only
   intro H5 s5 hS5 D5 hD5 hx5
   have hS5r:=hS5
   unfold aJ at hS5r
   have ha5:H5 a=some (.lst (vN (bn w))):=s5 _ _ (by rw[show X.R.r=X.r from rfl,hide_ne (cu ha).2];exact s4 _ _ ha)
   refine ⟨_,rfl,D5,a,(bn ((X.B.drop pl).take w.length)).map (fun (n:Nat)=>(n:Int)),(bn w).map (fun (n:Nat)=>(n:Int)),rfl,rfl,(by rw[←iI];exact ah.of hx5),(by rw[←iI];exact ah.of ha5),_,rfl,?_⟩
   by_cases c2:(X.B.drop pl).take w.length=w
   ·rw[if_neg (fun z=>z c2),List.drop_drop] at hj4
    rw[decide_eq_true (iV.mpr c2)]
    exact bB (bG _ _ (pl+w.length) ⟨rfl,bh s4 s5,hS5,by omega,hj4⟩)
   ·rw[if_pos c2] at hj4
    rw[decide_eq_false (fun z=>c2 (iV.mp z))]
    have s6:=cO (r:=X.r) (H:=H5) (o:= .ins A.ay X.dr (bC (.ref X.R.q) (.int ((pl+w.length:Nat):Int)) (.int ((10:Nat):Int)) (.int ((pl:Nat):Int))))
    exact bt (aO rfl hS5r rfl ⟨_,rfl,dF X.r X.dr _ _ _ _ 10 pl ⟨rfl,hS5r,kE _ hj4.symm _ _ _ _ (cc s04 (cI X.mr (bh s5 s6))) (i4.go (bh s5 s6)) rfl ⟨_,ak⟩⟩⟩)
  ·rintro σ H4 ⟨v3,v4,pl,rfl,s4,hS4,hpl4,hj4⟩
   have hS4r:=hS4
   unfold aJ at hS4r
   have i4:=i3.go s4
   have s04:ae (X.f H) H4:=cc (kl s13) (cI X.mr s4)
   have hj4:cV (pts.drop 3) pl (X.B.drop pl)=tot:=hj4
   rw[h3p] at hj4
   obtain ⟨k1,k2⟩:=kO pl hj4.symm
   refine (aA rfl hS4r T.aM T.cG rfl (aA rfl hS4r T.aM T.fW rfl (ag X.q _ ⟨rfl, .inl i4.fB.sq,ag _ _ ⟨rfl,rfl,_,rfl,?_⟩⟩)))
   rw[aZ,b6]
   refine bZ (fun c=>?_) fun c=>?_
   ·have c:((pl:Nat):Int)<((X.B.length:Nat):Int):=of_decide_eq_true c
    have s6:=cO (r:=X.r) (H:=H4) (o:= .ins A.ay X.dr (bC (.ref X.R.q) (.int ((pl:Nat):Int)) (.int ((11:Nat):Int)) (.int ((pl:Nat):Int))))
    exact (aO rfl hS4r rfl (aA rfl hS4r T.aM T.cG rfl (dF X.r X.dr _ _ _ _ 11 pl ⟨rfl,hS4r,k1 (by omega) _ _ _ _ (cc s04 (cI X.mr s6)) (i4.go s6) rfl ⟨_,ak⟩⟩)))
   ·have c: ¬((pl:Nat):Int)<((X.B.length:Nat):Int):=fun z=>c (decide_eq_true z)
    exact k2 (by omega) H4 _ _ s04 (i4.qY pl) hS4
theorem EL: ∀(ws:List Sound.Bytes) (B:Sound.Bytes) (place p:Nat) (r:Sound.Bytes),place≤B.length→Sound.judgeSpares ws place (B.drop place)= .inr (p,r)→r=B.drop p∧p≤B.length
 | [],B,place,p,r,h,e=>by cases e;exact ⟨rfl,h⟩
 |w::ws,B,place,p,r,h,e=>by
  rw[xc] at e
  cases ee:Sound.expects [2,4,5,7] w (B.drop place) with
  |none=>rw[ee] at e;cases e
  |some c=>
   rw[ee] at e
   cases c with
   |false=>cases e
   |true=>
    have hl:=yt ee
    rw[List.length_drop] at hl
    dsimp only at e
    rw[List.drop_drop] at e
    exact EL ws B _ p r (by omega) e
theorem rO (f:Sound.Form) (ao:f.ok=true) (n start:Nat) (idx B:Sound.Bytes): ∀(fuel k place:Nat) (grp:List Sound.Bytes) (w v:Sound.Told) (p:Nat) (r:Sound.Bytes),place≤B.length→Sound.judgeFrames f n start idx fuel k place grp (B.drop place) w=(v, .inr (p,r))→r=B.drop p∧p≤B.length∧v.head=w.head∧v.s.length≤w.s.length+2560*fuel
 |0,k,place,grp,w,v,p,r,h,e=>by unfold Sound.judgeFrames at e;cases e
 |fuel+1,k,place,grp,w,v,p,r,h,e=>by
  by_cases hk:k=Sound.framesOf f n
  ·rw[rV _ _ _ _ _ _ _ _ _ _ hk] at e
   cases e
   exact ⟨rfl,h,rfl,by omega⟩
  ·rw[qZ _ _ _ _ _ _ _ _ _ _ hk] at e
   split at e
   ·cases e
   ·cases eu:Sound.unframe f (B.drop place) with
    |bad=>rw[eu] at e;cases e
    |short=>rw[eu] at e;cases e
    |frame y=>
     rw[eu] at e
     dsimp only at e
     obtain ⟨hz1,hz2,hz3⟩:=wk eu
     have hyl:=sk ao eu
     rw[List.length_drop] at hz3
     have hts:(eW w y).s.length=w.s.length+y.s.length:=by show (w.s++y.s).length=_;rw[List.length_append]
     split at e
     ·cases e
     ·split at e
      ·rw[List.drop_drop] at e
       split at e
       ·cases e
       ·rename_i p' r' ej
        obtain ⟨h1,h2⟩:=EL _ B _ _ _ (by omega) ej
        rw[h1] at e
        obtain ⟨a1,a2,a3,a4⟩:=rO f ao n start idx B fuel _ _ _ _ _ _ _ h2 e
        exact ⟨a1,a2,a3,by omega⟩
      ·rw[List.drop_drop] at e
       obtain ⟨a1,a2,a3,a4⟩:=rO f ao n start idx B fuel _ _ _ _ _ _ _ (by omega) e
       exact ⟨a1,a2,a3,by omega⟩
theorem z7: ∀(ws:List Sound.Bytes) (place:Nat) (b:Sound.Bytes) (st:Sound.Stand),Sound.judgeSpares ws place b= .inl st→st= .more∨ ∃p,st= .fault 9 p
 | [],place,b,st,e=>by cases e
 |w::ws,place,b,st,e=>by
  rw[xc] at e
  cases ee:Sound.expects [2,4,5,7] w b with
  |none=>rw[ee] at e;cases e;exact .inl rfl
  |some c=>
   rw[ee] at e
   cases c with
   |false=>cases e;exact .inr ⟨_,rfl⟩
   |true=>exact z7 ws _ _ st e
theorem wx (f:Sound.Form) (n start:Nat) (idx:Sound.Bytes): ∀(fuel k place:Nat) (grp:List Sound.Bytes) (b:Sound.Bytes) (w v:Sound.Told) (st:Sound.Stand),Sound.judgeFrames f n start idx fuel k place grp b w=(v, .inl st)→st= .more∨ ∃p,st= .fault 9 p
 |0,k,place,grp,b,w,v,st,e=>by unfold Sound.judgeFrames at e;cases e;exact .inl rfl
 |fuel+1,k,place,grp,b,w,v,st,e=>by
  by_cases hk:k=Sound.framesOf f n
  ·rw[rV _ _ _ _ _ _ _ _ _ _ hk] at e
   cases e
  ·rw[qZ _ _ _ _ _ _ _ _ _ _ hk] at e
   split at e
   ·cases e;exact .inr ⟨_,rfl⟩
   ·cases eu:Sound.unframe f b with
    |bad=>rw[eu] at e;cases e;exact .inr ⟨_,rfl⟩
    |short=>rw[eu] at e;cases e;exact .inl rfl
    |frame y=>
     rw[eu] at e
     dsimp only at e
     split at e
     ·cases e;exact .inr ⟨_,rfl⟩
     ·split at e
      ·split at e
       ·rename_i ej
        cases e
        exact z7 _ _ _ _ ej
       ·exact wx f n start idx fuel _ _ _ _ _ _ _ e
      ·exact wx f n start idx fuel _ _ _ _ _ _ _ e
theorem uI {w b:Sound.Bytes} (h:b.length<w.length):Sound.expects [] w b=none:=by rw[kZ [] (fun c hc=>by cases hc),if_pos h]
theorem vV {w b:Sound.Bytes} (h: ¬b.length<w.length) (h2:b.take w.length≠w):Sound.expects [] w b=some false:=by rw[kZ [] (fun c hc=>by cases hc),if_neg h,beq_eq_false_iff_ne.mpr h2]
theorem xN {w b:Sound.Bytes} (h: ¬b.length<w.length) (h2:b.take w.length=w):Sound.expects [] w b=some true:=by rw[kZ [] (fun c hc=>by cases hc),if_neg h,beq_iff_eq.mpr h2]
theorem uP {w b:Sound.Bytes} {ws:List Sound.Bytes} {p:Nat} (h:b.length<w.length):cV (w::ws) p b= .inl .more:=by unfold cV;rw[if_pos h]
theorem uu {w b:Sound.Bytes} {ws:List Sound.Bytes} {p:Nat} (h: ¬b.length<w.length) (h2:b.take w.length≠w):cV (w::ws) p b= .inl (.fault 10 p):=by unfold cV;rw[if_neg h,if_pos h2]
theorem vm {w b:Sound.Bytes} {ws:List Sound.Bytes} {p:Nat} (h: ¬b.length<w.length) (h2:b.take w.length=w):cV (w::ws) p b=cV ws (p+w.length) (b.drop w.length):=by conv=>lhs;unfold cV;rw[if_neg h,if_neg (fun z=>z h2)]
theorem Kd {B idx head sum_:Sound.Bytes} {place:Nat} (hp:place≤B.length) (hh:head.length=26) (hs:sum_.length=4):Sound.judgeEnd idx head sum_ place (B.drop place)=match cV [idx,head,sum_] place (B.drop place) with
  | .inl s=>s
  | .inr p=>if p<B.length then .fault 11 p else .whole:=by
 have hH:Sound.HEAD=26:=rfl
 unfold Sound.judgeEnd
 by_cases c1:(B.drop place).length<idx.length
 ·rw[uI c1,uP c1]
 by_cases c2:(B.drop place).take idx.length=idx
 case neg=>rw[vV c1 c2,uu c1 c2]
 rw[xN c1 c2,vm c1 c2]
 dsimp only
 by_cases c3:((B.drop place).drop idx.length).length<head.length
 ·rw[uI c3,uP c3]
 by_cases c4:((B.drop place).drop idx.length).take head.length=head
 case neg=>rw[vV c3 c4,uu c3 c4]
 rw[xN c3 c4,vm c3 c4]
 dsimp only
 have e5:(B.drop place).drop (idx.length+Sound.HEAD)=((B.drop place).drop idx.length).drop head.length:=by rw[List.drop_drop (l:=B.drop place),hH,hh]
 rw[e5]
 by_cases c5:(((B.drop place).drop idx.length).drop head.length).length<sum_.length
 ·rw[uI c5,uP c5]
 by_cases c6:(((B.drop place).drop idx.length).drop head.length).take sum_.length=sum_
 case neg=>
  rw[vV c5 c6,uu c5 c6]
  dsimp only
  rw[hH,hh]
 rw[xN c5 c6,vm c5 c6]
 unfold cV
 dsimp only
 rw[hH,hh,hs]
 simp only [List.length_drop] at c1 c3 c5⊢
 by_cases c7:B.length-place=idx.length+26+4
 ·rw[if_pos c7,if_neg (by omega)]
 ·rw[if_neg c7,if_pos (by omega)]
theorem yk: ∀(ws:List Sound.Bytes) (place:Nat) (b:Sound.Bytes) (st:Sound.Stand),cV ws place b= .inl st→st= .more∨ ∃p,st= .fault 10 p
 | [],place,b,st,e=>by cases e
 |w::ws,place,b,st,e=>by
  unfold cV at e
  split at e
  ·cases e;exact .inl rfl
  ·split at e
   ·cases e;exact .inr ⟨_,rfl⟩
   ·exact yk ws _ _ st e
def LJ:List dW:= [jM,jd,i7,fT,gp]
theorem Qg (B:Sound.Bytes):kb LJ B S0:=PF B [i7,fT,gp] fun h l e hm hl=>by
 refine ⟨⟨rfl,hl,h,rfl,hm,rfl⟩,fun S1 e1=>?_⟩
 unfold i7 at e1
 dsimp only at e1
 cases ei:dH B (26+h.t) (Sound.framesOf h.form h.n) with
 |error z=>rw[ei] at e1;cases e1
 |ok u=>
  rw[ei] at e1
  cases e1
  have hlen:26+h.t+3*Sound.framesOf h.form h.n+4≤B.length:=by
   unfold dH at ei
   split at ei
   ·cases ei
   ·split at ei
    ·cases ei
    ·omega
  refine ⟨⟨hlen,rfl,h,rfl,hm,rfl⟩,fun S2 e2=>?_⟩
  unfold fT at e2
  dsimp only at e2
  cases ej:eD B h ⟨⟨some h,l, [],0⟩,entries B (26+h.t) (Sound.framesOf h.form h.n),(B.drop (26+h.t)).take (3*Sound.framesOf h.form h.n+4),26+h.t+3*Sound.framesOf h.form h.n+4⟩ with
  |mk v o=>
   rw[ej] at e2
   cases o with
   |inl st=>cases e2
   |inr z=>
    obtain ⟨p,r⟩:=z
    cases e2
    unfold eD at ej
    obtain ⟨h1,h2,h3,h4⟩:=rO h.form (gA hm).1 _ _ _ B _ _ _ _ _ _ _ _ hlen ej
    have:=ue hm
    exact ⟨⟨⟨h2,by show v.s.length≤_;have:([]:List Int).length=0:=rfl;dsimp only at h4;omega⟩,h,h3,hm⟩,fun _ _=>trivial⟩
def tQ (k p:Nat):Sound.Stand:=if k=1 then .more else .fault k p
def qK (B:Sound.Bytes) (h:Sound.Head):Sound.Told×Sound.Stand:=match Sound.areaOf h.t ((B.drop 26).take h.t) with
 |(l, .fault k p)=>(⟨some h,l, [],0⟩, .fault k p)
 |(l, .more)=>(⟨some h,l, [],0⟩, .more)
 |(l, .whole)=>match dH B (26+h.t) (Sound.framesOf h.form h.n) with
  | .error (k,p)=>(⟨some h,l, [],0⟩,tQ k p)
  | .ok _=>match eD B h (eY B h l) with
   |(v, .inl s)=>(v,s)
   |(v, .inr (place,r))=>(v,Sound.judgeEnd ((B.drop (26+h.t)).take (3*Sound.framesOf h.form h.n+4)) (B.take 26) (Sound.high 4 (Sound.crc32 (eF h.form.depth v.s))) place r)
theorem ya (B:Sound.Bytes):Sound.judge B=match cN B with
  | .error (k,p)=>(Sound.nothing,tQ k p)
  | .ok h=>qK B h:=by
 unfold Sound.judge cN
 have h26:Sound.HEAD=26:=rfl
 rw[h26]
 dsimp only
 split
 ·rfl
 ·split
  ·rfl
  ·split
   ·rfl
   ·split
    ·rfl
    ·split
     ·rfl
     ·split
      ·rfl
      ·dsimp only
       unfold qK
       generalize Sound.fields B=h
       cases Sound.areaOf h.t ((B.drop 26).take h.t) with
       |mk l st=>
        cases st with
        |more=>rfl
        |fault k p=>rfl
        |whole=>
         dsimp only
         unfold dH
         cases Sound.indexFault (Sound.framesOf h.form h.n) ((B.drop (26+h.t)).take (3*Sound.framesOf h.form h.n)) with
         |some k=>rfl
         |none=>
          dsimp only
          split
          ·rfl
          ·split
           ·rfl
           ·dsimp only
            unfold eD
            rw[show (B.drop (26+h.t)).take (3*Sound.framesOf h.form h.n)++(B.drop (26+h.t+3*Sound.framesOf h.form h.n)).take 4=(B.drop (26+h.t)).take (3*Sound.framesOf h.form h.n+4) by rw[List.take_add,List.drop_drop]]
            rfl
theorem Am {k p n:Nat} (h:k=1→p=n):cM n (tQ k p)=(k,p):=by
 unfold tQ
 split
 ·rename_i e
  rw[e,h e];rfl
 ·rfl
theorem Qe {B:Sound.Bytes} {k p:Nat} (h:cN B= .error (k,p)):k=1→p=B.length:=by
 unfold cN at h
 repeat' split at h
 all_goals first|(cases h;intro z;first|rfl|cases z)|cases h
theorem OD {B:Sound.Bytes} {at_ n k p:Nat} (h:dH B at_ n= .error (k,p)):k=1→p=B.length:=by
 unfold dH at h
 repeat' split at h
 all_goals first|(cases h;intro z;first|rfl|cases z)|cases h
theorem N7 (B:Sound.Bytes):(∃S,(Sound.judge B).2= .whole∧S.w=(Sound.judge B).1∧eM LJ B S0= .ok S)∨(∃k p,k≠0∧cM B.length (Sound.judge B).2=(k,p)∧eM LJ B S0= .error ((Sound.judge B).1,k,p)):=by
 have hrun:eM LJ B S0=match cN B with
   | .error (k,p)=> .error (Sound.nothing,k,p)
   | .ok h=>eM [jd,i7,fT,gp] B ⟨⟨some h, [], [],0⟩, [], [],26⟩:=by
  unfold LJ
  rw[ki]
  unfold jM
  dsimp only
  cases cN B with
  |error z=>rfl
  |ok h=>rfl
 rw[hrun,ya]
 cases e:cN B with
 |error z=>exact .inr ⟨z.1,z.2,MR e,Am (Qe e),rfl⟩
 |ok h=>
  obtain ⟨_,hm,h26⟩:=ur e
  dsimp only
  rw[ki]
  unfold jd qK
  dsimp only
  cases ea:Sound.areaOf h.t ((B.drop 26).take h.t) with
  |mk l st=>
   cases st with
   |more=>exact .inr ⟨1,B.length,Nat.one_ne_zero,rfl,rfl⟩
   |fault k p=>exact .inr ⟨k,p,P6 ea,rfl,rfl⟩
   |whole=>
    dsimp only
    rw[ki]
    unfold i7
    dsimp only
    cases ei:dH B (26+h.t) (Sound.framesOf h.form h.n) with
    |error z=>exact .inr ⟨z.1,z.2,IK ei,Am (OD ei),rfl⟩
    |ok u=>
     dsimp only
     have hlen:26+h.t+3*Sound.framesOf h.form h.n+4≤B.length:=by
      unfold dH at ei
      split at ei
      ·cases ei
      ·split at ei
       ·cases ei
       ·omega
     have e0:(⟨⟨some h,l, [],0⟩,entries B (26+h.t) (Sound.framesOf h.form h.n),(B.drop (26+h.t)).take (3*Sound.framesOf h.form h.n+4),26+h.t+3*Sound.framesOf h.form h.n+4⟩:Hs)=eY B h l:=rfl
     have hidx:(eY B h l).idx=(B.drop (26+h.t)).take (3*Sound.framesOf h.form h.n+4):=rfl
     have hhd:(eY B h l).w.head=some h:=rfl
     have hpl:(eY B h l).pl≤B.length:=hlen
     show (∃S:Hs,_∧_∧eM [fT,gp] B (eY B h l)=_)∨(∃k p,_∧_∧eM [fT,gp] B (eY B h l)=_)
     generalize eY B h l=SS at*
     rw[←hidx,ki]
     clear hidx e0
     unfold fT
     dsimp only
     rw[hhd]
     dsimp only
     cases ej:eD B h SS with
     |mk v o=>
      cases o with
      |inl st=>
       have hne:(cM B.length st).1≠0:=by
        unfold eD at ej
        rcases wx _ _ _ _ _ _ _ _ _ _ _ _ ej with z|⟨p,z⟩
        ·rw[z];exact Nat.one_ne_zero
        ·rw[z];show 9≠0;decide
       exact .inr ⟨_,_,hne,rfl,rfl⟩
      |inr z=>
       obtain ⟨p,r⟩:=z
       have ej':=ej
       unfold eD at ej'
       obtain ⟨h1,h2,h3,h4⟩:=rO h.form (gA hm).1 _ _ _ B _ _ _ _ _ _ _ _ hpl ej'
       have h3:v.head=some h:=h3.trans hhd
       subst h1
       have e26:(B.take 26).length=26:=by rw[List.length_take];omega
       have e4:(Sound.high 4 (Sound.crc32 (eF h.form.depth v.s))).length=4:=by unfold Sound.high;rw[List.length_map,List.length_range]
       unfold Bm
       dsimp only
       rw[Kd h2 e26 e4,ki]
       unfold gp gX
       dsimp only
       rw[h3]
       dsimp only
       cases ep:cV [SS.idx,B.take 26,Sound.high 4 (Sound.crc32 (eF h.form.depth v.s))] p (B.drop p) with
       |inl st=>
        have hne:(cM B.length st).1≠0:=by
         rcases yk _ _ _ _ ep with z|⟨p,z⟩
         ·rw[z];exact Nat.one_ne_zero
         ·rw[z];show 10≠0;decide
        exact .inr ⟨_,_,hne,rfl,rfl⟩
       |inr q=>
        dsimp only
        by_cases c:q<B.length
        ·rw[if_pos c,if_pos c]
         exact .inr ⟨11,q,by decide,rfl,rfl⟩
        ·rw[if_neg c,if_neg c]
         exact .inl ⟨_,rfl,rfl,rfl⟩
def vh (A:aT):List (Addr×dW):= [(A.iG,jM),(A.iB,jd),(A.jt,i7),(A.jn,fT),(A.jq,gp)]
theorem Gq (T:Txt K mg A): ∀x∈vh A,∃d,az P w K mg base (aR P w) 15 x.1 d ["hearing"] (jc K A x.2)∧PySem.W.keepIn K (.ref x.1)=true∧Binds K d ["hearing"] []:=by
 intro x hx
 simp only [vh,List.mem_cons,List.not_mem_nil,or_false] at hx
 rcases hx with rfl|rfl|rfl|rfl|rfl
 ·exact ⟨_,(OQ T).mono (by decide),T.xU.kp,T.Ma⟩
 ·exact ⟨_,(E4 T).mono (by decide),T.DS.kp,T.Oc⟩
 ·exact ⟨_,(Qj T).mono (by decide),T.zW.kp,T.JB⟩
 ·exact ⟨_,Pz T,T.CM.kp,T.ME⟩
 ·exact ⟨_,(Fw T).mono (by decide),T.x8.kp,T.Kf⟩
def MF (K:PySem.W.Frag) (A:aT):Sp:=fun vs H Q _=> ∃(q:Addr) (B:Sound.Bytes),vs= [.ref q]∧ah K H q (vN (bn B))∧B.length≤16384∧ ∀X H',X.B=B→ae H H'→(∀y∈X.l,H y=none)→w9 K A H' X (eM LJ B S0)→Q (.ref X.p) H'
theorem IZ:aK ["data"] ["data"] (aD AK):=⟨rfl,rfl,rfl,by decide+kernel,rfl,by decide+kernel,by decide+kernel⟩
theorem IV (T:Txt K mg A):az P w K mg base ba 17 A.mL A.lB ["data"] (MF K A):=by
 refine T.DR.ok IZ (fun vs H Q E h=>?_) (fun cdv Ar outer s H vs Q E hr h=>?_)
 ·obtain ⟨q,B,rfl,_⟩:=h
  rfl
 ·obtain ⟨q,B,rfl,hq,hB,k⟩:=h
  refine ⟨_,aj (aW (aS (Gs T (N:=15) (by decide) (vh A) (Gq T)) hr rfl T.Qa T.zU.kp T.Px .nil aU (aa (pv 0) (aa (cg (aa (eS rfl T.PK) (aa (eS rfl T.Lx) (aa (eS rfl T.G1) (aa (eS rfl T.Oo) (aa (eS rfl T.Ny) af)))))) af)))),?_⟩
  refine ⟨_,rfl,by rw[sizeLine_eq];show 5≤_;omega,fun L hL=>?_⟩
  have s1:=aL (o:= .lst [V.ref A.iG,V.ref A.iB,V.ref A.jt,V.ref A.jn,V.ref A.jq]) hL
  exact (bG q L B ⟨rfl,s1.seq hq,ah.of ak,hB,Qg B,fun X H' eB s' hfr ho=>k X H' eB (s1.trans s') (fun y hy=>s1.none (hfr y hy)) ho⟩)
theorem Oh {H:Hp} {X:Hx} {B:Sound.Bytes} (eB:X.B=B) (h:w9 K A H X (eM LJ B S0)): ∃S hv b pl,HI K A H X S hv b∧S.w=(Sound.judge B).1∧H X.r=some (.ins A.ay X.dr (bC (.ref X.q) pl (.int ((cM B.length (Sound.judge B).2).1:Nat)) (.int ((cM B.length (Sound.judge B).2).2:Nat)))):=by
 rcases N7 B with ⟨S,e1,e2,er⟩|⟨k,p,hk,e1,er⟩
 ·rw[er] at h
  obtain ⟨hv,b,hi,hS⟩:=h
  refine ⟨S,hv,b, .int (S.pl:Nat),hi,e2,?_⟩
  rw[e1,←eB]
  exact hS
 ·rw[er] at h
  obtain ⟨S,hv,b,hi,ew,pl,hF⟩:=h
  refine ⟨S,hv,b,pl,hi,ew,?_⟩
  rw[e1]
  exact hF
def Jy (C:Addr):Sp:=fun vs H Q _=> ∃(f:Addr) (F:Sound.Form),vs= [.ref f]∧fP C H f F∧gE H Q [F.channels,F.depth,F.block,F.group,F.spare]
theorem KJ:aK ["self"] ["self"] (aD Df):=⟨rfl,rfl,rfl,by decide+kernel,rfl,by decide+kernel,by decide+kernel⟩
theorem IE (T:Txt K mg A):az P w K mg base ba 1 A.lW A.nA ["self"] (Jy A.bH):=by
 refine T.Rj.ok KJ (fun vs H Q E h=>?_) (fun cdv Ar outer s H vs Q E hr h=>?_)
 ·obtain ⟨f,F,rfl,_⟩:=h
  rfl
 ·obtain ⟨f,F,rfl,⟨df,hf⟩,k⟩:=h
  refine ⟨_,aj (aW (cg (aa (ax (pv 0) rfl) (aa (ax (pv 0) rfl) (aa (ax (pv 0) rfl) (aa (ax (pv 0) rfl) (aa (ax (pv 0) rfl) af))))))),?_⟩
  exact (aA rfl hf T.b4 T.rJ rfl (aA rfl hf T.b4 T.nq rfl (aA rfl hf T.b4 T.jz rfl (aA rfl hf T.b4 T.sV rfl (aA rfl hf T.b4 T.vK rfl ⟨(by rw[sizeLine_eq];show 5≤_;omega),fun D hD=>k D _ hD (aL hD) ak⟩)))))
def oB (o:Option Sound.Head):List Int:=match o with
 |none=> [0]
 |some h=>1::Sound.formOut h
def Nj (A:aT):Sp:=fun vs H Q _=> ∃(hv:V) (o:Option Sound.Head),vs= [hv]∧me A H o hv∧ ∀D H',H D=none→ae H H'→H' D=some (.lst ((oB o).map V.int))→Q (.ref D) H'
theorem Pn:aK ["head"] ["head"] (aD Cg):=⟨rfl,rfl,rfl,by decide+kernel,rfl,by decide+kernel,by decide+kernel⟩
theorem QH (T:Txt K mg A):az P w K mg base ba 2 A.o6 A.mS ["head"] (Nj A):=by
 refine T.yT.ok Pn (fun vs H Q E h=>?_) (fun cdv Ar outer s H vs Q E hr h=>?_)
 ·obtain ⟨hv,o,rfl,_⟩:=h
  rfl
 ·obtain ⟨hv,o,rfl,hh,k⟩:=h
  refine ⟨_,ai (bp (bq Bp (pv 0) iT (aX _)) (aj (aW (cg (aa aq af)))) bu)
   (aj (aW (aw jD (aw jD (cg (aa aq af)) (Bj (ax (pv 0) rfl) T.b4 T.Jb (IE T) hr T.FN .nil aU)) (cg (aa (ax (pv 0) rfl) (aa (ax (pv 0) rfl) af)))))),?_⟩
  have one1:(1:Nat)≤sizeLine:=by rw[sizeLine_eq];omega
  cases o with
  |none=>
   obtain rfl:hv= .au:=hh
   refine ⟨_,rfl,rfl,_,rfl,?_⟩
   exact bt ⟨one1,fun D hD=>k D _ hD (aL hD) ak⟩
  |some h=>
   obtain ⟨x,rfl,dx,f,hx1,df,hf⟩:=hh
   refine ⟨_,rfl,rfl,_,rfl,?_⟩
   rw[decide_eq_false (by intro z;cases z)]
   refine bB ⟨one1,fun D1 hD1=>?_⟩
   have s1:=aL (o:= .lst [V.int 1]) hD1
   refine (aA rfl (s1 _ _ hx1) T.e9 T.lr rfl (mJ (s1 _ _ hf) rfl (ag f (Sound.eager h.form) ⟨rfl,⟨df,s1 _ _ hf⟩,fun D2 H2 hD2 s2 hx2=>?_⟩)))
   have t2:=s1.trans s2
   refine (aC D1 D2 _ _ ⟨rfl,rfl,ah.of (s2 _ _ ak),ah.of hx2,(by rw[sizeLine_eq];show 6≤_;omega),fun D3 hD3=>?_⟩)
   have s3:=aL (o:= .lst ([V.int 1]++vN [(Sound.eager h.form).channels,(Sound.eager h.form).depth,(Sound.eager h.form).block,(Sound.eager h.form).group,(Sound.eager h.form).spare])) hD3
   have t3:=t2.trans s3
   refine (aA rfl (t3 _ _ hx1) T.e9 T.r8 rfl (aA rfl (t3 _ _ hx1) T.e9 T.xE rfl ⟨(by rw[sizeLine_eq];show 2≤_;omega),fun D4 hD4=>?_⟩))
   have s4:=aL (o:= .lst [V.int ((h.n:Nat):Int),V.int ((h.t:Nat):Int)]) hD4
   refine (aC D3 D4 _ _ ⟨rfl,rfl,ah.of (s4 _ _ ak),ah.of ak,(by rw[sizeLine_eq];show 8≤_;omega),fun D5 hD5=>k D5 _ ((t3.trans s4).none hD5) ((t3.trans s4).trans (aL hD5)) ?_⟩)
   rw[ak];rfl
theorem vk (f:Sound.Form) (ao:f.ok=true) (n start:Nat) (idx:Sound.Bytes): ∀(fuel k place:Nat) (grp:List Sound.Bytes) (b:Sound.Bytes) (w:Sound.Told),(Sound.judgeFrames f n start idx fuel k place grp b w).1.s.length≤w.s.length+2560*fuel
 |0,k,place,grp,b,w=>by unfold Sound.judgeFrames;exact Nat.le_add_right _ _
 |fuel+1,k,place,grp,b,w=>by
  by_cases hk:k=Sound.framesOf f n
  ·rw[rV _ _ _ _ _ _ _ _ _ _ hk]
   exact Nat.le_add_right _ _
  ·rw[qZ _ _ _ _ _ _ _ _ _ _ hk]
   split
   ·exact Nat.le_add_right _ _
   ·cases eu:Sound.unframe f b with
    |bad=>exact Nat.le_add_right _ _
    |short=>exact Nat.le_add_right _ _
    |frame y=>
     dsimp only
     have hyl:=sk ao eu
     have hts:(eW w y).s.length=w.s.length+y.s.length:=by show (w.s++y.s).length=_;rw[List.length_append]
     split
     ·exact Nat.le_add_right _ _
     ·split
      ·split
       ·dsimp only;omega
       ·refine Nat.le_trans (vk f ao n start idx fuel _ _ _ _ _) ?_
        omega
      ·refine Nat.le_trans (vk f ao n start idx fuel _ _ _ _ _) ?_
       omega
theorem NM (B:Sound.Bytes):(Sound.judge B).1.s.length≤400000:=by
 rw[ya]
 cases e:cN B with
 |error z=>exact Nat.zero_le _
 |ok h=>
  obtain ⟨_,hm,h26⟩:=ur e
  have:=ue hm
  dsimp only
  unfold qK
  split
  ·exact Nat.zero_le _
  ·exact Nat.zero_le _
  ·rename_i l ea
   split
   ·exact Nat.zero_le _
   ·have hl:=vk h.form (gA hm).1 h.n (eY B h l).pl ((B.drop (26+h.t)).take (3*Sound.framesOf h.form h.n)) (Sound.framesOf h.form h.n+1) 0 (eY B h l).pl [] (B.drop (eY B h l).pl) (eY B h l).w
    have e0:(eY B h l).w.s.length=0:=rfl
    split
    ·rename_i v s ej
     unfold eD at ej
     rw[ej] at hl
     dsimp only at hl⊢
     omega
    ·rename_i v p r ej
     unfold eD at ej
     rw[ej] at hl
     dsimp only at hl⊢
     omega
theorem Mh (data:List Int) (hl:data.length≤16384):PyWqaubg.hear data= [((cM (bW data).length (Sound.judge (bW data)).2).1:Int),((cM (bW data).length (Sound.judge (bW data)).2).2:Int)]++oB (Sound.judge (bW data)).1.head++([((Sound.judge (bW data)).1.tags.length:Int),((Sound.judge (bW data)).1.frames:Int),((Sound.judge (bW data)).1.s.length:Int)]++(Sound.judge (bW data)).1.s):=by
 have e:PyWqaubg.hear data=if Sound.tooLong (bW data)=true then [-1] else Sound.standOut (bW data)++(match (Sound.judge (bW data)).1.head with
   |none=> [0]
   |some h=>1::Sound.formOut h)++(Sound.nats [(Sound.judge (bW data)).1.tags.length,(Sound.judge (bW data)).1.frames]++Sound.numsOut (Sound.judge (bW data)).1.s):=rfl
 rw[e,Kj hl,if_neg (by decide)]
 have e2:Sound.standOut (bW data)= [((cM (bW data).length (Sound.judge (bW data)).2).1:Int),((cM (bW data).length (Sound.judge (bW data)).2).2:Int)]:=by
  unfold Sound.standOut Sound.verdict Sound.nats
  cases (Sound.judge (bW data)).2<;>rfl
 rw[e2]
 rfl
def A2 (K:PySem.W.Frag):Sp:=fun vs H Q _=> ∃(q:Addr) (data:List Int),vs= [.ref q]∧ah K H q (data.map V.int)∧(data.length≤16384∧(∀x∈data,0≤x∧x≤255))∧
 ∀(H':Hp) (p:Addr),H' p=some (.lst ((PyWqaubg.hear data).map V.int))→Q (.ref p) H'
theorem uZ:aK ["data", "heard", "answer"] ["data"] (aD EV):=⟨rfl,rfl,rfl,by decide+kernel,rfl,by decide+kernel,by decide+kernel⟩
theorem Pu (T:Txt K mg A):az P w K mg base ba 18 A.nB A.jI ["data"] (A2 K):=by
 refine T.JX.ok uZ (fun vs H Q E h=>?_) (fun cdv Ar outer s H vs Q E hr h=>?_)
 ·obtain ⟨q,data,rfl,_⟩:=h
  rfl
 ·obtain ⟨q,data,rfl,hq,⟨hfl,hfb⟩,k⟩:=h
  have hr2':aF 2 _:=hr.mono (by decide)
  refine ⟨_,ai (aI (i:=1) uZ.nd rfl (Or.inl rfl) (aS (IV T) hr rfl T.M0 T.DR.kp T.Mc .nil aU (aa (pv 0) af)))
   (ai (aI (i:=2) uZ.nd rfl (Or.inl rfl) (aw jD (cg (aa (ax (ax (pv 1) rfl) rfl) (aa (ax (ax (pv 1) rfl) rfl) af))) (aS (QH T) hr2' rfl T.K7 T.yT.kp T.E9 .nil aU (aa (ax (pv 1) rfl) af))))
   (aj (aW (aw jD (aw jD (pv 2) (cg (aa (cq di (by rfl) T.cW PySem.boot_len (aa (ax (pv 1) rfl) af)) (aa (ax (pv 1) rfl) (aa (cq di (by rfl) T.cW PySem.boot_len (aa (ax (pv 1) rfl) af)) af))))) (ax (pv 1) rfl))))),?_⟩
  rw[RJ hfb] at hq
  rw[Mh data hfl] at k
  have hB:(bW data).length≤16384:=by rw[Es];exact hfl
  generalize bW data=B at*
  refine ⟨_,rfl,ag q B ⟨rfl,hq,hB,fun X H1 eB s1 hfr ho=>?_⟩⟩
  have hsl:=NM B
  obtain ⟨S,hv,b,pl,hi,ew,hR⟩:=Oh eB ho
  rw[←ew] at k hsl
  obtain ⟨as,t1,t2,t3⟩:=hi.ht
  refine (aA rfl hi.hp T.bD T.iu rfl (fI hR T.aM T.sX rfl (aA rfl hi.hp T.bD T.iu rfl (fI hR T.aM T.sS rfl ⟨(by rw[sizeLine_eq];show 2≤_;omega),fun D1 hD1=>?_⟩))))
  have hha:(oB S.w.head).length≤8:=by
   cases S.w.head with
   |none=>show 1≤8;decide
   |some h=>show 8≤8;decide
  have vI: ∀l:List Int,(l.map V.int).length=l.length:=fun l=>List.length_map _
  generalize he:([((cM B.length (Sound.judge B).2).1:Int),((cM B.length (Sound.judge B).2).2:Int)]:List Int)=l1 at*
  have hl1:l1.length=2:=by rw[←he];rfl
  rw[show [V.int ((cM B.length (Sound.judge B).2).1:Nat),V.int ((cM B.length (Sound.judge B).2).2:Nat)]=l1.map V.int by rw[←he];rfl]
  have u1:=aL (o:= .lst (l1.map V.int)) hD1
  refine (aA rfl (u1 _ _ hi.hp) T.bD T.f7 rfl ⟨hv,S.w.head,rfl,hi.hh.same ((kW _ _).trans u1),fun D2 H2 hD2 u2 hx2=>?_⟩)
  refine (aC D1 D2 _ _ ⟨rfl,rfl,ah.of (u2 _ _ ak),ah.of hx2,(by rw[vI,vI,sizeLine_eq];omega),fun D3 hD3=>?_⟩)
  rw[←List.map_append]
  have u3:=aL (o:= .lst ((l1++oB S.w.head).map V.int)) hD3
  have t3':=u1.trans (u2.trans u3)
  have hp3:=t3' _ _ hi.hp
  refine ⟨_,rfl,aA rfl hp3 T.bD T.uQ rfl (ag X.t _ ⟨rfl, .inl (ah.of (t3' _ _ t1)),aA rfl hp3 T.bD T.vc rfl (aA rfl hp3 T.bD T.nL rfl (ag X.c _ ⟨rfl, .inl (ah.of (t3' _ _ hi.hc)),(by rw[sizeLine_eq];show 3≤_;omega),fun D4 hD4=>?_⟩))⟩)⟩
  rw[List.length_map,t2,List.length_map]
  have u4:=aL (o:= .lst [V.int ((S.w.tags.length:Nat):Int),V.int ((S.w.frames:Nat):Int),V.int ((S.w.s.length:Nat):Int)]) hD4
  refine (aC D3 D4 _ _ ⟨rfl,rfl,ah.of (u4 _ _ ak),ah.of ak,(by rw[vI,List.length_append,sizeLine_eq];show _+3≤_;omega),fun D5 hD5=>?_⟩)
  have u5:=aL (o:= .lst ((l1++oB S.w.head).map V.int++ [V.int ((S.w.tags.length:Nat):Int),V.int ((S.w.frames:Nat):Int),V.int ((S.w.s.length:Nat):Int)])) hD5
  have t5:=t3'.trans (u4.trans u5)
  refine (aA rfl (t5 _ _ hi.hp) T.bD T.nL rfl (aC D5 X.c _ _ ⟨rfl,rfl,ah.of ak,ah.of (t5 _ _ hi.hc),(by rw[List.length_append,vI,vI,List.length_append,sizeLine_eq];show _+3+_≤_;omega),fun D6 hD6=>k _ D6 ?_⟩))
  rw[ak]
  simp only [List.map_append,List.append_assoc]
  rfl
end
end Wg
namespace PySem.W.Fast
theorem tw6854311944215770839:True:=⟨⟩
theorem tw12794556760392515693:True:=⟨⟩
theorem tw4178495336657911902:True:=⟨⟩
theorem tw12920185530225980644:True:=⟨⟩
theorem tw927838051969502058:True:=⟨⟩
theorem tw18296333242122029508:True:=⟨⟩
theorem tw11246355279187025573:True:=⟨⟩
theorem tw16648053683403577057:True:=⟨⟩
theorem tw1803099531594442680:True:=⟨⟩
theorem tw17249423541345702373:True:=⟨⟩
theorem tw6085355914160867237:True:=⟨⟩
theorem tw4819520996735796770:True:=⟨⟩
theorem tw10792320337849889072:True:=⟨⟩
theorem tw658327075645292703:True:=⟨⟩
theorem tw4269364942679444028:True:=⟨⟩
theorem tw5469800101531448556:True:=⟨⟩
theorem tw14924272043453185052:True:=⟨⟩
theorem tw4199359754959350723:True:=⟨⟩
theorem tw11275274073752442821:True:=⟨⟩
theorem tw15501977788177850903:True:=⟨⟩
theorem tw16933350647903730688:True:=⟨⟩
theorem tw16897857476576660431:True:=⟨⟩
theorem tw12543545355266090261:True:=⟨⟩
theorem tw4702441382283146424:True:=⟨⟩
theorem tw10773911488909981368:True:=⟨⟩
theorem tw8683706930422238863:True:=⟨⟩
theorem tw3480715318437775421:True:=⟨⟩
theorem tw1279271834652863431:True:=⟨⟩
theorem tw17996727365395776010:True:=⟨⟩
theorem tw14905869244210344739:True:=⟨⟩
theorem tw13680217388741933893:True:=⟨⟩
theorem tw5165675158493666847:True:=⟨⟩
theorem tw4995092575648563708:True:=⟨⟩
theorem tw15907849112246947116:True:=⟨⟩
theorem tw7062460468305398357:True:=⟨⟩
theorem tw6678322337167958769:True:=⟨⟩
theorem tw9150922889532615645:True:=⟨⟩
theorem tw3165263754158083470:True:=⟨⟩
theorem tw12599782297671124060:True:=⟨⟩
theorem tw9271560249299902127:True:=⟨⟩
theorem tw13615536003038757010:True:=⟨⟩
theorem tw4282011633087784861:True:=⟨⟩
theorem tw7195079732441947110:True:=⟨⟩
theorem tw12988079943169297538:True:=⟨⟩
theorem tw14823033621975759216:True:=⟨⟩
theorem tw8558757071441767126:True:=⟨⟩
theorem tw18127002035443608484:True:=⟨⟩
theorem tw71872822949616297:True:=⟨⟩
theorem tw5801520511645792629:True:=⟨⟩
theorem tw3390051507528101922:True:=⟨⟩
theorem tw15013569363047950832:True:=⟨⟩
theorem tw5377816265727383608:True:=⟨⟩
theorem tw13114489143636562634:True:=⟨⟩
theorem tw583888831420828256:True:=⟨⟩
theorem tw710826763828376961:True:=⟨⟩
theorem tw12402807851376336574:True:=⟨⟩
theorem tw899356885458911874:True:=⟨⟩
theorem tw8507489230595902696:True:=⟨⟩
theorem tw12534095542547466629:True:=⟨⟩
theorem tw3995760775368842026:True:=⟨⟩
theorem tw3373057471053361686:True:=⟨⟩
theorem tw9778613179715059235:True:=⟨⟩
theorem tw16019138337701049055:True:=⟨⟩
theorem tw12491043345974326294:True:=⟨⟩
theorem tw7146824904009712153:True:=⟨⟩
theorem tw3399244582330669644:True:=⟨⟩
theorem tw12427428843162757632:True:=⟨⟩
theorem tw13838559957380648300:True:=⟨⟩
theorem tw7537753469052083151:True:=⟨⟩
theorem tw1643865121578439017:True:=⟨⟩
theorem tw13487822396093527942:True:=⟨⟩
theorem tw5526468669038752873:True:=⟨⟩
theorem tw14584098945085900673:True:=⟨⟩
theorem tw17452137050011900313:True:=⟨⟩
theorem tw11266076341733096743:True:=⟨⟩
theorem tw17805110802647348449:True:=⟨⟩
theorem tw13450427778571742276:True:=⟨⟩
theorem tw5028673390392359723:True:=⟨⟩
theorem tw8948842170656712193:True:=⟨⟩
theorem tw3682182619963508738:True:=⟨⟩
theorem tw12990002745688002492:True:=⟨⟩
theorem tw1457797433541274344:True:=⟨⟩
theorem tw4671354062393484243:True:=⟨⟩
theorem tw12104457218123077328:True:=⟨⟩
theorem tw16619275889817021124:True:=⟨⟩
theorem tw9504862410567325267:True:=⟨⟩
theorem tw1116108651944197153:True:=⟨⟩
theorem tw8316419618408384491:True:=⟨⟩
theorem tw13235968297388761681:True:=⟨⟩
theorem tw7464447398480442739:True:=⟨⟩
theorem tw12814089494206746483:True:=⟨⟩
theorem tw5644158404590487008:True:=⟨⟩
theorem tw2776582351129330944:True:=⟨⟩
theorem tw10408606884417440235:True:=⟨⟩
theorem tw2755877766465447881:True:=⟨⟩
theorem tw5817471885561266333:True:=⟨⟩
theorem tw13305942537525123801:True:=⟨⟩
theorem tw1907651612239307746:True:=⟨⟩
theorem tw11981943467660377599:True:=⟨⟩
theorem tw47115472231210804:True:=⟨⟩
theorem tw852913923159122321:True:=⟨⟩
theorem tw7281964801880832130:True:=⟨⟩
theorem tw4365793607172503106:True:=⟨⟩
theorem tw3060548310236640433:True:=⟨⟩
theorem tw3984386286913184990:True:=⟨⟩
theorem tw18312392435091815398:True:=⟨⟩
theorem tw10079761981958459308:True:=⟨⟩
theorem tw17749838370368457852:True:=⟨⟩
theorem tw2352788000013213694:True:=⟨⟩
theorem tw15635832004410917138:True:=⟨⟩
theorem tw14616493343055597851:True:=⟨⟩
theorem tw17062891346201489614:True:=⟨⟩
theorem tw1643595296663602586:True:=⟨⟩
theorem tw7222491060656212234:True:=⟨⟩
theorem tw13273983996455915786:True:=⟨⟩
theorem tw1508073060448033758:True:=⟨⟩
theorem tw18323938821625157270:True:=⟨⟩
theorem tw16244041275077604769:True:=⟨⟩
theorem tw16778391162426834798:True:=⟨⟩
theorem tw11207611066976186826:True:=⟨⟩
theorem tw8266641774048504112:True:=⟨⟩
theorem tw16440438930261850538:True:=⟨⟩
theorem tw9581163774594164842:True:=⟨⟩
theorem tw1013487789526357212:True:=⟨⟩
theorem tw9743171064319789845:True:=⟨⟩
theorem tw15874429050014972444:True:=⟨⟩
theorem tw12689756761904082821:True:=⟨⟩
theorem tw4145175947155819414:True:=⟨⟩
theorem tw14726309474944553607:True:=⟨⟩
theorem tw8332924845069936955:True:=⟨⟩
theorem tw16302648979525051779:True:=⟨⟩
theorem tw7311976341884405642:True:=⟨⟩
theorem tw8932608843249155995:True:=⟨⟩
theorem tw7625292114865754538:True:=⟨⟩
theorem tw17598002598979582360:True:=⟨⟩
theorem tw12390036505314201899:True:=⟨⟩
theorem tw12536016376112075891:True:=⟨⟩
theorem tw16250529475375153891:True:=⟨⟩
theorem tw16038145240661296926:True:=⟨⟩
theorem tw5885466965729181117:True:=⟨⟩
theorem tw12874230938125799822:True:=⟨⟩
theorem tw5599379502174987015:True:=⟨⟩
theorem tw3436003855398660086:True:=⟨⟩
theorem tw2183486942173260807:True:=⟨⟩
theorem tw11956434733743167374:True:=⟨⟩
theorem tw17612231516215624903:True:=⟨⟩
theorem tw12015145406163688604:True:=⟨⟩
theorem tw3431388297540173263:True:=⟨⟩
theorem tw9228771360602123243:True:=⟨⟩
theorem tw14012865551466520605:True:=⟨⟩
theorem tw18032504101052838825:True:=⟨⟩
theorem tw3400926374273308983:True:=⟨⟩
theorem tw5563365277465333848:True:=⟨⟩
theorem tw16215091640512988028:True:=⟨⟩
theorem tw17368059962174982111:True:=⟨⟩
theorem tw4257917445004444467:True:=⟨⟩
theorem tw9826300557490916181:True:=⟨⟩
theorem tw2743061934733021591:True:=⟨⟩
theorem tw10683424313349054165:True:=⟨⟩
theorem tw13810810922432723370:True:=⟨⟩
theorem tw18311910755128903789:True:=⟨⟩
theorem tw7974464076633117003:True:=⟨⟩
theorem tw14693275245357347612:True:=⟨⟩
theorem tw1660737748783616312:True:=⟨⟩
theorem tw18028245630206389039:True:=⟨⟩
theorem tw272176222936933835:True:=⟨⟩
theorem tw10120568920790712855:True:=⟨⟩
theorem tw16048700945061116264:True:=⟨⟩
theorem tw16540730941403321794:True:=⟨⟩
theorem tw2600970577236420723:True:=⟨⟩
theorem tw1707331744269782019:True:=⟨⟩
theorem tw11458119867547617035:True:=⟨⟩
theorem tw550304299906651259:True:=⟨⟩
theorem tw16504994814221550501:True:=⟨⟩
theorem tw13504131376523077137:True:=⟨⟩
theorem tw1371091980155294962:True:=⟨⟩
theorem tw103637115166485634:True:=⟨⟩
theorem tw7447657919610711074:True:=⟨⟩
theorem tw8507136729104469627:True:=⟨⟩
theorem tw13783263024192390738:True:=⟨⟩
theorem tw9832625013512392318:True:=⟨⟩
theorem tw5705174307948366626:True:=⟨⟩
theorem tw7851388025233817116:True:=⟨⟩
theorem tw1699373885565899438:True:=⟨⟩
theorem tw12811338128077167748:True:=⟨⟩
theorem tw12983434553358475857:True:=⟨⟩
theorem tw463082311587038820:True:=⟨⟩
theorem tw10579786818960774695:True:=⟨⟩
theorem tw3724760685596511056:True:=⟨⟩
theorem tw3821251244218637558:True:=⟨⟩
theorem tw11301953583037392200:True:=⟨⟩
theorem tw13889811957854459332:True:=⟨⟩
theorem tw16106853516677908955:True:=⟨⟩
theorem tw14893458057717941659:True:=⟨⟩
theorem tw6598828860914009905:True:=⟨⟩
theorem tw4047892912925199658:True:=⟨⟩
theorem tw9247826987956718125:True:=⟨⟩
theorem tw11665964989465890045:True:=⟨⟩
theorem tw7775754384670524545:True:=⟨⟩
theorem tw13680388600240121963:True:=⟨⟩
theorem tw14283371023784914709:True:=⟨⟩
theorem tw7701804761119360926:True:=⟨⟩
theorem tw9691824263194442130:True:=⟨⟩
theorem tw5821807787765395931:True:=⟨⟩
theorem tw5372951370172660418:True:=⟨⟩
theorem tw14236814340141955762:True:=⟨⟩
theorem tw12895719526540760879:True:=⟨⟩
theorem tw12043629608025398749:True:=⟨⟩
theorem tw17584517146458263622:True:=⟨⟩
theorem tw4983506523256029735:True:=⟨⟩
theorem tw13058049519655327661:True:=⟨⟩
theorem tw6911688129203729842:True:=⟨⟩
theorem tw15090162189071149634:True:=⟨⟩
theorem tw17077326780891126833:True:=⟨⟩
theorem tw12271273359102882551:True:=⟨⟩
theorem tw10821131735334580225:True:=⟨⟩
theorem tw12502675150853714892:True:=⟨⟩
theorem tw10948547926251742880:True:=⟨⟩
theorem tw3085990274738709925:True:=⟨⟩
theorem tw17693594930327555860:True:=⟨⟩
theorem tw10556806178032836354:True:=⟨⟩
theorem tw13775454115979249394:True:=⟨⟩
theorem tw12741924121852023986:True:=⟨⟩
theorem tw17646646068819882486:True:=⟨⟩
theorem tw55740477722819008:True:=⟨⟩
theorem tw8548568901150675941:True:=⟨⟩
theorem tw16369557685180892765:True:=⟨⟩
theorem tw1269226251652808777:True:=⟨⟩
theorem tw221622901597966598:True:=⟨⟩
theorem tw153978497772372244:True:=⟨⟩
theorem tw9295630620540688011:True:=⟨⟩
theorem tw7034961526146187345:True:=⟨⟩
theorem tw10118809567357881583:True:=⟨⟩
theorem tw10973707885527814336:True:=⟨⟩
theorem tw9073844834798704831:True:=⟨⟩
theorem tw10426995145647620816:True:=⟨⟩
theorem tw8588257161968469032:True:=⟨⟩
theorem tw8792303334429693018:True:=⟨⟩
theorem tw11523537263088282710:True:=⟨⟩
theorem tw153908331804842648:True:=⟨⟩
theorem tw831068909559358407:True:=⟨⟩
theorem tw17774257446358112167:True:=⟨⟩
theorem tw16167661483526528844:True:=⟨⟩
theorem tw11905939329970263485:True:=⟨⟩
theorem tw1863457201336986136:True:=⟨⟩
theorem tw16845463168145879598:True:=⟨⟩
theorem tw7082184870150917047:True:=⟨⟩
theorem tw7240226823357336795:True:=⟨⟩
theorem tw5344580883046105539:True:=⟨⟩
theorem tw6669894105751819351:True:=⟨⟩
theorem tw17853075171309476047:True:=⟨⟩
theorem tw1797715218016441313:True:=⟨⟩
theorem tw10820792982414462253:True:=⟨⟩
theorem tw7485470836797348913:True:=⟨⟩
theorem tw13315648077157658920:True:=⟨⟩
theorem tw13072881787298695292:True:=⟨⟩
theorem tw2805492031537355321:True:=⟨⟩
theorem tw5650425440353532304:True:=⟨⟩
theorem tw17259949090012135246:True:=⟨⟩
theorem tw4143321140893637854:True:=⟨⟩
theorem tw17002922821679367700:True:=⟨⟩
theorem tw4896831327592632082:True:=⟨⟩
theorem tw16674368564585104015:True:=⟨⟩
theorem tw9919285837565998338:True:=⟨⟩
theorem tw11541651014851782039:True:=⟨⟩
theorem tw1039354707342080318:True:=⟨⟩
theorem tw11708843051876008983:True:=⟨⟩
theorem tw12028949763254048796:True:=⟨⟩
theorem tw5773276098326205078:True:=⟨⟩
theorem tw9814813154462735513:True:=⟨⟩
theorem tw1461168724575896738:True:=⟨⟩
theorem tw17162285247123103021:True:=⟨⟩
theorem tw11196386266535753969:True:=⟨⟩
theorem tw14360044889006971265:True:=⟨⟩
theorem tw1808356113236141609:True:=⟨⟩
theorem tw12348526895663595485:True:=⟨⟩
theorem tw5685628038516459989:True:=⟨⟩
theorem tw4981827313989084928:True:=⟨⟩
theorem tw17854339396418342024:True:=⟨⟩
theorem tw10456388355473362706:True:=⟨⟩
theorem tw8428130735608095850:True:=⟨⟩
theorem tw17848280100462493239:True:=⟨⟩
theorem tw5018654691034449179:True:=⟨⟩
theorem tw18386313198515022086:True:=⟨⟩
theorem tw12072598727406923253:True:=⟨⟩
theorem tw10901319382490539087:True:=⟨⟩
theorem tw6245334348177754883:True:=⟨⟩
theorem tw15231151333352556088:True:=⟨⟩
theorem tw10982087921273909836:True:=⟨⟩
theorem tw10987799787841517389:True:=⟨⟩
theorem tw15174322907916958730:True:=⟨⟩
theorem tw14257654002948279418:True:=⟨⟩
theorem tw14421740325525451392:True:=⟨⟩
theorem tw7516224594702746701:True:=⟨⟩
theorem tw10710070544586294308:True:=⟨⟩
theorem tw4605386265517565121:True:=⟨⟩
theorem tw7818638122972740610:True:=⟨⟩
theorem tw9029887576756571338:True:=⟨⟩
theorem tw15534494308775033088:True:=⟨⟩
theorem tw13496981196045326005:True:=⟨⟩
theorem tw10446818690884347655:True:=⟨⟩
theorem tw13479136947824064472:True:=⟨⟩
theorem tw13979882671912496284:True:=⟨⟩
theorem tw17235961390496259345:True:=⟨⟩
theorem tw5724882474261917266:True:=⟨⟩
theorem tw1588257777766119563:True:=⟨⟩
theorem tw2680982778259609113:True:=⟨⟩
theorem tw16813076401116286850:True:=⟨⟩
theorem tw5623023498897229001:True:=⟨⟩
theorem tw18267126791350691000:True:=⟨⟩
theorem tw4622694585876353589:True:=⟨⟩
theorem tw17946516985833382228:True:=⟨⟩
theorem tw12168010462821781246:True:=⟨⟩
theorem tw6129654461607539861:True:=⟨⟩
theorem tw7526303539509814629:True:=⟨⟩
theorem tw5897145155898837368:True:=⟨⟩
theorem tw4431834948464420861:True:=⟨⟩
theorem tw11292136849461923384:True:=⟨⟩
theorem tw14747823411454558565:True:=⟨⟩
theorem tw2763068665358085415:True:=⟨⟩
theorem tw3666444279781570690:True:=⟨⟩
theorem tw1680120041766555670:True:=⟨⟩
theorem tw11939709911975810626:True:=⟨⟩
theorem tw11455350017126983788:True:=⟨⟩
theorem tw13532722614661287877:True:=⟨⟩
theorem tw17917370716656229813:True:=⟨⟩
theorem tw2505088609727820206:True:=⟨⟩
theorem tw3268992377651385305:True:=⟨⟩
theorem tw14301149507840749677:True:=⟨⟩
theorem tw11540659560754629356:True:=⟨⟩
theorem tw2622330140590992080:True:=⟨⟩
theorem tw8820932638791320111:True:=⟨⟩
theorem tw18052802214489520540:True:=⟨⟩
theorem tw6365852197961588263:True:=⟨⟩
theorem tw8058351422620198550:True:=⟨⟩
theorem tw3209150894874218634:True:=⟨⟩
theorem tw12717003637200531914:True:=⟨⟩
theorem tw14654854985384293497:True:=⟨⟩
theorem tw1730013535708558569:True:=⟨⟩
theorem tw16491438298941007795:True:=⟨⟩
theorem tw14045681764565475687:True:=⟨⟩
theorem tw608472423749209141:True:=⟨⟩
theorem tw2232788941400149349:True:=⟨⟩
theorem tw16467627618310974745:True:=⟨⟩
theorem tw16246358716460512229:True:=⟨⟩
theorem tw6761661336285624227:True:=⟨⟩
theorem tw8296315456604033630:True:=⟨⟩
theorem tw12198608927117568252:True:=⟨⟩
theorem tw1267761330125515436:True:=⟨⟩
theorem tw8436342289575845941:True:=⟨⟩
theorem tw3675222806212024489:True:=⟨⟩
theorem tw13685213010205274117:True:=⟨⟩
theorem tw6315285638719316150:True:=⟨⟩
theorem tw14327691869140868400:True:=⟨⟩
theorem tw5805811935125008437:True:=⟨⟩
theorem tw4273228763211806842:True:=⟨⟩
theorem tw18090466833399352170:True:=⟨⟩
theorem tw653651015224501932:True:=⟨⟩
theorem tw8977954604271927598:True:=⟨⟩
theorem tw7224404845555757091:True:=⟨⟩
theorem tw6606405785382915798:True:=⟨⟩
theorem tw17984126630556743214:True:=⟨⟩
theorem tw10083398221586392032:True:=⟨⟩
theorem tw12659783610030738762:True:=⟨⟩
theorem tw4994381642083439456:True:=⟨⟩
theorem tw3928975667537867063:True:=⟨⟩
theorem tw14897534451629780863:True:=⟨⟩
theorem tw7620266577103663409:True:=⟨⟩
theorem tw4043662443256936187:True:=⟨⟩
theorem tw9275088041355317748:True:=⟨⟩
theorem tw6426570976164539839:True:=⟨⟩
theorem tw13140890814864645950:True:=⟨⟩
theorem tw1671342437789384284:True:=⟨⟩
theorem tw17930393346931205309:True:=⟨⟩
theorem tw12518375640941111799:True:=⟨⟩
theorem tw4695156849319626447:True:=⟨⟩
theorem tw1621380748268232832:True:=⟨⟩
theorem tw3110177650002618400:True:=⟨⟩
theorem tw5222836716691458723:True:=⟨⟩
theorem tw9739454956752823840:True:=⟨⟩
theorem tw9007557160935831610:True:=⟨⟩
theorem tw15633134381148096984:True:=⟨⟩
theorem tw12930616523897543046:True:=⟨⟩
theorem tw15787046264464213119:True:=⟨⟩
theorem tw359742242343350444:True:=⟨⟩
theorem tw11697512386208331604:True:=⟨⟩
theorem tw8908977708047124404:True:=⟨⟩
theorem tw16344217502674577292:True:=⟨⟩
theorem tw485852100133947035:True:=⟨⟩
theorem tw1961853733062844481:True:=⟨⟩
theorem tw5766446554759527110:True:=⟨⟩
theorem tw2119145437284219818:True:=⟨⟩
theorem tw16631791226185034889:True:=⟨⟩
theorem tw11331028178221560110:True:=⟨⟩
theorem tw3146237038287580980:True:=⟨⟩
theorem tw28969912536986796:True:=⟨⟩
theorem tw17545144650373506156:True:=⟨⟩
theorem tw6774610766130421392:True:=⟨⟩
theorem tw608934636608583779:True:=⟨⟩
theorem tw7988805545879085964:True:=⟨⟩
theorem tw14401686935261175543:True:=⟨⟩
theorem tw12713184915290808521:True:=⟨⟩
theorem tw2907653004112727770:True:=⟨⟩
theorem tw8430578089800485647:True:=⟨⟩
theorem tw15567529050109042837:True:=⟨⟩
theorem tw1308582667052670745:True:=⟨⟩
theorem tw12873106131238064960:True:=⟨⟩
theorem tw7268289080310330475:True:=⟨⟩
theorem tw3810435616728826588:True:=⟨⟩
theorem tw2358464855950196048:True:=⟨⟩
theorem tw5507085283219330875:True:=⟨⟩
theorem tw7345004332138880386:True:=⟨⟩
theorem tw3680091772753816505:True:=⟨⟩
theorem tw12867423885040837059:True:=⟨⟩
theorem tw2332543267237090976:True:=⟨⟩
theorem tw12857937368281602205:True:=⟨⟩
theorem tw9197950983156200948:True:=⟨⟩
theorem tw16001320960586899474:True:=⟨⟩
theorem tw17614280742458719153:True:=⟨⟩
theorem tw671931263451663784:True:=⟨⟩
theorem tw7138766302484615019:True:=⟨⟩
theorem tw11909922711223608999:True:=⟨⟩
theorem tw11935345375310614374:True:=⟨⟩
theorem tw12599297095079202679:True:=⟨⟩
theorem tw4302540041049722929:True:=⟨⟩
theorem tw15022540466389756689:True:=⟨⟩
theorem tw11434306343836563735:True:=⟨⟩
theorem tw4618881949771586452:True:=⟨⟩
theorem tw4083260361693053385:True:=⟨⟩
theorem tw9305914518691615618:True:=⟨⟩
theorem tw11022846497246440552:True:=⟨⟩
theorem tw4606286750546615940:True:=⟨⟩
theorem tw9200325411419929822:True:=⟨⟩
theorem tw13949276666725780784:True:=⟨⟩
theorem tw12409192733568828499:True:=⟨⟩
theorem tw8455206862089690133:True:=⟨⟩
theorem tw2988456989845863194:True:=⟨⟩
theorem tw11046873156924306434:True:=⟨⟩
theorem tw10301648973851861640:True:=⟨⟩
theorem tw17351829688821914348:True:=⟨⟩
theorem tw9811630102995967150:True:=⟨⟩
theorem tw16817934408063878378:True:=⟨⟩
theorem tw10906397765694481291:True:=⟨⟩
theorem tw9368299965768440187:True:=⟨⟩
theorem tw7606023505129934692:True:=⟨⟩
theorem tw9045786922403969446:True:=⟨⟩
theorem tw3767559283348301799:True:=⟨⟩
theorem tw1688152772606308483:True:=⟨⟩
theorem tw12301269583975507026:True:=⟨⟩
theorem tw370953351822087382:True:=⟨⟩
theorem tw8658039978102174717:True:=⟨⟩
theorem tw15424886798639474124:True:=⟨⟩
theorem tw4050782754829459328:True:=⟨⟩
theorem tw2123338887196228334:True:=⟨⟩
theorem tw11970327027096086894:True:=⟨⟩
theorem tw18321468204595655639:True:=⟨⟩
theorem tw3132751015742231171:True:=⟨⟩
theorem tw9922647793354127592:True:=⟨⟩
theorem tw8874142592696493441:True:=⟨⟩
theorem tw5007232491442601557:True:=⟨⟩
theorem tw12278343048069793139:True:=⟨⟩
theorem tw2284067575333306179:True:=⟨⟩
theorem tw15835044711555568972:True:=⟨⟩
theorem tw9927141629867660295:True:=⟨⟩
theorem tw13646821195909152791:True:=⟨⟩
theorem tw2330757172380770835:True:=⟨⟩
theorem tw10424646719198351185:True:=⟨⟩
theorem tw1766643822959071978:True:=⟨⟩
theorem tw6890452622727575887:True:=⟨⟩
theorem tw8772491747325773256:True:=⟨⟩
theorem tw7458796387525306390:True:=⟨⟩
theorem tw10648456055374551179:True:=⟨⟩
theorem tw13526187078901599668:True:=⟨⟩
theorem tw14110218705767406035:True:=⟨⟩
theorem tw12655350133240654323:True:=⟨⟩
theorem tw6513695455222535666:True:=⟨⟩
theorem tw13202915925466494008:True:=⟨⟩
theorem tw8869145115798514214:True:=⟨⟩
theorem tw9188506279569644253:True:=⟨⟩
theorem tw10168289840641198641:True:=⟨⟩
theorem tw2743680797312364907:True:=⟨⟩
theorem tw3784504952736314268:True:=⟨⟩
theorem tw17760099593412476791:True:=⟨⟩
theorem tw561914810521624528:True:=⟨⟩
theorem tw13822363762149686807:True:=⟨⟩
theorem tw5813290421931048644:True:=⟨⟩
theorem tw9552769631908256472:True:=⟨⟩
theorem tw13669190762754048658:True:=⟨⟩
theorem tw1676104832666300639:True:=⟨⟩
theorem tw15594259232381160478:True:=⟨⟩
theorem tw10497858485630911402:True:=⟨⟩
theorem tw5104931887629786963:True:=⟨⟩
theorem tw11113462713968186044:True:=⟨⟩
theorem tw3143637389227546594:True:=⟨⟩
theorem tw8882659626769115350:True:=⟨⟩
theorem tw18187609591457847801:True:=⟨⟩
theorem tw13769471314451971211:True:=⟨⟩
theorem tw843241151633413543:True:=⟨⟩
theorem tw7725228107536157740:True:=⟨⟩
theorem tw4611144319582190765:True:=⟨⟩
theorem tw12363838216610865443:True:=⟨⟩
theorem tw7053483843195237873:True:=⟨⟩
theorem tw903198513917956012:True:=⟨⟩
theorem tw16901715094357852171:True:=⟨⟩
theorem tw1819174231750754589:True:=⟨⟩
theorem tw13548266840691254811:True:=⟨⟩
theorem tw7605790508575278930:True:=⟨⟩
theorem tw13825148526857769713:True:=⟨⟩
theorem tw10293792419456133225:True:=⟨⟩
theorem tw15407106013218084454:True:=⟨⟩
theorem tw4887474392666791305:True:=⟨⟩
theorem tw12558568779808952615:True:=⟨⟩
theorem tw2995336253945352268:True:=⟨⟩
theorem tw12606316458454495175:True:=⟨⟩
theorem tw17149215507370491188:True:=⟨⟩
theorem tw16681038855793037603:True:=⟨⟩
theorem tw7911353152682810581:True:=⟨⟩
theorem tw10720760998264705491:True:=⟨⟩
theorem tw1160121040181607260:True:=⟨⟩
theorem tw11392431653702483765:True:=⟨⟩
theorem tw5900968324377385569:True:=⟨⟩
theorem tw9001921014966842174:True:=⟨⟩
theorem tw9433302520329301690:True:=⟨⟩
theorem tw17107886206771107453:True:=⟨⟩
theorem tw373114495885652218:True:=⟨⟩
theorem tw10744429735113971855:True:=⟨⟩
theorem tw16774178162763223589:True:=⟨⟩
theorem tw7668029445945553333:True:=⟨⟩
theorem tw5085921593692919574:True:=⟨⟩
theorem tw12825423946210741533:True:=⟨⟩
theorem tw18099227573824178193:True:=⟨⟩
theorem tw4309514501881437316:True:=⟨⟩
theorem tw14136776592550363175:True:=⟨⟩
theorem tw2873376098607943045:True:=⟨⟩
theorem tw10972219040982000773:True:=⟨⟩
theorem tw12514452044166265812:True:=⟨⟩
theorem tw7715692733950804989:True:=⟨⟩
theorem tw14664270644582192571:True:=⟨⟩
theorem tw11608261856472695769:True:=⟨⟩
theorem tw7035660067522295829:True:=⟨⟩
theorem tw15915212906687652809:True:=⟨⟩
theorem tw16070743239917969583:True:=⟨⟩
theorem tw12045074021877360613:True:=⟨⟩
theorem tw16002411485009518897:True:=⟨⟩
theorem tw9158379407019007066:True:=⟨⟩
theorem tw16330791590833665673:True:=⟨⟩
theorem tw9590319966166307356:True:=⟨⟩
theorem tw9819939761055638890:True:=⟨⟩
theorem tw2885087209350954651:True:=⟨⟩
theorem tw15410034783804791514:True:=⟨⟩
theorem tw10309186582110090091:True:=⟨⟩
theorem tw8901162518623698694:True:=⟨⟩
theorem tw6411267637726858889:True:=⟨⟩
theorem tw16144238292282633721:True:=⟨⟩
theorem tw10906712890688697190:True:=⟨⟩
theorem tw17282247639508651702:True:=⟨⟩
theorem tw6409138827070420740:True:=⟨⟩
theorem tw3796444877511827930:True:=⟨⟩
theorem tw4542662612044969117:True:=⟨⟩
theorem tw15329848126437703778:True:=⟨⟩
theorem tw9197360104577994117:True:=⟨⟩
theorem tw1830154788739988607:True:=⟨⟩
theorem tw15644001598851059367:True:=⟨⟩
theorem tw10499917004552876554:True:=⟨⟩
theorem tw344558715129732388:True:=⟨⟩
theorem tw13969457989001570422:True:=⟨⟩
theorem tw10121489506702828272:True:=⟨⟩
theorem tw436400704055733210:True:=⟨⟩
theorem tw4625138270070682072:True:=⟨⟩
theorem tw14809742914201403650:True:=⟨⟩
theorem tw4447162633560041427:True:=⟨⟩
theorem tw12543975465859518128:True:=⟨⟩
theorem tw1344096864030244759:True:=⟨⟩
theorem tw4881256420657314443:True:=⟨⟩
theorem tw13330842655010539633:True:=⟨⟩
theorem tw429913074901029645:True:=⟨⟩
theorem tw14444510295003518342:True:=⟨⟩
theorem tw13772193948251502948:True:=⟨⟩
theorem tw2194820743451774216:True:=⟨⟩
theorem tw14493377977260787524:True:=⟨⟩
theorem tw422388706655072533:True:=⟨⟩
theorem tw10895447305341855717:True:=⟨⟩
theorem tw12335136711393403531:True:=⟨⟩
theorem tw15828578554631706914:True:=⟨⟩
theorem tw9403319284809160549:True:=⟨⟩
theorem tw198501682061313930:True:=⟨⟩
theorem tw18308966095477496399:True:=⟨⟩
theorem tw4113841791800364918:True:=⟨⟩
theorem tw13417461730978703140:True:=⟨⟩
theorem tw652361093472120321:True:=⟨⟩
theorem tw7718708398826230873:True:=⟨⟩
theorem tw12112724587172219296:True:=⟨⟩
theorem tw12086972606455786122:True:=⟨⟩
theorem tw15787033757785180576:True:=⟨⟩
theorem tw8022305315071909661:True:=⟨⟩
theorem tw2955103543486998511:True:=⟨⟩
theorem tw18269369920251698188:True:=⟨⟩
theorem tw14511946780980434661:True:=⟨⟩
theorem tw17099494455841434785:True:=⟨⟩
theorem tw12464492050874063016:True:=⟨⟩
theorem tw5016537525446144839:True:=⟨⟩
theorem tw10069361424681521099:True:=⟨⟩
theorem tw6340678469175468427:True:=⟨⟩
theorem tw15987838603972506374:True:=⟨⟩
theorem tw15974428025113906473:True:=⟨⟩
theorem tw14451759948923396605:True:=⟨⟩
theorem tw6871159301502300590:True:=⟨⟩
theorem tw3188523753752382010:True:=⟨⟩
theorem tw1460355336114021520:True:=⟨⟩
theorem tw9784589455088507691:True:=⟨⟩
theorem tw11246254032275324773:True:=⟨⟩
theorem tw15954892367216531747:True:=⟨⟩
theorem tw16982703448830543381:True:=⟨⟩
theorem tw10668878738099209281:True:=⟨⟩
theorem tw17827499890314924314:True:=⟨⟩
theorem tw11381136910014304943:True:=⟨⟩
theorem tw3162554531773337498:True:=⟨⟩
theorem tw5727612091982751757:True:=⟨⟩
theorem tw91229749886084811:True:=⟨⟩
theorem tw3429150212878668209:True:=⟨⟩
theorem tw17885768841399966155:True:=⟨⟩
theorem tw13035365355427420920:True:=⟨⟩
theorem tw9316815795807228177:True:=⟨⟩
theorem tw3359267890061078567:True:=⟨⟩
theorem tw5242959725577503298:True:=⟨⟩
theorem tw12318808539311322335:True:=⟨⟩
theorem tw8581899363934923741:True:=⟨⟩
theorem tw5609226987292394711:True:=⟨⟩
theorem tw5530343757616593999:True:=⟨⟩
theorem tw2724114297537176928:True:=⟨⟩
theorem tw17182342743702898103:True:=⟨⟩
theorem tw10222737336213391154:True:=⟨⟩
theorem tw8225849511163768032:True:=⟨⟩
theorem tw7079511313265661384:True:=⟨⟩
theorem tw7027272290784429853:True:=⟨⟩
theorem tw15175674134433721923:True:=⟨⟩
theorem tw10641817539534274913:True:=⟨⟩
theorem tw7657990837672327168:True:=⟨⟩
theorem tw8188037728585390068:True:=⟨⟩
theorem tw14229708530174457557:True:=⟨⟩
theorem tw10787943075560131145:True:=⟨⟩
theorem tw1449543859367106430:True:=⟨⟩
theorem tw13736738380735295803:True:=⟨⟩
theorem tw9107566512447561307:True:=⟨⟩
theorem tw16843288955672165364:True:=⟨⟩
theorem tw13671629362737275510:True:=⟨⟩
theorem tw3941907496478702598:True:=⟨⟩
theorem tw16245523374841654626:True:=⟨⟩
theorem tw17731914711375375758:True:=⟨⟩
theorem tw11776270402877761010:True:=⟨⟩
theorem tw196567817489674799:True:=⟨⟩
theorem tw7033070372482205074:True:=⟨⟩
theorem tw7978907412343352078:True:=⟨⟩
theorem tw16521342160645226394:True:=⟨⟩
theorem tw11019894677731458407:True:=⟨⟩
theorem tw10877095278093115896:True:=⟨⟩
theorem tw5529156369707969551:True:=⟨⟩
theorem tw12248021549761285298:True:=⟨⟩
theorem tw12133845179433953616:True:=⟨⟩
theorem tw3983998896097637187:True:=⟨⟩
theorem tw8188945823034100824:True:=⟨⟩
theorem tw10646371376971474401:True:=⟨⟩
theorem tw3202326049435192460:True:=⟨⟩
theorem tw5242214229661166860:True:=⟨⟩
theorem tw8214160877857555391:True:=⟨⟩
theorem tw4755392859262095378:True:=⟨⟩
theorem tw2239318737305407483:True:=⟨⟩
theorem tw7285561454566072222:True:=⟨⟩
theorem tw5411547114503689370:True:=⟨⟩
theorem tw2815874389144100755:True:=⟨⟩
theorem tw8792881247089276759:True:=⟨⟩
theorem tw770108281376989047:True:=⟨⟩
theorem tw3185795274294638322:True:=⟨⟩
theorem tw5233435573903115305:True:=⟨⟩
theorem tw9977422931657286958:True:=⟨⟩
theorem tw6799110588313144291:True:=⟨⟩
theorem tw14670378132915586789:True:=⟨⟩
theorem tw15135708650404586823:True:=⟨⟩
theorem tw2223609542514124203:True:=⟨⟩
theorem tw12758890675265598836:True:=⟨⟩
theorem tw2185799847470909065:True:=⟨⟩
theorem tw2061816704016003971:True:=⟨⟩
theorem tw7002704089568303201:True:=⟨⟩
theorem tw14492741662300337637:True:=⟨⟩
theorem tw14837108027430186179:True:=⟨⟩
theorem tw9068716828434301986:True:=⟨⟩
theorem tw9909908859466283851:True:=⟨⟩
theorem tw4342487278592760551:True:=⟨⟩
theorem tw12768671542968416894:True:=⟨⟩
theorem tw12844185807024942000:True:=⟨⟩
theorem tw256800386195356616:True:=⟨⟩
theorem tw3242362941999439870:True:=⟨⟩
theorem tw3650329628917602105:True:=⟨⟩
theorem tw629486527831964502:True:=⟨⟩
theorem tw9151724956202703671:True:=⟨⟩
theorem tw10522080902254482914:True:=⟨⟩
theorem tw5075651524000593998:True:=⟨⟩
theorem tw16845493416190966587:True:=⟨⟩
theorem tw1455093817839244883:True:=⟨⟩
theorem tw13739470957463435743:True:=⟨⟩
theorem tw17076927472916371008:True:=⟨⟩
theorem tw1261362331532316666:True:=⟨⟩
theorem tw6440706938877065569:True:=⟨⟩
theorem tw10152014111817188681:True:=⟨⟩
theorem tw17107075930304064721:True:=⟨⟩
theorem tw2208441838598835885:True:=⟨⟩
theorem tw5061587955862135143:True:=⟨⟩
theorem tw7626166819978161530:True:=⟨⟩
theorem tw14927274560824976586:True:=⟨⟩
end PySem.W.Fast
open PySem PySem.W PyProof.Rows
set_option maxRecDepth 100000 in
set_option maxHeartbeats 0 in
theorem PySem.Challenge.cw_soundkeeping_s08_hear_holds : PySem.Challenge.rw_soundkeeping_s08_hear.Holds := by
 w_on;k_headS;(case hw=>exact ⟨[.list []],by decide+kernel,by decide+kernel⟩)
 k_fillS
 refine L2.J8 (r:=PySem.Challenge.rw_soundkeeping_s08_hear) (k:=18) (CX:=L2.ba) (ps:= ["data"]) (sp:=Wg.A2) (by decide+kernel) rfl rfl ⟨rfl,by decide,by decide⟩ (fun w h Y=>PySem.W.kIn_of Y) ?F ?S (fun _ _ _ _ z=>z)
 case F=>
  intro w mg fa h Y KX G hmg
  have T: ∃A,Wg.Txt (L2.BJ KX) mg A:=by
   dsimp only [L2.BJ]
   apply Wg.Qd
   apply Wg.Txt.mk
   all_goals try dsimp only
   all_goals first
   |(refine PySem.W.mg_of KX G ?_;k_is;done)
   |(refine PySem.W.mg_none_of KX G ?_;k_is;done)
   |(apply L2.QR;all_goals try k_is)
   |exact Wg.MX fun _=>rfl
   |exact Wg.Q8 fun _ _=>rfl
   |exact Wg.KI fun _ _ _=>rfl
   |exact Wg.PD fun _ _ _ _=>rfl
   |exact Wg.RF fun _ _ _ _ _=>rfl
   |(apply L2.Meth.mk<;>k_is)
   |(apply L2.b8.mk<;>k_is)
   |(apply L2.Mk.mk<;>k_is)
   |(apply L2.Own.mk<;>(try unfold L2.gS)<;>first|k_is|k_exc|rfl)
   |exact beq_eq_false_iff_ne.mp rfl
   |(refine (?_:PySem.W.findIn _ _ _=some none);k_is;done)
   |(apply Wg.NG;k_is;decide;repeat first|exact .nil|refine .cons rfl ?_|refine .cons ⟨_,rfl⟩ ?_)
   |exact fun s us hu=>match us,hu with| [_],_=> .of_eq rfl
   |skip
  obtain ⟨A,T⟩:=T
  have e0:=hmg.symm.trans T.Q9
  cases e0
  exact ⟨A.jI,T.entry,fun base _ _=>Wg.Pu T⟩
 case S=>
  intro K H xs a hO hwi hask hx
  obtain ⟨x0,u⟩:=a
  cases hx with
  |cons h0 r0=>
   cases r0
   cases h0 with
   |lst s0 d0=>
    have e0:=L2.DJ x0 _ d0
    subst e0
    have q:((Codec.inLen 0 16384 x0&&x0.all (Codec.inInt 0 255))&&true)=true:=hwi
    simp only [Bool.and_eq_true] at q
    obtain ⟨⟨l0,b0⟩,_⟩:=q
    have l0:=(Codec.inNat_iff.mp l0).2
    have b0:=fun z hz=>Codec.inInt_iff.mp (List.all_eq_true.mp b0 z hz)
    exact ⟨_,x0,rfl,s0,⟨l0,b0⟩,fun H' p hp=> .lst (L2.ah.of hp) (L2.Bt _)⟩
#print axioms PySem.Challenge.cw_soundkeeping_s08_hear_holds
