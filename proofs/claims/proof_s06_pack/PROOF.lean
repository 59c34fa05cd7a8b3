import PyProof.Rows.All
import Wide.All
import OpenK.AllK
import Wide.FinOn
import PyProof.EqAt
import PyProof.EqKinds
import PyProof.TupleCall
import KE.BitLaws
import Open.SpecLaws
import KE.OsHead
import KE.OsGo
import PySem.Challenge.RW_soundkeeping_s06_pack
set_option Elab.async false
set_option linter.all false
set_option maxRecDepth 100000
namespace L2
open PySem PySem.Spec PyProof.Rows
abbrev Key:=Sum Int Str
def AW:Key→Value→Bool
 | .inl k,v=>Value.isInt k v
 | .inr x,v=>Value.isStrOf x v
def OV (w:World):Key→Int
 | .inl k=>hashInt k
 | .inr x=>hashStr w x
theorem iP: ∀{k:Key} {v:Value},AW k v=true→(∃i t,k=Sum.inl i∧v=Value.int i t)∨(∃x t,k=Sum.inr x∧v=Value.str x t)
 | .inl i,v,h=>by
  obtain ⟨t,e⟩:=Value.isInt_shape (k:=i) (v:=v) h
  exact .inl ⟨i,t,rfl,e⟩
 | .inr x,v,h=>by
  obtain ⟨t,e⟩:=Value.isStrOf_shape (x:=x) (v:=v) h
  exact .inr ⟨x,t,rfl,e⟩
theorem KL (a b:Int):decide ((Sum.inl a:Key)=Sum.inl b)=(a==b):=by
 by_cases e:a=b
 ·subst e;simp
 ·have h: ¬(Sum.inl a:Key)=Sum.inl b:=fun q=>e (Sum.inl.inj q)
  rw[decide_eq_false h]
  exact (beq_eq_false_iff_ne.mpr e).symm
theorem Kk (a b:Str):decide ((Sum.inr a:Key)=Sum.inr b)=decide (a=b):=by
 by_cases e:a=b
 ·subst e;simp
 ·have h: ¬(Sum.inr a:Key)=Sum.inr b:=fun q=>e (Sum.inr.inj q)
  rw[decide_eq_false h,decide_eq_false e]
theorem MO (a:Int) (b:Str):decide ((Sum.inl a:Key)=Sum.inr b)=false:=decide_eq_false (fun q=>nomatch q)
theorem Rf (a:Str) (b:Int):decide ((Sum.inr a:Key)=Sum.inl b)=false:=decide_eq_false (fun q=>nomatch q)
def By (prog:Program) (w:World):PySem.KeyKind prog w Key where
 is:=AW
 hash:=OV w
 inj:=fun v a b ha hb=>by
  rcases iP ha with ⟨i,t,rfl,rfl⟩|⟨x,t,rfl,rfl⟩
  ·rcases iP hb with ⟨j,u,rfl,e⟩|⟨y,u,rfl,e⟩
   ·injection e with e1 _;rw[e1]
   ·exact nomatch e
  ·rcases iP hb with ⟨j,u,rfl,e⟩|⟨y,u,rfl,e⟩
   ·exact nomatch e
   ·injection e with e1 _;rw[e1]
 byValue:=fun k v h=>by
  rcases iP h with ⟨i,t,rfl,rfl⟩|⟨x,t,rfl,rfl⟩<;>rfl
 pyHash:=fun hv h=>by
  rcases iP hv with ⟨i,t,rfl,rfl⟩|⟨x,t,rfl,rfl⟩
  ·exact wpAny_pyHash_int h
  ·exact wpAny_pyHash_str h
 eqBool:=fun hu hv h=>by
  rcases iP hu with ⟨i,t,rfl,rfl⟩|⟨x,t,rfl,rfl⟩
  ·rcases iP hv with ⟨j,u,rfl,rfl⟩|⟨y,u,rfl,rfl⟩
   ·rw[KL] at h;exact wpAny_eqBool_int h
   ·rw[MO] at h;exact SeqAt.EqAt.int_str i t y u _ _ _ _ h
  ·rcases iP hv with ⟨j,u,rfl,rfl⟩|⟨y,u,rfl,rfl⟩
   ·rw[Rf] at h;exact SeqAt.EqAt.str_int x t j u _ _ _ _ h
   ·rw[Kk] at h;exact wpAny_eqBool_str h
 «strs»:=fun k x t v h=>by
  rcases iP h with ⟨i,u,rfl,e⟩|⟨y,u,rfl,e⟩
  ·exact nomatch e
  ·injection e with e1 _
   subst e1
   cases v<;>rfl
end L2
namespace L2
open PySem PySem.Spec PyProof.Rows
inductive V where
 |aD|bl (b:Bool)|int (i:Int)|str (x:Str)|dQ (b:Array UInt8)|jq (b:UInt64)|ref (a:Addr)|ty (n:String)
 deriving DecidableEq
def RelV:V→Value→Prop
 | .aD,u=>u=Value.none
 | .bl b,u=>u=Value.bool b
 | .int i,u=> ∃t,u=Value.int i t
 | .str x,u=> ∃t,u=Value.str x t
 | .dQ b,u=> ∃t,u=Value.bytes b t
 | .jq b,u=> ∃t,u=Value.float b t
 | .ref a,u=>u=Value.ref a
 | .ty n,u=>u=Value.type n
abbrev Vals:List V→List Value→Prop:=Paired RelV
theorem Vals.length {xs:List V} {us:List Value} (r:Vals xs us):xs.length=us.length:=Paired.length r
theorem Vals.get: ∀{xs:List V} {us:List Value} {i:Nat} {x:V},Vals xs us→xs[i]?=some x→ ∃u,us[i]?=some u∧RelV x u
 |_,_,_,_, .nil,e=>by simp at e
 |_,_,0,_, .cons r _,e=>by simp at e;subst e;exact ⟨_,rfl,r⟩
 |_,_,i+1,x, .cons _ t,e=>by
  obtain ⟨u,h1,h2⟩:=Vals.get (i:=i) (x:=x) t (by simpa using e)
  exact ⟨u,by simpa using h1,h2⟩
theorem Vals.append: ∀{xs ys:List V} {us ws:List Value},Vals xs us→Vals ys ws→Vals (xs++ys) (us++ws)
 |_,_,_,_, .nil,s=>s
 |_,_,_,_, .cons r t,s=> .cons r (Vals.append t s)
theorem Vals.take: ∀{xs:List V} {us:List Value} (n:Nat),Vals xs us→Vals (xs.take n) (us.take n)
 |_,_,0,_=> .nil
 |_,_,_+1, .nil=> .nil
 |_,_,n+1, .cons r t=> .cons r (Vals.take n t)
theorem Vals.drop: ∀{xs:List V} {us:List Value} (n:Nat),Vals xs us→Vals (xs.drop n) (us.drop n)
 |_,_,0,r=>r
 |_,_,_+1, .nil=> .nil
 |_,_,n+1, .cons _ t=>Vals.drop n t
def ik:Option V→Option Value→Prop
 |some v,some u=>RelV v u
 |none,none=>True
 |_,_=>False
def KV {κ:Type}:List (κ×V)→List (κ×Value)→Prop:=Paired fun (p:κ×V) (q:κ×Value)=>p.1=q.1∧RelV p.2 q.2
def kV:Key→V
 | .inl i=> .int i
 | .inr x=> .str x
inductive HO where
 |lst (xs:List V)
 |tup (xs:List V)
 |dK (kvs:List (Key×V))|dT (kvs:List (List Key×V))
 |set (S:Int→Bool) (n:Nat)
 |ins (C dx:Addr) (fs:List (Str×V))
 |own (x:Addr)
 |xd (fs:List (Str×V))
 |met (f x:Addr)
 |gB (lo hi:Int)
 |dh (o:Obj) (u:HO)
 |jw (ps:Array Value)
 |ext (φ:Heap→Prop)
abbrev Hp:=Addr→Option HO
def upd (H:Hp) (a:Addr) (o:HO):Hp:=fun b=>if b=a then some o else H b
theorem ao {H:Hp} {a:Addr} {o:HO}:upd H a o a=some o:=by unfold upd;rw[if_pos rfl]
theorem aB {H:Hp} {a b:Addr} {o:HO} (h:b≠a):upd H a o b=H b:=by unfold upd;rw[if_neg h]
theorem b7 {H:Hp} {a:Addr} {o u:HO}:upd (upd H a o) a u=upd H a u:=by
 funext b;unfold upd;split<;>rfl
theorem bV {H:Hp} {a b:Addr} {o u:HO} (h:H a=some o) (h':H b=some u) (d:o≠u):a≠b:=by
 intro e;subst e;rw[h] at h';exact d (Option.some.inj h')
theorem bD {H:Hp} {a b:Addr} {o:HO} (h:H a=some o) (h':H b=none):a≠b:=by
 intro e;subst e;rw[h] at h';cases h'
section
variable (P:Program) (w:World)
def cy (H:Hp) (h:Heap) (a:Addr):HO→Prop
 | .lst xs=>xs.length≤sizeLine∧ ∃(its:List Value) (n:Nat),Vals xs its∧h.get? a=some {cls:= .type "list",data:= .seq its.toArray n}
 | .tup xs=>xs.length≤sizeLine∧ ∃its:List Value,Vals xs its∧IsTup h a its.toArray
 | .dK kvs=>kvs.length≤sizeLine∧(a==sysModules)=false∧ ∃vs,KV kvs vs∧h.DictOf (By P w) a vs
 | .dT kvs=>kvs.length≤sizeLine∧(a==sysModules)=false∧ ∃xs:List (List Key×Addr×Value),
   Paired (fun (p:List Key×V) (q:List Key×Addr×Value)=>p.1=q.1∧H q.2.1=some (.tup (p.1.map kV))∧RelV p.2 q.2.2) kvs xs∧
   ∃o es ep,h.get? a=some o∧o.ExactDict∧o.data= .dict es ep∧es.toList=xs.map (entryOfKey (tupleKind (By P w)))∧(xs.map (·.1)).Nodup
 | .set S n=>h.SetOf (intKind P w) a S n
 | .ins C dx fs=>H dx=some (.own a)∧fs.length≤1000∧dx≠a∧h.get? a=some (PySem.W.instObj C dx)∧
   ∃mA,h.Ns1 dx mA∧(∀f,ik (fs.lookup f) (mA f))∧PySem.Within mA (fs.map (·.1))
 | .own _=> ∃o,h.get? a=some o
 | .xd fs=> ∃mA,h.Ns1 a mA∧ ∀f,ik (fs.lookup f) (mA f)
 | .gB lo hi=> ∃t u v,h.get? a=some {cls:= .type "range",data:= .fields #[.int lo t, .int hi u, .int 1 v]}
 | .dh o u=>h.get? a=some o∧cy H h a u
 | .jw ps=>h.get? a=some {cls:= .none,data:= .fields ps}
 | .met f x=>h.get? a=some (PySem.W.methodObj (.ref f) (.ref x))
 | .ext φ=>φ h∧(∃o,h.get? a=some o)∧ ∀h1 h2:Heap,φ h1→(∀o,h1.get? a=some o→h2.get? a=some o)→φ h2
def bR (H:Hp) (h:Heap):Prop:= ∀a o,H a=some o→cy P w H h a o
end
section
variable {P:Program} {w:World} {H H':Hp} {h h':Heap} {a:Addr} {o:HO}
theorem cy.lt (x:cy P w H h a o):a<h.objs.size:=by
 cases o with
 |lst xs=>obtain ⟨_,_,_,_,e⟩:=x;exact Heap.lt_size e
 |tup xs=>obtain ⟨_,_,_,p⟩:=x;exact p.lt
 |dK kvs=>obtain ⟨_,_,_,_,o,_,_,e,_⟩:=x;exact Heap.lt_size e
 |dT kvs=>obtain ⟨_,_,_,_,o,_,_,e,_⟩:=x;exact Heap.lt_size e
 |set S n=>obtain ⟨o,_,_,_,e,_⟩:=x;exact Heap.lt_size e
 |ins C dx fs=>obtain ⟨_,_,_,e,_⟩:=x;exact Heap.lt_size e
 |own y=>obtain ⟨_,e⟩:=x;exact Heap.lt_size e
 |xd fs=>obtain ⟨_,⟨_,_,_,e,_⟩,_⟩:=x;exact Heap.lt_size e
 |gB lo hi=>obtain ⟨_,_,_,e⟩:=x;exact Heap.lt_size e
 |dh ob u=>obtain ⟨e,_⟩:=x;exact Heap.lt_size e
 |jw ps=>exact Heap.lt_size (show h.get? a=some _ from x)
 |met f y=>exact Heap.lt_size (show h.get? a=some _ from x)
 |ext φ=>obtain ⟨_,⟨_,e⟩,_⟩:=x;exact Heap.lt_size e
theorem Paired.zL {α β:Type} {F G:α→β→Prop}: ∀{l₁:List α} {l₂:List β},Paired F l₁ l₂→(∀a b,F a b→G a b)→Paired G l₁ l₂
 |_,_, .nil,_=> .nil
 |_,_, .cons r t,f=> .cons (f _ _ r) (Paired.zL t f)
theorem cy.fe (x:cy P w H h a o) (k: ∀b u,(b=a∨H b=some (.own a))→h.get? b=some u→h'.get? b=some u)
  (ho: ∀b,H b=some (.own a)→H' b=some (.own a)) (ht: ∀b xs,H b=some (.tup xs)→H' b=some (.tup xs)):cy P w H' h' a o:=by
 induction o with
 |lst xs=>obtain ⟨z,its,n,r,e⟩:=x;exact ⟨z,its,n,r,k _ _ (.inl rfl) e⟩
 |tup xs=>obtain ⟨z,its,r,ob,e,c⟩:=x;exact ⟨z,its,r,ob,k _ _ (.inl rfl) e,c⟩
 |dK kvs=>obtain ⟨z,y,vs,r,ob,es,ep,e,c⟩:=x;exact ⟨z,y,vs,r,ob,es,ep,k _ _ (.inl rfl) e,c⟩
 |dT kvs=>
  obtain ⟨z,y,xs,r,ob,es,ep,e,c⟩:=x
  exact ⟨z,y,xs,Paired.zL r fun p q z=>⟨z.1,ht _ _ z.2.1,z.2.2⟩,ob,es,ep,k _ _ (.inl rfl) e,c⟩
 |set S n=>obtain ⟨ob,es,ep,t,e,c⟩:=x;exact ⟨ob,es,ep,t,k _ _ (.inl rfl) e,c⟩
 |ins C dx fs=>
  obtain ⟨d,z,ne,e,mA,⟨od,es,ep,e2,c⟩,r⟩:=x
  exact ⟨ho _ d,z,ne,k _ _ (.inl rfl) e,mA,⟨od,es,ep,k _ _ (.inr d) e2,c⟩,r⟩
 |own y=>obtain ⟨ob,e⟩:=x;exact ⟨ob,k _ _ (.inl rfl) e⟩
 |xd fs=>obtain ⟨mA,⟨od,es,ep,e,c⟩,r⟩:=x;exact ⟨mA,⟨od,es,ep,k _ _ (.inl rfl) e,c⟩,r⟩
 |gB lo hi=>obtain ⟨t,u,v,e⟩:=x;exact ⟨t,u,v,k _ _ (.inl rfl) e⟩
 |dh ob u ih=>obtain ⟨e,q⟩:=x;exact ⟨k _ _ (.inl rfl) e,ih q⟩
 |jw ps=>
  have e:h.get? a=some {cls:= .none,data:= .fields ps}:=x
  show h'.get? a=some {cls:= .none,data:= .fields ps}
  exact k a _ (.inl rfl) e
 |met f y=>
  have e:h.get? a=some (PySem.W.methodObj (.ref f) (.ref y)):=x
  show h'.get? a=some (PySem.W.methodObj (.ref f) (.ref y))
  exact k a _ (.inl rfl) e
 |ext φ=>obtain ⟨p,⟨o,e⟩,st⟩:=x;exact ⟨st _ _ p fun o q=>k _ _ (.inl rfl) q,⟨o,k _ _ (.inl rfl) e⟩,st⟩
theorem bR.lt (x:bR P w H h) (e:H a=some o):a<h.objs.size:=(x a o e).lt
theorem bR.fresh (x:bR P w H h) (e:h.objs.size≤a):H a=none:=by
 cases q:H a with
 |none=>rfl
 |some u=>exact absurd (Nat.lt_of_lt_of_le (x.lt q) e) (Nat.lt_irrefl _)
theorem bR.kept (x:bR P w H h) (k: ∀b u,h.get? b=some u→h'.get? b=some u):bR P w H h':=fun a o e=>
 (x a o e).fe (fun b u _ q=>k b u q) (fun _ q=>q) fun _ _ q=>q
theorem bR.laid (x:bR P w H h) (k: ∀b u,h.get? b=some u→h'.get? b=some u) (hp:h.objs.size≤a) (new:cy P w (upd H a o) h' a o):bR P w (upd H a o) h':=fun b u e=>by
 have hn:=x.fresh hp
 by_cases hb:b=a
 ·subst hb;rw[ao] at e;cases e;exact new
 ·rw[aB hb] at e
  exact (x b u e).fe (fun c v _ q=>k c v q) (fun c q=>by rw[aB (bD q hn)];exact q) fun c xs q=>by rw[aB (bD q hn)];exact q
end
def Rd (H:Hp) (a:Addr) (u:HO):Prop:=H a=some u∨ ∃o,H a=some (.dh o u)
theorem Rd.ok {P:Program} {w:World} {H:Hp} {h:Heap} {a:Addr} {u:HO} (r:Rd H a u) (x:bR P w H h):cy P w H h a u:=by
 rcases r with r|⟨o,r⟩
 ·exact x a u r
 ·obtain ⟨_,q⟩:=x a _ r
  exact q
def tM:Option HO→Prop
 |some (.lst _)=>True
 |some (.dK _)=>True
 |some (.dT _)=>True
 |some (.set _ _)=>True
 |some (.ins _ _ _)=>True
 |some (.ext _)=>True
 |_=>False
section
variable {P:Program} {w:World} {H:Hp} {h h':Heap} {x e:Addr} {o':HO}
theorem bR.write (ok:bR P w H h) (mu:tM (H x)) (he:e=x∨H e=some (.own x)) (k: ∀b u,b≠e→h.get? b=some u→h'.get? b=some u) (heo: ∃u,h'.get? e=some u)
  (new:cy P w (upd H x o') h' x o'):bR P w (upd H x o') h':=fun b u q=>by
 have nown: ∀c y,H c=some (.own y)→c≠x:=fun c y r z=>by subst z;rw[r] at mu;exact mu
 have ntup: ∀c xs,H c=some (.tup xs)→c≠x:=fun c xs r z=>by subst z;rw[r] at mu;exact mu
 by_cases hb:b=x
 ·subst hb;rw[ao] at q;cases q;exact new
 ·rw[aB hb] at q
  by_cases hbe:b=e
  ·have q':H b=some (.own x):=by
    rcases he with z|z
    ·exact absurd (hbe.trans z) hb
    ·rw[hbe];exact z
   rw[q] at q';cases q'
   obtain ⟨v,hv⟩:=heo
   exact ⟨v,by rw[hbe];exact hv⟩
  ·refine (ok b u q).fe (fun c v hc r=>k c v ?_ r) (fun c r=>by rw[aB (nown c b r)];exact r) fun c xs r=>by rw[aB (ntup c xs r)];exact r
   rcases hc with rfl|hc
   ·exact hbe
   ·rintro rfl
    rcases he with z|z
    ·exact nown c b hc z
    ·rw[hc] at z;cases z;exact hb rfl
end
structure Un (fs ex:List Addr) (H H':Hp) (h h':Heap):Prop where
 keep: ∀b o,h.get? b=some o→H b=none→b∉fs→b∉ex→h'.get? b=some o
 slot: ∀b o,h.get? b=some o→H b=none→b∈fs→b∉ex→ ∃sl,h'.get? b=some {o with slots:=sl}
 free: ∀b o,h.get? b=some o→H b=none→b∉ex→H' b=none
 there: ∀b o,h.get? b=some o→b∉ex→ ∃o',h'.get? b=some o'
 g9: ∀b xs,H b=some (.tup xs)→H' b=some (.tup xs)
 gk: ∀b o u,H b=some (.dh o u)→H' b=some (.dh o u)
 gW: ∀b ps,H b=some (.jw ps)→ ∃more,H' b=some (.jw (ps++more))
section
variable {fs fs' ex ex':List Addr} {H H1 H2:Hp} {h h1 h2 h':Heap} {a x e:Addr} {o:HO}
theorem Un.any (u:Un fs ex H H1 h h1) {b:Addr} {ob:Obj} (q:h.get? b=some ob) (n:H b=none) (hx:b∉ex): ∃sl,h1.get? b=some {ob with slots:=sl}:=by
 by_cases hb:b∈fs
 ·exact u.slot b ob q n hb hx
 ·exact ⟨ob.slots,u.keep b ob q n hb hx⟩
theorem Un.kept (k: ∀b u,h.get? b=some u→h'.get? b=some u):Un fs ex H H h h':=
 ⟨fun b ob q _ _ _=>k b ob q,fun b ob q _ _ _=>⟨ob.slots,k b ob q⟩,fun _ _ _ n _=>n,fun b ob q _=>⟨ob,k b ob q⟩,fun _ _ q=>q,fun _ _ _ q=>q,fun _ ps q=>⟨#[],by rw[q];simp⟩⟩
theorem Un.refl:Un fs ex H H h h:=Un.kept fun _ _ q=>q
theorem Un.laid (k: ∀b u,h.get? b=some u→h'.get? b=some u) (hp:h.objs.size≤a) (hn:H a=none):Un fs ex H (upd H a o) h h' where
 keep:=fun b u q _ _ _=>k b u q
 slot:=fun b u q _ _ _=>⟨u.slots,k b u q⟩
 free:=fun b u q n _=>by rw[aB (Nat.ne_of_lt (Nat.lt_of_lt_of_le (Heap.lt_size q) hp))];exact n
 there:=fun b u q _=>⟨u,k b u q⟩
 g9:=fun b xs q=>by rw[aB (bD q hn)];exact q
 gk:=fun b u xs q=>by rw[aB (bD q hn)];exact q
 gW:=fun b ps q=>⟨#[],by rw[aB (bD q hn),q];simp⟩
theorem Un.write (mu:tM (H x)) (he:e=x∨H e=some (.own x)) (k: ∀b u,b≠e→h.get? b=some u→h'.get? b=some u) (heo: ∃u,h'.get? e=some u):Un fs ex H (upd H x o) h h':=by
 have hx: ∀b,H b=none→b≠x:=fun b n z=>by subst z;rw[n] at mu;exact mu
 have hb: ∀b,H b=none→b≠e:=fun b n z=>by
  subst z
  rcases he with r|r
  ·exact hx b n r
  ·rw[n] at r;cases r
 have hm: ∀b u,H b=some u→ ¬tM (some u)→b≠x:=fun b u q nm z=>by subst z;rw[q] at mu;exact nm mu
 refine ⟨fun b u q n _ _=>k b u (hb b n) q,fun b u q n _ _=>⟨u.slots,k b u (hb b n) q⟩,fun b u q n _=>by rw[aB (hx b n)];exact n,fun b u q _=>?_,
  fun b xs q=>by rw[aB (hm b _ q fun z=>z)];exact q,fun b u xs q=>by rw[aB (hm b _ q fun z=>z)];exact q,fun b ps q=>⟨#[],by rw[aB (hm b _ q fun z=>z),q];simp⟩⟩
 by_cases hbe:b=e
 ·subst hbe;exact heo
 ·exact ⟨u,k b u hbe q⟩
end
def sN (h:Heap) (H:Hp):List Addr:=(List.range h.objs.size).filter fun a=>(H a).isSome
def iD (h:Heap) (H:Hp):Heap:=PySem.W.hideAll h (sN h H)
theorem KY (h:Heap) (H:Hp):(iD h H).objs.size=h.objs.size:=PySem.W.hideAll_size _ _
theorem IU {h:Heap} {H:Hp} {b:Addr} {o:Obj} (e:h.get? b=some o) (n:H b=none):(iD h H).get? b=some o:=
 PySem.W.hideAll_get _ e fun hm=>by
  have q:(H b).isSome=true:=(List.mem_filter.mp hm).2
  rw[n] at q;simp at q
theorem NT {h:Heap} {H:Hp} {b:Addr} {o:Obj} (e:(iD h H).get? b=some o):h.get? b=some o∧H b=none:=by
 have e':h.get? b=some o:=PySem.W.of_hideAll (sN h H) e
 refine ⟨e',?_⟩
 cases q:H b with
 |none=>rfl
 |some x=>
  have hm:b∈sN h H:=List.mem_filter.mpr ⟨List.mem_range.mpr (Heap.lt_size e'),by simp [q]⟩
  have z:(iD h H).get? b=none:=PySem.W.hideAll_none (sN h H) hm
  rw[z] at e;cases e
end L2
namespace L2
open PySem PySem.Spec PyProof.Rows
structure Mod (K:PySem.W.Frag) (mg:Str→Option Value) (base:Heap):Prop where
 kC:K.In base
 glob:base.Ns mainGlobals mg
 blt: ∃mb,base.Ns builtinsNs mb∧ ∀x:Str,x≠ "__name__" →mb x=bootBuiltins x
 nolimit:base.NoLimit
structure Cx where
 prog:Program
 w:World
 K:PySem.W.Frag
 mg:Str→Option Value
 base:Heap
 A:Around
 N:List Str
 bB:Shared
 kM:Hp
 env:Env
 outer:List Env
 stack:List Env
 ex:List Addr
 fn:Str→Bool
 calm:Bool
 pn:List (Addr×Obj)
 xe:Value→Shared→Prop
def br (l:List Env):List Addr:=l.filterMap (·.frame)
abbrev Cx.fs (X:Cx):List Addr:=br X.outer
def kU (sc:Scope) (x:Str):Prop:=sc.names.lookup x=some .local∨sc.names.lookup x=some .cell∨sc.names.lookup x=some .free
def Loc (sc:Scope) (x:Str):Prop:=sc.names.lookup x=some .local∨sc.names.lookup x=some .cell
def Look (env:Env) (h:Heap) (m:Str→Option Value) (x:Str) (u:Value):Prop:=
 (env.kindOf x=some .local∧m x=some u)∨((env.kindOf x=some .cell∨env.kindOf x=some .free)∧ ∃c,env.cells.lookup x=some c∧h.IsCell c (some u))
structure Cx.Ok (X:Cx):Prop where
 mod:Mod X.K X.mg X.base
 kind:X.env.scope.kind= .function
 glob:X.env.globals=mainGlobals
 blt:X.env.builtins=builtinsNs
 above:X.bB.heap.objs.size≤X.env.locals
 inj: ∀x y c,X.env.cells.lookup x=some c→X.env.cells.lookup y=some c→x=y
 has: ∀x,(X.env.kindOf x=some .cell∨X.env.kindOf x=some .free)→ ∃c,X.env.cells.lookup x=some c
 jz: ∀x c,X.fn x=true→X.env.cells.lookup x=some c→X.bB.heap.objs.size≤c
 hd:X.calm=true→X.A.handled=none
 frames:X.A.frames=some X.stack
 kO:X.stack=X.outer∨(X.stack=X.env::X.outer∧X.env.frame=some X.env.locals)
 kF: ∀b∈X.ex,b≠X.env.locals∧ ∀x c,X.env.cells.lookup x=some c→c≠b
 bs: ∀b o,X.base.get? b=some o→X.bB.heap.get? b=some o∧X.kM b=none
 gn:X.base.objs.size≤X.bB.heap.objs.size
 fB: ∀b o,X.base.get? b=some o→b∉X.ex
 kc: ∀b∈X.ex,b∉X.fs
 eQ:X.bB.heap.FunFrames X.base X.outer
 iu: ∀b∈X.fs,X.kM b=none
structure Inv (X:Cx) (pins:List (Addr×Obj)) (σ:List (Option V)) (H:Hp) (s:Shared):Prop where
 ok:X.Ok
 os:s.os=X.bB.os
 bare:AllBare s.gens
 base:Un X.fs X.ex X.kM H X.bB.heap s.heap
 loc: ∃m,s.heap.Ns X.env.locals m∧ ∀(i:Nat) (x:Str) (v:V),X.N[i]?=some x→σ[i]?=some (some v)→kU X.env.scope x→ ∃u,RelV v u∧Look X.env s.heap m x u
 cell: ∀x c,X.env.cells.lookup x=some c→ ∃v,s.heap.IsCell c v
 free:H X.env.locals=none
 dZ: ∀x c,X.env.cells.lookup x=some c→H c=none
 pin: ∀p∈X.pn++pins,s.heap.get? p.1=some p.2∧H p.1=none∧p.1≠X.env.locals∧p.1∉X.fs∧ ∀v,p.2.data≠ .cell v
 ax:bR X.prog X.w H s.heap
 len:σ.length=X.N.length
section
variable {X:Cx} {pins:List (Addr×Obj)} {σ:List (Option V)} {H H':Hp} {s:Shared} {h':Heap}
theorem Cx.Ok.IW (ok:X.Ok) {b:Addr} {o:Obj} (e:X.base.get? b=some o):b∉X.fs:=fun hb=>by
 have:=(ok.eQ.mem hb).1
 rw[e] at this;cases this
theorem Inv.bs (I:Inv X pins σ H s): ∀b o,X.base.get? b=some o→s.heap.get? b=some o∧H b=none:=fun b o e=>
 ⟨I.base.keep b o (I.ok.bs b o e).1 (I.ok.bs b o e).2 (I.ok.IW e) (I.ok.fB b o e),I.base.free b o (I.ok.bs b o e).1 (I.ok.bs b o e).2 (I.ok.fB b o e)⟩
theorem Inv.bk (I:Inv X pins σ H s): ∀b o,X.base.get? b=some o→s.heap.get? b=some o:=fun b o e=>(I.bs b o e).1
theorem Inv.mod (I:Inv X pins σ H s):Mod X.K X.mg X.base:=I.ok.mod
theorem Inv.cI (I:Inv X pins σ H s):X.K.In s.heap:=I.ok.mod.kC.keeps I.bk
theorem Inv.lt (I:Inv X pins σ H s):X.env.locals<s.heap.objs.size:=let ⟨_,hn,_⟩:=I.loc;hn.lt
theorem Inv.sz (I:Inv X pins σ H s):X.bB.heap.objs.size≤s.heap.objs.size:=Nat.le_trans I.ok.above (Nat.le_of_lt I.lt)
theorem Inv.Pn (I:Inv X pins σ H s) {a:Addr} (h:s.heap.objs.size≤a):a∉X.fs:=fun hb=>by
 obtain ⟨_,o,ho,_⟩:=I.ok.eQ.mem hb
 exact absurd (Nat.lt_of_lt_of_le (Heap.lt_size ho) (Nat.le_trans I.sz h)) (Nat.lt_irrefl _)
theorem Inv.jO (I:Inv X pins σ H s): ∀x c,X.env.cells.lookup x=some c→c≠X.env.locals:=fun x c e z=>by
 obtain ⟨v,o,ho,hd⟩:=I.cell x c e
 obtain ⟨m,⟨o',es,ep,ho',hd',_⟩,_⟩:=I.loc
 rw[z,ho'] at ho;cases ho;rw[hd'] at hd;cases hd
theorem Inv.eQ (I:Inv X pins σ H s):s.heap.FunFrames X.base X.outer:=by
 have all: ∀(l:List Env),(∀b∈br l,b∈X.fs)→X.bB.heap.FunFrames X.base l→s.heap.FunFrames X.base l:=by
  intro l
  induction l with
  |nil=>intro _ _;trivial
  |cons env r ih=>
   intro hs hl
   obtain ⟨hk,⟨L,o,hf,hn,ho,hd⟩,hr⟩:=hl
   have hL:L∈X.fs:=hs L (by unfold br;rw[List.filterMap_cons,hf];exact List.mem_cons_self)
   obtain ⟨sl,e⟩:=I.base.slot L o ho (I.ok.iu L hL) hL fun z=>I.ok.kc L z hL
   exact ⟨hk,⟨L,_,hf,hn,e,hd⟩,ih (fun b hb=>hs b (by unfold br;rw[List.filterMap_cons,hf];exact List.mem_cons_of_mem _ hb)) hr⟩
 exact all X.outer (fun _ hb=>hb) I.ok.eQ
theorem Inv.stack (I:Inv X pins σ H s):s.heap.FunFrames X.base X.stack:=by
 rcases I.ok.kO with e|⟨e,hf⟩
 ·rw[e];exact I.eQ
 ·rw[e]
  obtain ⟨m,hn,_⟩:=I.loc
  refine .cons (by rw[I.ok.kind];decide) hf hn ?_ I.eQ
  exact Heap.get?_none_of_le (Nat.le_trans I.ok.gn I.ok.above)
theorem Inv.qY (I:Inv X pins σ H s): ∀b∈br X.stack,b∈X.env.locals::X.fs:=fun b hb=>by
 rcases I.ok.kO with e|⟨e,hf⟩
 ·rw[e] at hb;exact List.mem_cons_of_mem _ hb
 ·rw[e] at hb
  unfold br at hb
  rw[List.filterMap_cons,hf] at hb
  exact hb
theorem Inv.rh (I:Inv X pins σ H s): ∀b∈br X.stack,H b=none:=fun b hb=>by
 rcases List.mem_cons.mp (I.qY b hb) with e|hb
 ·rw[e];exact I.free
 ·obtain ⟨_,o,ho,_⟩:=I.ok.eQ.mem hb
  exact I.base.free b o ho (I.ok.iu b hb) fun z=>I.ok.kc b z hb
theorem Inv.step {g':Array GenState} {t':Nat} {d':Drawn} {ch:List Addr} (I:Inv X pins σ H s)
  (hch: ∀b∈ch,(b∈X.ex∨X.bB.heap.objs.size≤b)∧b≠X.env.locals∧(∀x c,X.env.cells.lookup x=some c→c≠b)∧ ∀p∈X.pn++pins,p.1≠b)
  (keep: ∀b o,b≠X.env.locals→b∉X.fs→b∉ch→s.heap.get? b=some o→H b=none→h'.get? b=some o)
  (slot: ∀b o,b≠X.env.locals→b∈X.fs→b∉ch→s.heap.get? b=some o→H b=none→ ∃sl,h'.get? b=some {o with slots:=sl}) (free: ∀b o,b∉ch→s.heap.get? b=some o→H b=none→H' b=none)
  (there: ∀b o,b∉ch→s.heap.get? b=some o→ ∃o',h'.get? b=some o')
  (g9: ∀b xs,H b=some (.tup xs)→H' b=some (.tup xs)) (gk: ∀b o u,H b=some (.dh o u)→H' b=some (.dh o u)) (gW: ∀b ps,H b=some (.jw ps)→ ∃more,H' b=some (.jw (ps++more)))
  (ns: ∀m,s.heap.Ns X.env.locals m→h'.Ns X.env.locals m) (ax:bR X.prog X.w H' h') (hg:AllBare g'):
  Inv X pins σ H' {s with heap:=h',gens:=g',drawn:=d',toks:=t'}:=by
 have neL: ∀b o,X.bB.heap.get? b=some o→b≠X.env.locals:=fun b o e=>Nat.ne_of_lt (Nat.lt_of_lt_of_le (Heap.lt_size e) I.ok.above)
 have neC: ∀b o,X.bB.heap.get? b=some o→b∉X.ex→b∉ch:=fun b o e hx hb=>by
  rcases (hch b hb).1 with z|z
  ·exact hx z
  ·exact absurd (Nat.lt_of_lt_of_le (Heap.lt_size e) z) (Nat.lt_irrefl _)
 have cellK: ∀x c,X.env.cells.lookup x=some c→ ∀v,s.heap.IsCell c v→h'.IsCell c v:=fun x c e v ⟨o,ho,hd⟩=>by
  have nch:c∉ch:=fun z=>(hch c z).2.2.1 x c e rfl
  by_cases hc:c∈X.fs
  ·obtain ⟨sl,q⟩:=slot c o (I.jO x c e) hc nch ho (I.dZ x c e)
   exact ⟨_,q,hd⟩
  ·exact ⟨o,keep c o (I.jO x c e) hc nch ho (I.dZ x c e),hd⟩
 refine ⟨I.ok,I.os,hg,⟨fun b o e n hb hx=>?_,fun b o e n hb hx=>?_,fun b o e n hx=>?_,fun b o e hx=>?_,fun b xs e=>g9 b xs (I.base.g9 b xs e),fun b o xs e=>gk b o xs (I.base.gk b o xs e),fun b ps e=>?_⟩,?_,fun x c e=>?_,?_,fun x c e=>?_,fun p hp=>?_,ax,I.len⟩
 ·exact keep b o (neL b o e) hb (neC b o e hx) (I.base.keep b o e n hb hx) (I.base.free b o e n hx)
 ·obtain ⟨sl,e1⟩:=I.base.slot b o e n hb hx
  obtain ⟨sl',e2⟩:=slot b _ (neL b o e) hb (neC b o e hx) e1 (I.base.free b o e n hx)
  exact ⟨sl',e2⟩
 ·obtain ⟨o',e1⟩:=I.base.there b o e hx
  exact free b o' (neC b o e hx) e1 (I.base.free b o e n hx)
 ·obtain ⟨o',e1⟩:=I.base.there b o e hx
  exact there b o' (neC b o e hx) e1
 ·obtain ⟨m1,e1⟩:=I.base.gW b ps e
  obtain ⟨m2,e2⟩:=gW b _ e1
  exact ⟨m1++m2,by rw[e2,Array.append_assoc]⟩
 ·obtain ⟨m,hn,hl⟩:=I.loc
  refine ⟨m,ns m hn,fun i x v e1 e2 e3=>?_⟩
  obtain ⟨u,r,l⟩:=hl i x v e1 e2 e3
  refine ⟨u,r,?_⟩
  rcases l with l|⟨k,c,e,z⟩
  ·exact .inl l
  ·exact .inr ⟨k,c,e,cellK x c e _ z⟩
 ·obtain ⟨v,z⟩:=I.cell x c e
  exact ⟨v,cellK x c e v z⟩
 ·obtain ⟨m,⟨o,_,_,ho,_⟩,_⟩:=I.loc
  exact free _ o (fun z=>(hch _ z).2.1 rfl) ho I.free
 ·obtain ⟨v,o,ho,hd⟩:=I.cell x c e
  exact free c o (fun z=>(hch c z).2.2.1 x c e rfl) ho (I.dZ x c e)
 ·obtain ⟨e,n,ne,nf,d⟩:=I.pin p hp
  have nch:p.1∉ch:=fun z=>(hch p.1 z).2.2.2 p hp rfl
  exact ⟨keep p.1 p.2 ne nf nch e n,free p.1 p.2 nch e n,ne,nf,d⟩
theorem Inv.un {t':Nat} (I:Inv X pins σ H s) (u:Un X.fs [] H H' s.heap h') (ax:bR X.prog X.w H' h'):Inv X pins σ H' {s with heap:=h',toks:=t'}:=by
 obtain ⟨m,⟨o,es,ep,ho,r⟩,_⟩:=id I.loc
 obtain ⟨sl,hL⟩:=u.any ho I.free (by simp)
 exact I.step (g':=s.gens) (d':=s.drawn) (ch:= []) (fun _ z=>nomatch z) (fun b o _ hb _ e n=>u.keep b o e n hb (by simp)) (fun b o _ hb _ e n=>u.slot b o e n hb (by simp)) (fun b o _ e n=>u.free b o e n (by simp)) (fun b o _ e=>u.there b o e (by simp)) u.g9 u.gk u.gW (fun m' hm=>by
  obtain ⟨o',es',ep',ho',r'⟩:=hm
  rw[ho] at ho';cases ho'
  exact ⟨_,es',ep',hL,r'⟩) ax I.bare
theorem Inv.call {g':Array GenState} {t':Nat} {d':Drawn} {ch:List Addr} (I:Inv X pins σ H s) (u:Un (br X.stack) ch H H' s.heap h') (ax:bR X.prog X.w H' h') (hg:AllBare g')
  (hch: ∀b∈ch,(b∈X.ex∨X.bB.heap.objs.size≤b)∧b≠X.env.locals∧(∀x c,X.env.cells.lookup x=some c→c≠b)∧ ∀p∈X.pn++pins,p.1≠b):
  Inv X pins σ H' {s with heap:=h',gens:=g',drawn:=d',toks:=t'}:=by
 obtain ⟨m,⟨o,es,ep,ho,r⟩,_⟩:=id I.loc
 obtain ⟨sl,hL⟩:=u.any ho I.free fun z=>(hch _ z).2.1 rfl
 exact I.step (ch:=ch) hch (fun b o hL hb hc e n=>u.keep b o e n (fun z=>(List.mem_cons.mp (I.qY b z)).elim hL hb) hc) (fun b o _ _ hc e n=>u.any e n hc) (fun b o hc e n=>u.free b o e n hc) (fun b o hc e=>u.there b o e hc) u.g9 u.gk u.gW (fun m' hm=>by
  obtain ⟨o',es',ep',ho',r'⟩:=hm
  rw[ho] at ho';cases ho'
  exact ⟨_,es',ep',hL,r'⟩) ax hg
theorem Inv.turned {t':Nat} {it:Addr} (I:Inv X pins σ H s) (k: ∀b o,b≠it→s.heap.get? b=some o→h'.get? b=some o) (hn:H it=none) (hL:it≠X.env.locals)
  (h1:it∈X.ex∨X.bB.heap.objs.size≤it) (h2: ∀x c,X.env.cells.lookup x=some c→c≠it) (h3: ∀p∈X.pn++pins,p.1≠it):Inv X pins σ H {s with heap:=h',toks:=t'}:=by
 have nit: ∀b u,H b=some u→b≠it:=fun b u e z=>by rw[z,hn] at e;cases e
 refine I.step (g':=s.gens) (d':=s.drawn) (ch:= [it]) (fun b hb=>?_) (fun b o _ _ hc e _=>k b o (fun z=>hc (by simp [z])) e) (fun b o _ _ hc e _=>⟨o.slots,k b o (fun z=>hc (by simp [z])) e⟩) (fun _ _ _ _ n=>n)
  (fun b o hc e=>⟨o,k b o (fun z=>hc (by simp [z])) e⟩) (fun _ _ e=>e) (fun _ _ _ e=>e) (fun b ps e=>⟨#[],by rw[e];simp⟩) (fun m hm=>?_) (fun b u e=>?_) I.bare
 ·have e:b=it:=by simpa using hb
  subst e
  exact ⟨h1,hL,h2,h3⟩
 ·obtain ⟨o,es,ep,ho,r⟩:=hm
  exact ⟨o,es,ep,k _ o (Ne.symm hL) ho,r⟩
 ·refine (I.ax b u e).fe (fun c v hc q=>k c v ?_ q) (fun _ q=>q) fun _ _ q=>q
  rcases hc with z|z
  ·rw[z];exact nit b u e
  ·exact nit c _ z
theorem Inv.tok (I:Inv X pins σ H s) (t:Nat):Inv X pins σ H {s with toks:=t}:=I.un (h':=s.heap) (t':=t) Un.refl I.ax
theorem Inv.kept {t':Nat} (I:Inv X pins σ H s) (k: ∀b u,s.heap.get? b=some u→h'.get? b=some u):Inv X pins σ H {s with heap:=h',toks:=t'}:=I.un (Un.kept k) (I.ax.kept k)
theorem Inv.laid {a:Addr} {o:HO} {t':Nat} (I:Inv X pins σ H s) (k: ∀b u,s.heap.get? b=some u→h'.get? b=some u) (hp:s.heap.objs.size≤a) (new:cy X.prog X.w (upd H a o) h' a o):
  Inv X pins σ (upd H a o) {s with heap:=h',toks:=t'}:=I.un (Un.laid k hp (I.ax.fresh hp)) (I.ax.laid k hp new)
theorem Inv.write {x e:Addr} {o:HO} {t':Nat} (I:Inv X pins σ H s) (mu:tM (H x)) (he:e=x∨H e=some (.own x)) (k: ∀b u,b≠e→s.heap.get? b=some u→h'.get? b=some u) (heo: ∃u,h'.get? e=some u)
  (new:cy X.prog X.w (upd H x o) h' x o):Inv X pins σ (upd H x o) {s with heap:=h',toks:=t'}:=I.un (Un.write mu he k heo) (I.ax.write mu he k heo new)
theorem Inv.weak {σ':List (Option V)} (I:Inv X pins σ H s) (hl:σ'.length=σ.length) (w: ∀(i:Nat) v,σ'[i]?=some (some v)→σ[i]?=some (some v)):Inv X pins σ' H s:=
 ⟨I.ok,I.os,I.bare,I.base,let ⟨m,hn,hl'⟩:=I.loc;⟨m,hn,fun i x v e1 e2 e3=>hl' i x v e1 (w i v e2) e3⟩,I.cell,I.free,I.dZ,I.pin,I.ax,hl.trans I.len⟩
theorem Inv.EH {pins':List (Addr×Obj)} (I:Inv X pins σ H s) (h: ∀p∈pins',s.heap.get? p.1=some p.2∧H p.1=none∧p.1≠X.env.locals∧p.1∉X.fs∧ ∀v,p.2.data≠ .cell v):Inv X pins' σ H s:=
 ⟨I.ok,I.os,I.bare,I.base,I.loc,I.cell,I.free,I.dZ,fun p hp=>(List.mem_append.mp hp).elim (fun z=>I.pin p (List.mem_append_left _ z)) (h p),I.ax,I.len⟩
theorem xn {N:List Str} (hN:N.Nodup) {i j:Nat} {x:Str} (a:N[i]?=some x) (b:N[j]?=some x):i=j:=by
 obtain ⟨h1,e1⟩:=List.getElem?_eq_some_iff.mp a
 obtain ⟨h2,e2⟩:=List.getElem?_eq_some_iff.mp b
 exact (List.getElem_inj hN).mp (e1.trans e2.symm)
theorem zX {M:Model} {A:Around} {E:Value→Shared→Prop} {i:Nat} {x:Str} {v:V} {u:Value} {Q:Unit→Shared→Prop} (I:Inv X pins σ H s) (hN:X.N.Nodup) (hi:X.N[i]?=some x) (hx:Loc X.env.scope x) (r:RelV v u)
  (h: ∀s',Inv X pins (σ.set i (some v)) H s'→(∃a,Heap.SameBut a s.heap s'.heap∧(a=X.env.locals∨X.env.cells.lookup x=some a))→Q () s') (hf:X.fn x=true∨X.env.scope.names.lookup x=some .local:=by first|exact .inl rfl|exact .inr rfl|assumption):wpAny M A (storeName X.env x u) Q E s:=by
 obtain ⟨m,hn,hl⟩:=id I.loc
 have hcls:(X.env.scope.kind== .class||(X.env.scope.kind== .module&&X.env.locals !=X.env.globals))=false:=by rw[I.ok.kind];rfl
 have hiσ:i<σ.length:=by rw[I.len];exact (List.getElem?_eq_some_iff.mp hi).1
 have jO:=I.jO
 have tracked: ∀{a:Addr} {h':Heap},(∃o,s.heap.get? a=some o∧H a=none)→Heap.SameBut a s.heap h'→bR X.prog X.w H h':=fun {a h'} ha hs b ob e=>by
  obtain ⟨_,_,hfree⟩:=ha
  refine (I.ax b ob e).fe (fun c w' hc q=>(hs.2 c ?_).trans q) (fun _ q=>q) fun _ _ q=>q
  rintro rfl
  rcases hc with rfl|hc
  ·rw[hfree] at e;cases e
  ·rw[hfree] at hc;cases hc
 rcases hx with hk|hk
 ·refine wpAny_storeName_local hk hn (fun h' hn' hs=>?_) hcls
  obtain ⟨oL,_,_,hoL,_⟩:=id hn
  refine h _ ⟨I.ok,I.os,I.bare,⟨fun b o e n hb hx=>?_,fun b o e n hb hx=>?_,I.base.free,fun b o e hx=>?_,I.base.g9,I.base.gk,I.base.gW⟩,⟨_,hn',fun j y v' e1 e2 e3=>?_⟩,fun y c e=>?_,I.free,I.dZ,fun p hp=>?_,tracked ⟨oL,hoL,I.free⟩ hs,by simpa using I.len⟩ ⟨_,hs, .inl rfl⟩
  ·exact (hs.2 b (Nat.ne_of_lt (Nat.lt_of_lt_of_le (Heap.lt_size e) I.ok.above))).trans (I.base.keep b o e n hb hx)
  ·obtain ⟨sl,e1⟩:=I.base.slot b o e n hb hx
   exact ⟨sl,(hs.2 b (Nat.ne_of_lt (Nat.lt_of_lt_of_le (Heap.lt_size e) I.ok.above))).trans e1⟩
  ·obtain ⟨o',e1⟩:=I.base.there b o e hx
   exact ⟨o',(hs.2 b (Nat.ne_of_lt (Nat.lt_of_lt_of_le (Heap.lt_size e) I.ok.above))).trans e1⟩
  ·by_cases hj:j=i
   ·subst hj
    rw[hi] at e1;cases e1
    rw[List.getElem?_set_self hiσ] at e2
    cases e2
    exact ⟨u,r, .inl ⟨hk,by simp⟩⟩
   ·rw[List.getElem?_set_ne (Ne.symm hj)] at e2
    obtain ⟨u',r',q⟩:=hl j y v' e1 e2 e3
    refine ⟨u',r',?_⟩
    rcases q with ⟨k,e⟩|⟨k,c,e,z⟩
    ·refine .inl ⟨k,?_⟩
     have:y≠x:=fun e=>hj (xn hN e1 (e▸hi))
     simp [this,e]
    ·exact .inr ⟨k,c,e,z.sameBut hs (jO y c e)⟩
  ·obtain ⟨w',z⟩:=I.cell y c e
   exact ⟨w',z.sameBut hs (jO y c e)⟩
  ·obtain ⟨e,n,ne,nf,d⟩:=I.pin p hp
   exact ⟨(hs.2 p.1 ne).trans e,n,ne,nf,d⟩
 ·have hfn:X.fn x=true:=by
   rcases hf with z|z
   ·exact z
   ·rw[z] at hk;cases hk
  obtain ⟨c,hc⟩:=I.ok.has x (.inl hk)
  obtain ⟨w',z⟩:=I.cell x c hc
  refine wpAny_storeName_cell I.ok.kind hk hc z (fun h' hc' hs=>?_)
  obtain ⟨oc,hoc,hocd⟩:=id z
  refine h {s with heap:=h'} ⟨I.ok,I.os,I.bare,⟨fun b o e n hb hx=>?_,fun b o e n hb hx=>?_,I.base.free,fun b o e hx=>?_,I.base.g9,I.base.gk,I.base.gW⟩,⟨m,hn.sameBut hs (Ne.symm (jO x c hc)),fun j y v' e1 e2 e3=>?_⟩,fun y c' e=>?_,I.free,I.dZ,fun p hp=>?_,tracked ⟨oc,hoc,I.dZ x c hc⟩ hs,by simpa using I.len⟩ ⟨c,hs, .inr hc⟩
  ·exact (hs.2 b (Nat.ne_of_lt (Nat.lt_of_lt_of_le (Heap.lt_size e) (I.ok.jz x c hfn hc)))).trans (I.base.keep b o e n hb hx)
  ·obtain ⟨sl,e1⟩:=I.base.slot b o e n hb hx
   exact ⟨sl,(hs.2 b (Nat.ne_of_lt (Nat.lt_of_lt_of_le (Heap.lt_size e) (I.ok.jz x c hfn hc)))).trans e1⟩
  ·obtain ⟨o',e1⟩:=I.base.there b o e hx
   exact ⟨o',(hs.2 b (Nat.ne_of_lt (Nat.lt_of_lt_of_le (Heap.lt_size e) (I.ok.jz x c hfn hc)))).trans e1⟩
  ·by_cases hj:j=i
   ·subst hj
    rw[hi] at e1;cases e1
    rw[List.getElem?_set_self hiσ] at e2
    cases e2
    exact ⟨u,r, .inr ⟨.inl hk,c,hc,hc'⟩⟩
   ·rw[List.getElem?_set_ne (Ne.symm hj)] at e2
    obtain ⟨u',r',q⟩:=hl j y v' e1 e2 e3
    refine ⟨u',r',?_⟩
    rcases q with q|⟨k,c',e,z'⟩
    ·exact .inl q
    ·refine .inr ⟨k,c',e,z'.sameBut hs ?_⟩
     rintro rfl
     exact hj (xn hN e1 (I.ok.inj _ _ _ e hc▸hi))
  ·by_cases hcc:c'=c
   ·subst hcc;exact ⟨_,hc'⟩
   ·obtain ⟨w2,z2⟩:=I.cell y c' e
    exact ⟨w2,z2.sameBut hs hcc⟩
  ·obtain ⟨e,n,ne,nf,d⟩:=I.pin p hp
   refine ⟨(hs.2 p.1 ?_).trans e,n,ne,nf,d⟩
   intro q
   rw[q,hoc] at e
   have q':oc=p.2:=Option.some.inj e
   exact d w' (by rw[←q'];exact hocd)
theorem xV {M:Model} {A:Around} {E:Value→Shared→Prop} {i:Nat} {x:Str} {v:V} {u:Value} {Q:Unit→Shared→Prop} (I:Inv X pins σ H s) (hN:X.N.Nodup) (hi:X.N[i]?=some x) (hx:Loc X.env.scope x) (r:RelV v u)
  (h: ∀s',Inv X pins (σ.set i (some v)) H s'→Q () s') (hf:X.fn x=true∨X.env.scope.names.lookup x=some .local:=by first|exact .inl rfl|exact .inr rfl|assumption):wpAny M A (storeName X.env x u) Q E s:=
 zX I hN hi hx r (fun s' I' _=>h s' I') hf
theorem Inv.yk {s':Shared} {ch:List Addr} (I:Inv X pins σ H s) (ho:s'.os=s.os) (u:Un (br X.stack) ch H H' s.heap s'.heap) (ax:bR X.prog X.w H' s'.heap) (hg:AllBare s'.gens)
  (hch: ∀b∈ch,(b∈X.ex∨X.bB.heap.objs.size≤b)∧b≠X.env.locals∧(∀x c,X.env.cells.lookup x=some c→c≠b)∧ ∀p∈X.pn++pins,p.1≠b):Inv X pins σ H' s':=by
 obtain ⟨h',g',d',t',o'⟩:=s'
 have e:o'=s.os:=ho
 subst e
 exact I.call (g':=g') (t':=t') (d':=d') u ax hg hch
end
abbrev XK:=Value→Option Addr→Hp→Prop
abbrev St:=List (Option V)
abbrev VK:=V→Hp→Prop
abbrev TE:=St→Hp→VK→Prop
abbrev TT:=St→Hp→(Bool→Hp→Prop)→Prop
abbrev TA:=St→Hp→(List V→Hp→Prop)→Prop
structure Ends where
 nx:St→Hp→Prop
 rt:VK
 bk:St→Hp→Prop:=fun _ _=>False
 ct:St→Hp→Prop:=fun _ _=>False
abbrev TS:=Ends→St→Hp→Prop
def EP (X:Cx) (pins:List (Addr×Obj)) (σ:St) (Q:VK) (u:Value) (s':Shared):Prop:= ∃v H',Inv X pins σ H' s'∧RelV v u∧Q v H'
def TP (X:Cx) (pins:List (Addr×Obj)) (σ:St) (Q:Bool→Hp→Prop) (b:Bool) (s':Shared):Prop:= ∃H',Inv X pins σ H' s'∧Q b H'
def AP (X:Cx) (pins:List (Addr×Obj)) (σ:St) (Q:List V→Hp→Prop) (us:List Value) (s':Shared):Prop:= ∃vs H',Inv X pins σ H' s'∧Vals vs us∧Q vs H'
def SP (X:Cx) (pins:List (Addr×Obj)) (D:Ends) (f:Flow) (s':Shared):Prop:=
 match f with
 | .next=> ∃σ' H',Inv X pins σ' H' s'∧D.nx σ' H'
 | .brk=> ∃σ' H',Inv X pins σ' H' s'∧D.bk σ' H'
 | .cont=> ∃σ' H',Inv X pins σ' H' s'∧D.ct σ' H'
 | .ret u=> ∃v σ' H',Inv X pins σ' H' s'∧RelV v u∧D.rt v H'
def PE (X:Cx) (e:Expr) (t:TE):Prop:=
 ∀(pins:List (Addr×Obj)) (s:Shared) (σ:St) (H:Hp) (Q:VK),Inv X pins σ H s→t σ H Q→wpAny (model X.prog X.w) X.A (eval e X.env) (EP X pins σ Q) X.xe s
def PT (X:Cx) (e:Expr) (t:TT):Prop:=
 ∀(pins:List (Addr×Obj)) (s:Shared) (σ:St) (H:Hp) (Q:Bool→Hp→Prop),Inv X pins σ H s→t σ H Q→wpAny (model X.prog X.w) X.A (isTrue e X.env (eval e X.env)) (TP X pins σ Q) X.xe s
def PW (X:Cx) (e:Expr) (t:TT):Prop:=
 ∀(whole:Sem Value) (pins:List (Addr×Obj)) (s:Shared) (σ:St) (H:Hp) (Q:Bool→Hp→Prop),Inv X pins σ H s→t σ H Q→wpAny (model X.prog X.w) X.A (isTrue e X.env whole) (TP X pins σ Q) X.xe s
theorem PW.pt {X:Cx} {e:Expr} {t:TT} (h:PW X e t):PT X e t:=h _
def PA (X:Cx) (es:List Expr) (t:TA):Prop:=
 ∀(pos:Pos) (pins:List (Addr×Obj)) (s:Shared) (σ:St) (H:Hp) (Q:List V→Hp→Prop),Inv X pins σ H s→t σ H Q→wpAny (model X.prog X.w) X.A (spliced (backTo pos (starEach es X.env))) (AP X pins σ Q) X.xe s
def PS (X:Cx) (st:Stmt) (t:TS):Prop:=
 ∀(pins:List (Addr×Obj)) (s:Shared) (σ:St) (H:Hp) (D:Ends),Inv X pins σ H s→t D σ H→wpAny (model X.prog X.w) X.A (exec st X.env) (SP X pins D) X.xe s
def dS (X:Cx) (st:List Stmt) (t:TS):Prop:=
 ∀(pins:List (Addr×Obj)) (s:Shared) (σ:St) (H:Hp) (D:Ends),Inv X pins σ H s→t D σ H→wpAny (model X.prog X.w) X.A (execs st X.env) (SP X pins D) X.xe s
theorem aH {α:Type} {t:Sem α} {Q Q':α→Shared→Prop} {M:Model} {A:Around} {E:Value→Shared→Prop} {s:Shared} (h:wpAny M A t Q E s) (hQ: ∀a s,Q a s→Q' a s):wpAny M A t Q' E s:=wpAny_mono h hQ fun _ _ x=>x
end L2
namespace L2
open PySem PySem.Spec PyProof.Rows
section
variable {X:Cx}
def cZ (i:Nat):TE:=fun σ H Q=> ∃v,σ[i]?=some (some v)∧Q v H
def tC (v:V):TE:=fun _ H Q=>Q v H
theorem Sf {i:Nat} {x:Str} {pos:Pos} (hN:X.N[i]?=some x) (hv:kU X.env.scope x) (hd:(x==("__debug__" :Str))=false:=by decide) (hcd:(x==("__classdict__" :Str))=false:=by decide):PE X (.Name x pos) (cZ i):=by
 intro pins s σ H Q I h
 obtain ⟨v,e,h⟩:=h
 obtain ⟨m,hn,hl⟩:=I.loc
 obtain ⟨u,r,l⟩:=hl i x v hN e hv
 have fin:EP X pins σ Q u s:=⟨v,H,I,r,h⟩
 rcases l with ⟨hk,hm⟩|⟨hk,c,hc,hcell⟩
 ·exact wpAny_Name (wpAny_loadName_local I.ok.kind hk hn hm fin) hd
 ·rcases hk with hk|hk
  ·exact wpAny_Name (wpAny_loadName_cell I.ok.kind hk hc hcell fin) hd
  ·exact wpAny_Name (wpAny_loadName_free I.ok.kind hk hc hcell fin hcd) hd
theorem au {i j pos}:PE X (.Constant (.int i) j pos) (tC (.int i)):=fun _ _ _ H _ I h=>wpAny_Constant_int ⟨.int i,H,I.tok _,⟨_,rfl⟩,h⟩
theorem Md {b j pos}:PE X (.Constant (.bool b) j pos) (tC (.bl b)):=fun _ _ _ H _ I h=>Constant_bool ⟨.bl b,H,I,rfl,h⟩
theorem gQ {j pos}:PE X (.Constant .none j pos) (tC .aD):=fun _ _ _ H _ I h=>Constant_none ⟨.aD,H,I,rfl,h⟩
def Gl (X:Cx) (x:Str):Prop:=X.env.kindOf x=some .globalImplicit
theorem kf {E:Value→Shared→Prop} {pins:List (Addr×Obj)} {s:Shared} {σ:St} {H:Hp} {x:Str} {u:Value} {pos:Pos} {Q:Value→Shared→Prop} (I:Inv X pins σ H s) (hg:Gl X x) (hm:X.mg x=some u) (h:Q u s)
  (hd:(x==("__debug__" :Str))=false:=by decide):wpAny (model X.prog X.w) X.A (eval (.Name x pos) X.env) Q E s:=
 Calls.Name_function_global I.ok.kind hg (Calls.loadGlobal_global (by rw[I.ok.glob];exact I.mod.glob.keeps I.bk) hm h) hd
theorem ia {E:Value→Shared→Prop} {pins:List (Addr×Obj)} {s:Shared} {σ:St} {H:Hp} {x:Str} {u:Value} {pos:Pos} {Q:Value→Shared→Prop} (I:Inv X pins σ H s) (hg:Gl X x) (hm:X.mg x=none) (hv:bootBuiltins x=some u) (h:Q u s)
  (hn:x≠ "__name__" :=by decide) (hd:(x==("__debug__" :Str))=false:=by decide):wpAny (model X.prog X.w) X.A (eval (.Name x pos) X.env) Q E s:=by
 obtain ⟨mb,h1,h2⟩:=I.mod.blt
 exact Calls.Name_function_global I.ok.kind hg (Calls.loadGlobal_builtin (by rw[I.ok.glob];exact I.mod.glob.keeps I.bk) hm (by rw[I.ok.blt];exact h1.keeps I.bk) ((h2 x hn).trans hv) h) hd
theorem DK {x:Str} {v:V} {u:Value} {pos:Pos} (hg:Gl X x) (hm:X.mg x=some u) (r:RelV v u) (hd:(x==("__debug__" :Str))=false:=by decide):PE X (.Name x pos) (tC v):=
 fun _ _ _ H _ I h=>kf I hg hm ⟨v,H,I,r,h⟩ hd
variable {a b:Expr} {ta tb:TE} {pos:Pos}
def PC (X:Cx) (op:CmpOp) (a b:Expr) (t:TE):Prop:=
 ∀(pins:List (Addr×Obj)) (s:Shared) (σ:St) (H:Hp) (Q:VK),Inv X pins σ H s→t σ H Q→
  wpAny (model X.prog X.w) X.A (eval a X.env) (fun v s₁=>wpAny (model X.prog X.w) X.A (eval b X.env) (fun u s₂=>wpAny (model X.prog X.w) X.A (compareOp op v u) (EP X pins σ Q) X.xe s₂) X.xe s₁) X.xe s
theorem Rr (b:Expr) {op:CmpOp} (h:op≠ .In) (h2:op≠ .NotIn):behindInMarks op b=false:=by
 have e1:(op==CmpOp.In)=false:=by cases op<;>first|rfl|exact absurd rfl h
 have e2:(op==CmpOp.NotIn)=false:=by cases op<;>first|rfl|exact absurd rfl h2
 cases b<;>simp [behindInMarks,e1,e2]
def Dr (ta:TE):TE:=fun σ H Q=>ta σ H fun x H1=>Q (.bl (decide (x= .aD))) H1
def CI (ta:TE):TE:=fun σ H Q=>ta σ H fun x H1=>Q (.bl (!decide (x= .aD))) H1
theorem RelV.Cc {x:V} {v:Value} (r:RelV x v):(v==Value.none)=decide (x= .aD):=by
 cases x with
 |aD=>cases r;rfl
 |bl _=>cases r;rfl
 |int _=>obtain ⟨t,rfl⟩:=r;rfl
 |str _=>obtain ⟨t,rfl⟩:=r;rfl
 |dQ _=>obtain ⟨t,rfl⟩:=r;rfl
 |jq _=>obtain ⟨t,rfl⟩:=r;rfl
 |ref _=>cases r;rfl
 |ty _=>cases r;rfl
theorem vA {j pos'} (ha:PE X a ta):PC X .Is a (.Constant .none j pos') (Dr ta):=by
 intro pins s σ H Q I h
 refine aH (ha pins s σ H _ I h) fun v s1 ⟨x,H1,I1,r1,q1⟩=>?_
 exact Constant_none (is_none_gen ⟨.bl _,H1,I1,by rw[r1.Cc];rfl,q1⟩)
theorem Jl {j pos'} (ha:PE X a ta):PC X .IsNot a (.Constant .none j pos') (CI ta):=by
 intro pins s σ H Q I h
 refine aH (ha pins s σ H _ I h) fun v s1 ⟨x,H1,I1,r1,q1⟩=>?_
 exact Constant_none (isnot_none_gen ⟨.bl _,H1,I1,by rw[r1.Cc];rfl,q1⟩)
def tB (t:TE):TT:=fun σ H Q=>t σ H fun x H1=> ∃c,x= .bl c∧Q c H1
theorem rV {op:CmpOp} {t:TE} (h:PC X op a b t) (h1:behindInMarks op b=false:=by first|exact Rr _ (by decide) (by decide)|rfl):PT X (.Compare a [op] [b] pos) (tB t):=by
 intro pins s σ H Q I hw
 refine wpAny_isTrue_Compare1 (aH (h pins s σ H _ I hw) fun v s1 h1=>aH h1 fun u s2 h2=>aH h2 fun c s3 ⟨x,H1,I1,r1,q1⟩=>?_) h1
 obtain ⟨d,rfl,q⟩:=q1
 cases r1
 exact wpAny_truthy_bool ⟨H1,I1,q⟩
theorem jl {e:Expr} {t:TE} (h:PE X e t) (he: ∀whole,isTrue e X.env whole=(do let v←whole;standAt e.pos;holding [v] (truthy v)):=by intro _;rfl):PT X e (tB t):=by
 intro pins s σ H Q I hw
 refine isTrue_plain (aH (h pins s σ H _ I hw) fun v s1 ⟨x,H1,I1,r1,q1⟩=>?_) (he _)
 obtain ⟨d,rfl,q⟩:=q1
 cases r1
 exact wpAny_truthy_bool ⟨H1,I1,q⟩
variable {tA tB':TT} {rest:List Expr}
def Ef (t u:TT):TT:=fun σ H Q=>t σ H fun c H1=>if c=true then u σ H1 Q else Q false H1
def zP (t u:TT):TT:=fun σ H Q=>t σ H fun c H1=>if c=true then Q true H1 else u σ H1 Q
def B7 (t:TT):TT:=fun σ H Q=>t σ H fun c H1=>Q (!c) H1
theorem Jr (ha:PT X a tA):PW X (.BoolOp .And [a] pos) tA:=by
 intro wh pins s σ H Q I h
 refine isTrue_and (aH (ha pins s σ H Q I h) fun c s1 e=>?_)
 cases c with
 |true=>exact isTrue_and_nil e
 |false=>exact e
theorem sW (ha:PT X a tA):PW X (.BoolOp .Or [a] pos) tA:=by
 intro wh pins s σ H Q I h
 refine isTrue_or (aH (ha pins s σ H Q I h) fun c s1 e=>?_)
 cases c with
 |false=>exact isTrue_or_nil e
 |true=>exact e
theorem MF (ha:PT X a tA) (hb:PW X (.BoolOp .And (b::rest) pos) tB'):PW X (.BoolOp .And (a::b::rest) pos) (Ef tA tB'):=by
 intro wh pins s σ H Q I h
 refine isTrue_and (aH (ha pins s σ H _ I h) fun c s1 ⟨H1,I1,q1⟩=>?_)
 cases c with
 |true=>exact hb wh pins s1 σ H1 Q I1 q1
 |false=>exact ⟨H1,I1,q1⟩
theorem tE (ha:PT X a tA) (hb:PW X (.BoolOp .Or (b::rest) pos) tB'):PW X (.BoolOp .Or (a::b::rest) pos) (zP tA tB'):=by
 intro wh pins s σ H Q I h
 refine isTrue_or (aH (ha pins s σ H _ I h) fun c s1 ⟨H1,I1,q1⟩=>?_)
 cases c with
 |true=>exact ⟨H1,I1,q1⟩
 |false=>exact hb wh pins s1 σ H1 Q I1 q1
theorem tT (ha:PT X a tA):PT X (.UnaryOp .Not a pos) (B7 tA):=by
 intro pins s σ H Q I h
 exact isTrue_not (ha pins s σ H (fun c H1=>Q (!c) H1) I h)
def BG (ta tb:TE):TE:=fun σ H Q=>ta σ H fun x H1=> ∃c,x= .bl c∧if c=true then tb σ H1 Q else Q (.bl false) H1
def Ul (ta tb:TE):TE:=fun σ H Q=>ta σ H fun x H1=> ∃c,x= .bl c∧if c=true then Q (.bl true) H1 else tb σ H1 Q
theorem yq {op} {t:TE} (h:PE X a t):PE X (.BoolOp op [a] pos) t:=fun pins s σ H Q I hw=>BoolOp_one (h pins s σ H Q I hw)
theorem xE (ha:PE X a ta) (hb:PE X (.BoolOp .And (b::rest) pos) tb):PE X (.BoolOp .And (a::b::rest) pos) (BG ta tb):=by
 intro pins s σ H Q I h
 refine BoolOp_and (aH (ha pins s σ H _ I h) fun v s1 ⟨x,H1,I1,r1,q1⟩=>?_)
 obtain ⟨c,rfl,q1⟩:=q1
 cases r1
 refine wpAny_truthy_bool ?_
 cases c with
 |true=>exact hb pins s1 σ H1 Q I1 q1
 |false=>exact ⟨.bl false,H1,I1,rfl,q1⟩
theorem Ra (ha:PE X a ta) (hb:PE X (.BoolOp .Or (b::rest) pos) tb):PE X (.BoolOp .Or (a::b::rest) pos) (Ul ta tb):=by
 intro pins s σ H Q I h
 refine BoolOp_or (aH (ha pins s σ H _ I h) fun v s1 ⟨x,H1,I1,r1,q1⟩=>?_)
 obtain ⟨c,rfl,q1⟩:=q1
 cases r1
 refine wpAny_truthy_bool ?_
 cases c with
 |false=>exact hb pins s1 σ H1 Q I1 q1
 |true=>exact ⟨.bl true,H1,I1,rfl,q1⟩
def CY (t:TT) (ta tb:TE):TE:=fun σ H Q=>t σ H fun c H1=>if c=true then ta σ H1 Q else tb σ H1 Q
theorem jx {c:Expr} (hc:PT X c tA) (ha:PE X a ta) (hb:PE X b tb):PE X (.IfExp c a b pos) (CY tA ta tb):=by
 intro pins s σ H Q I h
 refine wpAny_IfExp (aH (hc pins s σ H _ I h) fun d s1 ⟨H1,I1,q1⟩=>?_)
 cases d with
 |true=>exact ha pins s1 σ H1 Q I1 q1
 |false=>exact hb pins s1 σ H1 Q I1 q1
end
end L2
namespace L2
open PySem PySem.Spec PyProof.Rows
def ae (K:PySem.W.Frag) (H:Hp) (a:Addr) (xs:List V):Prop:=
 Rd H a (.lst xs)∨
  ∃(o:Obj) (its:Array Value) (n:Nat),K.lookup a=some o∧o.cls= .type "list" ∧o.dict=none∧o.data= .seq its n∧its.size≤sizeLine∧Vals xs its.toList
def aZ (K:PySem.W.Frag) (H:Hp) (a:Addr) (xs:List V):Prop:=
 Rd H a (.tup xs)∨
  ∃(o:Obj) (its:Array Value) (n:Nat),K.lookup a=some o∧o.cls= .type "tuple" ∧o.data= .seq its n∧its.size≤sizeLine∧Vals xs its.toList
def GU:Value→Option V
 | .none=>some .aD
 | .bool b=>some (.bl b)
 | .int i _=>some (.int i)
 | .str x _=>some (.str x)
 | .bytes b _=>some (.dQ b)
 | .float b _=>some (.jq b)
 | .ref a=>some (.ref a)
 | .type n=>some (.ty n)
 |_=>none
theorem RelV.abs {x:V} {u:Value} (r:RelV x u):GU u=some x:=by
 cases x with
 |aD=>cases r;rfl
 |bl _=>cases r;rfl
 |int _=>obtain ⟨t,rfl⟩:=r;rfl
 |str _=>obtain ⟨t,rfl⟩:=r;rfl
 |dQ _=>obtain ⟨t,rfl⟩:=r;rfl
 |jq _=>obtain ⟨t,rfl⟩:=r;rfl
 |ref _=>cases r;rfl
 |ty _=>cases r;rfl
theorem RelV.inj {x y:V} {u:Value} (r:RelV x u) (q:RelV y u):x=y:=Option.some.inj (r.abs.symm.trans q.abs)
theorem Vals.inj: ∀{xs ys:List V} {us:List Value},Vals xs us→Vals ys us→xs=ys
 |_,_,_, .nil, .nil=>rfl
 |_,_,_, .cons r t, .cons r' t'=>by rw[r.inj r',Vals.inj t t']
section
variable {X:Cx} {pins:List (Addr×Obj)} {σ:St} {H:Hp} {s:Shared} {a:Addr} {xs ys:List V}
theorem ae.of {K:PySem.W.Frag} (h:H a=some (.lst xs)):ae K H a xs:= .inl (.inl h)
theorem aZ.of {K:PySem.W.Frag} (h:H a=some (.tup xs)):aZ K H a xs:= .inl (.inl h)
theorem Inv.list (I:Inv X pins σ H s) (h:ae X.K H a xs): ∃its:List Value,Vals xs its∧PlainL s.heap a its.toArray∧xs.length≤sizeLine:=by
 rcases h with h|⟨o,its,n,hk,hc,hd,hs,hz,r⟩
 ·obtain ⟨z,its,n,r,e⟩:=h.ok I.ax
  exact ⟨its,r,⟨_,n,e,rfl,rfl,rfl⟩,z⟩
 ·refine ⟨its.toList,r,⟨o,n,I.cI a o hk,hc,hd,by simpa using hs⟩,?_⟩
  have e:=r.length
  simp only [Array.length_toList] at e
  lia
theorem Inv.tuple (I:Inv X pins σ H s) (h:aZ X.K H a xs): ∃its:List Value,Vals xs its∧IsTup s.heap a its.toArray∧xs.length≤sizeLine:=by
 rcases h with h|⟨o,its,n,hk,hc,hs,hz,r⟩
 ·obtain ⟨z,its,r,p⟩:=h.ok I.ax
  exact ⟨its,r,p,z⟩
 ·refine ⟨its.toList,r,⟨o,I.cI a o hk,hc,n,by simpa using hs⟩,?_⟩
  have e:=r.length
  simp only [Array.length_toList] at e
  lia
theorem Inv.pL (I:Inv X pins σ H s) (h:ae X.K H a xs) (h':ae X.K H a ys):xs=ys:=by
 obtain ⟨its,r,⟨o,n,e,_,_,d⟩,_⟩:=I.list h
 obtain ⟨its',r',⟨o',n',e',_,_,d'⟩,_⟩:=I.list h'
 rw[e] at e';cases e'
 rw[d] at d'
 injection d' with d1 _
 have:its=its':=by simpa using congrArg Array.toList d1
 subst this
 exact r.inj r'
theorem Inv.Iq (I:Inv X pins σ H s) (h:aZ X.K H a xs) (h':aZ X.K H a ys):xs=ys:=by
 obtain ⟨its,r,⟨o,e,_,n,d⟩,_⟩:=I.tuple h
 obtain ⟨its',r',⟨o',e',_,n',d'⟩,_⟩:=I.tuple h'
 rw[e] at e';cases e'
 rw[d] at d'
 injection d' with d1 _
 have:its=its':=by simpa using congrArg Array.toList d1
 subst this
 exact r.inj r'
end
abbrev Cx.ij (X:Cx) (E:Value→Shared→Prop):Cx:={X with xe:=E}
abbrev Cx.qZ (X:Cx):Cx:=X.ij fun _ _=>False
theorem Cx.Ok.ij {X:Cx} (ok:X.Ok) (E:Value→Shared→Prop):(X.ij E).Ok:=
 ⟨ok.mod,ok.kind,ok.glob,ok.blt,ok.above,ok.inj,ok.has,ok.jz,ok.hd,ok.frames,ok.kO,ok.kF,ok.bs,ok.gn,ok.fB,ok.kc,ok.eQ,ok.iu⟩
theorem Cx.Ok.jk {X:Cx} {E:Value→Shared→Prop} (ok:(X.ij E).Ok):X.Ok:=
 ⟨ok.mod,ok.kind,ok.glob,ok.blt,ok.above,ok.inj,ok.has,ok.jz,ok.hd,ok.frames,ok.kO,ok.kF,ok.bs,ok.gn,ok.fB,ok.kc,ok.eQ,ok.iu⟩
section
variable {X:Cx} {pins:List (Addr×Obj)} {σ:St} {H:Hp} {s:Shared} {E:Value→Shared→Prop}
theorem Inv.ij (I:Inv X pins σ H s) (E:Value→Shared→Prop):Inv (X.ij E) pins σ H s:=⟨I.ok.ij E,I.os,I.bare,I.base,I.loc,I.cell,I.free,I.dZ,I.pin,I.ax,I.len⟩
theorem Inv.jk (I:Inv (X.ij E) pins σ H s):Inv X pins σ H s:=⟨I.ok.jk,I.os,I.bare,I.base,I.loc,I.cell,I.free,I.dZ,I.pin,I.ax,I.len⟩
theorem SP.jk {D:Ends} {f:Flow} {s':Shared} (h:SP (X.ij E) pins D f s'):SP X pins D f s':=by
 cases f with
 |next=>obtain ⟨σ',H',I,q⟩:=h;exact ⟨σ',H',I.jk,q⟩
 |brk=>obtain ⟨σ',H',I,q⟩:=h;exact ⟨σ',H',I.jk,q⟩
 |cont=>obtain ⟨σ',H',I,q⟩:=h;exact ⟨σ',H',I.jk,q⟩
 |ret u=>obtain ⟨v,σ',H',I,r,q⟩:=h;exact ⟨v,σ',H',I.jk,r,q⟩
theorem dS.qZ {st:List Stmt} {t:TS} (h:dS X.qZ st t):dS X st t:=fun pins s σ H D I hw=>
 wpAny_mono (h pins s σ H D (I.ij _) hw) (fun _ _ q=>q.jk) fun _ _ z=>False.elim z
end
section
variable {X:Cx} {st:Stmt} {rest:List Stmt} {t u:TS} {e:Expr} {te:TE} {pos:Pos}
def zf:TS:=fun D σ H=>D.nx σ H
def kv (t u:TS):TS:=fun D σ H=>t {D with nx:=u D} σ H
theorem bX:dS X [] zf:=fun _ _ σ H _ I h=>wpAny_execs_nil ⟨σ,H,I,h⟩
theorem ak (h1:PS X st t) (h2:dS X rest u):dS X (st::rest) (kv t u):=by
 intro pins s σ H D I h
 refine wpAny_execs_cons (aH (h1 pins s σ H {D with nx:=u D} I h) fun f s1 q=>?_)
 cases f with
 |next=>
  obtain ⟨σ',H',I',q⟩:=q
  exact h2 pins s1 σ' H' D I' q
 |ret v=>exact q
 |brk=>exact q
 |cont=>exact q
theorem aw (h1:PS X st t):dS X [st] t:=by
 intro pins s σ H D I h
 refine wpAny_execs_cons (aH (h1 pins s σ H D I h) fun f s1 q=>?_)
 cases f with
 |next=>exact wpAny_execs_nil q
 |ret v=>exact q
 |brk=>exact q
 |cont=>exact q
theorem Inv.quiet {pins:List (Addr×Obj)} {σ:St} {H:Hp} {s:Shared} (I:Inv X pins σ H s):interactive X.env=false:=by simp [interactive,I.ok.kind]
def rW (te:TE):TS:=fun D σ H=>te σ H fun _ H1=>D.nx σ H1
theorem ba (he:PE X e te) (hs:swapsWith e none pos.line X.env=pure false:=by rfl):PS X (.Expr e pos) (rW te):=by
 intro pins s σ H D I h
 exact wpAny_Expr_any (aH (he pins s σ H _ I h) fun v s1 ⟨x,H1,I1,r1,q1⟩=>⟨σ,H1,I1,q1⟩) I.quiet hs
def xQ (te:TE):TS:=fun D σ H=>te σ H D.rt
theorem aS (he:PE X e te):PS X (.Return (some e) pos) (xQ te):=by
 intro pins s σ H D I h
 exact wpAny_Return_some (aH (he pins s σ H _ I h) fun v s1 ⟨x,H1,I1,r1,q1⟩=>⟨x,σ,H1,I1,r1,q1⟩)
def CU:TS:=fun D _ H=>D.rt .aD H
theorem Ta:PS X (.Return none pos) CU:=fun _ _ σ H _ I h=>wpAny_Return_none ⟨.aD,σ,H,I,rfl,h⟩
def CL (c:TT) (t u:TS):TS:=fun D σ H=>c σ H fun b H1=>if b=true then t D σ H1 else u D σ H1
theorem bN {c:Expr} {a b:List Stmt} {tc:TT} (hc:PT X c tc) (ha:dS X a t) (hb:dS X b u):PS X (.If c a b pos) (CL tc t u):=by
 intro pins s σ H D I h
 refine wpAny_If (aH (hc pins s σ H _ I h) fun d s1 ⟨H1,I1,q1⟩=>?_)
 cases d with
 |true=>exact ha pins s1 σ H1 D I1 q1
 |false=>exact hb pins s1 σ H1 D I1 q1
end
abbrev TG:=V→St→Hp→(St→Hp→Prop)→Prop
abbrev ju:=List V→St→Hp→(St→Hp→Prop)→Prop
def PG (X:Cx) (target:Expr) (t:TG):Prop:=
 ∀(pins:List (Addr×Obj)) (s:Shared) (σ:St) (H:Hp) (v:V) (u:Value) (Q:St→Hp→Prop),Inv X pins σ H s→RelV v u→t v σ H Q→
  wpAny (model X.prog X.w) X.A (assign target X.env u) (fun _ s'=> ∃σ' H',Inv X pins σ' H' s'∧Q σ' H') X.xe s
def oO (X:Cx) (ts:List Expr) (t:ju):Prop:=
 ∀(pins:List (Addr×Obj)) (s:Shared) (σ:St) (H:Hp) (vs:List V) (us:List Value) (Q:St→Hp→Prop),Inv X pins σ H s→Vals vs us→t vs σ H Q→
  wpAny (model X.prog X.w) X.A (assignInOrder ((assignEach ts X.env).map (·.2)) us) (fun _ s'=> ∃σ' H',Inv X pins σ' H' s'∧Q σ' H') X.xe s
abbrev wY:=V→V→Hp→VK→Prop
def Jc (X:Cx) (op:Operator) (t:wY):Prop:=
 ∀(pins:List (Addr×Obj)) (s:Shared) (σ:St) (H:Hp) (x y:V) (v u:Value) (Q:VK),Inv X pins σ H s→RelV x v→RelV y u→t x y H Q→
  wpAny (model X.prog X.w) X.A (inplaceOp op v u) (EP X pins σ Q) X.xe s
section
variable {X:Cx} {pos:Pos}
def i9 (i:Nat):TG:=fun v σ H Q=>Q (σ.set i (some v)) H
theorem aT {i:Nat} {x:Str} (hN:X.N.Nodup) (hi:X.N[i]?=some x) (hx:Loc X.env.scope x) (hf:X.fn x=true∨X.env.scope.names.lookup x=some .local:=by first|exact .inl rfl|exact .inr rfl|assumption):PG X (.Name x pos) (i9 i):=by
 intro pins s σ H v u Q I r h
 exact wpAny_assign_Name (xV I hN hi hx r (fun s' I'=>⟨_,H,I',h⟩) hf)
def Df:ju:=fun vs σ H Q=>vs= []∧Q σ H
def BV (t:TG) (u:ju):ju:=fun vs σ H Q=> ∃v r,vs=v::r∧t v σ H fun σ' H'=>u r σ' H' Q
theorem iQ:oO X [] Df:=by
 intro pins s σ H vs us Q I r h
 obtain ⟨e,h⟩:=h
 subst e
 cases r
 exact assignInOrder_nil ⟨σ,H,I,h⟩
theorem dC {e:Expr} {es:List Expr} {t:TG} {u:ju} (h1:PG X e t) (h2:oO X es u)
  (hs:(assignEach (e::es) X.env).map (·.2)=assign e X.env::(assignEach es X.env).map (·.2):=by rfl):oO X (e::es) (BV t u):=by
 intro pins s σ H vs us Q I r h
 obtain ⟨v,vr,e1,h⟩:=h
 subst e1
 cases r with
 |cons r rr=>
  rw[hs]
  refine assignInOrder_cons (aH (h1 pins s σ H _ _ _ I r h) fun _ s1 ⟨σ1,H1,I1,q1⟩=>?_)
  exact h2 pins s1 σ1 H1 _ _ Q I1 rr q1
def uv (K:PySem.W.Frag) (n:Nat) (t:ju):TG:=fun v σ H Q=> ∃a xs,v= .ref a∧aZ K H a xs∧xs.length=n∧t xs σ H Q
theorem PF {es:List Expr} {k:Nat} {t:ju} {n:Nat} (hc:X.calm=true) (h:oO X es t)
  (hn:(assignEach es X.env).length=n:=by rfl) (hst:(assignEach es X.env).findIdx? (·.1)=none:=by rfl):PG X (.Tuple es k pos) (uv X.K n t):=by
 intro pins s σ H v u Q I r hw
 obtain ⟨a,xs,e1,hq,hl,hw⟩:=hw
 subst e1
 cases r
 obtain ⟨its,rv,ht,hz⟩:=I.tuple hq
 refine assign_Tuple_tuple (I.ok.hd hc) ht (by simp [hn,←hl,rv.length]) hst fun h' hx=>?_
 have I1:Inv X pins σ H {s with heap:=h'}:=I.kept (t':=s.toks) fun b o e=>hx b o (Nat.ne_of_lt (Heap.lt_size e)) e
 exact h pins _ σ H xs _ Q I1 (by simpa using rv) hw
def qk (te:TE) (g:TG):TS:=fun D σ H=>te σ H fun x H1=>g x σ H1 D.nx
theorem aI {i:Nat} {x:Str} {e:Expr} {te:TE} {pos':Pos} (hN:X.N.Nodup) (hi:X.N[i]?=some x) (hx:Loc X.env.scope x) (he:PE X e te) (hs:swapsWith e (some (.Name x pos')) pos.line X.env=pure false:=by rfl) (hf:X.fn x=true∨X.env.scope.names.lookup x=some .local:=by first|exact .inl rfl|exact .inr rfl|assumption):
  PS X (.Assign [.Name x pos'] e pos) (qk te (i9 i)):=by
 intro pins s σ H D I h
 refine wpAny_Assign_Name (aH (he pins s σ H _ I h) fun v s1 ⟨y,H1,I1,r1,q1⟩=>?_) hs
 exact xV I1 hN hi hx r1 (fun s2 I2=>⟨_,H1,I2,q1⟩) hf
def F2 (i:Nat) (te:TE) (ti:wY):TS:=fun D σ H=> ∃x,σ[i]?=some (some x)∧te σ H fun y H1=>ti x y H1 fun z H2=>D.nx (σ.set i (some z)) H2
theorem ie {i:Nat} {x:Str} {e:Expr} {te:TE} {op:Operator} {ti:wY} {pos':Pos} (hN:X.N.Nodup) (hi:X.N[i]?=some x) (hx:Loc X.env.scope x) (he:PE X e te) (ho:Jc X op ti) (hf:X.fn x=true∨X.env.scope.names.lookup x=some .local:=by first|exact .inl rfl|exact .inr rfl|assumption):
  PS X (.AugAssign (.Name x pos') op e pos) (F2 i te ti):=by
 intro pins s σ H D I h
 obtain ⟨v,e1,h⟩:=h
 obtain ⟨m,hn,hl⟩:=I.loc
 have vis:kU X.env.scope x:=by rcases hx with k|k;exact .inl k;exact .inr (.inl k)
 obtain ⟨u,r,l⟩:=hl i x v hi e1 vis
 refine wpAny_AugAssign_Name ?_
 have go:wpAny (model X.prog X.w) X.A (eval e X.env) (fun w s₂=>wpAny (model X.prog X.w) X.A (inplaceOp op u w) (fun r s₃=>wpAny (model X.prog X.w) X.A (storeName X.env x r) (fun _=>SP X pins D .next) X.xe s₃) X.xe s₂) X.xe s:=by
  refine aH (he pins s σ H _ I h) fun w s1 ⟨y,H1,I1,r1,q1⟩=>?_
  refine aH (ho pins s1 σ H1 v y u w _ I1 r r1 q1) fun z s2 ⟨zv,H2,I2,r2,q2⟩=>?_
  exact xV I2 hN hi hx r2 (fun s3 I3=>⟨_,H2,I3,q2⟩) hf
 rcases l with ⟨hk,hm⟩|⟨hk,c,hc,hcell⟩
 ·exact wpAny_loadName_local I.ok.kind hk hn hm go
 ·rcases hk with hk|hk
  ·exact wpAny_loadName_cell I.ok.kind hk hc hcell go
  ·rcases hx with k|k
   ·have:X.env.scope.names.lookup x=some .free:=hk
    rw[k] at this;cases this
   ·have:X.env.scope.names.lookup x=some .free:=hk
    rw[k] at this;cases this
end
section
variable {X:Cx} {pos:Pos}
def E2 (c:TT) (tb:TS):TS:=fun D σ H=> ∃W:Nat→St→Hp→Prop,(∃m,W m σ H)∧ ∀m σ H,W m σ H→
 c σ H fun b H1=>if b=true then∃N:St→Hp→Prop,(∀σ' H',N σ' H'→ ∃m',m'<m∧W m' σ' H')∧tb {D with nx:=N,ct:=N,bk:=D.nx} σ H1 else D.nx σ H1
theorem Qq {c:Expr} {body:List Stmt} {tc:TT} {tb:TS} (hp:PassesOwn (model X.prog X.w) X.A X.env X.xe) (hc:PT X c tc) (hb:dS X body tb):PS X (.While c body [] pos) (E2 tc tb):=by
 intro pins s σ H D I h
 obtain ⟨W,⟨m0,w0⟩,turn⟩:=h
 refine wpAny_While (codeAny_whileLoop (fun n s'=> ∃σ' H',Inv X pins σ' H' s'∧W n σ' H') ?_ m0 ⟨σ,H,I,w0⟩)
 rintro n s1 ⟨σ1,H1,I1,w1⟩
 refine wpAny_passesOwn hp (aH (hc pins s1 σ1 H1 _ I1 (turn n σ1 H1 w1)) fun b s2 ⟨H2,I2,q2⟩=>?_)
 cases b with
 |true=>
  obtain ⟨N,hN,q2⟩:=q2
  rw[if_pos rfl]
  refine wpAny_passesOwn hp (aH (hb pins s2 σ1 H2 _ I2 q2) fun f s3 q3=>?_)
  cases f with
  |next=>
   obtain ⟨σ3,H3,I3,n3⟩:=q3
   obtain ⟨m',hm,w3⟩:=hN σ3 H3 n3
   exact ⟨m',hm,σ3,H3,I3,w3⟩
  |cont=>
   obtain ⟨σ3,H3,I3,n3⟩:=q3
   obtain ⟨m',hm,w3⟩:=hN σ3 H3 n3
   exact ⟨m',hm,σ3,H3,I3,w3⟩
  |brk=>exact q3
  |ret v=>exact q3
 |false=>
  rw[if_neg Bool.false_ne_true]
  exact wpAny_execs_nil ⟨σ1,H2,I2,q2⟩
end
structure It where
 go:Nat→Hp→Prop
 fO:Nat→Hp→V→Hp→Prop
 stop:Nat→Hp→Prop
def fK (X:Cx) (pins:List (Addr×Obj)) (H:Hp) (b:Addr):Prop:=
 H b=none∧b≠X.env.locals∧b∉X.fs∧(b∈X.ex∨X.bB.heap.objs.size≤b)∧(∀x c,X.env.cells.lookup x=some c→c≠b)∧ ∀p∈X.pn++pins,p.1≠b
theorem Inv.jY {X:Cx} {pins:List (Addr×Obj)} {σ:St} {H H':Hp} {s:Shared} {b:Addr} (I:Inv X pins σ H s) (hb:s.heap.objs.size≤b) (hn:H' b=none):fK X pins H' b:=by
 refine ⟨hn,Nat.ne_of_gt (Nat.lt_of_lt_of_le I.lt hb),I.Pn hb, .inr (Nat.le_trans I.sz hb),fun x c e z=>?_,fun p hp z=>?_⟩
 ·obtain ⟨v,q⟩:=I.cell x c e
  exact absurd (Nat.lt_of_lt_of_le q.lt (by rw[z];exact hb)) (Nat.lt_irrefl _)
 ·exact absurd (Nat.lt_of_lt_of_le (Heap.lt_size (I.pin p hp).1) (by rw[z];exact hb)) (Nat.lt_irrefl _)
structure Turn (P:Program) (w:World) (K:PySem.W.Frag) (tg:Expr) (J:It) (fp:List Addr) (it:Addr) (tn:Nat→Heap→Prop):Prop where
 mem:it∈fp
 obj: ∀i h,tn i h→ ∀b∈fp,∃o,h.get? b=some o∧ ∀v,o.data≠ .cell v
 keep: ∀i h h',tn i h→(∀b∈fp,∀o,h.get? b=some o→h'.get? b=some o)→tn i h'
 item: ∀(X:Cx),X.prog=P→X.w=w→X.K=K→X.calm=true→ ∀(i:Nat) (pins:List (Addr×Obj)) (s:Shared) (σ:St) (H:Hp) (E:Value→Shared→Prop),Inv X pins σ H s→(∀b∈fp,fK X pins H b)→tn i s.heap→J.go i H→
  wpAny (model P w) X.A (pyNext (.ref it)) (fun r s1=> ∃u,r=some u∧
   wpAny (model P w) X.A (letOwnedTupleGo tg (.ref it) u) (fun _ s2=> ∃x H',Inv X pins σ H' s2∧RelV x u∧J.fO i H x H'∧tn (i+1) s2.heap∧ ∀b∈fp,H' b=none) E s1) E s
 done: ∀(X:Cx),X.prog=P→X.w=w→X.K=K→X.calm=true→ ∀(i:Nat) (pins:List (Addr×Obj)) (s:Shared) (σ:St) (H:Hp) (E:Value→Shared→Prop),Inv X pins σ H s→(∀b∈fp,fK X pins H b)→tn i s.heap→J.stop i H→
  wpAny (model P w) X.A (pyNext (.ref it)) (fun r s1=>r=none∧Inv X pins σ H s1) E s
 self: ∀(A:Around) (i:Nat) (s:Shared) (Q:Value→Shared→Prop) (E:Value→Shared→Prop),tn i s.heap→Q (.ref it) s→wpAny (model P w) A (pyIter (.ref it)) Q E s
abbrev TI:=St→Hp→(It→Hp→Prop)→Prop
def uI (X:Cx) (pins:List (Addr×Obj)) (σ:St) (tg:Expr) (R:It→Hp→Prop) (itv:Value) (s2:Shared):Prop:=
 ∃(it:Addr) (fp:List Addr) (tn:Nat→Heap→Prop) (J:It) (H':Hp),itv= .ref it∧Inv X pins σ H' s2∧Turn X.prog X.w X.K tg J fp it tn∧tn 0 s2.heap∧(∀b∈fp,fK X pins H' b)∧R J H'
def PI (X:Cx) (tg iter:Expr) (wi:TI):Prop:=
 ∀(pins:List (Addr×Obj)) (s:Shared) (σ:St) (H:Hp) (R:It→Hp→Prop),Inv X pins σ H s→wi σ H R→
  wpAny (model X.prog X.w) X.A (eval iter X.env) (fun v s1=>wpAny (model X.prog X.w) X.A (pyIter v) (uI X pins σ tg R) X.xe s1) X.xe s
theorem vF {M:Model} {A:Around} {E:Value→Shared→Prop} {s:Shared} {tg:Expr} {it:Addr} {u:Value} {o:Obj} {n:String} {vs:Array Value} {Q:Unit→Shared→Prop} (ho:s.heap.get? it=some o) (hc:o.cls= .type n) (hd:o.data= .fields vs)
  (hn: ["enumerate", "zip", "dict_itemiterator", "dict_reverseitemiterator", "odict_iterator", "itertools.zip_longest", "itertools.pairwise"].contains n=false) (hQ:Q () s):wpAny M A (letOwnedTupleGo tg (.ref it) u) Q E s:=by
 unfold letOwnedTupleGo
 cases tg<;>first
  |exact wpAny_pure hQ
  |(cases u<;>first
    |exact wpAny_pure hQ
    |(refine wpAny_bind (wpAny_load ho ?_)
      rw[hc,hd]
      show wpAny M A (if (["enumerate", "zip", "dict_itemiterator", "dict_reverseitemiterator", "odict_iterator", "itertools.zip_longest", "itertools.pairwise"].contains n&&vs[0]?==some (rawInt _))=true then _ else _) Q E s
      rw[if_neg (by intro h;rw[hn,Bool.false_and] at h;cases h)]
      exact wpAny_pure hQ))
def dH (K:PySem.W.Frag) (a:Addr):It:=
 ⟨fun i H=> ∃xs x,ae K H a xs∧xs[i]?=some x,fun i H x H'=>H'=H∧ ∀xs,ae K H a xs→xs[i]?=some x,fun i H=> ∃xs,ae K H a xs∧xs.length≤i⟩
def fX (lo:Int) (n:Nat):It:=⟨fun i _=>i<n,fun i H x H'=>H'=H∧x= .int (lo+i),fun i _=>n≤i⟩
theorem IT {P:Program} {w:World} {K:PySem.W.Frag} {tg:Expr} (a it:Addr):Turn P w K tg (dH K a) [it] it (fun i h=>h.IsListIter it a i) where
 mem:=by simp
 obj:=fun i h st b hb=>by
  have e:b=it:=by simpa using hb
  subst e
  obtain ⟨o,e,c,d⟩:=st
  exact ⟨o,e,fun v z=>by rw[d] at z;cases z⟩
 keep:=fun i h h' st k=>st.at fun o e=>k it (by simp) o e
 item:=by
  intro X hP hw hK hc i pins s σ H E I hf st hg
  subst hP hw hK
  obtain ⟨xs,x,hq,hx⟩:=hg
  obtain ⟨its,rv,p,hz⟩:=I.list hq
  obtain ⟨u,hu,ru⟩:=rv.get hx
  obtain ⟨f0,f1,f2,f3,f4,f5⟩:=hf it (by simp)
  refine wpAny_pyNext_list_item st p.isList (x:=u) (by simpa using hu) fun h' st' sb=>?_
  have I1:Inv X pins σ H {s with heap:=h'}:=I.turned (t':=s.toks) (fun b o hb e=>(sb.2 b hb).trans e) f0 f1 f3 f4 f5
  obtain ⟨o,e,c,d⟩:=id st'
  exact ⟨u,rfl,vF (s:={s with heap:=h'}) e c d (by decide) ⟨x,H,I1,ru,⟨rfl,fun ys hy=>by rw[I.pL hy hq];exact hx⟩,st',fun b hb=>(hf b hb).1⟩⟩
 done:=by
  intro X hP hw hK hc i pins s σ H E I hf st hg
  subst hP hw hK
  obtain ⟨xs,hq,hx⟩:=hg
  obtain ⟨its,rv,p,hz⟩:=I.list hq
  obtain ⟨f0,f1,f2,f3,f4,f5⟩:=hf it (by simp)
  have hl:=rv.length
  exact wpAny_pyNext_list_end (I.ok.hd hc) st p.isList (by simp;lia) fun h' eb=>⟨rfl,I.turned (t':=s.toks) (fun b o hb e=>eb b o hb e) f0 f1 f3 f4 f5⟩
 self:=fun _ _ _ _ _ st h=>wpAny_pyIter_listiter st h
theorem O1 {P:Program} {w:World} {K:PySem.W.Frag} {tg:Expr} (it:Addr) (lo:Int) (n:Nat):Turn P w K tg (fX lo n) [it] it (fun i h=>IsRangeIter h it (lo+(i:Nat)*1) ((n:Int)-(i:Nat)) 1) where
 mem:=by simp
 obj:=fun i h st b hb=>by
  have e:b=it:=by simpa using hb
  subst e
  exact ⟨_,st,fun v z=>by
   have z':Data.fields _=Data.cell v:=z
   cases z'⟩
 keep:=fun i h h' st k=>k it (by simp) _ st
 item:=by
  intro X hP hw hK hc i pins s σ H E I hf st hg
  subst hP hw hK
  obtain ⟨f0,f1,f2,f3,f4,f5⟩:=hf it (by simp)
  have W:=Walks.range (prog:=X.prog) (w:=X.w) (I.ok.hd hc) it lo 1 n
  refine W.item i s _ _ hg st fun v h' tk hv st' kk=>?_
  obtain ⟨t,rfl⟩:=hv
  have I1:Inv X pins σ H {s with heap:=h',toks:=tk}:=I.turned (fun b o hb e=>kk b o (by simpa using hb) e) f0 f1 f3 f4 f5
  refine ⟨_,rfl,vF (s:={s with heap:=h',toks:=tk}) (n:= "range_iterator") st' rfl rfl (by decide) ⟨.int (lo+i),H,I1,⟨t,?_⟩,⟨rfl,rfl⟩,st',fun b hb=>(hf b hb).1⟩⟩
  rw[Int.mul_one]
 done:=by
  intro X hP hw hK hc i pins s σ H E I hf st hg
  subst hP hw hK
  obtain ⟨f0,f1,f2,f3,f4,f5⟩:=hf it (by simp)
  exact wpAny_pyNext_range_end (I.ok.hd hc) st (by have:n≤i:=hg;lia) fun h' eb=>⟨rfl,I.turned (t':=s.toks) (fun b o hb e=>eb b o hb e) f0 f1 f3 f4 f5⟩
 self:=fun _ _ _ _ _ st h=>wpAny_pyIter_rangeiter st h
end L2
namespace L2
open PySem PySem.Spec PyProof.Rows
section
variable {X:Cx} {tg:Expr}
def uS (K:PySem.W.Frag) (tl:TE):TI:=fun σ H R=>tl σ H fun x H1=> ∃a,x= .ref a∧(∃xs,ae K H1 a xs)∧R (dH K a) H1
theorem cg {l:Expr} {tl:TE} (hl:PE X l tl):PI X tg l (uS X.K tl):=by
 intro pins s σ H R I h
 refine aH (hl pins s σ H _ I h) fun v s1 ⟨x,H1,I1,r1,q1⟩=>?_
 obtain ⟨a,e,⟨xs,hq⟩,q⟩:=q1
 subst e
 cases r1
 obtain ⟨its,rv,p,hz⟩:=I1.list hq
 refine wpAny_pyIter_list p.isList ?_
 refine ⟨s1.heap.objs.size, [s1.heap.objs.size],_,_,H1,rfl,I1.kept (t':=s1.toks) fun b o e=>Heap.get?_push_of_some _ e,IT a _,⟨_,Heap.get?_push_size _ rfl,rfl,rfl⟩,fun b hb=>?_,q⟩
 have e:b=s1.heap.objs.size:=by simpa using hb
 subst e
 exact I1.jY (Nat.le_refl _) (I1.ax.fresh (Nat.le_refl _))
theorem AF {pins:List (Addr×Obj)} {σ:St} {H:Hp} {s:Shared} {R:It→Hp→Prop} {E:Value→Shared→Prop} {lo hi:Int} {t u v:Tok} {tk:Nat} (I:Inv X pins σ H s) (h1: -(2^62)≤lo) (h2:lo<2^62) (h3: -(2^62)≤hi) (h4:hi<2^62)
  (q:R (fX lo (hi-lo).toNat) H):wpAny (model X.prog X.w) X.A (pyIter (.ref s.heap.objs.size)) (uI X pins σ tg R) E {s with heap:=s.heap.push {cls:= .type "range",data:= .fields #[.int lo t, .int hi u, .int 1 v]},toks:=tk}:=by
 refine wpAny_pyIter_range (IsRange.new ..) (small_one h1 h2 h3 h4) ?_
 have I1:Inv X pins σ H {s with heap:=s.heap.push {cls:= .type "range",data:= .fields #[.int lo t, .int hi u, .int 1 v]},toks:=tk}:=I.kept fun b o e=>Heap.get?_push_of_some _ e
 refine ⟨(s.heap.push {cls:= .type "range",data:= .fields #[.int lo t, .int hi u, .int 1 v]}).objs.size, [(s.heap.push {cls:= .type "range",data:= .fields #[.int lo t, .int hi u, .int 1 v]}).objs.size],_,_,H,rfl,
  I1.kept (t':=tk) fun b o e=>Heap.get?_push_of_some _ e,O1 _ lo (hi-lo).toNat,?_,fun b hb=>?_,q⟩
 ·have e1:lo+((0:Nat):Int)*1=lo:=by simp
  have e2:(((hi-lo).toNat:Nat):Int)-((0:Nat):Int)=Builtin.Range.rangeSize lo hi 1:=by rw[rangeSize_one];split<;>lia
  show IsRangeIter _ _ (lo+((0:Nat):Int)*1) ((((hi-lo).toNat:Nat):Int)-((0:Nat):Int)) 1
  rw[e1,e2]
  exact Heap.get?_push_size _ rfl
 ·have e:b=(s.heap.push {cls:= .type "range",data:= .fields #[.int lo t, .int hi u, .int 1 v]}).objs.size:=by simpa using hb
  subst e
  exact I1.jY (Nat.le_refl _) (I1.ax.fresh (Nat.le_refl _))
def Bi (ta:TA):TI:=fun σ H R=>ta σ H fun vs H1=> ∃j:Int,vs= [.int j]∧ -(2^62)≤j∧j<2^62∧R (fX 0 j.toNat) H1
def E1 (ta:TA):TI:=fun σ H R=>ta σ H fun vs H1=> ∃i j:Int,vs= [.int i, .int j]∧(-(2^62)≤i∧i<2^62∧ -(2^62)≤j∧j<2^62)∧R (fX i (j-i).toNat) H1
theorem jh {a:Expr} {ta:TA} {p pos:Pos} (hg:Gl X "range") (hm:X.mg "range" =none) (ha:PA X [a] ta) (hs:starEach [a] X.env= [(false,eval a X.env)]:=by rfl):PI X tg (.Call (.Name "range" p) [a] [] pos) (Bi ta):=by
 intro pins s σ H R I h
 refine Call_ (ia I hg hm boot_range (PyProof.Rows.callWith_type1 (aH (ha pos pins s σ H _ I h) fun us s1 ⟨vs,H1,I1,r1,q1⟩=>?_) hs rfl))
 obtain ⟨j,e,q1,q2,q⟩:=q1
 subst e
 cases r1 with
 |cons r rr=>
  cases rr
  obtain ⟨t,rfl⟩:=r
  exact call_range_1 (AF I1 (by lia) (by lia) q1 q2 (by simpa using q))
theorem yI {a b:Expr} {ta:TA} {p pos:Pos} (hg:Gl X "range") (hm:X.mg "range" =none) (ha:PA X [a,b] ta) (hs:starEach [a,b] X.env= [(false,eval a X.env),(false,eval b X.env)]:=by rfl) (hs2:starEach [b] X.env= [(false,eval b X.env)]:=by rfl):
  PI X tg (.Call (.Name "range" p) [a,b] [] pos) (E1 ta):=by
 intro pins s σ H R I h
 refine Call_ (ia I hg hm boot_range (PyProof.Rows.callWith_type1 (aH (ha pos pins s σ H _ I h) fun us s1 ⟨vs,H1,I1,r1,q1⟩=>?_) (by rw[hs,hs2]) (by rw[hs2];rfl)))
 obtain ⟨i,j,e,⟨q1,q2,q3,q4⟩,q⟩:=q1
 subst e
 cases r1 with
 |cons r rr=>
  cases rr with
  |cons r' rr=>
   cases rr
   obtain ⟨t,rfl⟩:=r
   obtain ⟨t',rfl⟩:=r'
   exact call_range_2 (AF I1 q1 q2 q3 q4 q)
def Dq (wi:TI) (g:TG) (tb:TS):TS:=fun D σ H=>wi σ H fun J H1=> ∃W:Nat→Nat→St→Hp→Prop,(∃m,W 0 m σ H1)∧ ∀i m σ H,W i m σ H→
 (J.stop i H∧D.nx σ H)∨(J.go i H∧ ∃N:St→Hp→Prop,(∀σ' H',N σ' H'→ ∃m',m'<m∧W (i+1) m' σ' H')∧ ∀x H',J.fO i H x H'→g x σ H' fun σ2 H2=>tb {D with nx:=N,ct:=N,bk:=D.nx} σ2 H2)
def lH (fp:List Addr) (h:Heap):List (Addr×Obj):=fp.filterMap fun b=>(h.get? b).map fun o=>(b,o)
theorem uk {fp:List Addr} {h:Heap} {b:Addr} {o:Obj} (hb:b∈fp) (e:h.get? b=some o):(b,o)∈lH fp h:=List.mem_filterMap.mpr ⟨b,hb,by rw[e];rfl⟩
theorem MG {fp:List Addr} {h:Heap} {p:Addr×Obj} (hp:p∈lH fp h):p.1∈fp∧h.get? p.1=some p.2:=by
 obtain ⟨b,hb,e⟩:=List.mem_filterMap.mp hp
 cases q:h.get? b with
 |none=>rw[q] at e;cases e
 |some o=>
  rw[q] at e
  have e':(b,o)=p:=Option.some.inj e
  subst e'
  exact ⟨hb,q⟩
theorem Inv.pinned {pins:List (Addr×Obj)} {σ:St} {H:Hp} {s:Shared} {fp:List Addr} (I:Inv X pins σ H s) (hf: ∀b∈fp,fK X pins H b) (ho: ∀b∈fp,∃o,s.heap.get? b=some o∧ ∀v,o.data≠ .cell v):Inv X (pins++lH fp s.heap) σ H s:=
 I.EH fun p hp=>(List.mem_append.mp hp).elim (fun z=>I.pin p (List.mem_append_right _ z)) fun z=>by
  obtain ⟨hb,e⟩:=MG z
  obtain ⟨f0,f1,f2,_⟩:=hf p.1 hb
  obtain ⟨o,e',d⟩:=ho p.1 hb
  rw[e] at e';cases e'
  exact ⟨e,f0,f1,f2,d⟩
theorem Inv.tL {pins pl:List (Addr×Obj)} {σ:St} {H:Hp} {s:Shared} (I:Inv X (pins++pl) σ H s):Inv X pins σ H s:=I.EH fun p hp=>I.pin p (List.mem_append_right _ (List.mem_append_left _ hp))
theorem cv {iter:Expr} {body:List Stmt} {wi:TI} {g:TG} {tb:TS} {pos:Pos} (hp:PassesOwn (model X.prog X.w) X.A X.env X.xe) (hc:X.calm=true) (hi:PI X tg iter wi) (hg:PG X tg g) (hb:dS X body tb)
  (hs: ∀x,foldedSetIterable iter X.env x=pure x:=by intro _;rfl):PS X (.For tg iter body [] pos) (Dq wi g tb):=by
 intro pins s σ H D I h
 refine wpAny_For (aH (hi pins s σ H _ I h) fun v s1 h1=>aH h1 fun itv s2 h2=>?_) hs
 obtain ⟨it,fp,tn,J,H2,e,I2,T,st2,f2,W,⟨m0,w0⟩,turn⟩:=h2
 subst e
 have stat: ∀{H':Hp},(∀b∈fp,H' b=none)→ ∀b∈fp,fK X pins H' b:=fun hn b hb=>⟨hn b hb,(f2 b hb).2⟩
 refine codeAny_forLoop_any (fun n s'=> ∃i σ' H',Inv X pins σ' H' s'∧tn i s'.heap∧(∀b∈fp,H' b=none)∧W i n σ' H') ?_ m0 ⟨0,σ,H2,I2,st2,fun b hb=>(f2 b hb).1,w0⟩
 rintro n s3 ⟨i,σ3,H3,I3,st3,fr3,w3⟩
 rcases turn i n σ3 H3 w3 with ⟨stop,qn⟩|⟨go,N,hN,step⟩
 ·refine wpAny_passesOwn hp (aH (T.done X rfl rfl rfl hc i pins s3 σ3 H3 X.xe I3 (stat fr3) st3 stop) fun r s4 ⟨hr,I4⟩=>?_)
  subst hr
  exact wpAny_execs_nil ⟨σ3,H3,I4,qn⟩
 ·refine wpAny_passesOwn hp (aH (T.item X rfl rfl rfl hc i pins s3 σ3 H3 X.xe I3 (stat fr3) st3 go) fun r s4 ⟨u,hr,h4⟩=>?_)
  subst hr
  refine wpAny_passesOwn hp (aH h4 fun _ s5 ⟨x,H5,I5,r5,y5,st5,fr5⟩=>?_)
  have I5':=I5.pinned (stat fr5) (T.obj _ _ st5)
  refine wpAny_passesOwn hp (aH (hg _ s5 σ3 H5 x u _ I5' r5 (step x H5 y5)) fun _ s6 ⟨σ6,H6,I6,q6⟩=>?_)
  refine wpAny_passesOwn hp (aH (hb _ s6 σ6 H6 _ I6 q6) fun f s7 q7=>?_)
  have again: ∀{σ7:St} {H7:Hp},Inv X (pins++lH fp s5.heap) σ7 H7 s7→N σ7 H7→ ∃m,m<n∧ ∃i σ' H',Inv X pins σ' H' s7∧tn i s7.heap∧(∀b∈fp,H' b=none)∧W i m σ' H':=fun {σ7 H7} I7 n7=>by
   obtain ⟨m',hm,w7⟩:=hN σ7 H7 n7
   refine ⟨m',hm,i+1,σ7,H7,I7.tL,T.keep _ _ _ st5 fun b hb o e=>(I7.pin (b,o) (List.mem_append_right _ (List.mem_append_right _ (uk hb e)))).1,fun b hb=>?_,w7⟩
   obtain ⟨o,e,d⟩:=T.obj _ _ st5 b hb
   exact (I7.pin (b,o) (List.mem_append_right _ (List.mem_append_right _ (uk hb e)))).2.1
  cases f with
  |next=>obtain ⟨σ7,H7,I7,n7⟩:=q7;exact again I7 n7
  |cont=>obtain ⟨σ7,H7,I7,n7⟩:=q7;exact again I7 n7
  |brk=>obtain ⟨σ7,H7,I7,q7⟩:=q7;exact ⟨σ7,H7,I7.tL,q7⟩
  |ret v=>obtain ⟨x7,σ7,H7,I7,r7,q7⟩:=q7;exact ⟨x7,σ7,H7,I7.tL,r7,q7⟩
end
theorem eA {K:PySem.W.Frag} {a:Addr} {xs:List V} {g:TG} {tb:TS} {D:Ends} {σ:St} {H:Hp} (Pv:Nat→St→Hp→Prop) (h0:Pv 0 σ H) (hl: ∀i σ H,i≤xs.length→Pv i σ H→ae K H a xs)
  (hs: ∀i x σ H,xs[i]?=some x→Pv i σ H→g x σ H fun σ2 H2=>tb {D with nx:=Pv (i+1),ct:=Pv (i+1),bk:=D.nx} σ2 H2) (hd: ∀σ H,Pv xs.length σ H→D.nx σ H):
  ∃W:Nat→Nat→St→Hp→Prop,(∃m,W 0 m σ H)∧ ∀i m σ H,W i m σ H→
   ((dH K a).stop i H∧D.nx σ H)∨((dH K a).go i H∧ ∃N:St→Hp→Prop,(∀σ' H',N σ' H'→ ∃m',m'<m∧W (i+1) m' σ' H')∧ ∀x H',(dH K a).fO i H x H'→g x σ H' fun σ2 H2=>tb {D with nx:=N,ct:=N,bk:=D.nx} σ2 H2):=by
 refine ⟨fun i m σ H=>m=xs.length-i∧i≤xs.length∧Pv i σ H,⟨xs.length,by simp,Nat.zero_le _,h0⟩,?_⟩
 rintro i m σ H ⟨rfl,hi,p⟩
 have q:=hl i σ H hi p
 by_cases hlt:i<xs.length
 ·refine .inr ⟨⟨xs,xs[i],q,by simp [hlt]⟩,Pv (i+1),fun σ' H' p'=>⟨xs.length-(i+1),by lia,rfl,hlt,p'⟩,fun x H' y=>?_⟩
  obtain ⟨e,y⟩:=y
  subst e
  exact hs i x σ _ (y xs q) p
 ·have e:i=xs.length:=by lia
  subst e
  exact .inl ⟨⟨xs,q,Nat.le_refl _⟩,hd σ H p⟩
theorem jE {lo:Int} {n:Nat} {g:TG} {tb:TS} {D:Ends} {σ:St} {H:Hp} (Pv:Nat→St→Hp→Prop) (h0:Pv 0 σ H)
  (hs: ∀i σ H,i<n→Pv i σ H→g (.int (lo+i)) σ H fun σ2 H2=>tb {D with nx:=Pv (i+1),ct:=Pv (i+1),bk:=D.nx} σ2 H2) (hd: ∀σ H,Pv n σ H→D.nx σ H):
  ∃W:Nat→Nat→St→Hp→Prop,(∃m,W 0 m σ H)∧ ∀i m σ H,W i m σ H→
   ((fX lo n).stop i H∧D.nx σ H)∨((fX lo n).go i H∧ ∃N:St→Hp→Prop,(∀σ' H',N σ' H'→ ∃m',m'<m∧W (i+1) m' σ' H')∧ ∀x H',(fX lo n).fO i H x H'→g x σ H' fun σ2 H2=>tb {D with nx:=N,ct:=N,bk:=D.nx} σ2 H2):=by
 refine ⟨fun i m σ H=>m=n-i∧i≤n∧Pv i σ H,⟨n,by simp,Nat.zero_le _,h0⟩,?_⟩
 rintro i m σ H ⟨rfl,hi,p⟩
 by_cases hlt:i<n
 ·refine .inr ⟨hlt,Pv (i+1),fun σ' H' p'=>⟨n-(i+1),by lia,rfl,hlt,p'⟩,fun x H' y=>?_⟩
  obtain ⟨e,y⟩:=y
  subst e y
  exact hs i σ _ hlt p
 ·have e:i=n:=by lia
  subst e
  exact .inl ⟨Nat.le_refl _,hd σ H p⟩
end L2
namespace L2
open PySem PySem.Spec PyProof.Rows
abbrev R2:=V→V→Hp→VK→Prop
def bq (X:Cx) (f:Value→Value→Sem Value) (r:R2):Prop:=
 ∀(pins:List (Addr×Obj)) (s:Shared) (σ:St) (H:Hp) (x y:V) (v u:Value) (Q:VK),Inv X pins σ H s→RelV x v→RelV y u→r x y H Q→
  wpAny (model X.prog X.w) X.A (f v u) (EP X pins σ Q) X.xe s
def yT (X:Cx) (f:Value→Sem Value) (r:V→Hp→VK→Prop):Prop:=
 ∀(pins:List (Addr×Obj)) (s:Shared) (σ:St) (H:Hp) (x:V) (v:Value) (Q:VK),Inv X pins σ H s→RelV x v→r x H Q→
  wpAny (model X.prog X.w) X.A (f v) (EP X pins σ Q) X.xe s
def fk (X:Cx) (f:Value) (r:List V→Hp→VK→Prop):Prop:=
 ∀(pins:List (Addr×Obj)) (s:Shared) (σ:St) (H:Hp) (xs:List V) (us:List Value) (Q:VK),Inv X pins σ H s→Vals xs us→r xs H Q→
  wpAny (model X.prog X.w) X.A (call f us) (EP X pins σ Q) X.xe s
def fS (r:R2) (ta tb:TE):TE:=fun σ H Q=>ta σ H fun x H1=>tb σ H1 fun y H2=>r x y H2 Q
def FD (r:V→Hp→VK→Prop) (ta:TE):TE:=fun σ H Q=>ta σ H fun x H1=>r x H1 Q
def rI (C:Int→Int→Prop) (g:Int→Int→V):R2:=fun x y H Q=> ∃i j,x= .int i∧y= .int j∧C i j∧Q (g i j) H
def du (g:Int→Int→V):R2:=fun x y H Q=> ∃i j,x= .int i∧y= .int j∧Q (g i j) H
def rU (g:Int→V):V→Hp→VK→Prop:=fun x H Q=> ∃i,x= .int i∧Q (g i) H
section
variable {X:Cx} {a b c:Expr} {ta tb tc:TE} {pos:Pos}
theorem vE (ha:PE X a ta) (hb:PE X b tb) {pins:List (Addr×Obj)} {s:Shared} {σ:St} {H:Hp} {R:V→V→Hp→Prop} (I:Inv X pins σ H s)
  (h:ta σ H fun x H1=>tb σ H1 fun y H2=>R x y H2) {Q:Value→Shared→Prop} {f:Value→Value→Sem Value}
  (hf: ∀v u s2 x y H2,Inv X pins σ H2 s2→RelV x v→RelV y u→R x y H2→wpAny (model X.prog X.w) X.A (f v u) Q X.xe s2):
  wpAny (model X.prog X.w) X.A (eval a X.env) (fun v s₁=>wpAny (model X.prog X.w) X.A (eval b X.env) (fun u s₂=>wpAny (model X.prog X.w) X.A (f v u) Q X.xe s₂) X.xe s₁) X.xe s:=by
 refine aH (ha pins s σ H _ I h) fun v s1 ⟨x,H1,I1,r1,q1⟩=>?_
 refine aH (hb pins s1 σ H1 _ I1 q1) fun u s2 ⟨y,H2,I2,r2,q2⟩=>?_
 exact hf v u s2 x y H2 I2 r1 r2 q2
theorem aq {op:Operator} {r:R2} (ho:bq X (binaryOp op) r) (ha:PE X a ta) (hb:PE X b tb):PE X (.BinOp a op b pos) (fS r ta tb):=by
 intro pins s σ H Q I h
 exact wpAny_BinOp (vE ha hb I h fun v u s2 x y H2 I2 rx ry q=>ho pins s2 σ H2 x y v u Q I2 rx ry q)
theorem dB {op:UnaryOp} {r:V→Hp→VK→Prop} (ho:yT X (unaryOp op) r) (ha:PE X a ta):PE X (.UnaryOp op a pos) (FD r ta):=by
 intro pins s σ H Q I h
 exact UnaryOp_ (aH (ha pins s σ H _ I h) fun v s1 ⟨x,H1,I1,r1,q1⟩=>ho pins s1 σ H1 x v Q I1 r1 q1)
theorem iS {f:Value→Value→Sem Value} {C:Int→Int→Prop} {g:Int→Int→Int}
  (rule: ∀(i j:Int) (t u:Tok) (s:Shared) (Q:Value→Shared→Prop) (E:Value→Shared→Prop),C i j→Q (.int (g i j) s.toks) {s with toks:=s.toks+1}→wpAny (model X.prog X.w) X.A (f (.int i t) (.int j u)) Q E s):
  bq X f (rI C fun i j=> .int (g i j)):=by
 intro pins s σ H x y v u Q I rx ry h
 obtain ⟨i,j,rfl,rfl,hc,q⟩:=h
 obtain ⟨t,rfl⟩:=rx
 obtain ⟨t',rfl⟩:=ry
 exact rule i j t t' s _ _ hc ⟨.int (g i j),H,I.tok _,⟨_,rfl⟩,q⟩
theorem iU {f:Value→Value→Sem Value} {g:Int→Int→Int}
  (rule: ∀(i j:Int) (t u:Tok) (s:Shared) (Q:Value→Shared→Prop) (E:Value→Shared→Prop),Q (.int (g i j) s.toks) {s with toks:=s.toks+1}→wpAny (model X.prog X.w) X.A (f (.int i t) (.int j u)) Q E s):
  bq X f (du fun i j=> .int (g i j)):=by
 intro pins s σ H x y v u Q I rx ry h
 obtain ⟨i,j,rfl,rfl,q⟩:=h
 obtain ⟨t,rfl⟩:=rx
 obtain ⟨t',rfl⟩:=ry
 exact rule i j t t' s _ _ ⟨.int (g i j),H,I.tok _,⟨_,rfl⟩,q⟩
theorem sQ {f:Value→Value→Sem Value} {g:Int→Int→Bool}
  (rule: ∀(i j:Int) (t u:Tok) (s:Shared) (Q:Value→Shared→Prop) (E:Value→Shared→Prop),Q (.bool (g i j)) s→wpAny (model X.prog X.w) X.A (f (.int i t) (.int j u)) Q E s):
  bq X f (du fun i j=> .bl (g i j)):=by
 intro pins s σ H x y v u Q I rx ry h
 obtain ⟨i,j,rfl,rfl,q⟩:=h
 obtain ⟨t,rfl⟩:=rx
 obtain ⟨t',rfl⟩:=ry
 exact rule i j t t' s _ _ ⟨.bl (g i j),H,I,rfl,q⟩
def QL (i j:Int):Prop:=0<j∧j<1073741824
def FO (i j:Int):Prop:=0≤j∧j≤1000000∧i.natAbs<2^64
def uu (i j:Int):Prop:=(-(2^64)<i∧i<2^64)∨(-(2^64)<j∧j<2^64)
theorem uu.ok {i j:Int} (h:uu i j):IntMulOk i j:=by
 rcases h with ⟨h1,h2⟩|⟨h1,h2⟩
 ·exact .of_left (intBits_le_64 h1 h2)
 ·exact .of_right (intBits_le_64 h1 h2)
theorem Px (k:Nat):(0:Int)≤2^k:=by
 rw[two_pow_cast]
 exact Int.natCast_nonneg _
theorem bE:bq X (binaryOp .Add) (du fun i j=> .int (i+j)):=iU fun _ _ _ _ _ _ _ q=>add_int q
theorem cc:bq X (binaryOp .Sub) (du fun i j=> .int (i-j)):=iU fun _ _ _ _ _ _ _ q=>sub_int q
theorem eE:bq X (binaryOp .Mult) (rI uu fun i j=> .int (i*j)):=iS fun _ _ _ _ _ _ _ hc q=>mul_int q hc.ok
theorem tm:bq X (binaryOp .FloorDiv) (rI QL fun i j=> .int (i/j)):=iS fun i j _ _ _ _ _ hc q=>by
 have h1:(0:Int)<j:=hc.1
 have h2:j<1073741824:=hc.2
 exact floordiv_int (by lia) (by rw[Int.fdiv_eq_ediv_of_nonneg i (by lia)];exact q) (.inl (PyProof.noPylong_small (by lia)))
theorem tZ:bq X (binaryOp .Mod) (rI (fun _ j=>0<j) fun i j=> .int (i%j)):=iS fun i j _ _ _ _ _ hc q=>by
 have h1:(0:Int)<j:=hc
 exact mod_int' (by lia) (by rw[Int.fmod_eq_emod_of_nonneg i (by lia)];exact q)
theorem pJ:bq X (binaryOp .LShift) (rI FO fun i j=> .int (i*2^j.toNat)):=iS fun _ _ _ _ _ _ _ hc q=>lshift_int_small hc.1 hc.2.1 hc.2.2 q
theorem fg:bq X (binaryOp .RShift) (rI (fun _ j=>0≤j) fun i j=> .int (i/2^j.toNat)):=iS fun i j _ _ _ _ _ hc q=>
 rshift_int hc (by rw[Int.fdiv_eq_ediv_of_nonneg i (Px _)];exact q)
theorem jo:bq X (binaryOp .BitAnd) (du fun i j=> .int (Builtin.bitAnd i j)):=iU fun _ _ _ _ _ _ _ q=>and_int q
theorem Ex:bq X (binaryOp .BitOr) (du fun i j=> .int (Builtin.bitOr i j)):=iU fun _ _ _ _ _ _ _ q=>or_int q
theorem ku:bq X (binaryOp .BitXor) (du fun i j=> .int (Builtin.bitXor i j)):=iU fun _ _ _ _ _ _ _ q=>xor_int q
theorem Cf:bq X (inplaceOp .Add) (du fun i j=> .int (i+j)):=iU fun _ _ _ _ _ _ _ q=>iadd_int q
theorem JS:bq X (inplaceOp .Sub) (du fun i j=> .int (i-j)):=iU fun _ _ _ _ _ _ _ q=>isub_int q
theorem Bj:bq X (inplaceOp .LShift) (rI FO fun i j=> .int (i*2^j.toNat)):=iS fun _ _ _ _ _ _ _ hc q=>ilshift_int_small hc.1 hc.2.1 hc.2.2 q
theorem JT:bq X (inplaceOp .BitOr) (du fun i j=> .int (Builtin.bitOr i j)):=iU fun _ _ _ _ _ _ _ q=>ior_int q
theorem si:bq X (inplaceOp .BitXor) (du fun i j=> .int (Builtin.bitXor i j)):=iU fun _ _ _ _ _ _ _ q=>ixor_int q
theorem NP {f:Value→Sem Value} {g:Int→Int}
  (rule: ∀(i:Int) (t:Tok) (s:Shared) (Q:Value→Shared→Prop) (E:Value→Shared→Prop),Q (.int (g i) s.toks) {s with toks:=s.toks+1}→wpAny (model X.prog X.w) X.A (f (.int i t)) Q E s):
  yT X f (rU fun i=> .int (g i)):=by
 intro pins s σ H x v Q I rx h
 obtain ⟨i,rfl,q⟩:=h
 obtain ⟨t,rfl⟩:=rx
 exact rule i t s _ _ ⟨.int (g i),H,I.tok _,⟨_,rfl⟩,q⟩
theorem dz:yT X (unaryOp .USub) (rU fun i=> .int (-i)):=NP fun _ _ _ _ _ q=>neg_int q
end
def yn:V→V→Bool
 | .aD, .aD=>true| .aD, .int _=>true| .int _, .aD=>true| .aD, .bl _=>true| .bl _, .aD=>true| .aD, .str _=>true| .str _, .aD=>true
 | .int _, .int _=>true| .bl _, .bl _=>true| .str _, .str _=>true| .dQ _, .dQ _=>true
 | .int _, .str _=>true| .str _, .int _=>true| .bl _, .str _=>true| .str _, .bl _=>true
 |_,_=>false
def BL:R2:=fun x y H Q=>yn x y=true∧Q (.bl (decide (x=y))) H
def Nf:R2:=fun x y H Q=>yn x y=true∧Q (.bl (!decide (x=y))) H
theorem FI {i j:Int}:decide (V.int i=V.int j)=(i==j):=by
 rw[Bool.eq_iff_iff]
 simp
theorem Bp {i j:Bool}:decide (V.bl i=V.bl j)=(i==j):=by
 rw[Bool.eq_iff_iff]
 simp
theorem EM {i j:Str}:decide (V.str i=V.str j)=(i==j):=by
 rw[Bool.eq_iff_iff]
 simp
theorem B1 {i j:Array UInt8}:decide (V.dQ i=V.dQ j)=(i.toList==j.toList):=by
 rw[Bool.eq_iff_iff]
 cases i
 cases j
 simp
section
variable {X:Cx} {a b c:Expr} {ta tb tc:TE} {pos:Pos}
theorem bY {pins:List (Addr×Obj)} {σ:St} {H:Hp} {s:Shared} {Q:VK} {k k':Bool} (I:Inv X pins σ H s) (q:Q (.bl k) H) (e:k=k'):EP X pins σ Q (.bool k') s:=by
 subst e
 exact ⟨.bl k,H,I,rfl,q⟩
theorem fj:bq X (compareOp .Eq) BL:=by
 intro pins s σ H x y v u Q I rx ry h
 obtain ⟨hs,q⟩:=h
 cases x with
 |aD=>
  cases rx
  cases y with
  |aD=>cases ry;exact PySem.EqNone.eq_none_none (bY I q (by simp))
  |bl j=>cases ry;exact PySem.EqNone.eq_none_bool (bY I q (by simp))
  |int j=>obtain ⟨t',rfl⟩:=ry;exact PySem.EqNone.eq_none_int (bY I q (by simp))
  |str j=>obtain ⟨t',rfl⟩:=ry;exact PySem.EqNone.eq_none_str (bY I q (by simp))
  |_=>exact absurd (show false=true from hs) Bool.false_ne_true
 |bl i=>
  cases rx
  cases y with
  |aD=>cases ry;exact PySem.EqNone.eq_bool_none (bY I q (by simp))
  |bl j=>cases ry;exact eq_bool (bY I q Bp)
  |str j=>obtain ⟨t',rfl⟩:=ry;exact PySem.EqMixed.eq_bool_str (bY I q (by simp))
  |_=>exact absurd (show false=true from hs) Bool.false_ne_true
 |int i=>
  obtain ⟨t,rfl⟩:=rx
  cases y with
  |aD=>cases ry;exact PySem.EqNone.eq_int_none (bY I q (by simp))
  |int j=>obtain ⟨t',rfl⟩:=ry;exact eq_int (bY I q FI)
  |str j=>obtain ⟨t',rfl⟩:=ry;exact PySem.EqMixed.eq_int_str (bY I q (by simp))
  |_=>exact absurd (show false=true from hs) Bool.false_ne_true
 |str i=>
  obtain ⟨t,rfl⟩:=rx
  cases y with
  |aD=>cases ry;exact PySem.EqNone.eq_str_none (bY I q (by simp))
  |bl j=>cases ry;exact PySem.EqMixed.eq_str_bool (bY I q (by simp))
  |int j=>obtain ⟨t',rfl⟩:=ry;exact PySem.EqMixed.eq_str_int (bY I q (by simp))
  |str j=>obtain ⟨t',rfl⟩:=ry;exact eq_str (bY I q EM)
  |_=>exact absurd (show false=true from hs) Bool.false_ne_true
 |dQ i=>
  obtain ⟨t,rfl⟩:=rx
  cases y with
  |dQ j=>obtain ⟨t',rfl⟩:=ry;exact PySem.W.eq_bytes (bY I q B1)
  |_=>exact absurd (show false=true from hs) Bool.false_ne_true
 |_=>cases y<;>exact absurd (show false=true from hs) Bool.false_ne_true
theorem xM:bq X (compareOp .NotEq) Nf:=by
 intro pins s σ H x y v u Q I rx ry h
 obtain ⟨hs,q⟩:=h
 cases x with
 |aD=>
  cases rx
  cases y with
  |aD=>cases ry;exact PySem.EqNone.ne_none_none (bY I q (by simp))
  |bl j=>cases ry;exact PySem.EqNone.ne_none_bool (bY I q (by simp))
  |int j=>obtain ⟨t',rfl⟩:=ry;exact PySem.EqNone.ne_none_int (bY I q (by simp))
  |str j=>obtain ⟨t',rfl⟩:=ry;exact PySem.EqNone.ne_none_str (bY I q (by simp))
  |_=>exact absurd (show false=true from hs) Bool.false_ne_true
 |bl i=>
  cases rx
  cases y with
  |aD=>cases ry;exact PySem.EqNone.ne_bool_none (bY I q (by simp))
  |bl j=>cases ry;exact ne_bool (bY I q (congrArg not Bp))
  |str j=>obtain ⟨t',rfl⟩:=ry;exact PySem.EqMixed.ne_bool_str (bY I q (by simp))
  |_=>exact absurd (show false=true from hs) Bool.false_ne_true
 |int i=>
  obtain ⟨t,rfl⟩:=rx
  cases y with
  |aD=>cases ry;exact PySem.EqNone.ne_int_none (bY I q (by simp))
  |int j=>obtain ⟨t',rfl⟩:=ry;exact ne_int (bY I q (congrArg not FI))
  |str j=>obtain ⟨t',rfl⟩:=ry;exact PySem.EqMixed.ne_int_str (bY I q (by simp))
  |_=>exact absurd (show false=true from hs) Bool.false_ne_true
 |str i=>
  obtain ⟨t,rfl⟩:=rx
  cases y with
  |aD=>cases ry;exact PySem.EqNone.ne_str_none (bY I q (by simp))
  |bl j=>cases ry;exact PySem.EqMixed.ne_str_bool (bY I q (by simp))
  |int j=>obtain ⟨t',rfl⟩:=ry;exact PySem.EqMixed.ne_str_int (bY I q (by simp))
  |str j=>obtain ⟨t',rfl⟩:=ry;exact ne_str (bY I q (congrArg not EM))
  |_=>exact absurd (show false=true from hs) Bool.false_ne_true
 |dQ i=>
  obtain ⟨t,rfl⟩:=rx
  cases y with
  |dQ j=>obtain ⟨t',rfl⟩:=ry;exact PySem.W.ne_bytes (bY I q (congrArg not B1))
  |_=>exact absurd (show false=true from hs) Bool.false_ne_true
 |_=>cases y<;>exact absurd (show false=true from hs) Bool.false_ne_true
theorem jt:bq X (compareOp .Lt) (du fun i j=> .bl (decide (i<j))):=sQ fun _ _ _ _ _ _ _ q=>lt_int q
theorem gI:bq X (compareOp .LtE) (du fun i j=> .bl (decide (i≤j))):=sQ fun _ _ _ _ _ _ _ q=>le_int q
theorem iv:bq X (compareOp .Gt) (du fun i j=> .bl (decide (j<i))):=sQ fun _ _ _ _ _ _ _ q=>gt_int q
theorem pd:bq X (compareOp .GtE) (du fun i j=> .bl (decide (j≤i))):=sQ fun _ _ _ _ _ _ _ q=>ge_int q
theorem bo (b:Expr) {op:CmpOp} (h:op≠ .In:=by decide) (h2:op≠ .NotIn:=by decide):behindInMarks op b=false:=by
 have e1:(op==CmpOp.In)=false:=by cases op<;>first|rfl|exact absurd rfl h
 have e2:(op==CmpOp.NotIn)=false:=by cases op<;>first|rfl|exact absurd rfl h2
 cases b<;>simp [behindInMarks,e1,e2]
theorem jd {op:CmpOp} {r:R2} (ho:bq X (compareOp op) r) (ha:PE X a ta) (hb:PE X b tb) (hm:behindInMarks op b=false):PE X (.Compare a [op] [b] pos) (fS r ta tb):=by
 intro pins s σ H Q I h
 exact wpAny_Compare1 (vE ha hb I h fun v u s2 x y H2 I2 rx ry q=>ho pins s2 σ H2 x y v u Q I2 rx ry q) hm
def wJ (t:TE):TT:=fun σ H Q=>t σ H fun x H'=> ∃k,x= .bl k∧Q k H'
theorem bO {op:CmpOp} {r:R2} (ho:bq X (compareOp op) r) (ha:PE X a ta) (hb:PE X b tb) (hm:behindInMarks op b=false):PT X (.Compare a [op] [b] pos) (wJ (fS r ta tb)):=by
 intro pins s σ H Q I h
 refine wpAny_isTrue_Compare1 (aH (ha pins s σ H _ I h) fun v s1 ⟨x,H1,I1,r1,q1⟩=>aH (hb pins s1 σ H1 _ I1 q1) fun u s2 ⟨y,H2,I2,r2,q2⟩=>
  aH (ho pins s2 σ H2 x y v u _ I2 r1 r2 q2) fun c s3 ⟨z,H3,I3,r3,k,e,q3⟩=>?_) hm
 subst e
 cases r3
 exact wpAny_truthy_bool ⟨H3,I3,q3⟩
def yL (r r':R2) (ta tb tc:TE):TE:=fun σ H Q=>ta σ H fun x H1=>tb σ H1 fun y H2=>r x y H2 fun z H3=> ∃k,z= .bl k∧
 (if k=true then tc σ H3 fun w' H4=>r' y w' H4 Q else Q (.bl false) H3)
theorem xt {op op':CmpOp} {r r':R2} (ho:bq X (compareOp op) r) (ho':bq X (compareOp op') r') (ha:PE X a ta) (hb:PE X b tb) (hc:PE X c tc)
  (hm:lastMarks [op,op'] [b,c]=false:=by with_unfolding_all rfl):PE X (.Compare a [op,op'] [b,c] pos) (yL r r' ta tb tc):=by
 intro pins s σ H Q I h
 refine Compare_chain (aH (ha pins s σ H _ I h) fun v s1 ⟨x,H1,I1,r1,q1⟩=>chain_link (aH (hb pins s1 σ H1 _ I1 q1) fun u s2 ⟨y,H2,I2,r2,q2⟩=>
  aH (ho pins s2 σ H2 x y v u _ I2 r1 r2 q2) fun d s3 ⟨z,H3,I3,r3,k,e,q3⟩=>?_)) hm
 subst e
 cases r3
 refine wpAny_truthy_bool ?_
 cases k with
 |false=>exact ite_ff ⟨.bl false,H3,I3,rfl,q3⟩
 |true=>exact ite_tt (chain_last (aH (hc pins s3 σ H3 _ I3 q3) fun w' s4 ⟨z',H4,I4,r4,q4⟩=>ho' pins s4 σ H4 y z' u w' Q I4 r2 r4 q4))
theorem Ow {op op':CmpOp} {r r':R2} (ho:bq X (compareOp op) r) (ho':bq X (compareOp op') r') (ha:PE X a ta) (hb:PE X b tb) (hc:PE X c tc)
  (hm:lastMarks [op,op'] [b,c]=false:=by with_unfolding_all rfl):PT X (.Compare a [op,op'] [b,c] pos) (wJ (yL r r' ta tb tc)):=by
 intro pins s σ H Q I h
 refine isTrue_chain (aH (ha pins s σ H _ I h) fun v s1 ⟨x,H1,I1,r1,q1⟩=>test_link (aH (hb pins s1 σ H1 _ I1 q1) fun u s2 ⟨y,H2,I2,r2,q2⟩=>
  aH (ho pins s2 σ H2 x y v u _ I2 r1 r2 q2) fun d s3 ⟨z,H3,I3,r3,k,e,q3⟩=>?_)) hm
 subst e
 cases r3
 refine wpAny_truthy_bool ?_
 cases k with
 |false=>
  obtain ⟨k',e',q'⟩:=q3
  cases e'
  exact ite_ff ⟨H3,I3,q'⟩
 |true=>
  refine ite_tt (test_last (aH (hc pins s3 σ H3 _ I3 q3) fun w' s4 ⟨z',H4,I4,r4,q4⟩=>aH (ho' pins s4 σ H4 y z' u w' _ I4 r2 r4 q4) fun d' s5 ⟨z2,H5,I5,r5,k2,e2,q5⟩=>?_))
  subst e2
  cases r5
  exact wpAny_truthy_bool ⟨H5,I5,q5⟩
theorem x8:(sizeLine:Nat)<2^63:=by rw[sizeLine_eq];decide
theorem vals1 {x:V} {us:List Value} (r:Vals [x] us): ∃u,us= [u]∧RelV x u:=by
 cases r with
 |cons r1 r2=>cases r2;exact ⟨_,rfl,r1⟩
theorem vals2 {x y:V} {us:List Value} (r:Vals [x,y] us): ∃u w',us= [u,w']∧RelV x u∧RelV y w':=by
 cases r with
 |cons r1 r2=>
  cases r2 with
  |cons r3 r4=>cases r4;exact ⟨_,_,rfl,r1,r3⟩
theorem NW:fk X (.builtin "abs") (fun xs H Q=> ∃i,xs= [.int i]∧Q (.int (if i<0 then-i else i)) H):=by
 intro pins s σ H xs us Q I r h
 obtain ⟨i,rfl,q⟩:=h
 obtain ⟨u,rfl,t,rfl⟩:=vals1 r
 exact call_abs_int fun u tk=>⟨.int (if i<0 then-i else i),H,I.tok _,⟨_,rfl⟩,q⟩
theorem Je (hc:X.calm=true):fk X (.builtin "max") (fun xs H Q=> ∃i j,xs= [.int i, .int j]∧Q (.int (if j>i then j else i)) H):=by
 intro pins s σ H xs us Q I r h
 obtain ⟨i,j,rfl,q⟩:=h
 obtain ⟨u,w',rfl,⟨t,rfl⟩,⟨t',rfl⟩⟩:=vals2 r
 refine max_two_ints (I.ok.hd hc) fun h' tk k=>⟨_,H,I.kept k,?_,q⟩
 by_cases hj:j>i
 ·rw[if_pos hj,if_pos hj];exact ⟨_,rfl⟩
 ·rw[if_neg hj,if_neg hj];exact ⟨_,rfl⟩
theorem Qg (hc:X.calm=true):fk X (.builtin "min") (fun xs H Q=> ∃i j,xs= [.int i, .int j]∧Q (.int (if j<i then j else i)) H):=by
 intro pins s σ H xs us Q I r h
 obtain ⟨i,j,rfl,q⟩:=h
 obtain ⟨u,w',rfl,⟨t,rfl⟩,⟨t',rfl⟩⟩:=vals2 r
 refine min_two_ints (I.ok.hd hc) fun h' tk k=>⟨_,H,I.kept k,?_,q⟩
 by_cases hj:j<i
 ·rw[if_pos hj,if_pos hj];exact ⟨_,rfl⟩
 ·rw[if_neg hj,if_neg hj];exact ⟨_,rfl⟩
end
end L2
namespace L2
open PySem PySem.Spec PyProof.Rows
structure jL (h:Heap) (x dx C:Addr) (mA:Str→Option Value):Prop where
 obj:h.get? x=some (PySem.W.instObj C dx)
 ns:h.Ns1 dx mA
 ne:dx≠x
theorem K7 {h:Heap} {dx:Addr} {mA:Str→Option Value} (n:h.Ns1 dx mA): ∃od,h.get? dx=some od∧ ∀name,PySem.W.lookIn name od=some (mA name):=by
 obtain ⟨o,es,ep,ho,hd,hk,_,hm⟩:=n
 refine ⟨o,ho,fun name=>?_⟩
 have e:=hm name
 unfold nsFind findBy at e
 rw[←Array.find?_toList] at e
 unfold PySem.W.lookIn
 rw[hd]
 dsimp only
 split
 ·rename_i y q
  rw[q] at e
  exact congrArg some e
 ·rename_i q
  rw[q] at e
  have a:es.toList.any (·.refKey)=false:=by
   rw[List.any_eq_false]
   intro y hy
   obtain ⟨z,t,hkey⟩:=hk y (Array.mem_toList_iff.mp hy)
   simp [DictEntry.refKey,hkey]
  have a': ¬es.toList.any (·.refKey)=true:=by rw[a];exact Bool.false_ne_true
  rw[if_neg a']
  exact congrArg some e
theorem jL.look {h:Heap} {x dx C:Addr} {mA:Str→Option Value} (I:jL h x dx C mA): ∃od,PySem.W.InstAt h x (PySem.W.instObj C dx) C (some od)∧ ∀name,PySem.W.lookIn name od=some (mA name):=
 let ⟨od,ho,hl⟩:=K7 I.ns
 ⟨od,⟨I.obj,rfl,rfl,ho⟩,hl⟩
section
variable {prog:Program} {w:World} {A:Around} {E:Value→Shared→Prop} {s:Shared} {K:PySem.W.Frag} {x dx C f:Addr} {mA:Str→Option Value} {name:Str} {v:Value}
theorem get_map {expr:Bool} {Q:Value→Shared→Prop} (X:K.In s.heap) (I:jL s.heap x dx C mA) (hg:PySem.W.plainGet K C name=true) (hh:PySem.W.hasDictIn K C=true)
  (ha:PySem.W.findIn K (.ref C) name=some none) (hv:mA name=some v) (hv':PySem.W.handedIn v=true) (h:Q v {s with toks:=s.toks+1}):
  wpAny (model prog w) A (getAttr (.ref x) name expr) Q E s:=by
 obtain ⟨od,J,hl⟩:=I.look
 exact PySem.W.get_value X J (PySem.W.plainGet_of hg).1 (PySem.W.findObj_own hh ha rfl (by rw[hl,hv])) hv' h
theorem Ng {pl:Sem Bool} {Q:Value×List Value→Shared→Prop} (X:K.In s.heap) (I:jL s.heap x dx C mA) (hg:PySem.W.plainGet K C name=true)
  (hf:PySem.W.findIn K (.ref C) name=some (some (.ref f))) (ht:PySem.W.isFn K (.ref f)=true) (hv:mA name=none) (h:Q (.ref f, [.ref x]) s):
  wpAny (model prog w) A (getMethod (.ref x) name pl) Q E s:=by
 obtain ⟨od,J,hl⟩:=I.look
 exact PySem.W.method_fn X J (PySem.W.plainGet_of hg).1 (PySem.W.plainGet_of hg).2 hf (beq_iff_eq.mp ht) (by show (PySem.W.lookIn name od).map (·.isSome)=some false;rw[hl,hv];rfl) h
theorem Ib {ns:List Str} {Q:Unit→Shared→Prop} (X:K.In s.heap) (I:jL s.heap x dx C mA)
  (hs:PySem.W.findIn K (.ref C) "__setattr__" =some (some (.builtin "object.__setattr__"))) (hp:PySem.W.plainOver K C=true) (ht:PySem.W.takerIn K C name=some none) (hh:PySem.W.hasDictIn K C=true)
  (hw:PySem.Within mA ns) (hsz:ns.length≤sizeLine)
  (h: ∀h',jL h' x dx C (fun y=>if y=name then some v else mA y)→Heap.SameBut dx s.heap h'→Q () {s with heap:=h',toks:=s.toks+2}):
  wpAny (model prog w) A (setAttr (.ref x) name v) Q E s:=by
 obtain ⟨od,J,hl⟩:=I.look
 refine PySem.W.set_plain X J hs (PySem.W.osa_open (s:={s with toks:=s.toks+1}) (r:=none) X J hp ht fun b=>?_)
 obtain ⟨cd,hc,hd'⟩:=PySem.W.any_some hh
 have hx:s.heap.get? x=some ⟨.ref C,some dx, .plain, #[]⟩:=I.obj
 refine wpAny_bind (wpAny_pure (wpAny_bind (wpAny_bind (wpAny_loadPart hx (wpAny_bind (PySem.W.Looks.here (s:={s with toks:=s.toks+1}) (PySem.W.looks_clsIn X hc) ?_))))))
 rw[hd']
 refine wpAny_pure (a:=some dx) (wpAny_bind (wpAny_pure (wpAny_bind ?_)))
 refine wpAny_nsSet1 (s:={s with toks:=s.toks+1}) I.ns fun h' hn2 hs2=>?_
 obtain ⟨oD,esD,epD,hoD,hdD,hcD⟩:=hn2.count (PySem.Within.cons name v hw)
 refine wpAny_bind (wpAny_lookBehind hoD (by rw[hdD];exact pastItsLine_dict (Nat.le_trans hcD (by rw[List.length_cons];lia))) ?_)
 exact wpAny_pure (h _ ⟨(hs2.2 _ (Ne.symm I.ne)).trans I.obj,hn2,I.ne⟩ hs2)
theorem Me {R:Result→Shared→Prop} {vs:List Value} {kw:List (Str×Value)} (X:K.In s.heap) (hm:PySem.W.makesIn K C=true)
  (hi:PySem.W.findIn K (.ref C) "__init__" =some (some (.ref f))) (hf:PySem.W.typeIn K (.ref f)=some (.type "function"))
  (h:codeAny (model prog w) (A.under (.builtin "type.__call__" ⟨.ref C::vs,kw⟩)) (.call (.ref f) ⟨.ref (s.heap.objs.size+1)::vs,kw⟩) (PySem.W.InitBack (s.heap.objs.size+1) R)
   {s with heap:=(s.heap.push PySem.W.emptyDict).push (PySem.W.instObj C s.heap.objs.size)}):
  codeAny (model prog w) A (.call (.ref C) ⟨vs,kw⟩) R s:=by
 obtain ⟨hh,g,d,t,os⟩:=s
 exact PySem.W.make_core (PySem.W.makes_of X hm) (PySem.W.looks_findIn X hi) (fun self=>PySem.W.bind_fn X self hf) (.inl rfl) h
end
def aJ (f:Str) (v:V):List (Str×V)→List (Str×V)
 | []=> [(f,v)]
 |(g,x)::r=>if g=f then (g,v)::r else (g,x)::aJ f v r
theorem Bz (f g:Str) (v:V): ∀fs:List (Str×V),(aJ f v fs).lookup g=if g=f then some v else fs.lookup g
 | []=>by
  show List.lookup g [(f,v)]=_
  by_cases h:g=f
  ·have hb:(g==f)=true:=beq_iff_eq.mpr h
   simp only [List.lookup,hb,if_pos h]
  ·have hb:(g==f)=false:=beq_eq_false_iff_ne.mpr h
   simp only [List.lookup,hb,if_neg h]
 |(k,x)::r=>by
  have ih:=Bz f g v r
  rw[show aJ f v ((k,x)::r)=(if k=f then (k,v)::r else (k,x)::aJ f v r) from rfl]
  by_cases hk:k=f
  ·rw[if_pos hk]
   by_cases h:g=k
   ·have hb:(g==k)=true:=beq_iff_eq.mpr h
    simp only [List.lookup,hb,if_pos (h.trans hk)]
   ·have hb:(g==k)=false:=beq_eq_false_iff_ne.mpr h
    simp only [List.lookup,hb,if_neg (fun e:g=f=>h (e.trans hk.symm))]
  ·rw[if_neg hk]
   by_cases h:g=k
   ·have hb:(g==k)=true:=beq_iff_eq.mpr h
    simp only [List.lookup,hb,if_neg (fun e:g=f=>hk (h.symm.trans e))]
   ·have hb:(g==k)=false:=beq_eq_false_iff_ne.mpr h
    simp only [List.lookup,hb]
    exact ih
theorem xB (f:Str) (v:V): ∀fs:List (Str×V),f∈(aJ f v fs).map (·.1)∧ ∀g,g∈fs.map (·.1)→g∈(aJ f v fs).map (·.1)
 | []=>⟨by simp [aJ],fun g h=>by simp at h⟩
 |(k,x)::r=>by
  obtain ⟨i1,i2⟩:=xB f v r
  rw[show aJ f v ((k,x)::r)=(if k=f then (k,v)::r else (k,x)::aJ f v r) from rfl]
  by_cases hk:k=f
  ·rw[if_pos hk]
   subst hk
   exact ⟨by simp,fun g h=>by simpa using h⟩
  ·rw[if_neg hk]
   refine ⟨?_,fun g h=>?_⟩
   ·rw[List.map_cons]
    exact List.mem_cons_of_mem _ i1
   ·rw[List.map_cons] at h⊢
    rcases List.mem_cons.mp h with e|e
    ·exact List.mem_cons.mpr (.inl e)
    ·exact List.mem_cons_of_mem _ (i2 g e)
theorem jj (f:Str) (v:V): ∀fs:List (Str×V),(aJ f v fs).length≤fs.length+1
 | []=>by simp [aJ]
 |(k,x)::r=>by
  have ih:=jj f v r
  rw[show aJ f v ((k,x)::r)=(if k=f then (k,v)::r else (k,x)::aJ f v r) from rfl]
  by_cases hk:k=f
  ·rw[if_pos hk,List.length_cons,List.length_cons];lia
  ·rw[if_neg hk,List.length_cons,List.length_cons];lia
theorem ik.some_of {v:V} {o:Option Value} (r:ik (some v) o): ∃u,o=some u∧RelV v u:=by
 cases o with
 |none=>exact (show False from r).elim
 |some u=>exact ⟨u,rfl,r⟩
theorem ik.none_of {o:Option Value} (r:ik none o):o=none:=by
 cases o with
 |none=>rfl
 |some u=>exact (show False from r).elim
theorem Q3 {v:V} {u:Value} (r:RelV v u):PySem.W.handedIn u=true:=by
 cases v with
 |aD=>cases (show u=Value.none from r);rfl
 |bl b=>cases (show u=Value.bool b from r);rfl
 |int i=>obtain ⟨t,e⟩:=(show∃t,u=Value.int i t from r);cases e;rfl
 |str x=>obtain ⟨t,e⟩:=(show∃t,u=Value.str x t from r);cases e;rfl
 |dQ b=>obtain ⟨t,e⟩:=(show∃t,u=Value.bytes b t from r);cases e;rfl
 |jq b=>obtain ⟨t,e⟩:=(show∃t,u=Value.float b t from r);cases e;rfl
 |ref a=>cases (show u=Value.ref a from r);rfl
 |ty n=>cases (show u=Value.type n from r);rfl
section
variable {P:Program} {w:World} {H H':Hp} {h h':Heap} {a C dx:Addr} {fs fs':List (Str×V)}
theorem vU (ax:bR P w H h) (e:H a=some (.ins C dx fs)): ∃mA,jL h a dx C mA∧(∀f,ik (fs.lookup f) (mA f))∧PySem.Within mA (fs.map (·.1))∧fs.length≤1000∧H dx=some (.own a):=by
 obtain ⟨d,z,ne,ob,mA,n,r,q⟩:=(show cy P w H h a (.ins C dx fs) from ax a _ e)
 exact ⟨mA,⟨ob,n,ne⟩,r,q,z,d⟩
end
structure cD (K:PySem.W.Frag) (C:Addr):Prop where
 pg:PySem.W.plainGet K C Str.empty=true
 hd:PySem.W.hasDictIn K C=true
 po:PySem.W.plainOver K C=true
 sa:PySem.W.findIn K (.ref C) "__setattr__" =some (some (.builtin "object.__setattr__"))
theorem cD.get {K:PySem.W.Frag} {C:Addr} (c:cD K C) (f:Str):PySem.W.plainGet K C f=true:=c.pg
def a9 (K:PySem.W.Frag) (C:Addr) (f:Str):Prop:=PySem.W.findIn K (.ref C) f=some none
theorem a9.QP {K:PySem.W.Frag} {C:Addr} {f:Str} (n:a9 K C f):PySem.W.takerIn K C f=some none:=by
 unfold PySem.W.takerIn
 rw[show PySem.W.findIn K (.ref C) f=some none from n]
 rfl
structure Meth (K:PySem.W.Frag) (C:Addr) (m:Str) (f:Addr):Prop where
 at_:PySem.W.findIn K (.ref C) m=some (some (.ref f))
 fn:PySem.W.isFn K (.ref f)=true
 kp:PySem.W.keepIn K (.ref f)=true
section
variable {X:Cx} {pins:List (Addr×Obj)} {σ:St} {H:Hp} {s:Shared} {a C dx:Addr} {fs:List (Str×V)} {f:Str} {v:V} {A:Around} {E:Value→Shared→Prop}
theorem DH {b:Bool} {Q:Value→Shared→Prop} (I:Inv X pins σ H s) (e:H a=some (.ins C dx fs)) (c:cD X.K C) (n:a9 X.K C f) (l:fs.lookup f=some v)
  (h: ∀u s',Inv X pins σ H s'→RelV v u→Q u s'):wpAny (model X.prog X.w) A (getAttr (.ref a) f b) Q E s:=by
 obtain ⟨mA,O,r,_,_,_⟩:=vU I.ax e
 obtain ⟨u,hu,ru⟩:=ik.some_of (v:=v) (o:=mA f) (by rw[←l];exact r f)
 exact get_map I.cI O (c.get f) c.hd n hu (Q3 ru) (h u _ (I.tok _) ru)
theorem Du {m:Str} {g:Addr} {pl:Sem Bool} {Q:Value×List Value→Shared→Prop} (I:Inv X pins σ H s) (e:H a=some (.ins C dx fs)) (c:cD X.K C) (k:Meth X.K C m g) (l:fs.lookup m=none)
  (h:Q (.ref g, [.ref a]) s):wpAny (model X.prog X.w) A (getMethod (.ref a) m pl) Q E s:=by
 obtain ⟨mA,O,r,_,_,_⟩:=vU I.ax e
 have hn:mA m=none:=ik.none_of (by rw[←l];exact r m)
 exact Ng I.cI O (c.get m) k.at_ k.fn hn h
theorem zk {y:V} {u:Value} {Q:Unit→Shared→Prop} (I:Inv X pins σ H s) (e:H a=some (.ins C dx fs)) (c:cD X.K C) (n:a9 X.K C f) (hl:fs.length<1000) (ry:RelV y u)
  (h: ∀s',Inv X pins σ (upd H a (.ins C dx (aJ f y fs))) s'→Q () s'):wpAny (model X.prog X.w) A (setAttr (.ref a) f u) Q E s:=by
 obtain ⟨mA,O,r,wi,_,ho⟩:=vU I.ax e
 have hz:(fs.map (·.1)).length≤sizeLine:=by rw[List.length_map,sizeLine_eq];lia
 refine Ib I.cI O c.sa c.po n.QP c.hd wi hz fun h' O' sb=>h _ ?_
 have hd: ∃o,h'.get? dx=some o:=let ⟨o,_,_,e',_⟩:=O'.ns;⟨o,e'⟩
 refine I.write (x:=a) (e:=dx) (by rw[e];exact True.intro) (.inr ho) (fun b q hb z=>(sb.2 b hb).trans z) hd ?_
 refine ⟨by rw[aB O.ne];exact ho,?_,O.ne,O'.obj,_,O'.ns,fun g=>?_,fun g hg=>?_⟩
 ·have:=jj f y fs;lia
 ·show ik ((aJ f y fs).lookup g) (if g=f then some u else mA g)
  rw[Bz]
  by_cases q:g=f
  ·rw[if_pos q,if_pos q];exact ry
  ·rw[if_neg q,if_neg q];exact r g
 ·by_cases q:g=f
  ·rw[q];exact (xB f y fs).1
  ·refine (xB f y fs).2 g (wi g fun z=>hg ?_)
   show (if g=f then some u else mA g)=none
   rw[if_neg q];exact z
theorem Inv.made (I:Inv X pins σ H s):Inv X pins σ (upd (upd H s.heap.objs.size (.own (s.heap.objs.size+1))) (s.heap.objs.size+1) (.ins C s.heap.objs.size []))
  {s with heap:=(s.heap.push PySem.W.emptyDict).push (PySem.W.instObj C s.heap.objs.size)}:=by
 have e1:(s.heap.push PySem.W.emptyDict).get? s.heap.objs.size=some PySem.W.emptyDict:=Heap.get?_push_size s.heap rfl
 have e2:((s.heap.push PySem.W.emptyDict).push (PySem.W.instObj C s.heap.objs.size)).get? (s.heap.objs.size+1)=some (PySem.W.instObj C s.heap.objs.size):=by
  have:=Heap.get?_push_size (s.heap.push PySem.W.emptyDict) (o:=PySem.W.instObj C s.heap.objs.size) rfl
  rwa [Heap.size_push] at this
 have e3:(s.heap.push PySem.W.emptyDict).Ns s.heap.objs.size (fun _=>none):=⟨PySem.W.emptyDict, #[],_,e1,rfl,(fun e he=>absurd he (by simp)),fun _=>rfl⟩
 have I1:=I.laid (a:=s.heap.objs.size) (o:= .own (s.heap.objs.size+1)) (h':=s.heap.push PySem.W.emptyDict) (t':=s.toks) (fun b u q=>Heap.get?_push_of_some _ q) (Nat.le_refl _) ⟨_,e1⟩
 refine I1.laid (a:=s.heap.objs.size+1) (o:= .ins C s.heap.objs.size []) (t':=s.toks) (fun b u q=>Heap.get?_push_of_some _ q) (Nat.le_of_eq (Heap.size_push _ _)) ?_
 have ne:s.heap.objs.size≠s.heap.objs.size+1:=Nat.ne_of_lt (Nat.lt_succ_self _)
 refine ⟨by rw[aB ne,ao],Nat.zero_le _,ne,e2,fun _=>none,(Heap.Ns1.of_empty e3).at fun o q=>Heap.get?_push_of_some _ q,fun _=>True.intro,fun y hy=>absurd rfl hy⟩
theorem Rh {prog:Program} {w:World} {env:Env} {e:Expr} {f:Str} {pos:Pos} {s:Shared} {Q:Value→Shared→Prop} (hb:attributeBase e f env (eval e env)=eval e env)
  (h:wpAny (model prog w) A (eval e env) (fun o s₁=>wpAny (model prog w) A (getAttr o f true) Q E s₁) E s):wpAny (model prog w) A (eval (.Attribute e f pos) env) Q E s:=
 Attribute_any_ h (by rw[arm_eval_Attribute,hb])
end
def i7 (K:PySem.W.Frag) (ta:TE) (f:Str):TE:=fun σ H Q=>ta σ H fun x H1=> ∃a C dx fs v,x= .ref a∧H1 a=some (.ins C dx fs)∧cD K C∧a9 K C f∧fs.lookup f=some v∧Q v H1
def FA (K:PySem.W.Frag) (ta tv:TE) (f:Str):TS:=fun D σ H=>tv σ H fun y H1=>ta σ H1 fun x H2=> ∃a C dx fs,x= .ref a∧H2 a=some (.ins C dx fs)∧cD K C∧a9 K C f∧fs.length<1000∧
 D.nx σ (upd H2 a (.ins C dx (aJ f y fs)))
def Bx (X:Cx) (op:Operator) (rd:V→V→Hp→VK→Prop):Prop:=
 ∀(pins:List (Addr×Obj)) (s:Shared) (σ:St) (H:Hp) (x y:V) (u v:Value) (Q:VK),Inv X pins σ H s→RelV x u→RelV y v→rd x y H Q→wpAny (model X.prog X.w) X.A (inplaceOp op u v) (EP X pins σ Q) X.xe s
def Sh (K:PySem.W.Frag) (ta tv:TE) (rd:V→V→Hp→VK→Prop) (f:Str):TS:=fun D σ H=>ta σ H fun x H1=> ∃a C dx fs v,x= .ref a∧H1 a=some (.ins C dx fs)∧cD K C∧a9 K C f∧fs.lookup f=some v∧
 tv σ H1 fun y H2=>rd v y H2 fun z H3=> ∃dx' fs',H3 a=some (.ins C dx' fs')∧fs'.length<1000∧D.nx σ (upd H3 a (.ins C dx' (aJ f z fs')))
section
variable {X:Cx} {o e value:Expr} {f:Str} {pos pos' tpos:Pos} {ta tv:TE}
theorem aA (he:PE X e ta) (hb:attributeBase e f X.env (eval e X.env)=eval e X.env):PE X (.Attribute e f pos) (i7 X.K ta f):=by
 intro pins s σ H Q I h
 refine Rh hb (aH (he pins s σ H _ I h) fun u s1 ⟨x,H1,I1,rx,a,C,dx,fs,v,ex,ea,c,n,l,q⟩=>?_)
 subst ex
 obtain rfl:u=Value.ref a:=rx
 exact DH I1 ea c n l fun u' s2 I2 ru=>⟨v,H1,I2,ru,q⟩
theorem bh (ha:PE X o ta) (hv:PE X value tv) (hs:swapsWith value (some (.Attribute o f pos')) pos.line X.env=pure false):PS X (.Assign [.Attribute o f pos'] value pos) (FA X.K ta tv f):=by
 intro pins s σ H D I h
 refine plainObj_wpAny_Assign_Attribute (aH (hv pins s σ H _ I h) fun u s1 ⟨y,H1,I1,ry,q⟩=>aH (ha pins s1 σ H1 _ I1 q) fun ov s2 ⟨x,H2,I2,rx,a,C,dx,fs,ex,ea,c,n,l,q2⟩=>?_) hs
 subst ex
 obtain rfl:ov=Value.ref a:=rx
 exact zk I2 ea c n l ry fun s3 I3=>⟨σ,_,I3,q2⟩
theorem lu {op:Operator} {rd:V→V→Hp→VK→Prop} (ha:PE X o ta) (hv:PE X value tv) (hop:Bx X op rd):PS X (.AugAssign (.Attribute o f tpos) op value pos) (Sh X.K ta tv rd f):=by
 intro pins s σ H D I h
 refine wpAny_AugAssign_AttributeAny (aH (ha pins s σ H _ I h) fun ov s1 ⟨x,H1,I1,rx,a,C,dx,fs,v,ex,ea,c,n,l,q⟩=>?_)
 subst ex
 obtain rfl:ov=Value.ref a:=rx
 refine DH I1 ea c n l fun u s2 I2 ru=>aH (hv pins s2 σ H1 _ I2 q) fun w3 s3 ⟨y,H2,I3,ry,q3⟩=>aH (hop pins s3 σ H2 v y u w3 _ I3 ru ry q3) fun w4 s4 ⟨z,H3,I4,rz,dx',fs',ea',l',q4⟩=>?_
 exact zk I4 ea' c n l' rz fun s5 I5=>⟨σ,_,I5,q4⟩
def JC:V→V→Hp→VK→Prop:=fun x y H Q=> ∃i j,x= .int i∧y= .int j∧Q (.int (i+j)) H
theorem oK:Bx X .Add JC:=by
 rintro pins s σ H x y u v Q I rx ry ⟨i,j,rfl,rfl,q⟩
 obtain ⟨t,rfl⟩:=(show∃t,u=Value.int i t from rx)
 obtain ⟨t',rfl⟩:=(show∃t',v=Value.int j t' from ry)
 exact PyProof.Rows.iadd_int ⟨.int (i+j),H,I.tok _,⟨_,rfl⟩,q⟩
end
section
variable {X:Cx} {pins:List (Addr×Obj)} {σ:St} {H:Hp} {s:Shared} {A:Around} {E:Value→Shared→Prop} {Q:Value→Shared→Prop} {c:Value} {b:Bool}
end
end L2
namespace L2
open PySem PySem.Spec PyProof.Rows
structure aR (k:Nat) (A:Around):Prop where
 hd:A.handled=none
 dp:A.depth+3*k+5<recursionLimit
 un:A.units+16*k+200<cLine
theorem aR.mono {j k:Nat} {A:Around} (r:aR k A) (h:j≤k):aR j A:=⟨r.hd,by have:=r.dp;lia,by have:=r.un;lia⟩
theorem aR.deeper {k:Nat} {A:Around} (r:aR (k+1) A) (env:Env):aR k (A.deeper env):=
 ⟨r.hd,by have:=r.dp;show A.depth+1+3*k+5<_;lia,by have:=r.un;show A.units+3+16*k+200<_;lia⟩
theorem MS {A:Around} {C:Addr} {us:List Value} {kw:List (Str×Value)}:(A.under (.builtin "type.__call__" ⟨.ref C::us,kw⟩)).depth=A.depth+1:=by
 first|rfl|simp [Around.under,Code.weight,Code.isCreation,Code.isGuard,Code.isCaller,Code.frames,Code.isFrame,guardIds]
theorem Uv {A:Around} {C:Addr} {us:List Value} {kw:List (Str×Value)}:(A.under (.builtin "type.__call__" ⟨.ref C::us,kw⟩)).units=A.units+1:=by
 first|rfl|simp [Around.under,Code.cUnits,Code.frames,Code.isFrame]
theorem aR.make {k:Nat} {A:Around} (r:aR (k+1) A) (C:Addr) (us:List Value) (kw:List (Str×Value)):aR k (A.under (.builtin "type.__call__" ⟨.ref C::us,kw⟩)):=
 ⟨r.hd,by have:=r.dp;rw[MS];lia,by have:=r.un;rw[Uv];lia⟩
theorem aR.depth {k:Nat} {A:Around} (r:aR k A):A.depth<recursionLimit:=by have:=r.dp;lia
theorem aR.units {k:Nat} {A:Around} (r:aR k A):A.units+64<cLine:=by have:=r.un;lia
def fY:TA:=fun _ H Q=>Q [] H
def fh (ta:TE) (tr:TA):TA:=fun σ H Q=>ta σ H fun x H1=>tr σ H1 fun xs H2=>Q (x::xs) H2
section
variable {X:Cx} {e:Expr} {es:List Expr} {te:TE} {t:TA} {pos:Pos}
theorem ag:PA X [] fY:=fun _ _ _ _ H Q I h=>Calls.spliced_nil ⟨[],H,I, .nil,h⟩
theorem aa (ha:PE X e te) (hr:PA X es t) (hs:starEach (e::es) X.env=(false,eval e X.env)::starEach es X.env:=by rfl):PA X (e::es) (fh te t):=by
 intro pos pins s σ H Q I h
 rw[hs]
 show wpAny _ _ (spliced ((false,eval e X.env)::backTo pos (starEach es X.env))) _ _ s
 refine Calls.spliced_cons (aH (ha pins s σ H _ I h) fun u s1 ⟨x,H1,I1,r1,q1⟩=>?_)
 exact aH (hr pos pins s1 σ H1 _ I1 q1) fun us s2 ⟨xs,H2,I2,r2,q2⟩=>⟨x::xs,H2,I2, .cons r1 r2,q2⟩
def xc (t:TA):TE:=fun σ H Q=>t σ H fun xs H1=>xs.length≤sizeLine∧ ∀p,H1 p=none→Q (.ref p) (upd H1 p (.lst xs))
theorem b9 (h:PA X es t):PE X (.List es pos) (xc t):=by
 intro pins s σ H Q I hq
 refine wpAny_List_spliced (aH (h pos pins s σ H _ I hq) fun us s1 ⟨xs,H1,I1,r,z,q⟩=>⟨by rw[←r.length];exact z,?_⟩)
 have hf:H1 s1.heap.objs.size=none:=I1.ax.fresh (Nat.le_refl _)
 refine ⟨.ref s1.heap.objs.size,upd H1 s1.heap.objs.size (.lst xs),I1.laid (t':=s1.toks) (fun b u e=>Heap.get?_push_of_some _ e) (Nat.le_refl _) ?_,rfl,q _ hf⟩
 exact ⟨z,us,0,r,Heap.get?_push_size _ rfl⟩
end
abbrev Sp:=List V→Hp→VK→XK→Prop
abbrev fi:=List Env→Hp→Shared→XK→Value→Shared→Prop
structure jC (P:Program) (w:World) (K:PySem.W.Frag) (mg:Str→Option Value) (base:Heap) (A:Around) (outer:List Env) (s:Shared) (H:Hp):Prop where
 frames:A.frames=some outer
 mod:Mod K mg base
 bs: ∀b o,base.get? b=some o→s.heap.get? b=some o∧H b=none
 gn:base.objs.size≤s.heap.objs.size
 eQ:s.heap.FunFrames base outer
 iu: ∀b∈br outer,H b=none
 ax:bR P w H s.heap
 bare:AllBare s.gens
def CE (outer:List Env) (P:Program) (w:World) (H:Hp) (s:Shared) (Q:VK) (u:Value) (s':Shared):Prop:=
 ∃v H',s'.os=s.os∧AllBare s'.gens∧Un (br outer) [] H H' s.heap s'.heap∧bR P w H' s'.heap∧RelV v u∧Q v H'
def CR (CX:fi) (outer:List Env) (P:Program) (w:World) (H:Hp) (s:Shared) (Q:VK) (E:XK) (r:Result) (s':Shared):Prop:=
 match r with
 | .ok (.ret u)=>CE outer P w H s Q u s'
 | .ok _=>False
 | .error e=>CX outer H s E e s'
structure aC (P:Program) (w:World) (K:PySem.W.Frag) (mg:Str→Option Value) (base:Heap) (CX:fi) (k:Nat) (f:Addr) (fd:FuncData) (ps:List Str) (sp:Sp):Prop where
 len: ∀vs H Q E,sp vs H Q E→vs.length=ps.length
 run: ∀(A:Around) (outer:List Env) (s:Shared) (H:Hp) (args:Args) (us:List Value) (vs:List V) (Q:VK) (E:XK),aR k A→jC P w K mg base A outer s H→BindsTo s fd args (ps.zip us)→Vals vs us→sp vs H Q E→
  codeAny (model P w) A (.call (.ref f) args) (CR CX outer P w H s Q E) s
theorem jC.make {P:Program} {w:World} {K:PySem.W.Frag} {mg:Str→Option Value} {base:Heap} {A:Around} {outer:List Env} {s:Shared} {H:Hp} (e:jC P w K mg base A outer s H) (C:Addr) (us:List Value) (kw:List (Str×Value)):
  jC P w K mg base (A.under (.builtin "type.__call__" ⟨.ref C::us,kw⟩)) outer s H:=⟨by first|exact e.frames|(simpa [Around.under,Code.envs,Code.isFrame,pushEnvs] using e.frames),e.mod,e.bs,e.gn,e.eQ,e.iu,e.ax,e.bare⟩
section
variable {X:Cx} {pins:List (Addr×Obj)} {σ:St} {H:Hp} {s s':Shared}
theorem Inv.vM (I:Inv X pins σ H s):jC X.prog X.w X.K X.mg X.base X.A X.stack s H:=
 ⟨I.ok.frames,I.ok.mod,I.bs,Nat.le_trans I.ok.gn I.sz,I.stack,I.rh,I.ax,I.bare⟩
theorem Inv.after {Q:VK} {u:Value} (I:Inv X pins σ H s) (h:CE X.stack X.prog X.w H s Q u s'):EP X pins σ Q u s':=by
 obtain ⟨v,H',os,bare,un,ax,r,q⟩:=h
 obtain ⟨hh,g,d,t,os'⟩:=s'
 obtain rfl:os'=s.os:=os
 exact ⟨v,H',I.call (h':=hh) (g':=g) (d':=d) (t':=t) (ch:= []) un ax bare (fun b z=>absurd z (by simp)),r,q⟩
end
def qD (sp:Sp) (dvs:List V) (E:XK) (t:TA):TE:=fun σ H Q=>t σ H fun vs H1=>sp (vs++dvs) H1 Q E
def mC (C:Addr) (m:Str) (sp:Sp) (dvs:List V) (E:XK) (ta:TE) (t:TA):TE:=fun σ H Q=>ta σ H fun x H1=> ∃a dx fs,x= .ref a∧H1 a=some (.ins C dx fs)∧fs.lookup m=none∧
 t σ H1 fun vs H2=>sp (x::(vs++dvs)) H2 Q E
def DW (C:Addr) (sp:Sp) (dvs:List V) (E:XK) (t:TA):TE:=fun σ H Q=>t σ H fun vs H1=> ∀x dx,H1 x=none→H1 dx=none→dx≠x→
 sp (.ref x::(vs++dvs)) (upd (upd H1 dx (.own x)) x (.ins C dx [])) (fun v H2=>v= .aD∧Q (.ref x) H2) E
def Binds (K:PySem.W.Frag) (fd:FuncData) (ps:List Str) (ds:List Value):Prop:=
 ∀(s:Shared) (us:List Value),K.In s.heap→(us++ds).length=ps.length→BindsTo s fd ⟨us, []⟩ (ps.zip (us++ds))
theorem Binds.all {K:PySem.W.Frag} {fd:FuncData} {ps:List Str} (h: ∀us:List Value,us.length=ps.length→bindArgs fd ⟨us, []⟩=pure (ps.zip us)):Binds K fd ps []:=fun s us _ hl=>by
 rw[List.append_nil] at hl⊢
 exact .of_eq (h us hl)
def Passes (CX:fi) (X:Cx) (E:XK):Prop:= ∀(pins:List (Addr×Obj)) (σ:St) (H:Hp) (s:Shared) (e:Value) (s':Shared),Inv X pins σ H s→CX X.stack H s E e s'→X.xe e s'
section
variable {X:Cx} {CX:fi} {k:Nat} {f C:Addr} {fd:FuncData} {ps:List Str} {sp:Sp} {dvs:List V} {ds:List Value} {E:XK} {x m:Str} {p pos apos:Pos} {e o:Expr} {es:List Expr} {ta:TE} {t:TA}
theorem xh {pins:List (Addr×Obj)} {σ:St} {H:Hp} {s:Shared} {Q:VK} {us:List Value} {vs:List V} (F:aC X.prog X.w X.K X.mg X.base CX k f fd ps sp) (hr:aR k X.A) (hb:Binds X.K fd ps ds) (hd:Vals dvs ds) (hx:Passes CX X E)
  (I:Inv X pins σ H s) (r:Vals vs us) (h:sp (vs++dvs) H Q E):wpAny (model X.prog X.w) X.A (call (.ref f) us) (EP X pins σ Q) X.xe s:=by
 have r2:Vals (vs++dvs) (us++ds):=r.append hd
 have hl:(us++ds).length=ps.length:=by rw[←r2.length];exact F.len _ _ _ _ h
 refine wpAny_call (codeAny_mono (F.run X.A X.stack s H ⟨us, []⟩ (us++ds) (vs++dvs) Q E hr I.vM (hb s us I.cI hl) r2 h) fun r s' hq=>?_)
 cases r with
 |error e=>exact hx pins σ H s e s' I hq
 |ok fl=>
  cases fl with
  |ret u=>exact I.after hq
  |next=>exact False.elim hq
  |brk=>exact False.elim hq
  |cont=>exact False.elim hq
theorem aN (F:aC X.prog X.w X.K X.mg X.base CX k f fd ps sp) (hr:aR k X.A) (hg:Gl X x) (hm:X.mg x=some (.ref f)) (hk:PySem.W.keepIn X.K (.ref f)=true) (hb:Binds X.K fd ps ds) (hd:Vals dvs ds) (hx:Passes CX X E)
  (ha:PA X (e::es) t) (hdb:(x==("__debug__" :Str))=false:=by decide) (he:starEach (e::es) X.env=(false,eval e X.env)::starEach es X.env:=by rfl) (hpl:(backTo pos (starEach es X.env)).any (·.1)=false:=by rfl):
  PE X (.Call (.Name x p) (e::es) [] pos) (qD sp dvs E t):=by
 intro pins s σ H Q I h
 refine wpAny_Call_Name_kw (kf I hg hm ?_ hdb)
 refine PySem.W.callWith_K (h₀:=X.base) I.ok.mod.kC hk (aH (ha pos pins s σ H _ I h) fun us s1 ⟨vs,H1,I1,r,q⟩=>⟨I1.cI,?_⟩) he hpl
 exact xh F hr hb hd hx I1 r q
theorem bC {pl:Sem Bool} (he:PE X o ta) (c:cD X.K C) (hm:Meth X.K C m f) (F:aC X.prog X.w X.K X.mg X.base CX k f fd ps sp) (hr:aR k X.A) (hb:Binds X.K fd ps ds) (hd:Vals dvs ds) (hx:Passes CX X E) (ha:PA X (e::es) t)
  (hst:starEach (e::es) X.env=(false,eval e X.env)::starEach es X.env:=by rfl) (hpl:(backTo pos (starEach es X.env)).any (·.1)=false:=by rfl)
  (ht:eval (.Call (.Attribute o m apos) (e::es) [] pos) X.env=(do
   let ov←eval o X.env
   standAt apos.atName
   let (f,first)←holding [ov] (getMethod ov m pl)
   callWith pos f first (backTo pos (starEach (e::es) X.env)) (backToKw pos (keywordEach [] X.env))):=by rfl):
  PE X (.Call (.Attribute o m apos) (e::es) [] pos) (mC C m sp dvs E ta t):=by
 intro pins s σ H Q I h
 refine PySem.W.methodCall_KW (pl:=pl) (aH (he pins s σ H _ I h) fun u s1 ⟨x,H1,I1,rx,a,dx,fs,ex,ea,l,q⟩=>?_) ht
 subst ex
 obtain rfl:u=Value.ref a:=rx
 refine Du I1 ea c hm l ?_
 refine PySem.W.callWith_K (first:= [.ref a]) (h₀:=X.base) I.ok.mod.kC hm.kp (aH (ha pos pins s1 σ H1 _ I1 q) fun us s2 ⟨vs,H2,I2,r,q2⟩=>⟨I2.cI,?_⟩) hst hpl
 exact xh (us:= .ref a::us) (vs:= .ref a::vs) F hr hb hd hx I2 (.cons rfl r) q2
theorem Eo {pl:Sem Bool} (he:PE X o ta) (c:cD X.K C) (hm:Meth X.K C m f) (F:aC X.prog X.w X.K X.mg X.base CX k f fd ps sp) (hr:aR k X.A) (hb:Binds X.K fd ps ds) (hd:Vals dvs ds) (hx:Passes CX X E)
  (ht:eval (.Call (.Attribute o m apos) [] [] pos) X.env=(do
   let ov←eval o X.env
   standAt apos.atName
   let (f,first)←holding [ov] (getMethod ov m pl)
   callWith pos f first (backTo pos (starEach [] X.env)) (backToKw pos (keywordEach [] X.env))):=by rfl):
  PE X (.Call (.Attribute o m apos) [] [] pos) (mC C m sp dvs E ta fY):=by
 intro pins s σ H Q I h
 refine PySem.W.methodCall_KW (pl:=pl) (aH (he pins s σ H _ I h) fun u s1 ⟨x,H1,I1,rx,a,dx,fs,ex,ea,l,q⟩=>?_) ht
 subst ex
 obtain rfl:u=Value.ref a:=rx
 refine Du I1 ea c hm l ?_
 exact PySem.W.callWith_K0 (first:= [.ref a]) I1.cI hm.kp (xh (us:= [.ref a]) (vs:= [.ref a]) F hr hb hd hx I1 (.cons rfl .nil) q)
structure Mk (K:PySem.W.Frag) (C f:Addr):Prop where
 makes:PySem.W.makesIn K C=true
 init:PySem.W.findIn K (.ref C) "__init__" =some (some (.ref f))
 fn:PySem.W.isFn K (.ref f)=true
 kp:PySem.W.keepIn K (.ref C)=true
theorem Gb {pins:List (Addr×Obj)} {σ:St} {H:Hp} {s:Shared} {Q:VK} {us:List Value} {vs:List V} (M:Mk X.K C f) (F:aC X.prog X.w X.K X.mg X.base CX k f fd ps sp) (hr:aR (k+1) X.A) (hb:Binds X.K fd ps ds) (hd:Vals dvs ds)
  (hx:Passes CX X E) (I:Inv X pins σ H s) (r:Vals vs us)
  (h: ∀x dx,H x=none→H dx=none→dx≠x→sp (.ref x::(vs++dvs)) (upd (upd H dx (.own x)) x (.ins C dx [])) (fun v H2=>v= .aD∧Q (.ref x) H2) E):
  wpAny (model X.prog X.w) X.A (call (.ref C) us) (EP X pins σ Q) X.xe s:=by
 have hq:=h (s.heap.objs.size+1) s.heap.objs.size (I.ax.fresh (Nat.le_succ _)) (I.ax.fresh (Nat.le_refl _)) (Nat.ne_of_lt (Nat.lt_succ_self _))
 have I2:=Inv.made (C:=C) I
 have r2:Vals (V.ref (s.heap.objs.size+1)::(vs++dvs)) (Value.ref (s.heap.objs.size+1)::(us++ds)):= .cons rfl (r.append hd)
 have hl:(Value.ref (s.heap.objs.size+1)::us++ds).length=ps.length:=by
  have e:=r2.length
  rw[F.len _ _ _ _ hq] at e
  exact e.symm
 refine wpAny_call (Me (f:=f) I.cI M.makes M.init (beq_iff_eq.mp M.fn) (codeAny_mono (F.run _ X.stack _ _ ⟨Value.ref (s.heap.objs.size+1)::us, []⟩ (Value.ref (s.heap.objs.size+1)::(us++ds)) _ _ E (hr.make C us [])
  (I2.vM.make C us []) (hb _ (Value.ref (s.heap.objs.size+1)::us) I2.cI hl) r2 hq) fun r s' hq'=>?_))
 cases r with
 |error e=>exact hx pins σ _ _ e s' I2 hq'
 |ok fl=>
  cases fl with
  |ret u=>
   obtain ⟨v,H',I3,rv,ev,q3⟩:=I2.after hq'
   subst ev
   exact ⟨rv,⟨V.ref (s.heap.objs.size+1),H',I3,rfl,q3⟩⟩
  |next=>exact False.elim hq'
  |brk=>exact False.elim hq'
  |cont=>exact False.elim hq'
theorem eJ (M:Mk X.K C f) (F:aC X.prog X.w X.K X.mg X.base CX k f fd ps sp) (hr:aR (k+1) X.A) (hg:Gl X x) (hm:X.mg x=some (.ref C)) (hb:Binds X.K fd ps ds) (hd:Vals dvs ds) (hx:Passes CX X E)
  (ha:PA X (e::es) t) (hdb:(x==("__debug__" :Str))=false:=by decide) (he:starEach (e::es) X.env=(false,eval e X.env)::starEach es X.env:=by rfl) (hpl:(backTo pos (starEach es X.env)).any (·.1)=false:=by rfl):
  PE X (.Call (.Name x p) (e::es) [] pos) (DW C sp dvs E t):=by
 intro pins s σ H Q I h
 refine wpAny_Call_Name_kw (kf I hg hm ?_ hdb)
 refine PySem.W.callWith_K (h₀:=X.base) I.ok.mod.kC M.kp (aH (ha pos pins s σ H _ I h) fun us s1 ⟨vs,H1,I1,r,q⟩=>⟨I1.cI,?_⟩) he hpl
 exact Gb M F hr hb hd hx I1 r q
theorem Fn (M:Mk X.K C f) (F:aC X.prog X.w X.K X.mg X.base CX k f fd ps sp) (hr:aR (k+1) X.A) (hg:Gl X x) (hm:X.mg x=some (.ref C)) (hb:Binds X.K fd ps ds) (hd:Vals dvs ds) (hx:Passes CX X E)
  (hdb:(x==("__debug__" :Str))=false:=by decide):PE X (.Call (.Name x p) [] [] pos) (DW C sp dvs E fY):=by
 intro pins s σ H Q I h
 refine wpAny_Call_Name_kw (kf I hg hm ?_ hdb)
 exact PySem.W.callWith_K0 I.cI M.kp (Gb (us:= []) M F hr hb hd hx I .nil h)
end
def PK (X:Cx) (kws:List Keyword) (t:TA):Prop:=
 ∀(pos:Pos) (pins:List (Addr×Obj)) (s:Shared) (σ:St) (H:Hp) (Q:List V→Hp→Prop),Inv X pins σ H s→t σ H Q→wpAny (model X.prog X.w) X.A (evalAll ((backToKw pos (keywordEach kws X.env)).map (·.2))) (AP X pins σ Q) X.xe s
section
variable {X:Cx} {CX:fi} {k:Nat} {f C:Addr} {fd:FuncData} {ps ks:List Str} {sp:Sp} {E:XK} {x m:Str} {p pos apos kpos:Pos} {e o:Expr} {es:List Expr} {kws:List Keyword} {te ta:TE} {t tk:TA} {nm:Option Str}
theorem Kc:PK X [] fY:=fun _ _ _ _ H Q I h=>wpAny_evalAll_nil ⟨[],H,I, .nil,h⟩
theorem Of (ha:PE X e te) (hr:PK X kws t):PK X (⟨nm,e,kpos⟩::kws) (fh te t):=by
 intro pos pins s σ H Q I h
 show wpAny _ _ (evalAll ((do let v←eval e X.env;standAt pos;pure v)::(backToKw pos (keywordEach kws X.env)).map (·.2))) _ _ s
 refine wpAny_evalAll_cons (wpAny_bind (aH (ha pins s σ H _ I h) fun u s1 ⟨x,H1,I1,r1,q1⟩=>wpAny_bind (wpAny_standAt (wpAny_pure ?_))))
 exact aH (hr pos pins s1 σ H1 _ I1 q1) fun us s2 ⟨xs,H2,I2,r2,q2⟩=>⟨x::xs,H2,I2, .cons r1 r2,q2⟩
variable {g:List Value→List Value→List Value} {gV:List V→List V→List V}
end
structure aM (N P:List Str) (sc:Scope):Prop where
 kind:sc.kind= .function
 co:sc.isCoroutine=false
 gen:sc.isGenerator=false
 nd:N.Nodup
 pre:N.take P.length=P
 par: ∀x∈P,sc.names.lookup x=some .local∨sc.names.lookup x=some .cell
 Pa: ∀y∈sc.names,y.2≠ .free
theorem zi {kindOf:Str→Option NameKind} {x:Str}: ∀{binds:List (Str×Value)} {m:Str→Option Value},(∀v,(x,v)∉binds)→bindL kindOf binds m x=m x
 | [],_,_=>rfl
 |(n,v)::r,m,h=>by
  unfold bindL
  rw[zi fun w hw=>h w (List.mem_cons_of_mem _ hw)]
  split
  ·have:x≠n:=by rintro rfl;exact h v List.mem_cons_self
   simp [this]
  ·rfl
theorem EN {kindOf:Str→Option NameKind} {x:Str}: ∀{binds:List (Str×Value)} {m:Str→Option Value},(∀v,(x,v)∉binds)→bindC kindOf binds m x=m x
 | [],_,_=>rfl
 |(n,v)::r,m,h=>by
  unfold bindC
  rw[EN fun w hw=>h w (List.mem_cons_of_mem _ hw)]
  split
  ·rfl
  ·have:x≠n:=by rintro rfl;exact h v List.mem_cons_self
   simp [this]
theorem AI {kindOf:Str→Option NameKind} {x:Str} {v:Value}: ∀{P:List Str} {vs:List Value} {i:Nat} {m:Str→Option Value},P.Nodup→P[i]?=some x→vs[i]?=some v→kindOf x=some .local→
  bindL kindOf (P.zip vs) m x=some v
 | [],_,_,_,_,h,_,_=>by simp at h
 |_::_, [],_,_,_,_,h,_=>by simp at h
 |p::P,w::vs,0,m,nd,h1,h2,hk=>by
  simp at h1 h2;subst h1;subst h2
  show bindL kindOf ((p,w)::P.zip vs) m p=_
  unfold bindL
  rw[zi fun v hv=>(List.nodup_cons.mp nd).1 (List.of_mem_zip hv).1,if_pos hk]
  simp
 |p::P,w::vs,i+1,m,nd,h1,h2,hk=>by
  show bindL kindOf ((p,w)::P.zip vs) m x=_
  unfold bindL
  exact AI (i:=i) (List.nodup_cons.mp nd).2 (by simpa using h1) (by simpa using h2) hk
theorem AZ {kindOf:Str→Option NameKind} {x:Str} {v:Value}: ∀{P:List Str} {vs:List Value} {i:Nat} {m:Str→Option Value},P.Nodup→P[i]?=some x→vs[i]?=some v→kindOf x≠some .local→
  bindC kindOf (P.zip vs) m x=some v
 | [],_,_,_,_,h,_,_=>by simp at h
 |_::_, [],_,_,_,_,h,_=>by simp at h
 |p::P,w::vs,0,m,nd,h1,h2,hk=>by
  simp at h1 h2;subst h1;subst h2
  show bindC kindOf ((p,w)::P.zip vs) m p=_
  unfold bindC
  rw[EN fun v hv=>(List.nodup_cons.mp nd).1 (List.of_mem_zip hv).1,if_neg hk]
  simp
 |p::P,w::vs,i+1,m,nd,h1,h2,hk=>by
  show bindC kindOf ((p,w)::P.zip vs) m x=_
  unfold bindC
  exact AZ (i:=i) (List.nodup_cons.mp nd).2 (by simpa using h1) (by simpa using h2) hk
def start (N:List Str) (vs:List V):St:=vs.map some++List.replicate (N.length-vs.length) none
def gE (CX:fi) (P:Program) (w:World) (K:PySem.W.Frag) (mg:Str→Option Value) (base:Heap) (N:List Str) (qual:Str) (scope:Scope) (f:Addr) (cd:Value) (A:Around) (outer:List Env) (s:Shared) (H:Hp) (E:XK):Cx where
 prog:=P
 w:=w
 K:=K
 mg:=mg
 base:=base
 A:=A.deeper (envOfC qual scope s.heap.objs.size f cd)
 N:=N
 bB:=s
 kM:=H
 env:=envOfC qual scope s.heap.objs.size f cd
 outer:=outer
 stack:=envOfC qual scope s.heap.objs.size f cd::outer
 ex:= []
 calm:=true
 fn:=fun _=>true
 pn:= []
 xe:=fun e s'=>wpAny (model P w) (A.deeper (envOfC qual scope s.heap.objs.size f cd)) (leaving (envOfC qual scope s.heap.objs.size f cd) e) (fun _ s''=>CX outer H s E e s'') (fun e' s''=>CX outer H s E e' s'') s'
theorem zU {sc:Scope} {n:Nat} {x:Str} (h:sc.names.lookup x=some .cell): ∃c,(cellsFrom n sc.names []).lookup x=some c:=by
 have q:=PySem.W.cellsFrom_some sc.names n [] (.inl h)
 exact Option.isSome_iff_exists.mp q
theorem JH {CX:fi} {P:Program} {w:World} {K:PySem.W.Frag} {mg:Str→Option Value} {base:Heap} {N ps:List Str} {qual:Str} {scope:Scope} {f:Addr} {cd:Value} {A:Around} {outer:List Env} {s s1:Shared} {H:Hp} {E:XK} {us:List Value} {vs:List V}
  (S:aM N ps scope) (hd:A.handled=none) (e0:jC P w K mg base A outer s H) (hl:vs.length=ps.length) (r:Vals vs us)
  (x:InCallC s s.heap.objs.size (bindL (envOfC qual scope s.heap.objs.size f cd).kindOf (ps.zip us) fun _=>none) (cellsFrom (s.heap.objs.size+1) scope.names []) (bindC (envOfC qual scope s.heap.objs.size f cd).kindOf (ps.zip us) fun _=>none) s1):
  Inv (gE CX P w K mg base N qual scope f cd A outer s H E) [] (start N vs) H s1:=by
 have hpl:ps.length≤N.length:=by have:=congrArg List.length S.pre;rw[List.length_take] at this;lia
 obtain ⟨h1,tk,rfl,hk⟩:=x.done
 have noA: ∀b:Addr,b∉(gE CX P w K mg base N qual scope f cd A outer s H E).ex:=fun b z=>absurd (show b∈([]:List Addr) from z) (by simp)
 refine ⟨⟨e0.mod,S.kind,rfl,rfl,Nat.le_refl _,fun y z c h1 h2=>?_,fun y hy=>?_,fun y c _ h=>?_,fun _=>hd,Around.frames_deeper e0.frames, .inr ⟨rfl,rfl⟩,fun b z=>absurd z (noA b),e0.bs,e0.gn,fun b _ _=>noA b,fun b z=>absurd z (noA b),e0.eQ,e0.iu⟩,
  rfl,e0.bare,Un.kept hk,⟨_,x.toInCall.ns,fun i y v h1 h2 h3=>?_⟩,fun y c h=>⟨_,x.cell y c h⟩,e0.ax.fresh (Nat.le_refl _),fun y c h=>?_,fun p hp=>absurd (show p∈([]:List (Addr×Obj)) from hp) (by simp),e0.ax.kept hk,?_⟩
 ·exact name_of_addr x.apart (PySem.mem_of_lookup h1) (PySem.mem_of_lookup h2)
 ·have hy:scope.names.lookup y=some .cell∨scope.names.lookup y=some .free:=hy
  rcases hy with hy|hy
  ·exact zU hy
  ·exact absurd rfl (S.Pa _ (PySem.mem_of_lookup hy))
 ·exact Nat.le_of_lt (x.above y c (PySem.mem_of_lookup h))
 ·have hi:i<vs.length:=by
   unfold start at h2
   by_cases hi:i<vs.length
   ·exact hi
   ·rw[List.getElem?_append_right (by simpa using hi)] at h2
    rw[List.getElem?_replicate] at h2
    split at h2<;>cases h2
  have ha:vs[i]?=some v:=by
   unfold start at h2
   rw[List.getElem?_append_left (by simpa using hi),List.getElem?_map] at h2
   cases e:vs[i]? with
   |none=>rw[e] at h2;cases h2
   |some a=>rw[e] at h2;cases h2;rfl
  obtain ⟨u,hu,rv⟩:=r.get ha
  have hp:ps[i]?=some y:=by
   rw[←S.pre,List.getElem?_take_of_lt (by lia)];exact h1
  have ndP:ps.Nodup:=by rw[←S.pre];exact S.nd.sublist (List.take_sublist _ _)
  refine ⟨u,rv,?_⟩
  rcases S.par y (List.mem_of_getElem? hp) with k|k
  ·exact .inl ⟨k,AI ndP hp hu k⟩
  ·obtain ⟨c,e⟩:=zU (n:=s.heap.objs.size+1) k
   refine .inr ⟨.inl k,c,e,?_⟩
   have q:=x.cell y c e
   rw[AZ ndP hp hu (by show scope.names.lookup y≠_;rw[k];decide)] at q
   exact q
 ·exact e0.ax.fresh (Nat.le_of_lt (x.above y c (PySem.mem_of_lookup h)))
 ·unfold start
  show _=N.length
  rw[List.length_append,List.length_map,List.length_replicate]
  lia
theorem Em {CX:fi} {P:Program} {w:World} {K:PySem.W.Frag} {mg:Str→Option Value} {base:Heap} {k:Nat} {f:Addr} {name qual:Str} {params:Arguments} {body:List Stmt} {scope:Scope} {dV kV doc pm cdv ct oc:Value} {an od:Option Addr}
  {osl:Array (Option Value)} {N ps:List Str} {sp:Sp} (lk:K.lookup f=some ⟨oc,od, .func (PySem.W.fnOf name qual params body scope dV kV doc pm an cdv ct),osl⟩) (hcd:PySem.W.codeIn K cdv qual=true) (S:aM N ps scope)
  (len: ∀vs H Q E,sp vs H Q E→vs.length=ps.length)
  (hbody: ∀(A:Around) (outer:List Env) (s:Shared) (H:Hp) (vs:List V) (Q:VK) (E:XK),aR k (A.deeper (envOfC qual scope s.heap.objs.size f cdv))→sp vs H Q E→
   ∃t,dS (gE CX P w K mg base N qual scope f cdv A outer s H E) body t∧t {nx:=fun _ H'=>Q .aD H',rt:=Q} (start N vs) H):
  aC P w K mg base CX (k+1) f (PySem.W.fnOf name qual params body scope dV kV doc pm an cdv ct) ps sp:=by
 refine ⟨len,fun A outer s H args us vs Q E hr e0 hb r hsp=>?_⟩
 have hl:=len _ _ _ _ hsp
 have KX:K.In s.heap:=e0.mod.kC.keeps fun b o e=>(e0.bs b o e).1
 have lim:s.heap.NoLimit:=e0.mod.nolimit.keeps fun b o e=>(e0.bs b o e).1
 have hkind: ∀y∈ps.zip us,scope.names.lookup y.1=some .local∨(scope.names.lookup y.1=some .cell∧((cellsFrom (s.heap.objs.size+1) scope.names []).lookup y.1).isSome=true):=fun ⟨n,v⟩ hy=>by
  rcases S.par n (List.of_mem_zip hy).1 with q|q
  ·exact .inl q
  ·exact .inr ⟨q,PySem.W.cellsFrom_some _ _ _ (.inl q)⟩
 refine codeAny_call_function hr.depth (KX _ _ lk) rfl S.co S.gen rfl (PySem.W.codeRec_of KX hcd) (hb _ _ _ _ ?_)
 refine wpAny_newFunctionEnv_cells S.kind hkind fun env he s1 x=>?_
 subst he
 refine ⟨lim.keeps x.toInCall.keep,codeAny_func ?_⟩
 obtain ⟨t,ht,hq⟩:=hbody A outer s H vs Q E (hr.deeper _) hsp
 have I:Inv (gE CX P w K mg base N qual scope f cdv A outer s H E) [] (start N vs) H s1:=JH S hr.hd e0 hl r x
 refine wpAny_mono (ht [] s1 (start N vs) H _ I hq) (fun fl s' hs=>?_) fun e s' hs=>hs
 have fin: ∀{σ':St} {H':Hp} {v:V} {u:Value},Inv (gE CX P w K mg base N qual scope f cdv A outer s H E) [] σ' H' s'→RelV v u→Q v H'→CE outer P w H s Q u s':=
  fun {σ' H' v u} J rv q=>⟨v,H',J.os,J.bare,J.base,J.ax,rv,q⟩
 cases fl with
 |ret u=>
  obtain ⟨v,σ',H',J,rv,q⟩:=hs
  exact fin J rv q
 |next=>
  obtain ⟨σ',H',J,q⟩:=hs
  exact fin (v:=V.aD) (u:=Value.none) J rfl q
 |brk=>
  obtain ⟨_,_,_,q⟩:=hs
  exact False.elim q
 |cont=>
  obtain ⟨_,_,_,q⟩:=hs
  exact False.elim q
end L2
namespace L2
open PySem PySem.Spec PyProof.Rows
section
variable {X:Cx} {x:Str} {p pos:Pos} {e:Expr} {es:List Expr} {t:TA} {id T:String} {r:List V→Hp→VK→Prop}
def yO (r:List V→Hp→VK→Prop) (t:TA):TE:=fun σ H Q=>t σ H fun vs H1=>r vs H1 Q
theorem bf (hc:fk X (.builtin id) r) (hg:Gl X x) (hm:X.mg x=none) (hv:bootBuiltins x=some (.builtin id)) (ha:PA X (e::es) t) (hn:x≠ "__name__" :=by decide) (hdb:(x==("__debug__" :Str))=false:=by decide)
  (he:starEach (e::es) X.env=(false,eval e X.env)::starEach es X.env:=by rfl) (hpl:(backTo pos (starEach es X.env)).any (·.1)=false:=by rfl):PE X (.Call (.Name x p) (e::es) [] pos) (yO r t):=by
 intro pins s σ H Q I h
 refine wpAny_Call_Name_kw (ia I hg hm hv ?_ hn hdb)
 exact PyProof.Rows.callWith_builtin1 (aH (ha pos pins s σ H _ I h) fun us s1 ⟨vs,H1,I1,r1,q1⟩=>hc pins s1 σ H1 vs us Q I1 r1 q1) he hpl
theorem wa (hc:fk X (.type T) r) (hg:Gl X x) (hm:X.mg x=none) (hv:bootBuiltins x=some (.type T)) (ha:PA X (e::es) t) (hn:x≠ "__name__" :=by decide) (hdb:(x==("__debug__" :Str))=false:=by decide)
  (he:starEach (e::es) X.env=(false,eval e X.env)::starEach es X.env:=by rfl) (hpl:(backTo pos (starEach es X.env)).any (·.1)=false:=by rfl):PE X (.Call (.Name x p) (e::es) [] pos) (yO r t):=by
 intro pins s σ H Q I h
 refine wpAny_Call_Name_kw (ia I hg hm hv ?_ hn hdb)
 exact PyProof.Rows.callWith_type1 (aH (ha pos pins s σ H _ I h) fun us s1 ⟨vs,H1,I1,r1,q1⟩=>hc pins s1 σ H1 vs us Q I1 r1 q1) he hpl
end
end L2
namespace HT
open PySem PyProof.Rows
section
open PySem.SeqAt
open PySem.AutoSeq1 (wpAny_loadPart')
open PySem.MeetsSeq PySem.MeetsSeq2 PySem.MeetsSeq3
end
section
variable {prog:Program} {w:World} {A:Around} {E:Value→Shared→Prop} {s:Shared}
def cX (n d:Nat):Option Int→Nat
 |none=>d
 |some v=>if v<0 then (v+(n:Int)).toNat else min v.toNat n
end
end HT
namespace L2
open PySem PySem.Spec PyProof.Rows
abbrev TO:=St→Hp→(Option Int→Hp→Prop)→Prop
def PO (X:Cx) (e:Option Expr) (t:TO):Prop:=
 ∀(pins:List (Addr×Obj)) (s:Shared) (σ:St) (H:Hp) (Q:Option Int→Hp→Prop),Inv X pins σ H s→t σ H Q→
  wpAny (model X.prog X.w) X.A (evalPart e X.env) (fun u s'=> ∃o H',Inv X pins σ H' s'∧IsPart u o∧Q o H') X.xe s
def FX:TO:=fun _ H Q=>Q none H
def tD (t:TE):TO:=fun σ H Q=>t σ H fun x H1=> ∃i,x= .int i∧Q (some i) H1
section
variable {X:Cx} {e:Expr} {te:TE} {lo hi:Option Expr} {tl th:TO} {pos p2:Pos}
theorem SW:PO X none FX:=by
 intro pins s σ H Q I h
 rw[evalPart_none]
 exact wpAny_pure ⟨none,H,I, .none,h⟩
theorem fq (h:PE X e te):PO X (some e) (tD te):=by
 intro pins s σ H Q I hw
 rw[evalPart_some]
 refine aH (h pins s σ H _ I hw) fun u s1 ⟨x,H1,I1,r1,q1⟩=>?_
 obtain ⟨i,rfl,q⟩:=q1
 obtain ⟨t,rfl⟩:=r1
 exact ⟨some i,H1,I1, .int i t,q⟩
def Bb (X:Cx) (r:V→Option Int→Option Int→Hp→VK→Prop):Prop:=
 ∀(pins:List (Addr×Obj)) (s:Shared) (σ:St) (H:Hp) (x:V) (v vl vu:Value) (lo hi:Option Int) (sl:Addr) (Q:VK),Inv X pins σ H s→RelV x v→s.heap.IsSliceOf sl vl vu .none→IsPart vl lo→IsPart vu hi→r x lo hi H Q→
  ∃T id,typeLookup (.type T) "__getitem__" =pure (some (.builtin id))∧s.TypeIs v T∧wpAny (model X.prog X.w) X.A (getItem v (.ref sl)) (EP X pins σ Q) X.xe s
def yf (r:V→Option Int→Option Int→Hp→VK→Prop) (te:TE) (tl th:TO):TE:=fun σ H Q=>te σ H fun x H1=>tl σ H1 fun l H2=>th σ H2 fun u H3=>r x l u H3 Q
theorem j8 {r:V→Option Int→Option Int→Hp→VK→Prop} (hr:Bb X r) (he:PE X e te) (hl:PO X lo tl) (hu:PO X hi th):PE X (.Subscript e (.Slice lo hi none p2) pos) (yf r te tl th):=by
 intro pins s σ H Q I h
 refine Subscript_ (aH (he pins s σ H _ I h) fun v s1 ⟨x,H1,I1,r1,q1⟩=>?_)
 refine wpAny_Slice (aH (hl pins s1 σ H1 _ I1 q1) fun vl s2 ⟨l,H2,I2,pl,q2⟩=>aH (hu pins s2 σ H2 _ I2 q2) fun vu s3 ⟨u,H3,I3,pu,q3⟩=>?_)
 rw[evalPart_none]
 refine wpAny_pure ?_
 have I4:Inv X pins σ H3 {s3 with heap:=s3.heap.push {cls:= .type "slice",data:= .fields #[vl,vu, .none]}}:=I3.kept (t':=s3.toks) fun b ob q=>Heap.get?_push_of_some _ q
 obtain ⟨T,id,hT,ht,hg⟩:=hr pins {s3 with heap:=s3.heap.push {cls:= .type "slice",data:= .fields #[vl,vu, .none]}} σ H3 x v vl vu l u s3.heap.objs.size Q I4 r1 (Heap.IsSliceOf.new ..) pl pu q3
 show wpAny (model X.prog X.w) X.A (subscriptTail e (.Slice lo hi none p2) v (.ref s3.heap.objs.size)) (EP X pins σ Q) X.xe {s3 with heap:=s3.heap.push {cls:= .type "slice",data:= .fields #[vl,vu, .none]}}
 exact tail_any (ops:= [.ref s3.heap.objs.size,v]) ht hT hg (by with_unfolding_all rfl)
def dv (xs:List V) (lo hi:Option Int):List V:=(xs.drop (HT.cX xs.length 0 lo)).take (HT.cX xs.length xs.length hi-HT.cX xs.length 0 lo)
theorem SA (xs:List V) (lo hi:Option Int):(dv xs lo hi).length≤xs.length:=by
 unfold dv
 rw[List.length_take,List.length_drop]
 lia
end
end L2
namespace L2
open PySem PySem.Spec PyProof.Rows
def jI (n:Nat) (i:Int):Option Nat:=if 0≤i then (if i<n then some i.toNat else none) else if-(n:Int)≤i then some (i+n).toNat else none
def gq {α:Type} (xs:List α) (i:Int):Option α:=(jI xs.length i).bind fun j=>xs[j]?
theorem LK {n:Nat} {i:Int} {j:Nat} (h:jI n i=some j):seqIndex? i n=some j∧j<n∧ -(n:Int)≤i∧i<n:=by
 unfold jI at h
 by_cases h0:0≤i
 ·rw[if_pos h0] at h
  by_cases h1:i<n
  ·rw[if_pos h1] at h
   have e:i.toNat=j:=Option.some.inj h
   exact ⟨by rw[seqIndex_of h0 h1,e],by lia,by lia,h1⟩
  ·rw[if_neg h1] at h;cases h
 ·rw[if_neg h0] at h
  by_cases h1: -(n:Int)≤i
  ·rw[if_pos h1] at h
   have e:(i+n).toNat=j:=Option.some.inj h
   exact ⟨by rw[seqIndex_neg (by lia) h1,e],by lia,h1,by lia⟩
  ·rw[if_neg h1] at h;cases h
theorem EY {α:Type} {xs:List α} {i:Int} {v:α} (h:gq xs i=some v): ∃j,seqIndex? i xs.length=some j∧xs[j]?=some v∧j<xs.length∧ -(xs.length:Int)≤i∧i<xs.length:=by
 unfold gq at h
 cases e:jI xs.length i with
 |none=>rw[e] at h;cases h
 |some j=>
  rw[e] at h
  obtain ⟨h1,h2,h3,h4⟩:=LK e
  exact ⟨j,h1,h,h2,h3,h4⟩
theorem bP {α:Type} {xs:List α} {j:Nat} {v:α} (h:xs[j]?=some v):gq xs (j:Int)=some v:=by
 have hj:j<xs.length:=(List.getElem?_eq_some_iff.mp h).1
 have e:jI xs.length (j:Int)=some j:=by
  unfold jI
  rw[if_pos (by lia),if_pos (by lia)];simp
 unfold gq;rw[e];exact h
def Ly (b:Expr):Prop:= ∀o i,subscripted b false o i=operate [o,i] (getItem o i)
def o6 (X:Cx) (r:R2):Prop:=
 ∀(value slice:Expr) (pins:List (Addr×Obj)) (s:Shared) (σ:St) (H:Hp) (x y:V) (v u:Value) (Q:VK),Inv X pins σ H s→RelV x v→RelV y u→r x y H Q→
  subscripted slice false v u=operate [v,u] (getItem v u)→wpAny (model X.prog X.w) X.A (subscriptTail value slice v u) (EP X pins σ Q) X.xe s
def sr (X:Cx) (id:String) (r:V→List V→Hp→VK→Prop):Prop:=
 ∀(pins:List (Addr×Obj)) (s:Shared) (σ:St) (H:Hp) (x:V) (xs:List V) (v:Value) (us:List Value) (Q:VK),Inv X pins σ H s→RelV x v→Vals xs us→r x xs H Q→
  wpAny (model X.prog X.w) X.A (call (.builtin id) (v::us)) (EP X pins σ Q) X.xe s
section
variable {X:Cx} {a b:Expr} {ta tb:TE} {pos:Pos}
theorem bS {r:R2} (hr:o6 X r) (ha:PE X a ta) (hb:PE X b tb) (hs:Ly b):PE X (.Subscript a b pos) (fS r ta tb):=by
 intro pins s σ H Q I h
 exact Subscript_ (vE ha hb I h fun v u s2 x y H2 I2 rx ry q=>hr a b pins s2 σ H2 x y v u Q I2 rx ry q (hs _ _))
def yA (K:PySem.W.Frag):R2:=fun x y H Q=> ∃p xs i v,x= .ref p∧y= .int i∧ae K H p xs∧gq xs i=some v∧Q v H
def ra (K:PySem.W.Frag):R2:=fun x y H Q=> ∃p xs i v,x= .ref p∧y= .int i∧aZ K H p xs∧gq xs i=some v∧Q v H
theorem eN:o6 X (yA X.K):=by
 intro value slice pins s σ H x y v u Q I rx ry h hs
 obtain ⟨p,xs,i,z,rfl,rfl,hq,he,q⟩:=h
 cases rx
 obtain ⟨t,rfl⟩:=ry
 obtain ⟨its,r,pl,hz⟩:=I.list hq
 obtain ⟨j,h1,h2,h3,h4,h5⟩:=EY he
 obtain ⟨w,ew,rw'⟩:=r.get h2
 have hl:=r.length
 have hn:=x8
 have fin:EP X pins σ Q w s:=⟨z,H,I,rw',q⟩
 by_cases h0:0≤i
 ·have hj:i.toNat=j:=by
   rw[seqIndex_of h0 h5] at h1
   exact Option.some.inj h1
  exact item_listR pl.isList h0 (by lia) (by rw[hj];simpa using ew) fin hs
 ·have hj:(i+(its.toArray.size:Int)).toNat=j:=by
   rw[seqIndex_neg (by lia) h4] at h1
   rw[List.size_toArray,←hl]
   exact Option.some.inj h1
  exact subscriptTail_builtinR (x:=w) pl.isList.typeIs slot_list_getitem.lookup
   (wpAny_getItem_list_neg (Q:=fun r s'=>r=w∧EP X pins σ Q r s') pl.isList (by lia) (by rw[List.size_toArray]<;>lia) (by lia) (by rw[hj];simpa using ew) ⟨rfl,fin⟩) hs
theorem ro:o6 X (ra X.K):=by
 intro value slice pins s σ H x y v u Q I rx ry h hs
 obtain ⟨p,xs,i,z,rfl,rfl,hq,he,q⟩:=h
 cases rx
 obtain ⟨t,rfl⟩:=ry
 obtain ⟨its,r,pl,hz⟩:=I.tuple hq
 obtain ⟨j,h1,h2,h3,h4,h5⟩:=EY he
 obtain ⟨w,ew,rw'⟩:=r.get h2
 have hl:=r.length
 have hn:=x8
 have fin:EP X pins σ Q w s:=⟨z,H,I,rw',q⟩
 exact subscriptTail_builtinR (x:=w) pl.typeIs slot_tuple_getitem.lookup
  (getItem_tuple (j:=j) (Q:=fun r s'=>r=w∧EP X pins σ Q r s') pl (by lia) (by lia) (by rw[List.size_toArray,←hl];exact h1) (by simpa using ew) ⟨rfl,fin⟩) hs
theorem Ou (lo hi:Option Int) (n:Nat):(sliceBounds lo hi none n).1=((HT.cX n 0 lo:Nat):Int)∧(sliceBounds lo hi none n).2.1=((HT.cX n n hi:Nat):Int)∧(sliceBounds lo hi none n).2.2=1:=by
 refine ⟨?_,?_,rfl⟩
 ·cases lo with
  |none=>simp [sliceBounds,HT.cX]
  |some i=>
   simp only [sliceBounds,HT.cX,Option.getD_none,show (1:Int)>0 by decide,if_true]
   by_cases h:i<0
   ·simp only [h,if_true]<;>lia
   ·simp only [h,if_false]<;>lia
 ·cases hi with
  |none=>simp [sliceBounds,HT.cX]
  |some i=>
   simp only [sliceBounds,HT.cX,Option.getD_none,show (1:Int)>0 by decide,if_true]
   by_cases h:i<0
   ·simp only [h,if_true]<;>lia
   ·simp only [h,if_false]<;>lia
theorem MH (its:List Value) (lo hi:Option Int):slicePick its.toArray lo hi none=((its.drop (HT.cX its.length 0 lo)).take (HT.cX its.length its.length hi-HT.cX its.length 0 lo)).toArray:=by
 obtain ⟨h1,h2,h3⟩:=Ou lo hi its.toArray.size
 unfold slicePick
 rw[h1,h2,h3]
 simp only [sliceRange_one,pick_run,List.size_toArray]<;>rfl
def xf (K:PySem.W.Frag):V→Option Int→Option Int→Hp→VK→Prop:=fun x lo hi H Q=> ∃a xs,x= .ref a∧ae K H a xs∧ ∀p,H p=none→Q (.ref p) (upd H p (.lst (dv xs lo hi)))
theorem jF:Bb X (xf X.K):=by
 intro pins s σ H x v vl vu lo hi sl Q I rx hs pl pu h
 obtain ⟨a,xs,rfl,hx,q⟩:=h
 cases rx
 obtain ⟨its,r,ht,hz⟩:=I.list hx
 have hlen:=r.length
 refine ⟨"list",_,slot_list_getitem.lookup,ht.isList.typeIs,?_⟩
 refine wpAny_getItem_list_slice ht.isList hs pl pu .none (by simp) ?_ (by rw[List.size_toArray]<;>lia)
 rw[MH,←hlen]
 refine ⟨.ref s.heap.objs.size,_,I.laid (t':=s.toks) (o:= .lst (dv xs lo hi)) (fun b ob q=>Heap.get?_push_of_some _ q) (Nat.le_refl _) ?_,rfl,q _ (I.ax.fresh (Nat.le_refl _))⟩
 exact ⟨Nat.le_trans (SA xs lo hi) hz,_,0,(r.drop (HT.cX xs.length 0 lo)).take (HT.cX xs.length xs.length hi-HT.cX xs.length 0 lo),Heap.get?_push_size _ rfl⟩
def gP:V→Bool
 | .aD=>true
 | .bl _=>true
 | .int _=>true
 | .str _=>true
 |_=>false
def gh:V→V→Bool
 | .aD, .aD=>true
 | .bl a, .bl b=>a==b
 | .bl a, .int b=>(if a then 1 else 0)==b
 | .int a, .bl b=>a==(if b then 1 else 0)
 | .int a, .int b=>a==b
 | .str a, .str b=>a==b
 |_,_=>false
theorem Kq {A:Around} {s:Shared} {y x:V} {u v:Value} (ry:RelV y u) (rx:RelV x v) (fy:gP y=true) (fx:gP x=true):SeqAt.EqAt A s u v (gh y x):=by
 cases y with
 |aD=>
  cases ry
  cases x with
  |aD=>cases rx;exact SeqAt.EqAt.same _
  |bl b=>cases rx;exact SeqAt.EqAt.none_bool b
  |int b=>obtain ⟨t,rfl⟩:=rx;exact SeqAt.EqAt.none_int b t
  |str b=>obtain ⟨t,rfl⟩:=rx;exact SeqAt.EqAt.none_str b t
  |_=>exact absurd (show false=true from fx) Bool.false_ne_true
 |bl a=>
  cases ry
  cases x with
  |aD=>cases rx;exact SeqAt.EqAt.bool_none a
  |bl b=>cases rx;exact SeqAt.EqAt.bool_bool a b
  |int b=>obtain ⟨t,rfl⟩:=rx;exact SeqAt.EqAt.bool_int a b t
  |str b=>obtain ⟨t,rfl⟩:=rx;exact SeqAt.EqAt.bool_str a b t
  |_=>exact absurd (show false=true from fx) Bool.false_ne_true
 |int a=>
  obtain ⟨t',rfl⟩:=ry
  cases x with
  |aD=>cases rx;exact SeqAt.EqAt.int_none a t'
  |bl b=>cases rx;exact SeqAt.EqAt.int_bool a t' b
  |int b=>obtain ⟨t,rfl⟩:=rx;exact SeqAt.EqAt.int_int a t' b t
  |str b=>obtain ⟨t,rfl⟩:=rx;exact SeqAt.EqAt.int_str a t' b t
  |_=>exact absurd (show false=true from fx) Bool.false_ne_true
 |str a=>
  obtain ⟨t',rfl⟩:=ry
  cases x with
  |aD=>cases rx;exact SeqAt.EqAt.str_none a t'
  |bl b=>cases rx;exact SeqAt.EqAt.str_bool a t' b
  |int b=>obtain ⟨t,rfl⟩:=rx;exact SeqAt.EqAt.str_int a t' b t
  |str b=>obtain ⟨t,rfl⟩:=rx;exact SeqAt.EqAt.str_str a t' b t
  |_=>exact absurd (show false=true from fx) Bool.false_ne_true
 |_=>exact absurd (show false=true from fy) Bool.false_ne_true
def vG (x:V) (u:Value):Bool:=match u with
 | .none=>gh .aD x
 | .bool b=>gh (.bl b) x
 | .int i _=>gh (.int i) x
 | .str z _=>gh (.str z) x
 |_=>false
theorem wZ {x y:V} {u:Value} (r:RelV y u) (f:gP y=true):vG x u=gh y x:=by
 cases y with
 |aD=>cases r;rfl
 |bl b=>cases r;rfl
 |int i=>obtain ⟨t,rfl⟩:=r;rfl
 |str z=>obtain ⟨t,rfl⟩:=r;rfl
 |_=>exact absurd (show false=true from f) Bool.false_ne_true
theorem FN {A:Around} {s:Shared} {x:V} {v:Value} (rx:RelV x v) (fx:gP x=true): ∀{xs:List V} {us:List Value},Vals xs us→xs.all gP=true→ ∀u∈us,SeqAt.EqAt A s u v (vG x u)
 |_,_, .nil,_=>fun u hu=>by cases hu
 |y::xs,u::us, .cons r t,f=>fun u' hu=>by
  rw[List.all_cons,Bool.and_eq_true] at f
  rcases List.mem_cons.mp hu with rfl|hu
  ·rw[wZ r f.1];exact Kq r rx f.1 fx
  ·exact FN rx fx t f.2 u' hu
theorem bU:fk X (.builtin "len") (fun xs H Q=> ∃p ys,xs= [.ref p]∧(ae X.K H p ys∨aZ X.K H p ys)∧Q (.int ys.length) H):=by
 intro pins s σ H xs us Q I r h
 obtain ⟨p,ys,rfl,hq,q⟩:=h
 obtain ⟨u,rfl,rx⟩:=vals1 r
 cases rx
 have hn:=x8
 rcases hq with hq|hq
 ·obtain ⟨its,r',pl,hz⟩:=I.list hq
  have hlen:=r'.length
  exact Calls.call_len_list pl.isList (by simp only [List.size_toArray]<;>lia) ⟨.int ys.length,H,I.tok _,⟨s.toks+1,by rw[List.size_toArray,hlen]⟩,q⟩
 ·obtain ⟨its,r',pl,hz⟩:=I.tuple hq
  have hlen:=r'.length
  exact len_tuple pl (by simp only [List.size_toArray]<;>lia) ⟨.int ys.length,H,I.tok _,⟨s.toks+1,by rw[List.size_toArray,hlen]⟩,q⟩
theorem Dd:fk X (.type "list") (fun xs H Q=> ∃p ys,xs= [.ref p]∧(ae X.K H p ys∨aZ X.K H p ys)∧ ∀l,H l=none→Q (.ref l) (upd H l (.lst ys))):=by
 intro pins s σ H xs us Q I r h
 obtain ⟨p,ys,rfl,hq,q⟩:=h
 obtain ⟨u,rfl,rx⟩:=vals1 r
 cases rx
 have fin: ∀(its:List Value),Vals ys its→ys.length≤sizeLine→ ∀(h':Heap) (c':Nat),(∀b o',s.heap.get? b=some o'→h'.get? b=some o')→
   h'.get? s.heap.objs.size=some {cls:= .type "list",dict:=none,data:= .seq its.toArray c',slots:= #[]}→EP X pins σ Q (.ref s.heap.objs.size) {s with heap:=h'}:=fun its r' hz h' c' kp e=>
  ⟨.ref s.heap.objs.size,_,I.laid (t':=s.toks) kp (Nat.le_refl _) (show cy X.prog X.w _ h' _ (.lst ys) from ⟨hz,its,c',r',e⟩),rfl,q _ (I.ax.fresh (Nat.le_refl _))⟩
 rcases hq with hq|hq
 ·obtain ⟨its,r',pl,hz⟩:=I.list hq
  have hlen:=r'.length
  obtain ⟨o,ho,hc,n,hd⟩:=pl.isList
  exact call_list_seq p (.inl rfl) ho hc hd (fun h' c' kp e=>fin its r' hz h' c' kp e) (by simp only [List.size_toArray]<;>lia)
 ·obtain ⟨its,r',pl,hz⟩:=I.tuple hq
  have hlen:=r'.length
  obtain ⟨o,ho,hc,n,hd⟩:=pl
  exact call_list_seq p (.inr rfl) ho hc hd (fun h' c' kp e=>fin its r' hz h' c' kp e) (by simp only [List.size_toArray]<;>lia)
def vg (K:PySem.W.Frag) (T:String) (x:V) (H:Hp):Prop:=match x with
 | .str _=>T= "str"
 | .int _=>T= "int"
 | .ref p=>(T= "list" ∧ ∃xs,ae K H p xs)∨(T= "tuple" ∧ ∃o,K.lookup p=some o∧o.cls= .type "tuple" ∧o.dict=none)∨
   (T= "dict" ∧((∃kvs,H p=some (.dK kvs))∨ ∃kvs,H p=some (.dT kvs)))∨(T= "set" ∧ ∃S n,H p=some (.set S n))
 |_=>False
theorem AV {pins:List (Addr×Obj)} {σ:St} {H:Hp} {s:Shared} {T:String} {x:V} {v:Value} (I:Inv X pins σ H s) (r:RelV x v) (ty:vg X.K T x H):
  s.TypeIs v T∧ ∀a,v= .ref a→ ∃ob,s.heap.get? a=some ob∧ob.dict=none:=by
 cases x with
 |str z=>
  obtain ⟨t,rfl⟩:=r
  cases (show T= "str" from ty)
  exact ⟨typeIs_str s z t,fun _ e=>nomatch e⟩
 |int i=>
  obtain ⟨t,rfl⟩:=r
  cases (show T= "int" from ty)
  exact ⟨typeIs_int s i t,fun _ e=>nomatch e⟩
 |ref p=>
  cases r
  rcases ty with ⟨rfl,xs,hq⟩|⟨rfl,o,hk,hc,hd⟩|⟨rfl,hk⟩|⟨rfl,S,n,hk⟩
  ·obtain ⟨its,_,pl,_⟩:=I.list hq
   refine ⟨pl.isList.typeIs,fun a e=>?_⟩
   cases e
   obtain ⟨o,n,e,c,hd,_⟩:=pl
   exact ⟨o,e,hd⟩
  ·refine ⟨⟨o,I.cI p o hk,hc⟩,fun a e=>?_⟩
   cases e
   exact ⟨o,I.cI _ o hk,hd⟩
  ·have z: ∃o,s.heap.get? p=some o∧o.ExactDict:=by
    rcases hk with ⟨kvs,hk⟩|⟨kvs,hk⟩
    ·obtain ⟨_,_,_,_,o,_,_,e,ex,_⟩:=I.ax p _ hk
     exact ⟨o,e,ex⟩
    ·obtain ⟨_,_,_,_,o,_,_,e,ex,_⟩:=I.ax p _ hk
     exact ⟨o,e,ex⟩
   obtain ⟨o,e,ex⟩:=z
   refine ⟨⟨o,e,ex.1⟩,fun a e2=>?_⟩
   cases e2
   exact ⟨o,e,ex.2.1⟩
  ·obtain ⟨o,_,_,_,e,ex,_⟩:=I.ax p _ hk
   refine ⟨⟨o,e,ex.1⟩,fun a e2=>?_⟩
   cases e2
   exact ⟨o,e,ex.2.1⟩
 |_=>exact False.elim ty
def BM (K:PySem.W.Frag) (T:String) (r:V→List V→Hp→VK→Prop) (to:TE):TE:=fun σ H Q=>to σ H fun x H1=>vg K T x H1∧r x [] H1 Q
def Bl (K:PySem.W.Frag) (T:String) (r:V→List V→Hp→VK→Prop) (to:TE) (t:TA):TE:=fun σ H Q=>to σ H fun x H1=>vg K T x H1∧t σ H1 fun xs H2=>r x xs H2 Q
variable {o e:Expr} {es:List Expr} {to:TE} {t:TA} {name:Str} {apos cpos:Pos} {T id:String} {r:V→List V→Hp→VK→Prop}
theorem xA (pa:PlainAttrs T) (slot:Slot T name id) (hty:typeOf (.builtin id)=pure (.type "method_descriptor")) (hm:sr X id r) (ho:PE X o to)
  (hbase:attributeBase o name X.env (eval o X.env)=eval o X.env:=by rfl) (hline:(apos.endLine==cpos.line)=true:=by rfl):PE X (.Call (.Attribute o name apos) [] [] cpos) (BM X.K T r to):=by
 intro pins s σ H Q I h
 refine wpAny_Call_method0_late hbase hline (aH (ho pins s σ H _ I h) fun v s1 ⟨x,H1,I1,r1,ty,q1⟩=>?_)
 obtain ⟨h1,h2⟩:=AV I1 r1 ty
 exact ⟨T,id,pa,slot,hty,h1,h2,Calls.callWith_builtin rfl (PySem.evalArgs_none (hm pins s1 σ H1 x [] v [] Q I1 r1 .nil q1))⟩
theorem ig (pa:PlainAttrs T) (slot:Slot T name id) (hty:typeOf (.builtin id)=pure (.type "method_descriptor")) (hm:sr X id r) (ho:PE X o to) (ha:PA X (e::es) t)
  (hbase:attributeBase o name X.env (eval o X.env)=eval o X.env:=by rfl)
  (hfew:((backTo cpos (starEach (e::es) X.env)).all (fun x=>!x.1)&&(backToKw cpos (keywordEach [] X.env)).all (fun x=>x.1.isSome)
   &&decide ((e::es).length+([]:List Keyword).length+(if ([]:List Keyword).isEmpty then 0 else 1)<30))=true:=by rfl)
  (hline:(apos.endLine==cpos.line)=true:=by rfl) (hs:starEach (e::es) X.env=(false,eval e X.env)::starEach es X.env:=by rfl) (hplain:(backTo cpos (starEach es X.env)).any (·.1)=false:=by rfl):
  PE X (.Call (.Attribute o name apos) (e::es) [] cpos) (Bl X.K T r to t):=by
 intro pins s σ H Q I h
 refine wpAny_Call_method_late hbase hfew hline rfl (aH (ho pins s σ H _ I h) fun v s1 ⟨x,H1,I1,r1,ty,q1⟩=>?_)
 obtain ⟨h1,h2⟩:=AV I1 r1 ty
 refine ⟨T,id,pa,slot,hty,h1,h2,?_⟩
 have hA:=ha cpos pins s1 σ H1 _ I1 q1
 rw[hs] at hA⊢
 refine Calls.callWith_builtin (by show (false||(backTo cpos (starEach es X.env)).any (·.1))=false;rw[hplain]<;>rfl) (Calls.evalArgs_plain ?_)
 exact aH hA fun us s2 ⟨vs,H2,I2,r2,q2⟩=>hm pins s2 σ H2 x vs v us Q I2 r1 r2 q2
end
end L2
namespace L2
open PySem PySem.Spec PyProof.Rows
def GL (X:Cx) (id:String) (r:V→List V→Hp→VK→Prop):Prop:=
 ∀(pins:List (Addr×Obj)) (s:Shared) (σ:St) (H:Hp) (x:V) (xs:List V) (v:Value) (us:List Value) (Q:VK),Inv X pins σ H s→RelV x v→Vals xs us→r x xs H Q→
  wpAny (model X.prog X.w) X.A (call (.builtin id) (v::us)) (EP X pins σ Q) X.xe s
theorem Vals.one: ∀{x:V} {us:List Value},Vals [x] us→ ∃u,us= [u]∧RelV x u
 |_,_, .cons r .nil=>⟨_,rfl,r⟩
theorem Vals.rep {xs:List V} {us:List Value} (h:Vals xs us): ∀k:Nat,Vals (List.replicate k xs).flatten (List.replicate k us).flatten
 |0=> .nil
 |k+1=>by
  rw[List.replicate_succ,List.replicate_succ,List.flatten_cons,List.flatten_cons]
  exact Vals.append h (Vals.rep h k)
theorem foldl_rep (its:List Value): ∀(k:Nat) (acc:List Value),
  List.foldl (fun x1 x2=>x1++x2) acc.toArray (List.replicate k its.toArray)=(acc++(List.replicate k its).flatten).toArray
 |0,acc=>by simp
 |k+1,acc=>by
  have e:acc.toArray++its.toArray=(acc++its).toArray:=by simp
  have e2:(acc++its)++(List.replicate k its).flatten=acc++(List.replicate (k+1) its).flatten:=by
   rw[List.replicate_succ,List.flatten_cons,List.append_assoc]
  rw[←e2,←foldl_rep its k (acc++its),←e,List.replicate_succ,List.foldl_cons]
section
variable {X:Cx} {pins:List (Addr×Obj)} {σ:St} {H:Hp} {s:Shared} {l b:Addr} {xs ys zs:List V}
theorem Inv.F1 {its its':List Value} {n:Nat} {f:Array Value→Array Value} {t':Nat} (I:Inv X pins σ H s) (hH:H l=some (.lst xs))
  (e:s.heap.get? l=some {cls:= .type "list",data:= .seq its.toArray n}) (hf:f its.toArray=its'.toArray) (hv:Vals ys its') (hz:ys.length≤sizeLine):
  Inv X pins σ (upd H l (.lst ys)) {s with heap:=s.heap.update l (Obj.mapSeq f),toks:=t'}:=by
 have q:=PySem.IsL.update e f
 rw[hf] at q
 refine I.write (x:=l) (e:=l) (by rw[hH];exact trivial) (.inl rfl) (fun b' u hb hu=>(Heap.get?_update_other s.heap (Obj.mapSeq f) (Ne.symm hb)).trans hu) ⟨_,q⟩ ?_
 exact ⟨hz,its',_,hv,q⟩
theorem Inv.vx {its:List Value} {t':Nat} (I:Inv X pins σ H s) (hv:Vals ys its) (hz:ys.length≤sizeLine):
  Inv X pins σ (upd H s.heap.objs.size (.lst ys)) {s with heap:=s.heap.push {cls:= .type "list",data:= .seq its.toArray},toks:=t'}:=
 I.laid (fun _ _ q=>Heap.get?_push_of_some _ q) (Nat.le_refl _) ⟨hz,its,0,hv,Heap.get?_push_size _ rfl⟩
theorem Inv.fresh (I:Inv X pins σ H s):H s.heap.objs.size=none:=I.ax.fresh (Nat.le_refl _)
theorem Inv.km (I:Inv X pins σ H s) (hH:H l=some (.lst xs)):xs.length≤sizeLine∧ ∃(its:List Value) (n:Nat),Vals xs its∧xs.length=its.length∧s.heap.get? l=some {cls:= .type "list",data:= .seq its.toArray n}:=by
 obtain ⟨z,its,n,r,e⟩:=I.ax l _ hH
 exact ⟨z,its,n,r,r.length,e⟩
theorem Ds {n:Nat} (h:n≤sizeLine):Builtin.List.listTooLong n=false:=by
 unfold Builtin.List.listTooLong
 exact decide_eq_false (by lia)
end
section
variable {X:Cx}
def Dg:V→List V→Hp→VK→Prop:=fun x vs H Q=> ∃l xs y,x= .ref l∧vs= [y]∧H l=some (.lst xs)∧xs.length<sizeLine∧Q .aD (upd H l (.lst (xs++ [y])))
theorem lL:GL X "list.append" Dg:=by
 intro pins s σ H x vs v us Q I rx rv h
 obtain ⟨l,xs,y,rfl,rfl,hH,hz,q⟩:=h
 cases rx
 obtain ⟨u,rfl,ru⟩:=rv.one
 obtain ⟨z,its,n,r,hl,e⟩:=I.km hH
 refine call_meets F.slot_list_append ⟨_,e,rfl⟩ F.entry_list_append (F.args_list_append_2 _ _) (PySem.list_append l its.toArray n u (by rw[List.size_toArray];lia)) ⟨e,?_⟩
 refine ⟨.aD,_,I.F1 (its':=its++ [u]) hH e (by simp) (r.append (.cons ru .nil)) ?_,rfl,q⟩
 rw[List.length_append,List.length_singleton]
 lia
def GZ:V→List V→Hp→VK→Prop:=fun x vs H Q=> ∃l b xs zs,x= .ref l∧vs= [.ref b]∧H l=some (.lst xs)∧H b=some (.lst zs)∧xs.length+zs.length≤sizeLine∧Q .aD (upd H l (.lst (xs++zs)))
theorem rp:GL X "list.extend" GZ:=by
 intro pins s σ H x vs v us Q I rx rv h
 obtain ⟨l,b,xs,zs,rfl,rfl,hH,hB,hz,q⟩:=h
 cases rx
 obtain ⟨u,rfl,ru⟩:=rv.one
 cases ru
 obtain ⟨z,its,n,r,hl,e⟩:=I.km hH
 obtain ⟨z2,its2,n2,r2,hl2,e2⟩:=I.km hB
 have hsz:its.toArray.size+its2.toArray.size≤sizeLine:=by rw[List.size_toArray,List.size_toArray];lia
 have hlong: ¬(!its.toArray.isEmpty&&Builtin.List.listTooLong (its.toArray.size+its2.toArray.size))=true:=by
  rw[Ds hsz,Bool.and_false]
  exact Bool.false_ne_true
 refine call_meets F.slot_list_extend ⟨_,e,rfl⟩ F.entry_list_extend (F.args_list_extend_2 _ _)
  (AutoSeq1.list_extend_list_list_0 l its.toArray n b its2.toArray n2 hlong (by rw[List.size_toArray];lia) (by lia)) ⟨e,e2,?_⟩
 refine ⟨.aD,_,I.F1 (its':=its++its2) hH e (by simp) (r.append r2) ?_,rfl,q⟩
 rw[List.length_append]
 lia
def uA:R2:=fun x y H Q=> ∃l b xs zs,x= .ref l∧y= .ref b∧H l=some (.lst xs)∧H b=some (.lst zs)∧xs.length+zs.length≤sizeLine∧ ∀p,H p=none→Q (.ref p) (upd H p (.lst (xs++zs)))
theorem i8:bq X (binaryOp .Add) uA:=by
 intro pins s σ H x y v u Q I rx ry h
 obtain ⟨l,b,xs,zs,rfl,rfl,hH,hB,hz,q⟩:=h
 cases rx
 cases ry
 obtain ⟨z,its,n,r,hl,e⟩:=I.km hH
 obtain ⟨z2,its2,n2,r2,hl2,e2⟩:=I.km hB
 refine PySem.P.add_list e e2 ?_ (by rw[List.size_toArray,List.size_toArray];lia)
 have ea:its.toArray++its2.toArray=(its++its2).toArray:=by simp
 rw[ea]
 exact ⟨.ref _,_,I.vx (t':=s.toks) (r.append r2) (by rw[List.length_append];lia),rfl,q _ I.fresh⟩
def NG:R2:=fun x y H Q=> ∃l k xs,x= .ref l∧y= .int k∧H l=some (.lst xs)∧ -(2^63)≤k∧k<2^63∧xs.length*k.toNat≤sizeLine∧
 ∀p,H p=none→Q (.ref p) (upd H p (.lst (List.replicate k.toNat xs).flatten))
theorem len_rep {α:Type} (xs:List α) (k:Nat):(List.replicate k xs).flatten.length=k*xs.length:=by
 induction k with
 |zero=>simp
 |succ k ih=>rw[List.replicate_succ,List.flatten_cons,List.length_append,ih,Nat.succ_mul,Nat.add_comm]
theorem wF:bq X (binaryOp .Mult) NG:=by
 intro pins s σ H x y v u Q I rx ry h
 obtain ⟨l,k,xs,rfl,rfl,hH,h1,h2,hz,q⟩:=h
 cases rx
 obtain ⟨t,rfl⟩:=ry
 obtain ⟨z,its,n,r,hl,e⟩:=I.km hH
 have hlen:its.toArray.size*k.toNat≤sizeLine:=by rw[List.size_toArray,←hl];exact hz
 have hcap: ¬its.toArray.size*k.toNat>(2^63-1)/8:=by
  have:(sizeLine:Nat)≤(2^63-1)/8:=by decide
  lia
 have hfit: ¬(!Builtin.List.listFitsIndex k)=true:=by
  rw[fitsIndex_both h1 h2]
  exact Bool.false_ne_true
 have hlong: ¬Builtin.List.listTooLong (its.toArray.size*k.toNat)=true:=by
  rw[Ds hlen]
  exact Bool.false_ne_true
 have hnew:List.foldl (fun x1 x2=>x1++x2) #[] (List.replicate (if its.toArray.isEmpty=true then 0 else k.toNat) its.toArray)=(List.replicate k.toNat its).flatten.toArray:=by
  have f0: ∀m:Nat,List.foldl (fun x1 x2=>x1++x2) #[] (List.replicate m its.toArray)=(List.replicate m its).flatten.toArray:=fun m=>by
   have:=foldl_rep its m []
   rw[List.nil_append] at this
   exact this
  rw[f0]
  cases its with
  |nil=>simp
  |cons a r'=>rw[if_neg (by simp)]
 refine wpAny_binaryOp_repeat_ref (T:= "list") (U:= "int") (by decide) ⟨_,e,rfl⟩ (fun s'=>typeIs_int s' k t) noFill_list_mul F.fills_int_mul F.slot_int_rmul repeat_list F.slot_int_index.lookup
  (call_meets F.slot_int_rmul (typeIs_int s k t) F.entry_int_rmul (F.args_int_rmul_2 _ _) (int___rmul___int_list k t l its.toArray n)
   ⟨e,rfl,⟨_,e,rfl⟩,call_meets F.slot_list_mul ⟨_,e,rfl⟩ F.entry_list_mul (F.args_list_mul_2 _ _) (AutoListH.list___mul___list_int_3 l its.toArray n k t hfit hcap hlong) ⟨e,?_⟩⟩)
 rw[hnew]
 exact ⟨.ref _,_,I.vx (t':=s.toks) (r.rep k.toNat) (by rw[len_rep,Nat.mul_comm];exact hz),rfl,q _ I.fresh⟩
end
section
variable {prog:Program} {w:World} {A:Around} {E:Value→Shared→Prop} {s:Shared}
end
section
variable {X:Cx}
end
end L2
namespace L2
open PySem PySem.Spec PyProof.Rows
theorem Vals.ints: ∀{ns:List Int} {us:List Value},Vals (ns.map V.int) us→IntsAre us ns
 | [],us,h=>by
  rw[List.map_nil] at h
  cases h
  exact IntsAre.nil
 |n::ns,us,h=>by
  rw[List.map_cons] at h
  cases h with
  |cons r t=>
   obtain ⟨k,rfl⟩:=r
   exact IntsAre.cons n k (Vals.ints t)
theorem Vals.vX: ∀{bs:List Bool} {us:List Value},Vals (bs.map V.bl) us→us=bs.map Value.bool
 | [],us,h=>by
  rw[List.map_nil] at h
  cases h
  rfl
 |b::bs,us,h=>by
  rw[List.map_cons] at h
  cases h with
  |cons r t=>
   cases r
   rw[Vals.vX t,List.map_cons]
theorem Vals.rR {a:Addr} {us:List Value} (r:Vals [V.ref a] us):us= [Value.ref a]:=by
 cases r with
 |cons r t=>
  cases t
  cases r
  rfl
section
variable {prog:Program} {w:World} {A:Around} {E:Value→Shared→Prop} {s:Shared} {l:Addr} {its:List Value} {ns:List Int} {Q:Value→Shared→Prop}
theorem Sj (hh:A.handled=none) (hl:s.heap.IsList l its.toArray) (hi:IntsAre its ns)
  (h: ∀h' tk t',(∀b o,s.heap.get? b=some o→h'.get? b=some o)→Q (.int ns.sum t') {s with heap:=h',toks:=tk}):wpAny (model prog w) A (call (.builtin "sum") [.ref l]) Q E s:=by
 obtain ⟨xs,e⟩:=hi.allInts.items
 have hn:numsOf (intItems xs).toList=ns:=by rw[←e];exact hi.numsOf
 rw[nums_intItems] at hn
 rw[e] at hl
 refine PySem.sum_intListG hh hl fun h' tk t' hk=>?_
 have:=h h' tk t' hk
 rw[preSum_eq,List.take_of_length_le (by simp),hn];exact this
theorem Jq (hh:A.handled=none) (hl:s.heap.IsList l its.toArray) (hi:IntsAre its ns) (hne:0<ns.length)
  (h: ∀h' tk M t',(∀b o,s.heap.get? b=some o→h'.get? b=some o)→M∈ns→(∀a,a∈ns→a≤M)→Q (.int M t') {s with heap:=h',toks:=tk}):wpAny (model prog w) A (call (.builtin "max") [.ref l]) Q E s:=by
 obtain ⟨xs,e⟩:=hi.allInts.items
 have hn:numsOf (intItems xs).toList=ns:=by rw[←e];exact hi.numsOf
 rw[nums_intItems] at hn
 subst hn
 rw[e] at hl
 have hsz:0<xs.size:=by simpa using hne
 refine PySem.max_intList hh hl hsz fun v h' tk hv hk=>?_
 obtain ⟨t,rfl⟩:=intItems_at hv
 obtain ⟨h1,h2⟩:=argBest_gt (numAt xs) (xs.size-1)
 refine h h' tk _ t hk ?_ fun a ha=>?_
 ·rw[numAt_eq];exact PySem.getD_mem (by rw[List.length_map,Array.length_toList];lia)
 ·obtain ⟨j,hj,rfl⟩:=mem_getD ha
  rw[List.length_map,Array.length_toList] at hj
  rw[←numAt_eq];exact h2 j (by lia)
end
section
variable {X:Cx}
def DG (K:PySem.W.Frag):List V→Hp→VK→Prop:=fun vs H Q=> ∃(a:Addr) (ns:List Int),vs= [V.ref a]∧ae K H a (ns.map V.int)∧Q (.int ns.sum) H
def Oi (K:PySem.W.Frag):List V→Hp→VK→Prop:=fun vs H Q=> ∃(a:Addr) (ns:List Int),vs= [V.ref a]∧ae K H a (ns.map V.int)∧0<ns.length∧ ∀m,m∈ns→(∀y,y∈ns→y≤m)→Q (.int m) H
theorem xK (hc:X.calm=true):fk X (.builtin "sum") (DG X.K):=by
 intro pins s σ H vs us Q I r h
 obtain ⟨a,ns,rfl,hs,q⟩:=h
 obtain ⟨its,rv,hl,_⟩:=I.list hs
 rw[Vals.rR r]
 exact Sj (I.ok.hd hc) hl.isList rv.ints fun h' tk t' hk=>⟨.int _,H,I.kept hk,⟨_,rfl⟩,q⟩
theorem RQ (hc:X.calm=true):fk X (.builtin "max") (Oi X.K):=by
 intro pins s σ H vs us Q I r h
 obtain ⟨a,ns,rfl,hs,hne,q⟩:=h
 obtain ⟨its,rv,hl,_⟩:=I.list hs
 rw[Vals.rR r]
 exact Jq (I.ok.hd hc) hl.isList rv.ints hne fun h' tk m t' hk h1 h2=>⟨.int _,H,I.kept hk,⟨_,rfl⟩,q m h1 h2⟩
end
section
variable {X:Cx}
def Ip (K:PySem.W.Frag):V→List V→Hp→VK→Prop:=fun x xs H Q=> ∃(a:Addr) (ys:List V) (y:V) (j:Nat) (z:V),x=V.ref a∧xs= [y]∧ae K H a ys∧gP y=true∧ys.all gP=true∧ys[j]?=some z∧gh z y=true∧
 (∀(m:Nat) (z':V),m<j→ys[m]?=some z'→gh z' y=false)∧Q (.int (j:Nat)) H
theorem Ae {ys:List V} (f:ys.all gP=true) {j:Nat} {z:V} (h:ys[j]?=some z):gP z=true:=List.all_eq_true.mp f z (List.mem_of_getElem? h)
theorem OL:sr X "list.index" (Ip X.K):=by
 intro pins s σ H x xs v us Q I rx rxs h
 obtain ⟨a,ys,y,j,z,rfl,rfl,hs,fy,fys,hz,hzj,hno,q⟩:=h
 cases rx
 cases rxs with
 |cons ry rt=>
  rename_i uy ut
  cases rt
  obtain ⟨its,rv,⟨⟨cls,dd,data,sl⟩,n,ho,hc,hdn,hd⟩,hlen⟩:=I.list hs
  simp only at hc hd
  subst hc hd
  obtain ⟨u,hu,ru⟩:=rv.get hz
  obtain ⟨hjl,hje⟩:=List.getElem?_eq_some_iff.mp hu
  have hvl:=rv.length
  have hj:j<its.toArray.size:=by simpa using hjl
  have hsl:=sizeLine_eq
  refine call_meets PySem.F.slot_list_index ⟨_,ho,rfl⟩ PySem.F.entry_list_index (PySem.F.args_list_index_2 _ _)
   (SeqAt.list_indexAt a its.toArray n dd sl uy (vG y) j hj (by lia) ?_ ?_) ⟨ho,fun u' hu'=>FN ry fy rv fys u' (by simpa using hu'),?_⟩
  ·have e1:its.toArray[j]=u:=by simpa using hje
   rw[e1,wZ ru (Ae fys hz)]
   exact hzj
  ·intro m hm hmj
   have hml:m<its.length:=by simpa using hm
   have hmy:m<ys.length:=by lia
   have hy':ys[m]?=some ys[m]:=List.getElem?_eq_getElem hmy
   obtain ⟨u2,hu2,ru2⟩:=rv.get hy'
   obtain ⟨_,hme⟩:=List.getElem?_eq_some_iff.mp hu2
   have e1:its.toArray[m]=u2:=by simpa using hme
   rw[e1,wZ ru2 (Ae fys hy')]
   exact hno m _ hmj hy'
  ·exact ⟨.int (j:Nat),H,I.tok _,⟨_,rfl⟩,q⟩
end
section
variable {X:Cx}
end
theorem BO {prog:Program} {w:World} {A:Around} {E:Value→Shared→Prop} {s:Shared} {l:Addr} {items:Array Value} {Q:Value→Shared→Prop} (hl:s.heap.IsList l items)
  (h: ∀s₂:Shared,s₂={s with heap:=s.heap.push {cls:= .type "list_iterator",data:= .fields #[.ref l, .int 0 0]}}→
   (s₂.heap.IsListIter s.heap.objs.size l 0∧s₂.heap.IsList l items)→l≠s.heap.objs.size→Q (.ref s.heap.objs.size) s₂):wpAny (model prog w) A (pyIter (.ref l)) Q E s:=by
 have hlt:l<s.heap.objs.size:=by obtain ⟨_,e,_⟩:=hl;exact Heap.lt_size e
 exact wpAny_pyIter_list hl (h _ rfl ⟨⟨_,Heap.get?_push_size _ rfl,rfl,rfl⟩,hl.push _⟩ (Nat.ne_of_lt hlt))
theorem EV {prog:Program} {w:World} {A:Around} {bs:List Bool} {its:List Value} (e:its=bs.map Value.bool):
  TruthOf prog w A (fun i v=>its.toArray[i]?=some v) (fun i=>bs.getD i false):=fun i v s Q E hv hq=>by
 have hv':its[i]?=some v:=by simpa using hv
 rw[e,List.getElem?_map] at hv'
 obtain ⟨b,hb,rfl⟩:=Option.map_eq_some_iff.mp hv'
 have hg:bs.getD i false=b:=by rw[List.getD_eq_getElem?_getD,hb]<;>rfl
 have hq':Q (bs.getD i false) s:=hq
 rw[hg] at hq'
 exact wpAny_truthy_bool hq'
theorem any_range: ∀bs:List Bool,(List.range bs.length).any (fun i=>bs.getD i false)=bs.any id
 | []=>rfl
 |b::bs=>by
  rw[List.length_cons,List.range_succ_eq_map,List.any_cons,List.any_map,List.any_cons,←any_range bs]
  all_goals rfl
theorem all_range: ∀bs:List Bool,(List.range bs.length).all (fun i=>bs.getD i false)=bs.all id
 | []=>rfl
 |b::bs=>by
  rw[List.length_cons,List.range_succ_eq_map,List.all_cons,List.all_map,List.all_cons,←all_range bs]
  all_goals rfl
section
variable {X:Cx}
def LM (K:PySem.W.Frag):List V→Hp→VK→Prop:=fun vs H Q=> ∃(a:Addr) (bs:List Bool),vs= [V.ref a]∧ae K H a (bs.map V.bl)∧Q (.bl (bs.any id)) H
def Bs (K:PySem.W.Frag):List V→Hp→VK→Prop:=fun vs H Q=> ∃(a:Addr) (bs:List Bool),vs= [V.ref a]∧ae K H a (bs.map V.bl)∧Q (.bl (bs.all id)) H
theorem Ig (hc:X.calm=true):fk X (.builtin "any") (LM X.K):=by
 intro pins s σ H vs us Q I r h
 obtain ⟨a,bs,rfl,hs,q⟩:=h
 obtain ⟨its,rv,hl,_⟩:=I.list hs
 rw[Vals.rR r]
 have hb:=rv.vX
 refine call_any_walk (BO hl.isList fun s₂ e2 st hne=>?_)
 subst e2
 refine ⟨_,_,_,_,_,_,_,rfl,Walks.list (A:=X.A.in1) (I.ok.hd hc) _ a hne its.toArray,st,EV hb,fun h' tk hk=>?_⟩
 refine ⟨.bl _,H,I.kept fun b o eo=>hk b o (fun hmem=>?_) (Heap.get?_push_of_some _ eo),?_,q⟩
 ·rcases List.mem_cons.mp hmem with e1|hmem
  ·exact absurd (e1▸Heap.lt_size eo) (Nat.lt_irrefl _)
  ·cases hmem
 ·show Value.bool _=Value.bool _
  rw[←any_range,hb,List.size_toArray,List.length_map]
theorem o3 (hc:X.calm=true):fk X (.builtin "all") (Bs X.K):=by
 intro pins s σ H vs us Q I r h
 obtain ⟨a,bs,rfl,hs,q⟩:=h
 obtain ⟨its,rv,hl,_⟩:=I.list hs
 rw[Vals.rR r]
 have hb:=rv.vX
 refine call_all_walk (BO hl.isList fun s₂ e2 st hne=>?_)
 subst e2
 refine ⟨_,_,_,_,_,_,_,rfl,Walks.list (A:=X.A.in1) (I.ok.hd hc) _ a hne its.toArray,st,EV hb,fun h' tk hk=>?_⟩
 refine ⟨.bl _,H,I.kept fun b o eo=>hk b o (fun hmem=>?_) (Heap.get?_push_of_some _ eo),?_,q⟩
 ·rcases List.mem_cons.mp hmem with e1|hmem
  ·exact absurd (e1▸Heap.lt_size eo) (Nat.lt_irrefl _)
  ·cases hmem
 ·show Value.bool _=Value.bool _
  rw[←all_range,hb,List.size_toArray,List.length_map]
end
mutual
inductive Dp (K:PySem.W.Frag) (H:Hp):V→PyData→Prop
 |aD:Dp K H .aD .none
 |bl (b:Bool):Dp K H (.bl b) (.bool b)
 |int (i:Int):Dp K H (.int i) (.int i)
 |str (x:Str):Dp K H (.str x) (.str x)
 |lst {a:Addr} {xs:List V} {ds:List PyData}:ae K H a xs→jD K H xs ds→Dp K H (.ref a) (.list ds)
 |tup {a:Addr} {xs:List V} {ds:List PyData}:aZ K H a xs→jD K H xs ds→Dp K H (.ref a) (.tuple ds)
inductive jD (K:PySem.W.Frag) (H:Hp):List V→List PyData→Prop
 |nil:jD K H [] []
 |cons {v:V} {vs:List V} {d:PyData} {ds:List PyData}:Dp K H v d→jD K H vs ds→jD K H (v::vs) (d::ds)
end
section
variable {X:Cx} {pins:List (Addr×Obj)} {σ:St} {H:Hp} {s:Shared}
mutual
theorem Dp.reads (I:Inv X pins σ H s): ∀(d:PyData) (v:V) (u:Value),Dp X.K H v d→RelV v u→ ∃as,Reads s.heap u d as
 | .none,_,_,h,r=>by
  cases h
  cases r
  exact ⟨_,Reads.none⟩
 | .bool b,_,_,h,r=>by
  cases h
  cases r
  exact ⟨_,Reads.bool b⟩
 | .int i,_,_,h,r=>by
  cases h
  obtain ⟨t,rfl⟩:=r
  exact ⟨_,Reads.int i t⟩
 | .str x,_,_,h,r=>by
  cases h
  obtain ⟨t,rfl⟩:=r
  exact ⟨_,Reads.str x t⟩
 | .list ds,_,_,h,r=>by
  cases h with
  |lst hs ha=>
   cases r
   obtain ⟨its,rv,⟨o,n,ho,hc,_,hd⟩,_⟩:=I.list hs
   obtain ⟨as,hr⟩:=Dp.readsAll I ds _ its ha rv
   exact ⟨_,Reads.list ho hc hd hr⟩
 | .tuple ds,_,_,h,r=>by
  cases h with
  |tup hs ha=>
   cases r
   obtain ⟨its,rv,⟨o,ho,hc,n,hd⟩,_⟩:=I.tuple hs
   obtain ⟨as,hr⟩:=Dp.readsAll I ds _ its ha rv
   exact ⟨_,Reads.tuple ho hc hd hr⟩
 | .dict _,_,_,h,_=>by cases h
theorem Dp.readsAll (I:Inv X pins σ H s): ∀(ds:List PyData) (vs:List V) (us:List Value),jD X.K H vs ds→Vals vs us→ ∃as,ReadsAll s.heap us ds as
 | [],_,_,h,r=>by
  cases h
  cases r
  exact ⟨_,ReadsAll.nil⟩
 |d::ds,_,_,h,r=>by
  cases h with
  |cons h1 h2=>
   cases r with
   |cons r1 r2=>
    obtain ⟨as,q1⟩:=Dp.reads I d _ _ h1 r1
    obtain ⟨bs,q2⟩:=Dp.readsAll I ds _ _ h2 r2
    exact ⟨_,ReadsAll.cons q1 q2⟩
end
end
section
variable {X:Cx}
def SE (K:PySem.W.Frag):R2:=fun x y H Q=> ∃d e,Dp K H x d∧Dp K H y e∧SeqAt.shaped d=true∧SeqAt.shaped e=true∧Q (.bl (PyData.eqv d e)) H
theorem RA (hu:X.A.units+64<cLine):bq X (compareOp .Eq) (SE X.K):=by
 intro pins s σ H x y v u Q I rx ry h
 obtain ⟨d,e,hd,he,sd,se,q⟩:=h
 obtain ⟨as,r1⟩:=Dp.reads I d x v hd rx
 obtain ⟨bs,r2⟩:=Dp.reads I e y u he ry
 exact SeqAt.compareEq_shaped r1 r2 sd se hu ⟨.bl _,H,I,rfl,q⟩
end
end L2
namespace L2
open PySem PySem.Spec PyProof.Rows
abbrev DC (h:Heap) (c:Addr) (v:Option Value):Prop:=h.IsCell c v
def OS (scope sc:Scope):Scope:=
 {scope with names:=scope.names.map fun (n,k)=>if (k== .free&&sc.kind== .function&&sc.names.lookup n==some .cell) then (n, .cell) else (n,k)}
def cU (cells:List (Str×Addr)):List (Str×NameKind)→List (Str×Addr)→List (Str×Addr)
 | [],acc=>acc
 |(n,k)::r,acc=>if k== .free then cU cells r ((n,(cells.lookup n).getD 0)::acc) else cU cells r acc
theorem Ag (env:Env) (f:Str×NameKind→List (Str×Addr)→Sem (ForInStep (List (Str×Addr))))
  (hf: ∀n k c,f (n,k) c=if k== .free then (do let a←cellOf env n;pure (.yield ((n,a)::c))) else pure (.yield c)):
  ∀(names:List (Str×NameKind)) (acc:List (Str×Addr)),(∀y∈names,y.2= .free→ ∃c,env.cells.lookup y.1=some c)→forIn names acc f=pure (cU env.cells names acc)
 | [],acc,_=>by rw[List.forIn_nil];rfl
 |(n,k)::r,acc,h=>by
  rw[List.forIn_cons,hf]
  have ih:=fun acc=>Ag env f hf r acc fun y hy=>h y (List.mem_cons_of_mem _ hy)
  unfold cU
  by_cases hk:(k==NameKind.free)=true
  ·rw[if_pos hk,if_pos hk]
   obtain ⟨c,hc⟩:=h (n,k) List.mem_cons_self (by simpa using hk)
   have e:cellOf env n=pure c:=by unfold cellOf;rw[hc]
   rw[e]
   have e2:(env.cells.lookup n).getD 0=c:=by rw[hc];rfl
   rw[e2]
   exact ih _
  ·rw[if_neg hk,if_neg hk]
   exact ih _
theorem Js {scope:Scope} {env:Env} (h: ∀y∈scope.names,y.2= .free→ ∃c,env.cells.lookup y.1=some c):closureFor scope env=pure (cU env.cells scope.names []):=by
 simp only [closureFor]
 rw[Ag env _ (fun n k c=>rfl) scope.names [] h]
 rfl
theorem mem_lookup {α:Type}: ∀{l:List (Str×α)} {n:Str} {c:α},(n,c)∈l→ ∃c',l.lookup n=some c'
 |(k,v)::r,n,c,h=>by
  rw[List.lookup_cons]
  cases hb:n==k with
  |true=>exact ⟨_,rfl⟩
  |false=>
   rcases List.mem_cons.mp h with e|h
   ·cases e;simp at hb
   ·exact mem_lookup h
theorem tR {cells:List (Str×Addr)}: ∀{names:List (Str×NameKind)} {acc:List (Str×Addr)} {n:Str} {c:Addr},(n,c)∈cU cells names acc→(n,c)∈acc∨((n, .free)∈names∧c=(cells.lookup n).getD 0)
 | [],_,_,_,h=> .inl h
 |(m,k)::r,acc,n,c,h=>by
  unfold cU at h
  split at h
  ·rename_i hk
   have hk:k= .free:=by simpa using hk
   rcases tR h with h|⟨h1,h2⟩
   ·rcases List.mem_cons.mp h with e|h
    ·cases e;exact .inr ⟨hk▸List.mem_cons_self,rfl⟩
    ·exact .inl h
   ·exact .inr ⟨List.mem_cons_of_mem _ h1,h2⟩
  ·rcases tR h with h|⟨h1,h2⟩
   ·exact .inl h
   ·exact .inr ⟨List.mem_cons_of_mem _ h1,h2⟩
theorem ya {cells:List (Str×Addr)}: ∀{names:List (Str×NameKind)} {acc:List (Str×Addr)} {p:Str×Addr},p∈acc→p∈cU cells names acc
 | [],_,_,h=>h
 |(m,k)::r,acc,p,h=>by
  unfold cU
  split
  ·exact ya (List.mem_cons_of_mem _ h)
  ·exact ya h
theorem vH {cells:List (Str×Addr)}: ∀{names:List (Str×NameKind)} {acc:List (Str×Addr)} {n:Str},(n, .free)∈names→(n,(cells.lookup n).getD 0)∈cU cells names acc
 |(m,k)::r,acc,n,h=>by
  unfold cU
  rcases List.mem_cons.mp h with e|h
  ·cases e
   exact ya List.mem_cons_self
  ·split
   ·exact vH h
   ·exact vH h
theorem og: ∀{names:List (Str×NameKind)} {h:Heap} {acc:List (Str×Addr)} {x:Str} {c:Addr},(x,c)∈cellsFrom h.objs.size names acc→
  (x,c)∈acc∨((x, .cell)∈names∧h.objs.size≤c∧DC (pushCells h names) c none)
 | [],_,_,_,_,h=> .inl h
 |(n,k)::r,h,acc,x,c,hm=>by
  unfold cellsFrom at hm
  unfold pushCells
  split at hm
  ·rename_i hk
   rw[if_pos hk]
   have hk:k= .cell:=by simpa using hk
   rw[←Heap.size_push h {cls:= .type "cell",data:= .cell none}] at hm
   rcases og hm with hm|⟨h1,h2,h3⟩
   ·rcases List.mem_cons.mp hm with e|hm
    ·cases e
     exact .inr ⟨hk▸List.mem_cons_self,Nat.le_refl _,_,pushCells_keeps r _ _ _ (Heap.get?_push_size _ rfl),rfl⟩
    ·exact .inl hm
   ·rw[Heap.size_push] at h2
    exact .inr ⟨List.mem_cons_of_mem _ h1,Nat.le_of_succ_le h2,h3⟩
  ·rename_i hk
   rw[if_neg hk]
   rcases og hm with hm|⟨h1,h2,h3⟩
   ·exact .inl hm
   ·exact .inr ⟨List.mem_cons_of_mem _ h1,h2,h3⟩
theorem tO: ∀{names:List (Str×NameKind)} {n:Nat} {acc:List (Str×Addr)} {p:Str×Addr},p∈acc→p∈cellsFrom n names acc
 | [],_,_,_,h=>h
 |(m,k)::r,n,acc,p,h=>by
  unfold cellsFrom
  split
  ·exact tO (List.mem_cons_of_mem _ h)
  ·exact tO h
theorem xF: ∀{names:List (Str×NameKind)} {n:Nat} {acc:List (Str×Addr)} {x:Str},(x, .cell)∈names→ ∃c,(x,c)∈cellsFrom n names acc
 |(m,k)::r,n,acc,x,h=>by
  unfold cellsFrom
  rcases List.mem_cons.mp h with e|h
  ·cases e
   exact ⟨n,tO List.mem_cons_self⟩
  ·split
   ·exact xF h
   ·exact xF h
theorem wM: ∀{names:List (Str×NameKind)} {h:Heap} {acc:List (Str×Addr)} {x y:Str} {c:Addr},(∀p∈acc,p.2<h.objs.size)→(∀x y c,(x,c)∈acc→(y,c)∈acc→x=y)→
  (x,c)∈cellsFrom h.objs.size names acc→(y,c)∈cellsFrom h.objs.size names acc→x=y
 | [],_,_,_,_,_,_,hi,h1,h2=>hi _ _ _ h1 h2
 |(n,k)::r,h,acc,x,y,c,hl,hi,h1,h2=>by
  unfold cellsFrom at h1 h2
  split at h1
  ·rename_i hk
   rw[if_pos hk] at h2
   rw[←Heap.size_push h {cls:= .type "cell",data:= .cell none}] at h1 h2
   refine wM (h:=h.push _) (fun p hp=>?_) (fun x y c a b=>?_) h1 h2
   ·rw[Heap.size_push]
    rcases List.mem_cons.mp hp with rfl|hp
    ·exact Nat.lt_succ_self _
    ·exact Nat.lt_succ_of_lt (hl p hp)
   ·rcases List.mem_cons.mp a with e|a<;>rcases List.mem_cons.mp b with e'|b
    ·cases e;cases e';rfl
    ·cases e;exact absurd (hl _ b) (Nat.lt_irrefl _)
    ·cases e';exact absurd (hl _ a) (Nat.lt_irrefl _)
    ·exact hi _ _ _ a b
  ·rename_i hk
   rw[if_neg hk] at h2
   exact wM hl hi h1 h2
theorem NO {M:Model} {A:Around} {E:Value→Shared→Prop} {s:Shared} {scope:Scope} {globals:Addr} {closure:List (Str×Addr)} {qual:Str} {func:Option Addr} {code:Value} {around:Env} {builtins:Addr} {Q:Env→Shared→Prop}
  (h:Q (newEnv scope s.heap.objs.size globals (cellsFrom (s.heap.objs.size+1) scope.names closure) qual func code (some around) builtins)
   {s with heap:=pushCells (s.heap.push {cls:= .type "dict",data:= .dict #[]}) scope.names}):
  wpAny M A (newFunctionEnv scope globals closure [] qual func code (some around) builtins) Q E s:=by
 simp only [newFunctionEnv,Option.isSome_some,if_true]
 refine wpAny_bind (wpAny_alloc ?_)
 refine wpAny_bind (wpAny_layCells _ (fun n k c=>rfl) scope.names closure _ _ ?_)
 rw[show ({s with heap:=s.heap.push {cls:= .type "dict",data:= .dict #[]}}:Shared).heap.objs.size=s.heap.objs.size+1 from Heap.size_push ..]
 rw[List.forIn_nil]
 exact wpAny_bind (wpAny_pure (wpAny_pure h))
theorem wW {sc:Scope}: ∀{names:List (Str×NameKind)} {x:Str} {k:NameKind},
  (names.map fun (n,k)=>if (k==NameKind.free&&sc.kind== .function&&sc.names.lookup n==some .cell) then (n,NameKind.cell) else (n,k)).lookup x=some k→
  ∃k',names.lookup x=some k'∧(k=k'∨(k'= .free∧k= .cell))
 | [],_,_,h=>by simp at h
 |(n,k₀)::r,x,k,h=>by
  have ih:= @wW sc r x k
  have h':List.lookup x ((if (k₀==NameKind.free&&sc.kind== .function&&sc.names.lookup n==some .cell)=true then (n,NameKind.cell) else (n,k₀))::(r.map _))=some k:=h
  cases hx:x==n with
  |true=>
   simp only [List.lookup_cons,hx]
   by_cases hc:(k₀==NameKind.free&&sc.kind== .function&&sc.names.lookup n==some .cell)=true
   ·rw[if_pos hc] at h'
    simp only [List.lookup_cons,hx] at h'
    cases h'
    simp only [Bool.and_eq_true,beq_iff_eq] at hc
    exact ⟨k₀,rfl, .inr ⟨hc.1.1,rfl⟩⟩
   ·rw[if_neg hc] at h'
    simp only [List.lookup_cons,hx] at h'
    cases h'
    exact ⟨_,rfl, .inl rfl⟩
  |false=>
   simp only [List.lookup_cons,hx]
   by_cases hc:(k₀==NameKind.free&&sc.kind== .function&&sc.names.lookup n==some .cell)=true
   ·rw[if_pos hc] at h'
    simp only [List.lookup_cons,hx] at h'
    exact ih h'
   ·rw[if_neg hc] at h'
    simp only [List.lookup_cons,hx] at h'
    exact ih h'
structure lB (N:List Str) (sc scope:Scope) (own:List (Str×Nat)):Prop where
 kind:scope.kind= .function
 uniq: ∀y∈scope.names,scope.names.lookup y.1=some y.2
 ix: ∀p∈own,N[p.2]?=some p.1
 free: ∀y∈scope.names,y.2= .free→sc.names.lookup y.1=some .cell∨sc.names.lookup y.1=some .free
 own: ∀y∈scope.names,y.2= .local∨y.2= .cell→y.1∈own.map (·.1)∨y.1∉N
def wipe (σ:St):List Nat→St
 | []=>σ
 |v::vs=>(wipe σ vs).set v none
theorem vJ (σ:St): ∀vs:List Nat,(wipe σ vs).length=σ.length
 | []=>rfl
 |v::vs=>by unfold wipe;rw[List.length_set,vJ σ vs]
theorem ym {σ:St} {i:Nat} {x:V}: ∀{vs:List Nat},(wipe σ vs)[i]?=some (some x)→σ[i]?=some (some x)∧i∉vs
 | [],h=>⟨h,by simp⟩
 |v::vs,h=>by
  unfold wipe at h
  by_cases hi:v=i
  ·subst hi
   by_cases hv:v<(wipe σ vs).length
   ·rw[List.getElem?_set_self hv] at h;cases h
   ·rw[List.getElem?_eq_none (by simpa using hv)] at h;cases h
  ·rw[List.getElem?_set_ne hi] at h
   obtain ⟨h1,h2⟩:=ym h
   exact ⟨h1,by simp only [List.mem_cons,not_or];exact ⟨fun e=>hi e.symm,h2⟩⟩
abbrev Cx.dA (X:Cx) (s:Shared) (H:Hp) (scope:Scope) (cenv:Env) (fp:List Addr):Cx:={X with bB:=s,kM:=H,env:=cenv,outer:=X.stack,ex:=fp,fn:=fun x=>scope.names.lookup x==some .cell,pn:= [],xe:=fun _ _=>False}
section
variable {X:Cx} {pins:List (Addr×Obj)} {σ:St} {H:Hp} {s:Shared}
theorem Tu {scope:Scope} {own:List (Str×Nat)} {fp:List Addr} (I:Inv X pins σ H s) (ok:lB X.N X.env.scope scope own) (hN:X.N.Nodup) (hfp: ∀b∈fp,fK X pins H b∧b<s.heap.objs.size):
  Inv (X.dA s H scope (compEnvC scope (cellsFrom (s.heap.objs.size+1) scope.names (cU X.env.cells scope.names [])) s.heap.objs.size X.env) fp) [] (wipe σ (own.map (·.2))) H {s with heap:=pushCells (s.heap.push {cls:= .type "dict",data:= .dict #[]}) scope.names}:=by
 have hfree: ∀y∈scope.names,y.2= .free→ ∃c,X.env.cells.lookup y.1=some c:=fun y hy e=>by
  rcases ok.free y hy e with k|k
  ·exact I.ok.has _ (.inl k)
  ·exact I.ok.has _ (.inr k)
 generalize hcenv:compEnvC scope (cellsFrom (s.heap.objs.size+1) scope.names (cU X.env.cells scope.names [])) s.heap.objs.size X.env=cenv
 have kp: ∀b o,s.heap.get? b=some o→(pushCells (s.heap.push {cls:= .type "dict",data:= .dict #[]}) scope.names).get? b=some o:=fun b o e=>pushCells_keeps _ _ _ _ (Heap.get?_push_of_some _ e)
 have hL:cenv.locals=s.heap.objs.size:=by rw[←hcenv];rfl
 have hcl:cenv.cells=cellsFrom (s.heap.objs.size+1) scope.names (cU X.env.cells scope.names []):=by rw[←hcenv];rfl
 have hsc:cenv.scope=OS scope X.env.scope:=by rw[←hcenv];rfl
 rw[←Heap.size_push s.heap {cls:= .type "dict",data:= .dict #[]}] at hcl
 have cm: ∀{y c},(y,c)∈cU X.env.cells scope.names []→X.env.cells.lookup y=some c∧c<s.heap.objs.size:=fun {y c} hm=>by
  rcases tR hm with hm|⟨h1,rfl⟩
  ·cases hm
  ·obtain ⟨c,hc⟩:=hfree _ h1 rfl
   rw[hc]
   obtain ⟨w,z⟩:=I.cell _ _ hc
   exact ⟨rfl,z.lt⟩
 have mem: ∀{y c},cenv.cells.lookup y=some c→(X.env.cells.lookup y=some c∧c<s.heap.objs.size)∨(s.heap.objs.size+1≤c∧DC (pushCells (s.heap.push {cls:= .type "dict",data:= .dict #[]}) scope.names) c none):=fun {y c} e=>by
  rw[hcl] at e
  rcases og (PySem.mem_of_lookup e) with hm|⟨_,h2,h3⟩
  ·exact .inl (cm hm)
  ·rw[Heap.size_push] at h2;exact .inr ⟨h2,h3⟩
 have look: ∀{y},scope.names.lookup y=some .free→ ∃c,cenv.cells.lookup y=some c∧X.env.cells.lookup y=some c:=fun {y} hl=>by
  have hy:(y,NameKind.free)∈scope.names:=PySem.mem_of_lookup hl
  obtain ⟨c',e'⟩:=mem_lookup (tO (names:=scope.names) (n:=(s.heap.push {cls:= .type "dict",data:= .dict #[]}).objs.size) (vH (cells:=X.env.cells) (acc:= []) hy))
  rw[←hcl] at e'
  refine ⟨c',e',?_⟩
  rw[hcl] at e'
  rcases og (PySem.mem_of_lookup e') with hm|⟨h1,_,_⟩
  ·exact (cm hm).1
  ·have:=ok.uniq _ h1
   rw[hl] at this;cases this
 have okB:(X.dA s H scope cenv fp).Ok:=by
  refine ⟨I.ok.mod,by show cenv.scope.kind=_;rw[hsc];exact ok.kind,by show cenv.globals=_;rw[←hcenv];exact I.ok.glob,by show cenv.builtins=_;rw[←hcenv];exact I.ok.blt,by show s.heap.objs.size≤cenv.locals;rw[hL];exact Nat.le_refl _,
   fun y z c e1 e2=>?_,fun y hy=>?_,fun y c z e=>?_,I.ok.hd,I.ok.frames, .inl rfl,fun b hb=>⟨?_,fun y c e z=>?_⟩,I.bs,Nat.le_trans I.ok.gn I.sz,fun b o e hb=>?_,fun b hb z=>?_,I.stack,I.rh⟩
  ·have e1:cenv.cells.lookup y=some c:=e1
   have e2:cenv.cells.lookup z=some c:=e2
   rw[hcl] at e1 e2
   refine wM (fun p hp=>?_) (fun y z c a b=>I.ok.inj y z c (cm a).1 (cm b).1) (PySem.mem_of_lookup e1) (PySem.mem_of_lookup e2)
   rw[Heap.size_push]
   exact Nat.lt_succ_of_lt (cm (y:=p.1) (c:=p.2) hp).2
  ·show∃c,cenv.cells.lookup y=some c
   have key: ∀k,cenv.kindOf y=some k→(k= .cell∨k= .free)→ ∃c,cenv.cells.lookup y=some c:=fun k hk hk'=>by
    unfold Env.kindOf at hk
    rw[hsc] at hk
    obtain ⟨k',e,r⟩:=wW hk
    have:k'= .cell∨k'= .free:=by
     rcases r with rfl|⟨rfl,_⟩
     ·exact hk'
     ·exact .inr rfl
    rcases this with rfl|rfl
    ·obtain ⟨c,hm⟩:=xF (n:=(s.heap.push {cls:= .type "dict",data:= .dict #[]}).objs.size) (acc:=cU X.env.cells scope.names []) (PySem.mem_of_lookup e)
     obtain ⟨c',e'⟩:=mem_lookup hm
     exact ⟨c',by rw[hcl];exact e'⟩
    ·obtain ⟨c,h1,_⟩:=look e
     exact ⟨c,h1⟩
   rcases hy with hy|hy
   ·exact key _ hy (.inl rfl)
   ·exact key _ hy (.inr rfl)
  ·have z:(scope.names.lookup y==some NameKind.cell)=true:=z
   have z:scope.names.lookup y=some .cell:=by simpa using z
   have e:cenv.cells.lookup y=some c:=e
   rw[hcl] at e
   rcases og (PySem.mem_of_lookup e) with hm|⟨_,h2,_⟩
   ·rcases tR hm with hm|⟨h1,_⟩
    ·cases hm
    ·have q:=ok.uniq _ h1
     rw[z] at q;cases q
   ·rw[Heap.size_push] at h2
    exact Nat.le_of_succ_le h2
  ·show b≠cenv.locals
   rw[hL];exact Nat.ne_of_lt (hfp b hb).2
  ·have e:cenv.cells.lookup y=some c:=e
   rcases mem e with ⟨h1,_⟩|⟨h1,_⟩
   ·exact (hfp b hb).1.2.2.2.2.1 y c h1 z
   ·have h2:s.heap.objs.size+1≤b:=by rw[←z];exact h1
    exact absurd (Nat.lt_of_lt_of_le (hfp b hb).2 (Nat.le_of_succ_le h2)) (Nat.lt_irrefl _)
  ·rcases (hfp b hb).1.2.2.2.1 with z|z
   ·exact I.ok.fB b o e z
   ·exact absurd (Nat.lt_of_lt_of_le (Heap.lt_size e) (Nat.le_trans I.ok.gn z)) (Nat.lt_irrefl _)
  ·rcases List.mem_cons.mp (I.qY b z) with z|z
   ·exact (hfp b hb).1.2.1 z
   ·exact (hfp b hb).1.2.2.1 z
 refine ⟨okB,rfl,I.bare,Un.kept kp,⟨fun _=>none,?_,fun i y av e1 e2 e3=>?_⟩,fun y c e=>?_,?_,fun y c e=>?_,fun p hp=>?_,I.ax.kept kp,by rw[vJ];exact I.len⟩
 ·show Heap.Ns _ cenv.locals _
  rw[hL]
  exact Heap.Ns.keeps (Heap.Ns.new ..) fun b o e=>pushCells_keeps _ _ _ _ e
 ·obtain ⟨e2,hne⟩:=ym e2
  have hfr:scope.names.lookup y=some .free∧(cenv.kindOf y=some .cell∨cenv.kindOf y=some .free):=by
   have key: ∀k,cenv.scope.names.lookup y=some k→k= .local∨k= .cell∨k= .free→scope.names.lookup y=some .free∧(cenv.kindOf y=some .cell∨cenv.kindOf y=some .free):=fun k hk hk'=>by
    have hk0:=hk
    rw[hsc] at hk
    obtain ⟨k',e,r⟩:=wW hk
    have no: ¬(k'= .local∨k'= .cell):=fun hh=>by
     rcases ok.own _ (PySem.mem_of_lookup e) hh with e'|e'
     ·obtain ⟨p,hp,hpy⟩:=List.mem_map.mp e'
      have e3:=ok.ix p hp
      have:p.1=y:=hpy
      rw[this] at e3
      exact hne (List.mem_map.mpr ⟨p,hp,xn hN e3 e1⟩)
     ·exact e' (List.mem_of_getElem? e1)
    rcases r with rfl|⟨rfl,rfl⟩
    ·rcases hk' with rfl|rfl|rfl
     ·exact absurd (.inl rfl) no
     ·exact absurd (.inr rfl) no
     ·exact ⟨e, .inr hk0⟩
    ·exact ⟨e, .inl hk0⟩
   have e3:kU cenv.scope y:=e3
   rcases e3 with e3|e3|e3
   ·exact key _ e3 (.inl rfl)
   ·exact key _ e3 (.inr (.inl rfl))
   ·exact key _ e3 (.inr (.inr rfl))
  obtain ⟨m,hn,hl⟩:=I.loc
  have hvis:kU X.env.scope y:=(ok.free _ (PySem.mem_of_lookup hfr.1) rfl).elim (fun k=> .inr (.inl k)) (fun k=> .inr (.inr k))
  obtain ⟨w,r,q⟩:=hl i y av e1 e2 hvis
  refine ⟨w,r, .inr ⟨hfr.2,?_⟩⟩
  obtain ⟨c,h1,h2⟩:=look hfr.1
  rcases q with ⟨k,_⟩|⟨_,c',e',z⟩
  ·have k:X.env.scope.names.lookup y=some .local:=k
   rcases ok.free _ (PySem.mem_of_lookup hfr.1) rfl with k'|k'<;>rw[show X.env.scope.names.lookup y=_ from k'] at k<;>cases k
  ·rw[h2] at e';cases e'
   exact ⟨c,h1,z.keeps kp⟩
 ·have e:cenv.cells.lookup y=some c:=e
  rcases mem e with ⟨h1,_⟩|⟨_,z⟩
  ·obtain ⟨w,z⟩:=I.cell y c h1
   exact ⟨w,z.keeps kp⟩
  ·exact ⟨_,z⟩
 ·show H cenv.locals=none
  rw[hL];exact I.ax.fresh (Nat.le_refl _)
 ·have e:cenv.cells.lookup y=some c:=e
  rcases mem e with ⟨h1,_⟩|⟨h1,_⟩
  ·exact I.dZ y c h1
  ·exact I.ax.fresh (Nat.le_of_succ_le h1)
 ·exact absurd (show p∈([]:List (Addr×Obj))++ [] from hp) (by simp)
theorem Sy {E:Value→Shared→Prop} {D:Addr} {xs:List V} {y:V} {v:Value} {Q:Value→Shared→Prop} (I:Inv X pins σ H s) (hD:H D=some (.lst xs)) (hz:xs.length<sizeLine) (r:RelV y v)
  (h: ∀s',Inv X pins σ (upd H D (.lst (xs++ [y]))) s'→Q .none s'):wpAny (model X.prog X.w) X.A (call (.builtin "list.append") [.ref D,v]) Q E s:=by
 obtain ⟨hz',its,n,ri,e⟩:=I.ax D _ hD
 have hl:=ri.length
 refine append_at (hsz:=by rw[List.size_toArray];lia) e fun h' sb ho'=>?_
 refine h {s with heap:=h'} (I.write (t':=s.toks) (by rw[hD];trivial) (.inl rfl) (fun b u hb q=>(sb.2 b hb).trans q) ⟨_,ho'⟩ ⟨by rw[List.length_append];exact hz,its++ [v],n+1,ri.append (.cons r .nil),?_⟩)
 rw[ho']
 simp
def ud (X:Cx) (ifs:List Expr) (t:TT):Prop:=
 ∀(pins:List (Addr×Obj)) (s:Shared) (σ:St) (H:Hp) (Q:Bool→Hp→Prop),Inv X pins σ H s→t σ H Q→
  wpAny (model X.prog X.w) X.A (forIn ifs true fun c r=>if r=true then do let ok←isTrue c X.env (eval c X.env);pure (ForInStep.yield ok) else pure (ForInStep.yield r)) (TP X pins σ Q) X.xe s
def rQ:TT:=fun _ H Q=>Q true H
theorem bZ:ud X [] rQ:=fun _ _ _ H _ I h=>wpAny_tests_nil ⟨H,I,h⟩
end
theorem kS {α:Type} {t:Sem α} {Q Q':α→Shared→Prop} {M:Model} {A:Around} {E:Value→Shared→Prop} {s:Shared} (h:wpAny M A t Q (fun _ _=>False) s) (hQ: ∀a s,Q a s→Q' a s):wpAny M A t Q' E s:=wpAny_mono h hQ fun _ _ z=>False.elim z
theorem LU {prog:Program} {w:World} {A:Around} {R:Result→Shared→Prop} {s:Shared} {elt target iter:Expr} {ifs:List Expr} {scope:Scope} {pos:Pos} {it acc:Value} {env:Env} (I:Nat→Shared→Prop)
  (turn: ∀n s,I n s→wpAny (model prog w) A (pyNext it) (fun r s₁=>match r with
   |none=>R (.ok .next) s₁
   |some v=>wpAny (model prog w) A (letOwnedTupleGo target it v) (fun _ s₁'=>wpAny (model prog w) A (assign target env v) (fun _ s₂=>
     wpAny (model prog w) A (forIn ifs true fun c r=>if r=true then do let ok←isTrue c env (eval c env);pure (ForInStep.yield ok) else pure (ForInStep.yield r)) (fun ok s₃=>
      if ok=true then wpAny (model prog w) A (eval elt env) (fun x s₄=>
       wpAny (model prog w) A (call (.builtin "list.append") [acc,x]) (fun _ s₅=> ∃m,m<n∧I m s₅) (notedBy (model prog w) A env fun e s'=>R (.error e) s') s₄) (notedBy (model prog w) A env fun e s'=>R (.error e) s') s₃
      else∃m,m<n∧I m s₃) (notedBy (model prog w) A env fun e s'=>R (.error e) s') s₂) (notedBy (model prog w) A env fun e s'=>R (.error e) s') s₁') (notedBy (model prog w) A env fun e s'=>R (.error e) s') s₁) (notedBy (model prog w) A env fun e s'=>R (.error e) s') s)
  (n:Nat) (h:I n s):
  codeAny (model prog w) A (.compLoop (.ListComp elt [⟨target,iter,ifs,0⟩] scope pos) 0 it acc env) R s:=by
 refine codeAny_loop rfl I (fun n s hI=>?_) n h
 show wpAny _ A ((compTurn (.ListComp elt [⟨target,iter,ifs,0⟩] scope pos) 0 it acc env).onRaise (fun x=>do noteFrame x env;theTreesLotGoes x)) _ _ s
 refine wpAny_noted ?_
 rw[compTurn_list]
 refine wpAny_bind (wpAny_standAt (wpAny_bind (wpAny_mono (turn n s hI) (fun r s₁ h₁=>?_) fun _ _ h'=>h')))
 cases r with
 |none=>exact wpAny_pure h₁
 |some v=>
  refine wpAny_bind (wpAny_mono h₁ (fun _ s₁' h₁'=>?_) fun _ _ h'=>h')
  refine wpAny_bind (wpAny_mono h₁' (fun _ s₂ h₂=>wpAny_bind (wpAny_mono h₂ (fun ok s₃ h₃=>?_) fun _ _ h'=>h')) fun _ _ h'=>h')
  cases ok with
  |false=>exact wpAny_pure ⟨rfl,h₃⟩
  |true=>
   exact wpAny_bind (wpAny_bind (wpAny_mono h₃ (fun x s₄ h₄=>wpAny_bind (wpAny_mono h₄ (fun _ s₅ h₅=>wpAny_pure (wpAny_pure ⟨rfl,h₅⟩)) fun _ _ h'=>h')) fun _ _ h'=>h'))
section
variable {X:Cx}
def sV (wi:TI) (g:TG) (tt:TT) (te:TE) (vs:List Nat):TE:=fun σ H Q=>wi σ H fun J H1=> ∀D,H1 D=none→ ∃W:Nat→Nat→Hp→Prop,(∃m,W 0 m (upd H1 D (.lst [])))∧ ∀i m H,W i m H→
 (J.stop i H∧Q (.ref D) H)∨(J.go i H∧ ∃Nx:Hp→Prop,(∀H',Nx H'→ ∃m',m'<m∧W (i+1) m' H')∧ ∀x H',J.fO i H x H'→g x (wipe σ vs) H' fun σ2 H2=>wipe σ2 vs=wipe σ vs∧tt σ2 H2 fun b H3=>
  if b=true then te σ2 H3 fun y H4=> ∃acc,H4 D=some (.lst acc)∧acc.length<sizeLine∧Nx (upd H4 D (.lst (acc++ [y]))) else Nx H3)
theorem yX {pins:List (Addr×Obj)} {s:Shared} {σ:St} {H:Hp} {Q:VK} {elt tg iter:Expr} {ifs:List Expr} {scope:Scope} {own:List (Str×Nat)} {pos pos':Pos} {wi:TI} {g:TG} {tt:TT} {te:TE} {use:Option (Value→Sem Unit)} {Qf:Value→Shared→Prop}
  (hc:X.calm=true) (hN:X.N.Nodup) (I:Inv X pins σ H s) (hi:PI X tg iter wi) (ok:lB X.N X.env.scope scope own)
  (hg: ∀(s:Shared) (H:Hp) (C:Addr) (cl:List (Str×Addr)) (fp:List Addr),PG (X.dA s H scope (compEnvC scope cl C X.env) fp) tg g) (ht: ∀(s:Shared) (H:Hp) (C:Addr) (cl:List (Str×Addr)) (fp:List Addr),ud (X.dA s H scope (compEnvC scope cl C X.env) fp) ifs tt)
  (he: ∀(s:Shared) (H:Hp) (C:Addr) (cl:List (Str×Addr)) (fp:List Addr),PE (X.dA s H scope (compEnvC scope cl C X.env) fp) elt te) (hs: ∀x,foldedSetIterable iter X.env x=pure x)
  (h:sV wi g tt te (own.map (·.2)) σ H Q)
  (hRR: ∀D C s' m H',Inv X pins σ H' s'→Q (.ref D) H'→s'.heap.Ns C m→fK X pins H' C→compPost (model X.prog X.w) X.A X.xe use Qf (.ref D) C (.ok .next) s'):
  wpAny (model X.prog X.w) X.A (comprehension (.ListComp elt [⟨tg,iter,ifs,0⟩] scope pos) scope X.env pos' (newList []) false (eval iter X.env) use) Qf X.xe s:=by
 have hfree: ∀y∈scope.names,y.2= .free→ ∃c,X.env.cells.lookup y.1=some c:=fun y hy e=>by
  rcases ok.free y hy e with k|k
  ·exact I.ok.has _ (.inl k)
  ·exact I.ok.has _ (.inr k)
 refine wpAny_comprehension_free (use:=use) rfl hs (Js hfree) ok.kind (fun y hy e=>by rw[ok.uniq y hy,e])
  (aH (hi pins s σ H _ I h) fun xv s1 hx=>aH hx fun itv s2 h2=>?_)
 obtain ⟨it,fp,tn,J,H2,e,I2,T,st2,f2,q⟩:=h2
 subst e
 refine wpAny_newObj_type (NO ?_) (by show 0≤sizeLine;decide)
 generalize hD:s2.heap.objs.size=D
 have hDn:H2 D=none:=I2.ax.fresh (Nat.le_of_eq hD)
 obtain ⟨W,⟨m0,w0⟩,turn⟩:=q D hDn
 generalize hs3:({s2 with heap:=s2.heap.push {cls:= .type "list",data:= .seq ([]:List Value).toArray}}:Shared)=s3
 have I3:Inv X pins σ (upd H2 D (.lst [])) s3:=by
  rw[←hs3]
  refine I2.laid (t':=s2.toks) (fun b o e=>Heap.get?_push_of_some _ e) (Nat.le_of_eq hD) ⟨Nat.zero_le _, [],0, .nil,?_⟩
  rw[←hD]
  exact Heap.get?_push_size _ rfl
 have h3:s3.heap=s2.heap.push {cls:= .type "list",data:= .seq ([]:List Value).toArray}:=by rw[←hs3]
 have sz: ∀b∈fp,b<s2.heap.objs.size:=fun b hb=>by
  obtain ⟨o,e,_⟩:=T.obj _ _ st2 b hb
  exact Heap.lt_size e
 have f3: ∀b∈fp,fK X pins (upd H2 D (.lst [])) b∧b<s3.heap.objs.size:=fun b hb=>by
  have hlt:=sz b hb
  refine ⟨⟨?_,(f2 b hb).2⟩,by rw[h3,Heap.size_push];exact Nat.lt_succ_of_lt hlt⟩
  rw[aB (by rw[←hD];exact Nat.ne_of_lt hlt)]
  exact (f2 b hb).1
 have st3:tn 0 s3.heap:=T.keep _ _ _ st2 fun b _ o e=>by rw[h3];exact Heap.get?_push_of_some _ e
 have I4:=Tu I3 ok hN f3
 have pg:=hg s3 (upd H2 D (.lst [])) s3.heap.objs.size (cellsFrom (s3.heap.objs.size+1) scope.names (cU X.env.cells scope.names [])) fp
 have pt:=ht s3 (upd H2 D (.lst [])) s3.heap.objs.size (cellsFrom (s3.heap.objs.size+1) scope.names (cU X.env.cells scope.names [])) fp
 have pe:=he s3 (upd H2 D (.lst [])) s3.heap.objs.size (cellsFrom (s3.heap.objs.size+1) scope.names (cU X.env.cells scope.names [])) fp
 show codeAny _ _ (.compStart (.ListComp elt [⟨tg,iter,ifs,0⟩] scope pos) 0 (.ref it) (.ref D) (compEnvC scope (cellsFrom (s3.heap.objs.size+1) scope.names (cU X.env.cells scope.names [])) s3.heap.objs.size X.env)) (compPost (model X.prog X.w) X.A X.xe use Qf (.ref D) s3.heap.objs.size) {s3 with heap:=pushCells (s3.heap.push {cls:= .type "dict",data:= .dict #[]}) scope.names}
 have nfp: ∀b∈fp,(upd H2 D (.lst [])) b=none:=fun b hb=>(f3 b hb).1.1
 generalize hce:compEnvC scope (cellsFrom (s3.heap.objs.size+1) scope.names (cU X.env.cells scope.names [])) s3.heap.objs.size X.env=ce at I4 pg pt pe⊢
 have cL:ce.locals=s3.heap.objs.size:=by subst hce;rfl
 generalize hH3:upd H2 D (.lst [])=H3 at I3 I4 pg pt pe w0 nfp f3
 generalize hs4:({s3 with heap:=pushCells (s3.heap.push {cls:= .type "dict",data:= .dict #[]}) scope.names}:Shared)=s4 at I4⊢
 have st4:tn 0 s4.heap:=T.keep _ _ _ st3 fun b _ o e=>by rw[←hs4];exact pushCells_keeps _ _ _ _ (Heap.get?_push_of_some _ e)
 have stat: ∀{σ':St} {H':Hp} {s':Shared},Inv (X.dA s3 H3 scope ce fp) [] σ' H' s'→(∀b∈fp,H' b=none)→ ∀b∈fp,fK (X.dA s3 H3 scope ce fp) [] H' b:=fun {σ' H' s'} I' hn b hb=>
  ⟨hn b hb,(I'.ok.kF b hb).1,I'.ok.kc b hb, .inl hb,fun x c e=>(I'.ok.kF b hb).2 x c e,fun p hp=>absurd (show p∈([]:List (Addr×Obj))++ [] from hp) (by simp)⟩
 have loop:codeAny (model X.prog X.w) X.A (.compLoop (.ListComp elt [⟨tg,iter,ifs,0⟩] scope pos) 0 (.ref it) (.ref D) ce) (compPost (model X.prog X.w) X.A X.xe use Qf (.ref D) s3.heap.objs.size) s4:=by
  refine LU (fun n s'=> ∃i H',Inv (X.dA s3 H3 scope ce fp) [] (wipe σ (own.map (·.2))) H' s'∧tn i s'.heap∧(∀b∈fp,H' b=none)∧W i n H') ?_ m0 ⟨0,H3,I4,st4,nfp,w0⟩
  rintro n s5 ⟨i,H5,I5,st5,n5,w5⟩
  rcases turn i n H5 w5 with ⟨stop,qq⟩|⟨go,Nx,hNx,step⟩
  ·have td:=T.done (X.dA s3 H3 scope ce fp) rfl rfl rfl hc i [] s5 _ H5 (fun _ _=>False) I5 (stat I5 n5) st5 stop
   refine kS td fun r s6 ⟨hr,I6⟩=>?_
   subst hr
   have I7:Inv X pins σ H5 s6:=I3.yk (ch:=fp) I6.os I6.base I6.ax I6.bare fun b hb=>⟨(f3 b hb).1.2.2.2.1,(f3 b hb).1.2.1,(f3 b hb).1.2.2.2.2.1,(f3 b hb).1.2.2.2.2.2⟩
   have nC:H5 s3.heap.objs.size=none:=by
    have z:H5 ce.locals=none:=I6.free
    rw[cL] at z
    exact z
   obtain ⟨m,hn,_⟩:=I6.loc
   have hn:s6.heap.Ns ce.locals m:=hn
   rw[cL] at hn
   exact hRR D s3.heap.objs.size s6 m H5 I7 qq hn (I3.jY (Nat.le_refl _) nC)
  ·have ti:=T.item (X.dA s3 H3 scope ce fp) rfl rfl rfl hc i [] s5 _ H5 (fun _ _=>False) I5 (stat I5 n5) st5 go
   refine kS ti fun r s6 ⟨u,hr,h6⟩=>?_
   subst hr
   refine kS h6 fun _ s7 ⟨x,H7,I7,r7,y7,st7,n7⟩=>?_
   have I7':=I7.pinned (stat I7 n7) (T.obj _ _ st7)
   refine kS (pg _ s7 _ H7 x u _ I7' r7 (step x H7 y7)) fun _ s8 ⟨σ8,H8,I8,hw8,q8⟩=>?_
   refine kS (pt _ s8 σ8 H8 _ I8 q8) fun b s9 ⟨H9,I9,q9⟩=>?_
   have fin: ∀{s':Shared} {H':Hp},Inv (X.dA s3 H3 scope ce fp) ([]++lH fp s7.heap) σ8 H' s'→Nx H'→ ∃m,m<n∧ ∃i H',Inv (X.dA s3 H3 scope ce fp) [] (wipe σ (own.map (·.2))) H' s'∧tn i s'.heap∧(∀b∈fp,H' b=none)∧W i m H':=fun {s' H'} I' nx=>by
    obtain ⟨m',hm,w'⟩:=hNx H' nx
    have pin': ∀b∈fp,∀o,s7.heap.get? b=some o→s'.heap.get? b=some o∧H' b=none:=fun b hb o e=>
     let z:=I'.pin (b,o) (List.mem_append_right _ (List.mem_append_right _ (uk hb e)))
     ⟨z.1,z.2.1⟩
    have hl:(wipe σ (own.map (·.2))).length=σ8.length:=by rw[←hw8,vJ]
    refine ⟨m',hm,i+1,H',(I'.tL (pins:= [])).weak hl (fun j v e=>?_),T.keep _ _ _ st7 fun b hb o e=>(pin' b hb o e).1,fun b hb=>?_,w'⟩
    ·rw[←hw8] at e
     exact (ym e).1
    ·obtain ⟨o,e,_⟩:=T.obj _ _ st7 b hb
     exact (pin' b hb o e).2
   cases b with
   |false=>
    simp only [Bool.false_eq_true,if_false] at q9⊢
    exact fin I9 q9
   |true=>
    simp only [if_true] at q9⊢
    refine kS (pe _ s9 σ8 H9 _ I9 q9) fun z s10 ⟨yv,H10,I10,r10,acc,hD10,hz10,nx⟩=>?_
    exact Sy (X:=X.dA s3 H3 scope ce fp) I10 hD10 hz10 r10 fun s11 I11=>fin I11 nx
 exact codeAny_compStart_list loop (T.self X.A 0 _ _ _ st4 loop)
theorem cw {elt tg iter:Expr} {ifs:List Expr} {scope:Scope} {own:List (Str×Nat)} {pos:Pos} {wi:TI} {g:TG} {tt:TT} {te:TE} (hc:X.calm=true) (hN:X.N.Nodup) (hi:PI X tg iter wi) (ok:lB X.N X.env.scope scope own)
  (hg: ∀(s:Shared) (H:Hp) (C:Addr) (cl:List (Str×Addr)) (fp:List Addr),PG (X.dA s H scope (compEnvC scope cl C X.env) fp) tg g) (ht: ∀(s:Shared) (H:Hp) (C:Addr) (cl:List (Str×Addr)) (fp:List Addr),ud (X.dA s H scope (compEnvC scope cl C X.env) fp) ifs tt)
  (he: ∀(s:Shared) (H:Hp) (C:Addr) (cl:List (Str×Addr)) (fp:List Addr),PE (X.dA s H scope (compEnvC scope cl C X.env) fp) elt te) (hs: ∀x,foldedSetIterable iter X.env x=pure x:=by intro _;rfl):
  PE X (.ListComp elt [⟨tg,iter,ifs,0⟩] scope pos) (sV wi g tt te (own.map (·.2))):=by
 intro pins s σ H Q I h
 rw[eval_ListComp]
 refine yX hc hN I hi ok hg ht he hs h fun D C s' m H' I' q hn f=>⟨m,hn,fun h'' sb=>?_⟩
 obtain ⟨f0,f1,f2,f3,f4,f5⟩:=f
 exact ⟨.ref D,H',I'.turned (t':=s'.toks) (fun b o hb e=>(sb.2 b hb).trans e) f0 f1 f3 f4 f5,rfl,q⟩
theorem xu {i:Nat} {y:Str} {py:Pos} {elt tg iter:Expr} {ifs:List Expr} {scope:Scope} {own:List (Str×Nat)} {pos spos:Pos} {wi:TI} {g:TG} {tt:TT} {te:TE} (hc:X.calm=true) (hN:X.N.Nodup) (hy:X.N[i]?=some y) (hyl:X.env.scope.names.lookup y=some .local)
  (hsw:swapsWith (.ListComp elt [⟨tg,iter,ifs,0⟩] scope pos) (some (.Name y py)) spos.line X.env=pure true) (hi:PI X tg iter wi) (ok:lB X.N X.env.scope scope own)
  (hg: ∀(s:Shared) (H:Hp) (C:Addr) (cl:List (Str×Addr)) (fp:List Addr),PG (X.dA s H scope (compEnvC scope cl C X.env) fp) tg g) (ht: ∀(s:Shared) (H:Hp) (C:Addr) (cl:List (Str×Addr)) (fp:List Addr),ud (X.dA s H scope (compEnvC scope cl C X.env) fp) ifs tt)
  (he: ∀(s:Shared) (H:Hp) (C:Addr) (cl:List (Str×Addr)) (fp:List Addr),PE (X.dA s H scope (compEnvC scope cl C X.env) fp) elt te) (hs: ∀x,foldedSetIterable iter X.env x=pure x:=by intro _;rfl):
  PS X (.Assign [.Name y py] (.ListComp elt [⟨tg,iter,ifs,0⟩] scope pos) spos) (qk (sV wi g tt te (own.map (·.2))) (i9 i)):=by
 intro pins s σ H D I h
 rw[exec_Assign_Name_used _ _ _ _ hsw]
 refine wpAny_bind (wpAny_standAt (wpAny_bind ?_))
 show wpAny _ X.A (do let _←comprehension (.ListComp elt [⟨tg,iter,ifs,0⟩] scope pos) scope X.env (firstIterPos [⟨tg,iter,ifs,0⟩] pos) (newList []) false (eval iter X.env) (some (assign (.Name y py) X.env))) _ _ s
 have h:sV wi g tt te (own.map (·.2)) σ H (fun x H1=>i9 i x σ H1 D.nx):=h
 refine wpAny_bind (aH (yX (Qf:=fun _ s'=>SP X pins D .next s') hc hN I hi ok hg ht he hs h fun L C s' m H' I' q hn f=>?_) fun _ s' hq=>wpAny_pure (wpAny_pure hq))
 show wpAny _ _ (assign (.Name y py) X.env (.ref L)) _ _ _
 refine wpAny_assign_Name (zX (v:=V.ref L) I' hN hy (.inl hyl) rfl (fun s2 I2 ⟨a,sb,ha⟩=>?_) (.inr hyl))
 obtain ⟨f0,f1,f2,f3,f4,f5⟩:=f
 have haC:C≠a:=by
  rcases ha with z|z
  ·rw[z];exact f1
  ·exact fun e=>f4 y a z e.symm
 refine ⟨m,hn.sameBut sb haC,fun h3 sb3=>?_⟩
 exact ⟨_,H',I2.turned (t':=s2.toks) (fun b o hb e=>(sb3.2 b hb).trans e) f0 f1 f3 f4 f5,q⟩
end
def BI (N:List Str) (sc scope:Scope) (own:List (Str×Nat)):Bool:=
 (match scope.kind with| .function=>true|_=>false)&&(scope.names.all fun y=>decide (scope.names.lookup y.1=some y.2))&&(own.all fun p=>decide (N[p.2]?=some p.1))&&
  (scope.names.all fun y=>match y.2 with
   | .free=>(match sc.names.lookup y.1 with|some .cell=>true|some .free=>true|_=>false)
   | .local=>decide (y.1∈own.map (·.1))||decide (y.1∉N)
   | .cell=>decide (y.1∈own.map (·.1))||decide (y.1∉N)
   |_=>true)
theorem b5 {N:List Str} {sc scope:Scope} {own:List (Str×Nat)} (h:BI N sc scope own=true):lB N sc scope own:=by
 unfold BI at h
 simp only [Bool.and_eq_true,List.all_eq_true,decide_eq_true_eq] at h
 obtain ⟨⟨⟨h1,h2⟩,h3⟩,h4⟩:=h
 refine ⟨?_,h2,h3,fun y hy e=>?_,fun y hy e=>?_⟩
 ·split at h1
  ·assumption
  ·cases h1
 ·have q:=h4 y hy
  simp only [e] at q
  split at q<;>first|exact .inl (by assumption)|exact .inr (by assumption)|cases q
 ·have q:=h4 y hy
  rcases e with e|e<;>(simp only [e,Bool.or_eq_true,decide_eq_true_eq] at q;exact q)
end L2
namespace L2
open PySem PySem.Spec PyProof.Rows
section
variable {prog:Program} {w:World} {A:Around} {R:Result→Shared→Prop} {s:Shared} {elt t0 i0 t1 i1:Expr} {ifs0 ifs1:List Expr} {scope:Scope} {pos:Pos} {it acc:Value} {env:Env}
end
section
variable {X:Cx}
end
end L2
namespace L2
open PySem PySem.Spec PyProof.Rows
section
variable {κ:Type} [DecidableEq κ]
end
section
variable {P:Program} {w:World} {H:Hp} {h:Heap} {a:Addr}
end
section
variable {X:Cx} {pins:List (Addr×Obj)} {σ:St} {H:Hp} {s:Shared} {a:Addr} {y v:V} {u r:Value} {o:Option V} {A:Around} {E:Value→Shared→Prop}
end
section
variable {X:Cx} {pins:List (Addr×Obj)} {σ:St} {H:Hp} {s:Shared} {a:Addr} {kvs:List (Key×V)} {k:Key} {u:Value} {A:Around} {E:Value→Shared→Prop}
end
section
variable {X:Cx} {o i e value:Expr} {pos pos' tpos:Pos} {td ty tv:TE}
end
section
variable {X:Cx} {pos:Pos}
end
section
variable {X:Cx} {pins:List (Addr×Obj)} {σ:St} {H:Hp} {s:Shared} {a:Addr} {y d:V} {u r:Value} {o:Option V} {A:Around} {E:Value→Shared→Prop}
end
section
variable {X:Cx} {o e f:Expr} {apos cpos:Pos} {td ty tx:TE}
end
section
variable {X:Cx} {pins:List (Addr×Obj)} {σ:St} {H:Hp} {s:Shared} {a:Addr} {kvs:List (Key×V)} {A:Around} {E:Value→Shared→Prop}
end
section
variable {X:Cx} {pins:List (Addr×Obj)} {σ:St} {H:Hp} {s:Shared} {a:Addr} {y:V} {u:Value} {A:Around} {E:Value→Shared→Prop}
end
end L2
namespace L2
open PySem PySem.Spec PyProof.Rows
section
variable {prog:Program} {w:World} {A:Around} {E:Value→Shared→Prop}
end
section
variable {X:Cx}
end
end L2
namespace L2
open PySem PySem.Spec PyProof.Rows
section
variable {X:Cx} {pins:List (Addr×Obj)} {σ:St} {H:Hp} {s:Shared} {h':Heap}
theorem Inv.Fs {t':Nat} {ch:List Addr} (I:Inv X pins σ H s) (k: ∀b o,b∉ch→s.heap.get? b=some o→h'.get? b=some o) (hf: ∀b∈ch,fK X pins H b):Inv X pins σ H {s with heap:=h',toks:=t'}:=by
 have nit: ∀b u,H b=some u→b∉ch:=fun b u e z=>by
  have q:=(hf b z).1
  rw[q] at e;cases e
 refine I.step (g':=s.gens) (d':=s.drawn) (ch:=ch) (fun b hb=>⟨(hf b hb).2.2.2.1,(hf b hb).2.1,(hf b hb).2.2.2.2.1,(hf b hb).2.2.2.2.2⟩) (fun b o _ _ hc e _=>k b o hc e) (fun b o _ _ hc e _=>⟨o.slots,k b o hc e⟩)
  (fun _ _ _ _ n=>n) (fun b o hc e=>⟨o,k b o hc e⟩) (fun _ _ e=>e) (fun _ _ _ e=>e) (fun b ps e=>⟨#[],by rw[e];simp⟩) (fun m hm=>?_) (fun b u e=>?_) I.bare
 ·obtain ⟨o,es,ep,ho,r⟩:=hm
  exact ⟨o,es,ep,k _ o (fun z=>(hf _ z).2.1 rfl) ho,r⟩
 ·refine (I.ax b u e).fe (fun c v hc q=>k c v ?_ q) (fun _ q=>q) fun _ _ q=>q
  rcases hc with z|z
  ·rw[z];exact nit b u e
  ·exact nit c _ z
theorem Inv.vS {t':Nat} {ch:List Addr} {T:Addr} {ob:HO} (I:Inv X pins σ H s) (k: ∀b o,b∉ch→s.heap.get? b=some o→h'.get? b=some o) (hf: ∀b∈ch,fK X pins H b) (hT:s.heap.objs.size≤T)
  (new:cy X.prog X.w (upd H T ob) h' T ob):Inv X pins σ (upd H T ob) {s with heap:=h',toks:=t'}:=by
 have hn:H T=none:=I.ax.fresh hT
 have nit: ∀b u,H b=some u→b∉ch:=fun b u e z=>by
  have q:=(hf b z).1
  rw[q] at e;cases e
 refine I.step (g':=s.gens) (d':=s.drawn) (ch:=ch) (fun b hb=>⟨(hf b hb).2.2.2.1,(hf b hb).2.1,(hf b hb).2.2.2.2.1,(hf b hb).2.2.2.2.2⟩) (fun b o _ _ hc e _=>k b o hc e) (fun b o _ _ hc e _=>⟨o.slots,k b o hc e⟩)
  (fun b o _ e n=>?_) (fun b o hc e=>⟨o,k b o hc e⟩) (fun b xs e=>?_) (fun b o u e=>?_) (fun b ps e=>⟨#[],?_⟩) (fun m hm=>?_) (fun b u e=>?_) I.bare
 ·rw[aB (Nat.ne_of_lt (Nat.lt_of_lt_of_le (Heap.lt_size e) hT))];exact n
 ·rw[aB (bD e hn)];exact e
 ·rw[aB (bD e hn)];exact e
 ·rw[aB (bD e hn),e];simp
 ·obtain ⟨o,es,ep,ho,r⟩:=hm
  exact ⟨o,es,ep,k _ o (fun z=>(hf _ z).2.1 rfl) ho,r⟩
 ·by_cases hb:b=T
  ·subst hb
   rw[ao] at e
   cases e
   exact new
  ·rw[aB hb] at e
   refine (I.ax b u e).fe (fun c v hc q=>k c v ?_ q) (fun c q=>by rw[aB (bD q hn)];exact q) fun c xs q=>by rw[aB (bD q hn)];exact q
   rcases hc with z|z
   ·rw[z];exact nit b u e
   ·exact nit c _ z
end
section
variable {X:Cx}
theorem IZ {tg:Expr} {pins:List (Addr×Obj)} {σ:St} {H:Hp} {s:Shared} {R:It→Hp→Prop} {J:It} {tn:Nat→Heap→Prop} {tk:Nat} (I:Inv X pins σ H s) (o:Obj)
  (T:Turn X.prog X.w X.K tg J [s.heap.objs.size] s.heap.objs.size tn) (st:tn 0 (s.heap.push o)) (q:R J H):uI X pins σ tg R (.ref s.heap.objs.size) {s with heap:=s.heap.push o,toks:=tk}:=by
 refine ⟨s.heap.objs.size, [s.heap.objs.size],tn,J,H,rfl,I.kept fun b ob e=>Heap.get?_push_of_some _ e,T,st,fun b hb=>?_,q⟩
 have e:b=s.heap.objs.size:=by simpa using hb
 subst e
 exact I.jY (Nat.le_refl _) (I.ax.fresh (Nat.le_refl _))
end
def iI (lo c:Int) (n:Nat):It:=⟨fun i _=>i<n,fun i H x H'=>H'=H∧x= .int (lo+(i:Nat)*c),fun i _=>n≤i⟩
theorem Tj {P:Program} {w:World} {K:PySem.W.Frag} {tg:Expr} (it:Addr) (lo c:Int) (n:Nat):Turn P w K tg (iI lo c n) [it] it (fun i h=>IsRangeIter h it (lo+(i:Nat)*c) ((n:Int)-(i:Nat)) c) where
 mem:=by simp
 obj:=fun i h st b hb=>by
  have e:b=it:=by simpa using hb
  subst e
  exact ⟨_,st,fun v z=>nomatch z⟩
 keep:=fun i h h' st k=>k it (by simp) _ st
 item:=by
  intro X hP hw hK hc i pins s σ H E I hf st hg
  subst hP hw hK
  obtain ⟨f0,f1,f2,f3,f4,f5⟩:=hf it (by simp)
  have W:=Walks.range (prog:=X.prog) (w:=X.w) (I.ok.hd hc) it lo c n
  refine W.item i s _ _ hg st fun v h' tk hv st' kk=>?_
  obtain ⟨t,rfl⟩:=hv
  have I1:Inv X pins σ H {s with heap:=h',toks:=tk}:=I.turned (fun b o hb e=>kk b o (by simpa using hb) e) f0 f1 f3 f4 f5
  exact ⟨_,rfl,vF (s:={s with heap:=h',toks:=tk}) (n:= "range_iterator") st' rfl rfl (by decide) ⟨.int (lo+(i:Nat)*c),H,I1,⟨t,rfl⟩,⟨rfl,rfl⟩,st',fun b hb=>(hf b hb).1⟩⟩
 done:=by
  intro X hP hw hK hc i pins s σ H E I hf st hg
  subst hP hw hK
  obtain ⟨f0,f1,f2,f3,f4,f5⟩:=hf it (by simp)
  exact wpAny_pyNext_range_end (I.ok.hd hc) st (by have:n≤i:=hg;lia) fun h' eb=>⟨rfl,I.turned (t':=s.toks) (fun b o hb e=>eb b o hb e) f0 f1 f3 f4 f5⟩
 self:=fun A i s Q E st h=>wpAny_pyIter_rangeiter st h
def gG (i j c:Int) (n:Nat):Prop:=c≠0∧c.natAbs<1073741824∧Builtin.Range.small i j c=true∧Builtin.Range.rangeSize i j c=n
theorem gG.neg {i j:Int} (ha: -(2^62)≤i) (ha':i<2^62) (hb: -(2^62)≤j) (hb':j<2^62):gG i j (-1) (i-j).toNat:=
 ⟨by decide,by decide,PySem.W.small_down ha ha' hb hb',PySem.W.rangeSize_downNat i j⟩
def zW (ta:TA):TI:=fun σ H R=>ta σ H fun vs H1=> ∃(i j c:Int) (n:Nat),vs= [.int i, .int j, .int c]∧gG i j c n∧R (iI i c n) H1
section
variable {X:Cx} {tg:Expr}
theorem jM {a b c:Expr} {ta:TA} {p pos:Pos} (hg:Gl X "range") (hm:X.mg "range" =none) (ha:PA X [a,b,c] ta)
  (hs:starEach [a,b,c] X.env=(false,eval a X.env)::starEach [b,c] X.env:=by rfl) (hpl:(backTo pos (starEach [b,c] X.env)).any (·.1)=false:=by rfl):
  PI X tg (.Call (.Name "range" p) [a,b,c] [] pos) (zW ta):=by
 intro pins s σ H R I h
 refine Call_ (ia I hg hm boot_range (PyProof.Rows.callWith_type1 (aH (ha pos pins s σ H _ I h) fun us s1 ⟨vs,H1,I1,r1,q1⟩=>?_) hs hpl))
 obtain ⟨i,j,k,n,e,⟨c0,c1,c2,c3⟩,q⟩:=q1
 subst e
 cases r1 with
 |cons r rr=>
  cases rr with
  |cons r' rr=>
   cases rr with
   |cons r'' rr=>
    cases rr
    obtain ⟨t,rfl⟩:=r
    obtain ⟨t',rfl⟩:=r'
    obtain ⟨t'',rfl⟩:=r''
    refine call_range_3 c0 ?_ (.inl (PyProof.noPylong_small c1))
    refine wpAny_pyIter_range (IsRange.new ..) c2 ?_
    have I2:Inv X pins σ H1 {s1 with heap:=s1.heap.push {cls:= .type "range",data:= .fields #[.int i t, .int j t', .int k t'']}}:=I1.kept (t':=s1.toks) fun b o e=>Heap.get?_push_of_some _ e
    refine IZ (tk:=s1.toks) I2 _ (Tj _ i k n) ?_ q
    have e1:i+((0:Nat):Int)*k=i:=by simp
    have e2:(n:Int)-((0:Nat):Int)=Builtin.Range.rangeSize i j k:=by rw[c3];simp
    show IsRangeIter _ _ (i+((0:Nat):Int)*k) ((n:Int)-((0:Nat):Int)) k
    rw[e1,e2]
    exact Heap.get?_push_size _ rfl
end
theorem yw {lo c:Int} {n:Nat} {g:TG} {tb:TS} {D:Ends} {σ:St} {H:Hp} (Pv:Nat→St→Hp→Prop) (h0:Pv 0 σ H)
  (hs: ∀i σ H,i<n→Pv i σ H→g (.int (lo+(i:Nat)*c)) σ H fun σ2 H2=>tb {D with nx:=Pv (i+1),ct:=Pv (i+1),bk:=D.nx} σ2 H2) (hd: ∀σ H,Pv n σ H→D.nx σ H):
  ∃W:Nat→Nat→St→Hp→Prop,(∃m,W 0 m σ H)∧ ∀i m σ H,W i m σ H→
   ((iI lo c n).stop i H∧D.nx σ H)∨((iI lo c n).go i H∧ ∃N:St→Hp→Prop,(∀σ' H',N σ' H'→ ∃m',m'<m∧W (i+1) m' σ' H')∧ ∀x H',(iI lo c n).fO i H x H'→g x σ H' fun σ2 H2=>tb {D with nx:=N,ct:=N,bk:=D.nx} σ2 H2):=by
 refine ⟨fun i m σ H=>m=n-i∧i≤n∧Pv i σ H,⟨n,by simp,Nat.zero_le _,h0⟩,?_⟩
 rintro i m σ H ⟨rfl,hi,p⟩
 by_cases hlt:i<n
 ·refine .inr ⟨hlt,Pv (i+1),fun σ' H' p'=>⟨n-(i+1),by lia,rfl,hlt,p'⟩,fun x H' y=>?_⟩
  obtain ⟨e,y⟩:=y
  subst e y
  exact hs i σ _ hlt p
 ·have e:i=n:=by lia
  subst e
  exact .inl ⟨Nat.le_refl _,hd σ H p⟩
section
variable {X:Cx} {tg:Expr}
end
section
variable {prog:Program} {w:World} {A:Around} {E:Value→Shared→Prop} {s:Shared}
end
section
variable {X:Cx} {pins:List (Addr×Obj)} {σ:St} {H:Hp} {s:Shared} {d:Addr} {o:Obj}
end
section
variable {P:Program} {w:World} {K:PySem.W.Frag} {tg:Expr} {d:Addr} {o:Obj} {es:Array DictEntry} {ep:Nat}
end
section
variable {X:Cx} {tg e:Expr} {td:TE} {apos cpos:Pos}
end
def l6 (K:PySem.W.Frag) (a:Addr):It:=
 ⟨fun i H=> ∃(xs:List V) (x:V),ae K H a xs∧xs[i]?=some x,fun i H v H'=> ∃T x,v= .ref T∧H T=none∧H'=upd H T (.tup [.int (i:Nat),x])∧ ∀xs,ae K H a xs→xs[i]?=some x,fun i H=> ∃xs:List V,ae K H a xs∧xs.length≤i⟩
theorem Jd {P:Program} {w:World} {K:PySem.W.Frag} {elts:List Expr} {kk:Nat} {tpos:Pos} (a e it:Addr):
  Turn P w K (.Tuple elts kk tpos) (l6 K a) [e,it] e (fun i h=>(∃old,IsEnum h e it ((i:Nat):Int) old)∧h.IsListIter it a i∧e≠it) where
 mem:=by simp
 obj:=fun i h st b hb=>by
  obtain ⟨⟨old,he⟩,⟨o,ho,hc,hd⟩,_⟩:=st
  have e':b=e∨b=it:=by simpa using hb
  rcases e' with z|z
  ·rw[z];exact ⟨_,he,fun v q=>nomatch q⟩
  ·rw[z];exact ⟨o,ho,fun v q=>by rw[hd] at q;cases q⟩
 keep:=fun i h h' st k=>let ⟨⟨old,he⟩,hi,hne⟩:=st;⟨⟨old,k e (by simp) _ he⟩,hi.at fun o q=>k it (by simp) o q,hne⟩
 item:=by
  intro X hP hw hK hc i pins s σ H E I hf st hg
  subst hP hw hK
  obtain ⟨⟨old,he⟩,hit,hne⟩:=st
  obtain ⟨xs,x,hq,hx⟩:=hg
  obtain ⟨its,rv,p,hz⟩:=I.list hq
  obtain ⟨u,hu,ru⟩:=rv.get hx
  have hel:e<s.heap.objs.size:=Heap.lt_size he
  have hil:it<s.heap.objs.size:=by obtain ⟨_,q,_⟩:=hit;exact Heap.lt_size q
  refine wpAny_pyNext_enum_item he hit p.isList (x:=u) (by simpa using hu) hne fun h' ho hit' hT hsz hk=>?_
  refine ⟨_,rfl,wpAny_letOwnedTupleGo_enum (s:={s with heap:=h',toks:=s.toks+1}) ho fun h'' he' sb=>?_⟩
  have hT2:h''.get? s.heap.objs.size=some {cls:= .type "tuple",data:= .seq #[.int i s.toks,u]}:=(sb.2 _ (Nat.ne_of_gt hel)).trans hT
  have new:cy X.prog X.w (upd H s.heap.objs.size (.tup [.int (i:Nat),x])) h'' s.heap.objs.size (.tup [.int (i:Nat),x]):=
   ⟨by show 2≤sizeLine;decide, [.int i s.toks,u], .cons ⟨_,rfl⟩ (.cons ru .nil),⟨_,hT2,rfl,_,rfl⟩⟩
  have I1:Inv X pins σ (upd H s.heap.objs.size (.tup [.int (i:Nat),x])) {s with heap:=h'',toks:=s.toks+1}:=
   I.vS (ch:= [e,it]) (fun b ob hb q=>(sb.2 b (fun z=>hb (by simp [z]))).trans (hk b ob (fun z=>hb (by simp [z])) (fun z=>hb (by simp [z])) q)) hf (Nat.le_refl _) new
  refine ⟨.ref s.heap.objs.size,_,I1,rfl,⟨_,x,rfl,I.ax.fresh (Nat.le_refl _),rfl,fun ys hy=>by rw[I.pL hy hq];exact hx⟩,⟨⟨u,?_⟩,hit'.at fun o q=>(sb.2 it (Ne.symm hne)).trans q,hne⟩,fun b hb=>?_⟩
  ·have e1:((i+1:Nat):Int)=(i:Int)+1:=by lia
   rw[e1];exact he'
  ·have hb':b<s.heap.objs.size:=by
    have e':b=e∨b=it:=by simpa using hb
    rcases e' with z|z
    ·rw[z];exact hel
    ·rw[z];exact hil
   rw[aB (Nat.ne_of_lt hb')]
   exact (hf b hb).1
 done:=by
  intro X hP hw hK hc i pins s σ H E I hf st hg
  subst hP hw hK
  obtain ⟨⟨old,he⟩,hit,hne⟩:=st
  obtain ⟨xs,hq,hx⟩:=hg
  obtain ⟨its,rv,p,hz⟩:=I.list hq
  obtain ⟨f0,f1,f2,f3,f4,f5⟩:=hf it (by simp)
  have hl:=rv.length
  exact wpAny_pyNext_enum_end (I.ok.hd hc) he hit p.isList (by simp;lia) fun h' eb=>⟨rfl,I.turned (t':=s.toks) (fun b o hb q=>eb b o hb q) f0 f1 f3 f4 f5⟩
 self:=fun A i s Q E st h=>let ⟨⟨_,he⟩,_⟩:=st;wpAny_pyIter_enum he h
def A4 (K:PySem.W.Frag) (ta:TA):TI:=fun σ H R=>ta σ H fun vs H1=> ∃a xs,vs= [.ref a]∧ae K H1 a xs∧R (l6 K a) H1
theorem wL {X:Cx} {e:Expr} {ta:TA} {p pos tpos:Pos} {elts:List Expr} {kk:Nat} (hg:Gl X "enumerate") (hm:X.mg "enumerate" =none) (ha:PA X [e] ta) (hs:starEach [e] X.env= [(false,eval e X.env)]:=by rfl):
  PI X (.Tuple elts kk tpos) (.Call (.Name "enumerate" p) [e] [] pos) (A4 X.K ta):=by
 intro pins s σ H R I h
 refine Call_ (ia I hg hm boot_enumerate (PyProof.Rows.callWith_type1 (aH (ha pos pins s σ H _ I h) fun us s1 ⟨vs,H1,I1,r1,q1⟩=>?_) hs rfl))
 obtain ⟨a,xs,ex,hq,q⟩:=q1
 subst ex
 cases r1 with
 |cons r rr=>
  cases rr
  cases r
  obtain ⟨its,rv,p',hz⟩:=I1.list hq
  refine call_enumerate_list p'.isList fun h' he hit hsz hk=>wpAny_pyIter_enum he ?_
  have I2:Inv X pins σ H1 {s1 with heap:=h'}:=I1.kept (t':=s1.toks) hk
  refine ⟨s1.heap.objs.size+1, [s1.heap.objs.size+1,s1.heap.objs.size],_,_,H1,rfl,I2,Jd a (s1.heap.objs.size+1) s1.heap.objs.size,⟨⟨.none,he⟩,hit,Nat.succ_ne_self _⟩,fun b hb=>?_,q⟩
  have e':b=s1.heap.objs.size+1∨b=s1.heap.objs.size:=by simpa using hb
  have hle:s1.heap.objs.size≤b:=by
   rcases e' with z|z
   ·rw[z];exact Nat.le_add_right _ _
   ·rw[z];exact Nat.le_refl _
  exact I1.jY hle (I1.ax.fresh hle)
theorem DT:bootBuiltins "zip" =some (.type "zip"):=by decide+kernel
def jV (K:PySem.W.Frag) (a b:Addr):It:=
 ⟨fun i H=> ∃(xs ys:List V) (x y:V),ae K H a xs∧ae K H b ys∧xs[i]?=some x∧ys[i]?=some y,
  fun i H v H'=> ∃T x y,v= .ref T∧H T=none∧H'=upd H T (.tup [x,y])∧(∀xs,ae K H a xs→xs[i]?=some x)∧ ∀ys,ae K H b ys→ys[i]?=some y,
  fun i H=> ∃xs ys:List V,ae K H a xs∧ae K H b ys∧(xs.length≤i∨ys.length≤i)⟩
theorem Ju {P:Program} {w:World} {K:PySem.W.Frag} {elts:List Expr} {kk:Nat} {tpos:Pos} {a b z TI TO i1 i2:Addr} (D:ZipApart z TI TO i1 i2 a b):
  Turn P w K (.Tuple elts kk tpos) (jV K a b) [z,TI,TO,i1,i2] z (fun i h=>IsZip h z TI TO .none∧IsPair h TI (.ref i1) (.ref i2)∧(∃x y,IsPair h TO x y)∧h.IsListIter i1 a i∧h.IsListIter i2 b i) where
 mem:=by simp
 obj:=fun i h st c hc=>by
  obtain ⟨hz,hTI,⟨x,y,hTO⟩,⟨o1,e1,_,d1⟩,⟨o2,e2,_,d2⟩⟩:=st
  have e':c=z∨c=TI∨c=TO∨c=i1∨c=i2:=by simpa using hc
  rcases e' with q|q|q|q|q
  ·rw[q];exact ⟨_,hz,fun v q=>nomatch q⟩
  ·rw[q];exact ⟨_,hTI,fun v q=>nomatch q⟩
  ·rw[q];exact ⟨_,hTO,fun v q=>nomatch q⟩
  ·rw[q];exact ⟨o1,e1,fun v q=>by rw[d1] at q;cases q⟩
  ·rw[q];exact ⟨o2,e2,fun v q=>by rw[d2] at q;cases q⟩
 keep:=fun i h h' st k=>by
  obtain ⟨hz,hTI,⟨x,y,hTO⟩,h1,h2⟩:=st
  exact ⟨k z (by simp) _ hz,k TI (by simp) _ hTI,⟨x,y,k TO (by simp) _ hTO⟩,h1.at fun o q=>k i1 (by simp) o q,h2.at fun o q=>k i2 (by simp) o q⟩
 item:=by
  intro X hP hw hK hc i pins s σ H E I hf st hg
  subst hP hw hK
  obtain ⟨hz,hTI,⟨x0,y0,hTO⟩,h1,h2⟩:=st
  obtain ⟨xs,ys,x,y,hqx,hqy,hx,hy⟩:=hg
  obtain ⟨its,rv,p,_⟩:=I.list hqx
  obtain ⟨its2,rv2,p2,_⟩:=I.list hqy
  obtain ⟨u,hu,ru⟩:=rv.get hx
  obtain ⟨u2,hu2,ru2⟩:=rv2.get hy
  have hzl:z<s.heap.objs.size:=Heap.lt_size hz
  refine wpAny_pyNext_zip_item D hz hTI hTO h1 h2 p.isList p2.isList (x:=u) (y:=u2) (by simpa using hu) (by simpa using hu2) fun h' z' TO' h1' h2' hT hsz hk=>?_
  refine ⟨_,rfl,wpAny_letOwnedTupleGo_zip (s:={s with heap:=h'}) z' fun h'' z'' sb=>?_⟩
  have hT2:h''.get? s.heap.objs.size=some {cls:= .type "tuple",data:= .seq #[u,u2]}:=(sb.2 _ (Nat.ne_of_gt hzl)).trans hT
  have new:cy X.prog X.w (upd H s.heap.objs.size (.tup [x,y])) h'' s.heap.objs.size (.tup [x,y]):=
   ⟨by show 2≤sizeLine;decide, [u,u2], .cons ru (.cons ru2 .nil),⟨_,hT2,rfl,_,rfl⟩⟩
  have I1:Inv X pins σ (upd H s.heap.objs.size (.tup [x,y])) {s with heap:=h''}:=
   I.vS (t':=s.toks) (ch:= [z,TI,TO,i1,i2]) (fun c o hb q=>(sb.2 c (fun q'=>hb (by simp [q']))).trans (hk c o (fun q'=>hb (by simp [q'])) (fun q'=>hb (by simp [q'])) (fun q'=>hb (by simp [q'])) (fun q'=>hb (by simp [q'])) q)) hf (Nat.le_refl _) new
  refine ⟨.ref s.heap.objs.size,_,I1,rfl,⟨_,x,y,rfl,I.ax.fresh (Nat.le_refl _),rfl,fun l hl=>by rw[I.pL hl hqx];exact hx,fun l hl=>by rw[I.pL hl hqy];exact hy⟩,⟨z'',?_,⟨u,u2,?_⟩,?_,?_⟩,fun c hcm=>?_⟩
  ·exact (sb.2 _ D.TIz).trans (hk _ _ D.TIz D.TITO D.TIi1 D.TIi2 hTI)
  ·exact (sb.2 _ D.TOz).trans TO'
  ·exact h1'.at fun o q=>(sb.2 _ D.i1z).trans q
  ·exact h2'.at fun o q=>(sb.2 _ D.i2z).trans q
  ·have hlt:c<s.heap.objs.size:=by
    have e':c=z∨c=TI∨c=TO∨c=i1∨c=i2:=by simpa using hcm
    rcases e' with q|q|q|q|q
    ·rw[q];exact hzl
    ·rw[q];exact Heap.lt_size hTI
    ·rw[q];exact Heap.lt_size hTO
    ·rw[q];obtain ⟨_,e1,_⟩:=h1;exact Heap.lt_size e1
    ·rw[q];obtain ⟨_,e2,_⟩:=h2;exact Heap.lt_size e2
   rw[aB (Nat.ne_of_lt hlt)]
   exact (hf c hcm).1
 done:=by
  intro X hP hw hK hc i pins s σ H E I hf st hg
  subst hP hw hK
  obtain ⟨hz,hTI,⟨x0,y0,hTO⟩,h1,h2⟩:=st
  obtain ⟨xs,ys,hqx,hqy,hend⟩:=hg
  obtain ⟨its,rv,p,_⟩:=I.list hqx
  obtain ⟨its2,rv2,p2,_⟩:=I.list hqy
  have l1:=rv.length
  have l2:=rv2.length
  have he:its.toArray[i]?=none∨its2.toArray[i]?=none:=by
   rcases hend with q|q
   ·exact .inl (by simp;lia)
   ·exact .inr (by simp;lia)
  exact wpAny_pyNext_zip_end (I.ok.hd hc) D hz hTI hTO h1 h2 p.isList p2.isList he fun h' hk=>⟨rfl,I.Fs (t':=s.toks) (ch:= [z,TI,TO,i1,i2]) (fun c o hb q=>
   hk c o (fun q'=>hb (by simp [q'])) (fun q'=>hb (by simp [q'])) (fun q'=>hb (by simp [q'])) (fun q'=>hb (by simp [q'])) q) hf⟩
 self:=fun A i s Q E st h=>wpAny_pyIter_zip st.1 h
def Ft (K:PySem.W.Frag) (ta:TA):TI:=fun σ H R=>ta σ H fun vs H1=> ∃a b xs ys,vs= [.ref a, .ref b]∧ae K H1 a xs∧ae K H1 b ys∧R (jV K a b) H1
theorem lI {X:Cx} {e e2:Expr} {ta:TA} {p pos tpos:Pos} {elts:List Expr} {kk:Nat} (hg:Gl X "zip") (hm:X.mg "zip" =none) (ha:PA X [e,e2] ta)
  (hs:starEach [e,e2] X.env=(false,eval e X.env)::starEach [e2] X.env:=by rfl) (hpl:(backTo pos (starEach [e2] X.env)).any (·.1)=false:=by rfl):
  PI X (.Tuple elts kk tpos) (.Call (.Name "zip" p) [e,e2] [] pos) (Ft X.K ta):=by
 intro pins s σ H R I h
 refine Call_ (ia I hg hm DT (PyProof.Rows.callWith_type1 (aH (ha pos pins s σ H _ I h) fun us s1 ⟨vs,H1,I1,r1,q1⟩=>?_) hs hpl))
 obtain ⟨a,b,xs,ys,ex,hqx,hqy,q⟩:=q1
 subst ex
 cases r1 with
 |cons r rr=>
  cases rr with
  |cons r' rr=>
   cases rr
   cases r
   cases r'
   obtain ⟨its,rv,p1,_⟩:=I1.list hqx
   obtain ⟨its2,rv2,p2,_⟩:=I1.list hqy
   have la:a<s1.heap.objs.size:=p1.lt
   have lb:b<s1.heap.objs.size:=p2.lt
   refine call_zip_2 p1.isList p2.isList fun h' hz hTI hTO h1 h2 hsz hk=>wpAny_pyIter_zip hz ?_
   have I2:Inv X pins σ H1 {s1 with heap:=h'}:=I1.kept (t':=s1.toks) hk
   refine ⟨s1.heap.objs.size+4, [s1.heap.objs.size+4,s1.heap.objs.size+2,s1.heap.objs.size+3,s1.heap.objs.size,s1.heap.objs.size+1],_,_,H1,rfl,I2,Ju (PySem.W.ktu_apart s1.heap.objs.size a b la lb),⟨hz,hTI,⟨_,_,hTO⟩,h1,h2⟩,fun c hcm=>?_,q⟩
   have e':c=s1.heap.objs.size+4∨c=s1.heap.objs.size+2∨c=s1.heap.objs.size+3∨c=s1.heap.objs.size∨c=s1.heap.objs.size+1:=by simpa using hcm
   have hle:s1.heap.objs.size≤c:=by
    rcases e' with z|z|z|z|z
    ·rw[z];exact Nat.le_add_right _ _
    ·rw[z];exact Nat.le_add_right _ _
    ·rw[z];exact Nat.le_add_right _ _
    ·rw[z];exact Nat.le_refl _
    ·rw[z];exact Nat.le_add_right _ _
   exact I1.jY hle (I1.ax.fresh hle)
end L2
section
namespace Bits
open PySem PyProof.Rows
end Bits
end
section
namespace TL
open PySem PySem.Builtin PySem.Builtin.Str PySem.StrLaws
end TL
end
namespace L2
open PySem PySem.Spec PyProof.Rows
section
variable {X:Cx} {pins:List (Addr×Obj)} {σ:St} {H:Hp} {s:Shared} {Q:VK}
end
section
variable {X:Cx}
end
section
variable {X:Cx} {o e:Expr} {to te:TE}
end
end L2
namespace L2
open PySem PySem.Spec PyProof.Rows
section
variable {X:Cx}
end
end L2
namespace Att
open PySem PySem.W PySem.Calls PyProof.Rows
section
variable {prog:Program} {w:World} {A:Around} {E:Value→Shared→Prop} {s:Shared} {K:Frag}
end
end Att
namespace L2
open PySem PySem.Spec PyProof.Rows
end L2
namespace L2
open PySem PySem.Spec PyProof.Rows
abbrev Bo {K:PySem.W.Frag} {h:Heap} (_:K.In h):PySem.W.Frag:=K
end L2
namespace L2
open PySem PySem.Spec PyProof.Rows
def inClass (s:Stmt) (j:Nat):Stmt:=match s with
 | .ClassDef _ _ _ body _ _ _ _ _ _ _=>body.getD j (.Pass ⟨0,0,0,0⟩)
 |_=> .Pass ⟨0,0,0,0⟩
def wu (s:Stmt):Arguments:=match s with
 | .FunctionDef _ a _ _ _ _ _ _ _ _=>a
 |_=>{posonlyargs:= [],args:= [],vararg:=none,kwonlyargs:= [],kw_defaults:= [],kwarg:=none,defaults:= []}
def nV (s:Stmt):List Stmt:=match s with
 | .FunctionDef _ _ b _ _ _ _ _ _ _=>b
 |_=> []
def aG (s:Stmt):Scope:=match s with
 | .FunctionDef _ _ _ _ _ _ sc _ _ _=>sc
 |_=>{kind:= .function,names:= [],isGenerator:=false,isCoroutine:=false}
abbrev aO:fi:=fun _ _ _ _ _ _=>False
abbrev E0:XK:=fun _ _ _=>False
theorem ay {X:Cx}:Passes aO X E0:=fun _ _ _ _ _ _ _ h=>h.elim
structure aL (K:PySem.W.Frag) (x qual:Str) (st:Stmt) (f:Addr) (fd:FuncData):Prop where
 ex: ∃(oc:Value) (od:Option Addr) (kV doc pm:Value) (an:Option Addr) (cdv ct:Value) (osl:Array (Option Value)),
  fd=PySem.W.fnOf x qual (wu st) (nV st) (aG st) .none kV doc pm an cdv ct∧K.lookup f=some ⟨oc,od, .func fd,osl⟩∧PySem.W.codeIn K cdv qual=true
 kp:PySem.W.keepIn K (.ref f)=true
section
variable {P:Program} {w:World} {K:PySem.W.Frag} {mg:Str→Option Value} {base:Heap}
theorem aL.ok {x qual:Str} {st:Stmt} {f:Addr} {fd:FuncData} {N ps:List Str} {k:Nat} {sp:Sp} (F:aL K x qual st f fd) (S:aM N ps (aG st)) (len: ∀vs H Q E,sp vs H Q E→vs.length=ps.length)
  (hbody: ∀(cdv:Value) (A:Around) (outer:List Env) (s:Shared) (H:Hp) (vs:List V) (Q:VK) (E:XK),aR k (A.deeper (envOfC qual (aG st) s.heap.objs.size f cdv))→sp vs H Q E→
   ∃t,dS (gE aO P w K mg base N qual (aG st) f cdv A outer s H E).qZ (nV st) t∧t {nx:=fun _ H'=>Q .aD H',rt:=Q} (start N vs) H):aC P w K mg base aO (k+1) f fd ps sp:=by
 obtain ⟨oc,od,kV,doc,pm,an,cdv,ct,osl,rfl,lk,hcd⟩:=F.ex
 refine Em lk hcd S len fun A outer s H vs Q E hr hsp=>?_
 obtain ⟨t,h,q⟩:=hbody cdv A outer s H vs Q E hr hsp
 exact ⟨t,h.qZ,q⟩
theorem O8 {x qual:Str} {st:Stmt} {f:Addr} {oc:Value} {od an:Option Addr} {osl:Array (Option Value)} {kV doc pm cdv ct:Value} (l:K.lookup f=some ⟨oc,od, .func (PySem.W.fnOf x qual (wu st) (nV st) (aG st) .none kV doc pm an cdv ct),osl⟩)
  (c:PySem.W.codeIn K cdv qual=true) (k:PySem.W.keepIn K (.ref f)=true):aL K x qual st f (PySem.W.fnOf x qual (wu st) (nV st) (aG st) .none kV doc pm an cdv ct):=⟨⟨oc,od,kV,doc,pm,an,cdv,ct,osl,rfl,l,c⟩,k⟩
end
section
variable {X:Cx}
theorem pv (i:Nat) {x:Str} {pos:Pos} (hN:X.N[i]?=some x:=by rfl) (hv:kU X.env.scope x:=by first|exact Or.inl rfl|exact Or.inr (Or.inl rfl)|exact Or.inr (Or.inr rfl)) (hd:(x==("__debug__" :Str))=false:=by decide)
  (hcd:(x==("__classdict__" :Str))=false:=by decide):PE X (.Name x pos) (cZ i):=Sf hN hv hd hcd
end
theorem bJ {A B:Prop} (h:B):if false=true then A else B:=by
 rw[if_neg Bool.false_ne_true]
 exact h
theorem bx {A B:Prop} (h:A):if true=true then A else B:=by
 rw[if_pos rfl]
 exact h
theorem cP {c A B:Prop} [Decidable c] (h1:c→A) (h2: ¬c→B):if c then A else B:=by
 by_cases h:c
 ·rw[if_pos h]
  exact h1 h
 ·rw[if_neg h]
  exact h2 h
def ah (H H':Hp):Prop:= ∀b o,H b=some o→H' b=some o
theorem ah.refl (H:Hp):ah H H:=fun _ _ h=>h
theorem ah.trans {H H1 H2:Hp} (a:ah H H1) (b:ah H1 H2):ah H H2:=fun c o h=>b c o (a c o h)
theorem ah.free {H H':Hp} (e:ah H H') {l:Addr} (h:H' l=Option.none):H l=Option.none:=by
 cases q:H l with
 |none=>rfl
 |some o=>
  rw[e l o q] at h
  cases h
theorem ah.seq {K:PySem.W.Frag} {H H':Hp} {a:Addr} {xs:List V} (e:ah H H') (h:ae K H a xs):ae K H' a xs:=by
 rcases h with (h|⟨o,h⟩)|h
 ·exact .inl (.inl (e _ _ h))
 ·exact .inl (.inr ⟨o,e _ _ h⟩)
 ·exact .inr h
section
variable {κ:Type} [DecidableEq κ]
end
theorem at_of {xs:List V} {z:Int} {j:Nat} {v:V} (e:z=(j:Int)) (h:xs[j]?=some v):gq xs z=some v:=by
 rw[e]
 exact bP h
theorem ah.made {H H1:Hp} {x dx C:Addr} (nx:H x=Option.none) (nd:H dx=Option.none) (k: ∀b o,(upd (upd H dx (.own x)) x (.ins C dx [])) b=some o→b≠x→H1 b=some o):ah H H1:=fun b o e=>
 k b o (by rw[aB (bD e nx),aB (bD e nd)];exact e) (bD e nx)
end L2
set_option maxHeartbeats 2000000
namespace L2
open PySem PySem.Spec PyProof.Rows
open PySem.W (WData Codec OpenSpec Well WellAll ReadsW ReadsAllW)
mutual
inductive Dw (K:PySem.W.Frag) (H:Hp):V→WData→Prop
 |aD:Dw K H .aD .none
 |bl (b:Bool):Dw K H (.bl b) (.bool b)
 |int (i:Int):Dw K H (.int i) (.int i)
 |str (x:Str):Dw K H (.str x) (.str x)
 |dQ (b:Array UInt8):Dw K H (.dQ b) (.bytes b.toList)
 |lst {a:Addr} {xs:List V} {ds:List WData}:ae K H a xs→fV K H xs ds→Dw K H (.ref a) (.list ds)
 |tup {a:Addr} {xs:List V} {ds:List WData}:aZ K H a xs→fV K H xs ds→Dw K H (.ref a) (.tuple ds)
inductive fV (K:PySem.W.Frag) (H:Hp):List V→List WData→Prop
 |nil:fV K H [] []
 |cons {v:V} {vs:List V} {d:WData} {ds:List WData}:Dw K H v d→fV K H vs ds→fV K H (v::vs) (d::ds)
end
theorem yZ {K:PySem.W.Frag} {H:Hp}: ∀ns:List Int,fV K H (ns.map V.int) (ns.map WData.int)
 | []=> .nil
 |n::r=> .cons (.int n) (yZ r)
theorem sE {K:PySem.W.Frag} {H:Hp}: ∀(ns:List Int) (xs:List V),fV K H xs (ns.map WData.int)→xs=ns.map V.int
 | [],xs,h=>by
  cases h
  rfl
 |n::r,xs,h=>by
  cases h with
  |cons h1 h2=>
   cases h1
   rw[sE r _ h2]<;>rfl
section
variable {P:Program} {w:World} {K:PySem.W.Frag} {H:Hp} {h:Heap} {R:PySem.W.WRecords} {cl:Str→Option Addr}
theorem Uq {a:Addr} {xs:List V} (ax:bR P w H h) (KX:K.In h) (q:ae K H a xs): ∃(its:List Value) (o:Obj) (n:Nat),Vals xs its∧h.get? a=some o∧o.cls= .type "list" ∧o.data= .seq its.toArray n:=by
 rcases q with q|⟨o,its,n,e,hc,_,hd,_,hv⟩
 ·obtain ⟨_,its,n,hv,e⟩:=(show cy P w H h a (.lst xs) from q.ok ax)
  exact ⟨its,_,n,hv,e,rfl,rfl⟩
 ·exact ⟨its.toList,o,n,hv,KX _ _ e,hc,by simp [hd]⟩
theorem SG {a:Addr} {xs:List V} (ax:bR P w H h) (KX:K.In h) (q:aZ K H a xs): ∃(its:List Value) (o:Obj) (n:Nat),Vals xs its∧h.get? a=some o∧o.cls= .type "tuple" ∧o.data= .seq its.toArray n:=by
 rcases q with q|⟨o,its,n,e,hc,hd,_,hv⟩
 ·obtain ⟨_,its,hv,o,e,hc,n,hd⟩:=(show cy P w H h a (.tup xs) from q.ok ax)
  exact ⟨its,o,n,hv,e,hc,hd⟩
 ·exact ⟨its.toList,o,n,hv,KX _ _ e,hc,by simp [hd]⟩
mutual
theorem Dw.reads (ax:bR P w H h) (KX:K.In h): ∀(d:WData) (v:V) (u:Value),Dw K H v d→RelV v u→ ∃as,ReadsW R cl h u d as
 | .none,_,_,x,r=>by
  cases x
  cases r
  exact ⟨_,ReadsW.none⟩
 | .bool b,_,_,x,r=>by
  cases x
  cases r
  exact ⟨_,ReadsW.bool b⟩
 | .int i,_,_,x,r=>by
  cases x
  obtain ⟨t,rfl⟩:=r
  exact ⟨_,ReadsW.int i t⟩
 | .str s,_,_,x,r=>by
  cases x
  obtain ⟨t,rfl⟩:=r
  exact ⟨_,ReadsW.str s t⟩
 | .bytes b,_,_,x,r=>by
  cases x
  obtain ⟨t,rfl⟩:=r
  exact ⟨_,ReadsW.bytes _ t⟩
 | .list ds,_,_,x,r=>by
  cases x with
  |lst hs ha=>
   cases r
   obtain ⟨its,o,n,rv,ho,hc,hd⟩:=Uq ax KX hs
   obtain ⟨as,hr⟩:=Dw.readsAll ax KX ds _ its ha rv
   exact ⟨_,ReadsW.list ho hc hd hr⟩
 | .tuple ds,_,_,x,r=>by
  cases x with
  |tup hs ha=>
   cases r
   obtain ⟨its,o,n,rv,ho,hc,hd⟩:=SG ax KX hs
   obtain ⟨as,hr⟩:=Dw.readsAll ax KX ds _ its ha rv
   exact ⟨_,ReadsW.tuple ho hc hd hr⟩
 | .float _,_,_,x,_=>by cases x
 | .dict _,_,_,x,_=>by cases x
 | .bytearray _,_,_,x,_=>by cases x
 | .set _,_,_,x,_=>by cases x
 | .frozenset _,_,_,x,_=>by cases x
 | .obj _ _,_,_,x,_=>by cases x
theorem Dw.readsAll (ax:bR P w H h) (KX:K.In h): ∀(ds:List WData) (vs:List V) (us:List Value),fV K H vs ds→Vals vs us→ ∃as,ReadsAllW R cl h us ds as
 | [],_,_,x,r=>by
  cases x
  cases r
  exact ⟨_,ReadsAllW.nil⟩
 |d::ds,_,_,x,r=>by
  cases x with
  |cons h1 h2=>
   cases r with
   |cons r1 r2=>
    obtain ⟨as,q1⟩:=Dw.reads ax KX d _ _ h1 r1
    obtain ⟨bs,q2⟩:=Dw.readsAll ax KX ds _ _ h2 r2
    exact ⟨_,ReadsAllW.cons q1 q2⟩
end
end
mutual
def eW:WData→Bool
 | .none=>true
 | .bool _=>true
 | .int _=>true
 | .str _=>true
 | .bytes _=>true
 | .list xs=>fG xs
 | .tuple xs=>fG xs
 |_=>false
def fG:List WData→Bool
 | []=>true
 |x::r=>eW x&&fG r
end
theorem ED {α:Type} {f:α→WData} (h: ∀a,eW (f a)=true): ∀l:List α,fG (l.map f)=true
 | []=>rfl
 |x::r=>by
  show (eW (f x)&&fG (r.map f))=true
  rw[h x,ED h r]<;>rfl
theorem jr: ∀(c:Codec) (a:c.denote),eW (c.enc a)=true
 | .unit,_=>rfl
 | .bool,_=>rfl
 | .int _ _,_=>rfl
 | .nat _ _,_=>rfl
 | .u8,_=>rfl
 | .bytes _ _,_=>rfl
 | .text _ _ _ _,_=>rfl
 | .list _ _ c,a=>ED (fun x=>jr c x) a
 | .pair c d,a=>by
  show (eW (c.enc a.1)&&(eW (d.enc a.2)&&true))=true
  rw[jr c a.1,jr d a.2]<;>rfl
 | .triple c d e,a=>by
  show (eW (c.enc a.1)&&(eW (d.enc a.2.1)&&(eW (e.enc a.2.2)&&true)))=true
  rw[jr c a.1,jr d a.2.1,jr e a.2.2]<;>rfl
 | .option c,none=>rfl
 | .option c,some x=>jr c x
theorem AJ: ∀(cs:List Codec) (a:Codec.denoteAll cs),fG (Codec.encAll cs a)=true
 | [],_=>rfl
 |c::cs,a=>by
  show (eW (c.enc a.1)&&fG (Codec.encAll cs a.2))=true
  rw[jr c a.1,AJ cs a.2]<;>rfl
theorem wN: ∀{xs:List WData} {d:WData},d∈xs→d.weight≤WData.weightAll xs
 | [],d,h=>absurd h (by simp)
 |x::r,d,h=>by
  show d.weight≤x.weight+1+WData.weightAll r
  rcases List.mem_cons.mp h with e|m
  ·rw[e]
   omega
  ·have z:=wN m
   omega
def toV:Value→V
 | .none=> .aD
 | .bool b=> .bl b
 | .int i _=> .int i
 | .str x _=> .str x
 | .bytes b _=> .dQ b
 | .ref a=> .ref a
 |_=> .aD
def fv (A:List Addr):Value→Prop
 | .none=>True
 | .bool _=>True
 | .int _ _=>True
 | .str _ _=>True
 | .bytes _ _=>True
 | .ref a=>a∈A
 |_=>False
theorem fv.mono {A B:List Addr} (h: ∀a∈A,a∈B): ∀{u:Value},fv A u→fv B u:=fun {u} x=>by
 cases u with
 |ref a=>exact h a x
 |none=>trivial
 |bool b=>trivial
 |int i t=>trivial
 |str s t=>trivial
 |bytes b t=>trivial
 |_=>exact False.elim x
theorem Pq {A:List Addr} {u:Value} (x:fv A u):RelV (toV u) u:=by
 cases u with
 |ref a=>rfl
 |none=>rfl
 |bool b=>rfl
 |int i t=>exact ⟨t,rfl⟩
 |str s t=>exact ⟨t,rfl⟩
 |bytes b t=>exact ⟨t,rfl⟩
 |_=>exact False.elim x
theorem ko {A:List Addr}: ∀{vs:List Value},(∀u∈vs,fv A u)→Vals (vs.map toV) vs
 | [],_=> .nil
 |u::r,h=> .cons (Pq (h u (List.mem_cons_self ..))) (ko fun x hx=>h x (List.mem_cons_of_mem _ hx))
def fJ (h:Heap) (A:List Addr) (a:Addr):Prop:= ∃vs:List Value,vs.length≤sizeLine∧(∀u∈vs,fv A u)∧
 (h.get? a=some {cls:= .type "list",data:= .seq vs.toArray}∨h.get? a=some {cls:= .type "tuple",data:= .seq vs.toArray})
theorem fJ.mono {h:Heap} {A B:List Addr} {a:Addr} (k: ∀a∈A,a∈B) (x:fJ h A a):fJ h B a:=by
 obtain ⟨vs,h1,h2,h3⟩:=x
 exact ⟨vs,h1,fun u hu=>(h2 u hu).mono k,h3⟩
theorem so {P:Params} {h:Heap}: ∀{vs:List Value} {ds:List WData},WellAll P h vs ds→vs.length=ds.length
 |_,_, .nil=>rfl
 |_,_, .cons _ b=>by
  show _+1=_+1
  rw[so b]
theorem Dn {P:Params} {h:Heap} {v:Value} {ds:List WData} (x:Well P h v (.list ds)): ∃(a:Addr) (vs:List Value),v= .ref a∧h.get? a=some {cls:= .type "list",data:= .seq vs.toArray}∧WellAll P h vs ds:=by
 cases x with
 |list ho hall=>exact ⟨_,_,rfl,ho,hall⟩
theorem A1 {P:Params} {h:Heap} {v:Value} {ds:List WData} (x:Well P h v (.tuple ds)): ∃(a:Addr) (vs:List Value),v= .ref a∧h.get? a=some {cls:= .type "tuple",data:= .seq vs.toArray}∧WellAll P h vs ds:=by
 cases x with
 |tuple ho hall=>exact ⟨_,_,rfl,ho,hall⟩
theorem Ak {P:Params} {h:Heap} {us:List Value} {d:WData} {ds:List WData} (x:WellAll P h us (d::ds)): ∃(v:Value) (vs:List Value),us=v::vs∧Well P h v d∧WellAll P h vs ds:=by
 cases x with
 |cons a b=>exact ⟨_,_,rfl,a,b⟩
theorem Er {n:Nat} (h:n≤1048576):n≤sizeLine:=Nat.le_trans h (by decide)
section
variable {P:Params} {h:Heap}
mutual
theorem J2: ∀(d:WData) (v:Value),Well P h v d→eW d=true→d.weight≤1048576→ ∃A:List Addr,fv A v∧ ∀a∈A,fJ h A a
 | .none,_,x,_,_=>by
  cases x
  exact ⟨[],trivial,fun a m=>absurd m (by simp)⟩
 | .bool b,_,x,_,_=>by
  cases x
  exact ⟨[],trivial,fun a m=>absurd m (by simp)⟩
 | .int i,_,x,_,_=>by
  cases x
  exact ⟨[],trivial,fun a m=>absurd m (by simp)⟩
 | .str s,_,x,_,_=>by
  cases x
  exact ⟨[],trivial,fun a m=>absurd m (by simp)⟩
 | .bytes b,_,x,_,_=>by
  cases x
  exact ⟨[],trivial,fun a m=>absurd m (by simp)⟩
 | .list ds,_,x,p,z=>by
  obtain ⟨a,vs,rfl,ho,hall⟩:=Dn x
  have z2:WData.weightAll ds≤1048576:=z
  obtain ⟨A,h1,h2⟩:=tP ds _ hall p fun d hd=>Nat.le_trans (wN hd) z2
  have k: ∀b∈A,b∈a::A:=fun b hb=>List.mem_cons_of_mem _ hb
  refine ⟨a::A,List.mem_cons_self ..,fun b hb=>?_⟩
  rcases List.mem_cons.mp hb with e|m
  ·rw[e]
   exact ⟨vs,Er (by rw[so hall];exact Nat.le_trans (PySem.W.length_le_weightAllW ds) z2),fun u hu=>(h1 u hu).mono k, .inl ho⟩
  ·exact (h2 b m).mono k
 | .tuple ds,_,x,p,z=>by
  obtain ⟨a,vs,rfl,ho,hall⟩:=A1 x
  have z2:WData.weightAll ds≤1048576:=z
  obtain ⟨A,h1,h2⟩:=tP ds _ hall p fun d hd=>Nat.le_trans (wN hd) z2
  have k: ∀b∈A,b∈a::A:=fun b hb=>List.mem_cons_of_mem _ hb
  refine ⟨a::A,List.mem_cons_self ..,fun b hb=>?_⟩
  rcases List.mem_cons.mp hb with e|m
  ·rw[e]
   exact ⟨vs,Er (by rw[so hall];exact Nat.le_trans (PySem.W.length_le_weightAllW ds) z2),fun u hu=>(h1 u hu).mono k, .inr ho⟩
  ·exact (h2 b m).mono k
 | .float _,_,_,p,_=>Bool.noConfusion (show false=true from p)
 | .dict _,_,_,p,_=>Bool.noConfusion (show false=true from p)
 | .bytearray _,_,_,p,_=>Bool.noConfusion (show false=true from p)
 | .set _,_,_,p,_=>Bool.noConfusion (show false=true from p)
 | .frozenset _,_,_,p,_=>Bool.noConfusion (show false=true from p)
 | .obj _ _,_,_,p,_=>Bool.noConfusion (show false=true from p)
theorem tP: ∀(ds:List WData) (vs:List Value),WellAll P h vs ds→fG ds=true→(∀d∈ds,d.weight≤1048576)→ ∃A:List Addr,(∀u∈vs,fv A u)∧ ∀a∈A,fJ h A a
 | [],_,x,_,_=>by
  cases x
  exact ⟨[],fun u m=>absurd m (by simp),fun a m=>absurd m (by simp)⟩
 |d::ds,_,x,p,z=>by
  obtain ⟨v,vs,rfl,x1,x2⟩:=Ak x
  have q:eW d=true∧fG ds=true:=Bool.and_eq_true_iff.mp p
  obtain ⟨A,a1,a2⟩:=J2 d v x1 q.1 (z d (List.mem_cons_self ..))
  obtain ⟨B,b1,b2⟩:=tP ds vs x2 q.2 fun e he=>z e (List.mem_cons_of_mem _ he)
  have kA: ∀b∈A,b∈A++B:=fun b hb=>List.mem_append.mpr (.inl hb)
  have kB: ∀b∈B,b∈A++B:=fun b hb=>List.mem_append.mpr (.inr hb)
  refine ⟨A++B,fun u hu=>?_,fun b hb=>?_⟩
  ·rcases List.mem_cons.mp hu with e|m
   ·rw[e]
    exact a1.mono kA
   ·exact (b1 u m).mono kB
  ·rcases List.mem_append.mp hb with m|m
   ·exact (a2 b m).mono kA
   ·exact (b2 b m).mono kB
end
end
def rL (o:Obj):Option HO:=match o.data with
 | .seq vs _=>if (o.cls==Value.type "list")=true then some (.dh o (.lst (vs.toList.map toV))) else some (.dh o (.tup (vs.toList.map toV)))
 |_=>none
def dy (K:PySem.W.Frag) (h:Heap) (A:List Addr):Hp:=fun b=>if b∈A then (if (K.lookup b).isNone=true then (h.get? b).bind rL else none) else none
def qr (H:Hp):Prop:= ∀b,H b=none∨ ∃o u,H b=some (.dh o u)
theorem zN (vs:List Value):rL {cls:= .type "list",data:= .seq vs.toArray}=some (.dh {cls:= .type "list",data:= .seq vs.toArray} (.lst (vs.map toV))):=by
 show (if (Value.type "list" ==Value.type "list")=true then some (HO.dh {cls:= .type "list",data:= .seq vs.toArray} (.lst (vs.toArray.toList.map toV))) else some (HO.dh {cls:= .type "list",data:= .seq vs.toArray} (.tup (vs.toArray.toList.map toV))))=_
 rw[if_pos (beq_self_eq_true _)]
theorem Bv (vs:List Value):rL {cls:= .type "tuple",data:= .seq vs.toArray}=some (.dh {cls:= .type "tuple",data:= .seq vs.toArray} (.tup (vs.map toV))):=by
 show (if (Value.type "tuple" ==Value.type "list")=true then some (HO.dh {cls:= .type "tuple",data:= .seq vs.toArray} (.lst (vs.toArray.toList.map toV))) else some (HO.dh {cls:= .type "tuple",data:= .seq vs.toArray} (.tup (vs.toArray.toList.map toV))))=_
 rw[if_neg (by decide)]
section
variable {P:Program} {w:World} {K:PySem.W.Frag} {h:Heap} {A:List Addr}
theorem rY {b:Addr} {o:Obj} (hb:b∈A) (hk:K.lookup b=none) (e:h.get? b=some o):dy K h A b=rL o:=by
 unfold dy
 rw[if_pos hb,hk,if_pos (show (none:Option Obj).isNone=true from rfl),e]<;>rfl
theorem Uk {b:Addr} {u:HO} (q:dy K h A b=some u):b∈A∧K.lookup b=none:=by
 unfold dy at q
 by_cases hb:b∈A
 ·rw[if_pos hb] at q
  cases hk:K.lookup b with
  |none=>exact ⟨hb,rfl⟩
  |some o=>
   rw[hk,if_neg (by simp)] at q
   cases q
 ·rw[if_neg hb] at q
  cases q
theorem rH (ar: ∀a∈A,fJ h A a) {b:Addr} {u:HO} (q:dy K h A b=some u):K.lookup b=none∧ ∃vs:List Value,vs.length≤sizeLine∧(∀u∈vs,fv A u)∧
  ((h.get? b=some {cls:= .type "list",data:= .seq vs.toArray}∧u= .dh {cls:= .type "list",data:= .seq vs.toArray} (.lst (vs.map toV)))∨
   (h.get? b=some {cls:= .type "tuple",data:= .seq vs.toArray}∧u= .dh {cls:= .type "tuple",data:= .seq vs.toArray} (.tup (vs.map toV)))):=by
 obtain ⟨hb,hk⟩:=Uk q
 obtain ⟨vs,h1,h2,h3⟩:=ar b hb
 refine ⟨hk,vs,h1,h2,?_⟩
 rcases h3 with e|e
 ·rw[rY hb hk e,zN] at q
  exact .inl ⟨e,(Option.some.inj q).symm⟩
 ·rw[rY hb hk e,Bv] at q
  exact .inr ⟨e,(Option.some.inj q).symm⟩
theorem NX (ar: ∀a∈A,fJ h A a):qr (dy K h A):=fun b=>by
 cases q:dy K h A b with
 |none=>exact .inl rfl
 |some u=>
  obtain ⟨_,vs,_,_,⟨_,e⟩|⟨_,e⟩⟩:=rH ar q
  ·exact .inr ⟨_,_,by rw[e]⟩
  ·exact .inr ⟨_,_,by rw[e]⟩
theorem IX (ar: ∀a∈A,fJ h A a):bR P w (dy K h A) h:=fun b u q=>by
 obtain ⟨_,vs,h1,h2,⟨e,rfl⟩|⟨e,rfl⟩⟩:=rH ar q
 ·exact ⟨e,by rw[List.length_map];exact h1,vs,_,ko h2,e⟩
 ·exact ⟨e,by rw[List.length_map];exact h1,vs,ko h2,_,e,rfl,_,rfl⟩
theorem rJ {c c':Value} {vs us:List Value} (e:(some {cls:=c,data:= .seq vs.toArray}:Option Obj)=some {cls:=c',data:= .seq us.toArray}):c=c'∧vs=us:=by
 have e1:=Option.some.inj e
 have e2:c=c':=congrArg Obj.cls e1
 have e3:Data.seq vs.toArray=Data.seq us.toArray:=congrArg Obj.data e1
 injection e3 with e4
 refine ⟨e2,?_⟩
 have e5:=congrArg Array.toList e4
 simpa using e5
theorem Jj (KX:K.In h) (ar: ∀a∈A,fJ h A a) {a:Addr} {vs:List Value} (ha:a∈A) (e:h.get? a=some {cls:= .type "list",data:= .seq vs.toArray}):(∀u∈vs,fv A u)∧ae K (dy K h A) a (vs.map toV):=by
 obtain ⟨us,h1,h2,h3⟩:=ar a ha
 have hu:us=vs:=by
  rcases h3 with q|q
  ·rw[e] at q
   exact (rJ q).2.symm
  ·rw[e] at q
   exact absurd (Value.type.inj (rJ q).1) (by decide)
 subst hu
 refine ⟨h2,?_⟩
 cases hk:K.lookup a with
 |none=>exact .inl (.inr ⟨_,by rw[rY ha hk e,zN]⟩)
 |some o=>
  have e2:=KX a o hk
  rw[e] at e2
  obtain rfl:=Option.some.inj e2
  exact .inr ⟨_,us.toArray,_,hk,rfl,rfl,rfl,by rw[List.size_toArray];exact h1,by simpa using ko h2⟩
theorem PD (KX:K.In h) (ar: ∀a∈A,fJ h A a) {a:Addr} {vs:List Value} (ha:a∈A) (e:h.get? a=some {cls:= .type "tuple",data:= .seq vs.toArray}):(∀u∈vs,fv A u)∧aZ K (dy K h A) a (vs.map toV):=by
 obtain ⟨us,h1,h2,h3⟩:=ar a ha
 have hu:us=vs:=by
  rcases h3 with q|q
  ·rw[e] at q
   exact absurd (Value.type.inj (rJ q).1) (by decide)
  ·rw[e] at q
   exact (rJ q).2.symm
 subst hu
 refine ⟨h2,?_⟩
 cases hk:K.lookup a with
 |none=>exact .inl (.inr ⟨_,by rw[rY ha hk e,Bv]⟩)
 |some o=>
  have e2:=KX a o hk
  rw[e] at e2
  obtain rfl:=Option.some.inj e2
  exact .inr ⟨_,us.toArray,_,hk,rfl,rfl,by rw[List.size_toArray];exact h1,by simpa using ko h2⟩
mutual
theorem Rl {Pm:Params} (KX:K.In h) (ar: ∀a∈A,fJ h A a): ∀(d:WData) (v:Value),Well Pm h v d→eW d=true→fv A v→Dw K (dy K h A) (toV v) d
 | .none,_,x,_,_=>by
  cases x
  exact .aD
 | .bool b,_,x,_,_=>by
  cases x
  exact .bl b
 | .int i,_,x,_,_=>by
  cases x
  exact .int i
 | .str s,_,x,_,_=>by
  cases x
  exact .str s
 | .bytes b,_,x,_,_=>by
  cases x
  have z:=Dw.dQ (K:=K) (H:=dy K h A) b.toArray
  exact z
 | .list ds,_,x,p,hu=>by
  obtain ⟨a,vs,rfl,ho,hall⟩:=Dn x
  obtain ⟨h2,hs⟩:=Jj KX ar hu ho
  exact .lst hs (tf KX ar ds _ hall p h2)
 | .tuple ds,_,x,p,hu=>by
  obtain ⟨a,vs,rfl,ho,hall⟩:=A1 x
  obtain ⟨h2,hs⟩:=PD KX ar hu ho
  exact .tup hs (tf KX ar ds _ hall p h2)
 | .float _,_,_,p,_=>Bool.noConfusion (show false=true from p)
 | .dict _,_,_,p,_=>Bool.noConfusion (show false=true from p)
 | .bytearray _,_,_,p,_=>Bool.noConfusion (show false=true from p)
 | .set _,_,_,p,_=>Bool.noConfusion (show false=true from p)
 | .frozenset _,_,_,p,_=>Bool.noConfusion (show false=true from p)
 | .obj _ _,_,_,p,_=>Bool.noConfusion (show false=true from p)
theorem tf {Pm:Params} (KX:K.In h) (ar: ∀a∈A,fJ h A a): ∀(ds:List WData) (vs:List Value),WellAll Pm h vs ds→fG ds=true→(∀u∈vs,fv A u)→fV K (dy K h A) (vs.map toV) ds
 | [],_,x,_,_=>by
  cases x
  exact .nil
 |d::ds,_,x,p,hu=>by
  obtain ⟨v,vs,rfl,x1,x2⟩:=Ak x
  have q:eW d=true∧fG ds=true:=Bool.and_eq_true_iff.mp p
  exact .cons (Rl KX ar d v x1 q.1 (hu _ (List.mem_cons_self ..))) (tf KX ar ds vs x2 q.2 fun u m=>hu u (List.mem_cons_of_mem _ m))
end
end
theorem Kr {P:Program} {w:World} {K:PySem.W.Frag} {mg mb:Str→Option Value} {CX:fi} {k:Nat} {fa:Addr} {fd:FuncData} {ps:List Str} {sp:Sp} {s₁:Shared} {vals:List Value} {ds:List WData} {R:PySem.W.WRecords} {cl:Str→Option Addr} {d0:WData}
  (KX:K.In s₁.heap) (hns:s₁.heap.Ns mainGlobals mg) (hb:s₁.heap.Ns builtinsNs mb) (hbb: ∀x:Str,x≠ "__name__" →mb x=bootBuiltins x) (hlim:s₁.heap.NoLimit) (hg:s₁.gens= #[])
  (hwl:WellAll w.params s₁.heap vals ds) (hpl:fG ds=true) (hwt: ∀d∈ds,d.weight≤1048576) (hr:aR k callerA)
  (F: ∀base:Heap,K.In base→base.Ns mainGlobals mg→aC P w K mg base CX k fa fd ps sp) (hbind: ∀(s:Shared) (us:List Value),us.length=ps.length→BindsTo s fd ⟨us, []⟩ (ps.zip us)) (hlen:ds.length=ps.length)
  (hsp: ∀(H:Hp) (xs:List V),qr H→fV K H xs ds→sp xs H (fun v H'=>Dw K H' v d0) fun _ _ _=>False)
  (hCX: ∀H e s',CX [] H s₁ (fun _ _ _=>False) e s'→False):
  codeAny (model P w) callerA (.call (.ref fa) ⟨vals, []⟩) (fun r s'=> ∃u as,r= .ok (.ret u)∧ReadsW R cl s'.heap u d0 as∧OldK s₁.heap s'.heap∧s'.os=s₁.os∧AllBare s'.gens) s₁:=by
 obtain ⟨A,ho,ar⟩:=tP ds vals hwl hpl hwt
 have hO:qr (dy K s₁.heap A):=NX ar
 have ax:bR P w (dy K s₁.heap A) s₁.heap:=IX ar
 have hS:=tf KX ar ds vals hwl hpl ho
 have hV:=ko ho
 have hK: ∀b u,dy K s₁.heap A b=some u→K.lookup b=none:=fun b u q=>(rH ar q).1
 have noA: ∀{b:Addr} {o:Obj} {es:Array DictEntry} {ep:Nat},s₁.heap.get? b=some o→o.data= .dict es ep→dy K s₁.heap A b=none:=fun {b o es ep} e d=>by
  cases q:dy K s₁.heap A b with
  |none=>rfl
  |some u=>
   obtain ⟨_,vs,_,_,⟨e2,_⟩|⟨e2,_⟩⟩:=rH ar q
   ·rw[e2] at e
    cases e
    have d':Data.seq vs.toArray _=Data.dict es ep:=d
    cases d'
   ·rw[e2] at e
    cases e
    have d':Data.seq vs.toArray _=Data.dict es ep:=d
    cases d'
 generalize dy K s₁.heap A=H at hO ax hS hK noA
 have base_of: ∀{b:Addr} {o:Obj},s₁.heap.get? b=some o→H b=none→(iD s₁.heap H).get? b=some o:=fun e n=>IU e n
 have nsK: ∀{b:Addr} {m:Str→Option Value},s₁.heap.Ns b m→(iD s₁.heap H).Ns b m:=fun {b m} ⟨o,es,ep,e,d,r⟩=>⟨o,es,ep,base_of e (noA e d),d,r⟩
 have nK: ∀b o,K.lookup b=some o→H b=none:=fun b o e=>by
  cases q:H b with
  |none=>rfl
  |some u=>
   rw[hK b u q] at e
   cases e
 have hKb:K.In (iD s₁.heap H):=fun b o e=>base_of (KX b o e) (nK b o e)
 have hM:Mod K mg (iD s₁.heap H):=⟨hKb,nsK hns,⟨mb,nsK hb,hbb⟩,let ⟨mc,h1,h2⟩:=hlim;⟨mc,nsK h1,h2⟩⟩
 have e0:jC P w K mg (iD s₁.heap H) callerA [] s₁ H:=⟨rfl,hM,fun b o e=>NT e,Nat.le_of_eq (KY _ _),trivial,fun b hb=>absurd (show b∈([]:List Addr) from hb) (by simp),ax, .of_eq hg⟩
 have hl:vals.length=ps.length:=by rw[so hwl];exact hlen
 refine codeAny_mono ((F _ hKb (nsK hns)).run callerA [] s₁ H ⟨vals, []⟩ vals (vals.map toV) _ _ hr e0 (hbind s₁ vals hl) hV (hsp H _ hO hS)) fun r s' x=>?_
 cases r with
 |error e=>exact (hCX H e s' x).elim
 |ok fl=>
  cases fl with
  |next=>exact False.elim x
  |brk=>exact False.elim x
  |cont=>exact False.elim x
  |ret u=>
   obtain ⟨v,H',os,bare,un,hok',r',q⟩:=x
   have kept: ∀b o,s₁.heap.get? b=some o→s'.heap.get? b=some o:=fun b o e=>by
    cases q2:H b with
    |none=>exact un.keep b o e q2 (by intro z;exact absurd (show b∈([]:List Addr) from z) (by simp)) (by simp)
    |some u2=>
     rcases hO b with z|⟨ob,u3,z⟩
     ·rw[q2] at z
      cases z
     ·have z2:=un.gk b ob _ z
      obtain ⟨e1,_⟩:=ax b _ z
      obtain ⟨e2,_⟩:=hok' b _ z2
      rw[e] at e1
      cases e1
      exact e2
   have KX':K.In s'.heap:=fun b o e=>kept b o (KX b o e)
   obtain ⟨as,hrd⟩:=Dw.reads (R:=R) (cl:=cl) hok' KX' d0 v u q r'
   exact ⟨u,as,rfl,hrd,OldK.of_keep kept,os,bare⟩
theorem KC {ds:List WData} (h:WData.layableAll ds=true): ∀d∈ds,d.weight≤1048576:=fun d hd=>
 (PySem.W.layableW_iff.mp (List.all_eq_true.mp h d hd)).2.2
theorem zg: ∀(cs:List Codec) (a:Codec.denoteAll cs),(Codec.encAll cs a).length=cs.length
 | [],_=>rfl
 |c::cs,a=>by
  show (Codec.encAll cs a.2).length+1=cs.length+1
  rw[zg cs a.2]
theorem O2 {r:OpenSpec} {k:Nat} {q:Program} {loose:List Str} {XP:(Str→Option Value)→Heap→Prop} {YP:World→Heap→Prop} {d:DefRec} {K:Params→PySem.W.Frag} {CX:World→fi} {ps:List Str} {sp:World→Sp}
  (hwell:r.wellSaid=true) (hdf:d.params.defaults= []) (hlen:r.args.length=ps.length) (hr:aR k callerA)
  (hY: ∀(w:World) (h:Heap),YP w h→(K w.params).In h)
  (F: ∀(w:World) (mg:Str→Option Value) (fa:Addr) (h:Heap),YP w h→(K w.params).In h→h.Ns mainGlobals mg→mg d.name=some (.ref fa)→
   ∃fd:FuncData,(∀(s:Shared) (us:List Value),us.length=ps.length→BindsTo s fd ⟨us, []⟩ (ps.zip us))∧
    ∀base:Heap,(K w.params).In base→base.Ns mainGlobals mg→aC r.prog w (K w.params) mg base (CX w) k fa fd ps (sp w))
  (hsp: ∀(w:World) (H:Hp) (xs:List V) (a:Codec.denoteAll r.args),qr H→Codec.withinAll r.args a=true→Codec.app r.args r.asked a=true→fV (K w.params) H xs (Codec.encAll r.args a)→
   sp w xs H (fun v H'=>Dw (K w.params) H' v (r.ret.enc (Codec.app r.args r.f a))) fun _ _ _=>False)
  (hCX: ∀(w:World) (H:Hp) (s:Shared) (e:Value) (s':Shared),CX w [] H s (fun _ _ _=>False) e s'→False):
  PySem.W.WalkOS q loose XP YP r d [] (fun f vs=>PySem.call f vs):=by
 intro w bB s₁ mg mb G Y fa o pm cd doc dV kV ho hd hcd hD hmg hg args vals as hpre hlay hrd hwl hlo
 obtain ⟨a,e1,e2⟩:=PySem.W.os_pre_some hpre
 obtain ⟨e3,hwi⟩:=Codec.encAll_of_decAll r.args args a e1
 subst e3
 have KX:=hY w _ Y
 obtain ⟨fd,hb,hF⟩:=F w mg fa _ Y KX G.T.g hmg
 refine PySem.W.enter_call (codeAny_mono (Kr (R:= []) (cl:=classAt bB.heap) (d0:=r.ret.enc (Codec.app r.args r.f a)) KX G.T.g G.T.b G.T.builtins G.T.nolimit hg hwl (AJ _ _) (KC hlay) hr hF hb (by rw[zg];exact hlen)
  (fun H xs hO hS=>hsp w H xs a hO hwi e2 hS) fun H e s'=>hCX w H s₁ e s') fun r' s' hq=>?_)
 obtain ⟨u,as',rfl,h1,h2,h3,h4⟩:=hq
 exact ⟨.inl ⟨u,_,as',rfl,fun _=>rfl,h1,(OpenSpec.post_iff hwell hwi _ _).mpr rfl,fun z=>Bool.noConfusion (show false=true from z)⟩,h2,h3,h4⟩
theorem MI {r:OpenSpec} {k:Nat} {q:Program} {loose:List Str} {XP:(Str→Option Value)→Heap→Prop} {YP:World→Heap→Prop} {d:DefRec} {K:Params→PySem.W.Frag} {CX:fi} {ps:List Str} {sp:PySem.W.Frag→Sp}
  (hwell:r.wellSaid=true) (hdf:d.params.defaults= []) (hlen:r.args.length=ps.length) (hr:aR k callerA)
  (hY: ∀(w:World) (h:Heap),YP w h→(K w.params).In h)
  (F: ∀(w:World) (mg:Str→Option Value) (fa:Addr) (h:Heap),YP w h→(K w.params).In h→h.Ns mainGlobals mg→mg d.name=some (.ref fa)→
   ∃fd:FuncData,(∀(s:Shared) (us:List Value),us.length=ps.length→BindsTo s fd ⟨us, []⟩ (ps.zip us))∧
    ∀base:Heap,(K w.params).In base→base.Ns mainGlobals mg→aC r.prog w (K w.params) mg base CX k fa fd ps (sp (K w.params)))
  (hsp: ∀(K:PySem.W.Frag) (H:Hp) (xs:List V) (a:Codec.denoteAll r.args),qr H→Codec.withinAll r.args a=true→Codec.app r.args r.asked a=true→fV K H xs (Codec.encAll r.args a)→
   sp K xs H (fun v H'=>Dw K H' v (r.ret.enc (Codec.app r.args r.f a))) fun _ _ _=>False)
  (hCX: ∀(H:Hp) (s:Shared) (e:Value) (s':Shared),CX [] H s (fun _ _ _=>False) e s'→False):
  PySem.W.WalkOS q loose XP YP r d [] (fun f vs=>PySem.call f vs):=
 O2 (K:=K) (CX:=fun _=>CX) (sp:=fun w=>sp (K w.params)) hwell hdf hlen hr hY F (fun w H xs a h1 h2 h3 h4=>hsp (K w.params) H xs a h1 h2 h3 h4) fun _ H s e s'=>hCX H s e s'
end L2
namespace Mx
open PySem
open Sem (wp)
theorem Nr {prog:Program} {w:World} {A:Around} {R:Result→Shared→Prop} {I S:Addr} {fp wr:List Addr} {n:Nat} {P:Nat→Value→Prop} {St:Nat→Heap→Prop} {kw:List (Str×Value)}
  (Wk:Walks prog w A.in1 I fp wr n P St) (gt:Nat→Nat→Bool) (cmp:CmpOf prog w A.in1 .Gt P gt) (notFp:S∉fp):
  ∀(left at_:Nat) (s:Shared) (best:Value) (cap:Nat),n-(at_+1)=left→at_+1≤n→St (at_+1) s.heap→P (argBest gt at_) best→
  s.heap.get? S=some {cls:= .type "list",dict:=none,data:= .seq #[best,best] cap,slots:= #[]}→
  (∀v h2 tk2,P (argBest gt (n-1)) v→(∀b o,b∉wr→b≠S→s.heap.get? b=some o→h2.get? b=some o)→R (.ok (.ret v)) {s with heap:=h2,toks:=tk2})→
  codeAny (model prog w) A (.builtin "max.loop" ⟨[.ref I, .none, .ref S],kw⟩) R s:=by
 have notWr:S∉wr:=fun z=>notFp (Wk.sub _ z)
 have nm:(toString "max" ++toString ".loop" :String)= "max.loop" :=by decide
 intro left
 induction left with
 |zero=>
  intro at_ s best cap e1 e2 st pb gS fin
  have whole:at_+1=n:=by omega
  refine codeAny_builtin F.entry_max_loop ?_
  rw[Around.under_plainId F.plain_max_loop _]
  refine wpAny_bind (m:=seqItems? (.ref S)) (wpAny_seqItems gS rfl ?_)
  refine wpAny_bind (m:=tryCatch (pyNext (.ref I)) _) (wpAny_tryCatch (Wk.done s _ _ (whole▸st) fun h1 tk1 k1=>?_))
  have gS1:=k1 S _ notWr gS
  refine wpAny_bind (m:=updateSeq S (fun _=> #[])) ?_
  refine wpAny_updateSeq gS1 rfl (wpAny_bind (wpAny_letGo (wpAny_pure ?_)))
  exact fin best _ tk1 (by rw[←whole];exact pb) fun b o z1 z2 e=>(Heap.get?_update_other _ _ (Ne.symm z2)).trans (k1 b o z1 e)
 |succ left ih=>
  intro at_ s best cap e1 e2 st pb gS fin
  have more:at_+1<n:=by omega
  refine codeAny_builtin F.entry_max_loop ?_
  rw[Around.under_plainId F.plain_max_loop _]
  refine wpAny_bind (m:=seqItems? (.ref S)) (wpAny_seqItems gS rfl ?_)
  refine wpAny_bind (m:=tryCatch (pyNext (.ref I)) _) (wpAny_tryCatch (Wk.item (at_+1) s _ _ more st fun v h1 tk1 pv st1 k1=>?_))
  have gS1:=k1 S _ notWr gS
  refine wpAny_bind (m:=tryCatch (holding [v,v] (richCompare .Gt v best>>=_)) _) (wpAny_tryCatch (wpAny_holding (wpAny_bind (cmp (at_+1) (argBest gt at_) v best _ _ _ pv pb ?_))))
  refine wpAny_bind (wpAny_holding (wpAny_truthy_bool ?_))
  refine wpAny_bind (wpAny_letGo (wpAny_pure ?_))
  cases better:gt (at_+1) (argBest gt at_) with
  |true=>
   rw[if_pos rfl]
   refine wpAny_bind ?_
   refine wpAny_updateSeq gS1 rfl (wpAny_bind (wpAny_letGo ?_))
   rw[nm]
   refine wpAny_pure ⟨plainId_quiet F.plain_max_loop _,ih (at_+1) _ v _ (by omega) more (Wk.frame _ _ _ st1 fun b zb o e=>(Heap.get?_update_other _ _ (fun z:S=b=>notFp (by rw[z];exact zb))).trans e)
    (by rw[argBest,better,if_pos rfl];exact pv) (Heap.get?_update_self _ gS1 rfl) fun v2 h2 tk2 p2 k2=>?_⟩
   exact fin v2 h2 tk2 p2 fun b o z1 z2 e=>k2 b o z1 z2 ((Heap.get?_update_other _ _ (Ne.symm z2)).trans (k1 b o z1 e))
  |false=>
   rw[if_neg Bool.false_ne_true]
   refine wpAny_bind (wpAny_letGo ?_)
   rw[nm]
   refine wpAny_pure ⟨plainId_quiet F.plain_max_loop _,ih (at_+1) _ best cap (by omega) more st1 (by rw[argBest,better,if_neg Bool.false_ne_true];exact pb) gS1 fun v2 h2 tk2 p2 k2=>?_⟩
   exact fin v2 h2 tk2 p2 fun b o z1 z2 e=>k2 b o z1 z2 (k1 b o z1 e)
theorem RD (a d:Value):argsOk "max" ⟨[a], [(Str.ofString "default",d)]⟩:=by unfold argsOk;kernel_rfl
theorem Ji {prog:Program} {w:World} {A:Around} {E:Value→Shared→Prop} {s:Shared} {l:Addr} {xs:Array (Int×Tok)} {d:Value} {Q:Value→Shared→Prop} (hh:A.handled=none) (hl:s.heap.IsList l (intItems xs))
  (some_:0<xs.size→ ∀v h2 tk2,(intItems xs)[argBest (fun i j=>decide (numAt xs i>numAt xs j)) (xs.size-1)]?=some v→(∀b o,s.heap.get? b=some o→h2.get? b=some o)→Q v {s with heap:=h2,toks:=tk2})
  (none_:xs.size=0→ ∀h2 tk2,(∀b o,s.heap.get? b=some o→h2.get? b=some o)→Q d {s with heap:=h2,toks:=tk2}):
  wpAny (model prog w) A (call (.builtin "max") [.ref l] [(Str.ofString "default",d)]) Q E s:=by
 have nm:(toString "max" ++toString ".loop" :String)= "max.loop" :=by decide
 refine PyProof.Rows.kmk_tree F.kind_max F.plain_max F.entry_max (RD _ _) ?_
 refine wpAny_bind (m:=Builtin.Builtins.bindParams "max" ["key", "default"] 0 ⟨[], [(Str.ofString "default",d)]⟩) (wpAny_of_eq (show Builtin.Builtins.bindParams "max" ["key", "default"] 0 ⟨[], [(Str.ofString "default",d)]⟩=pure [none,some d] from rfl) ?_)
 refine wpAny_bind (wpAny_pure ?_)
 refine wpAny_bind (iter_intList hl fun s2 e2 st fpL ne=>?_)
 refine wpAny_bind (wpAny_newObj_type ?_)
 rw[nm]
 have Wk:=Walks.list (prog:=prog) (w:=w) (A:=A.in1) hh s.heap.objs.size l ne (intItems xs)
 have notFp:s2.heap.objs.size∉ [s.heap.objs.size,l]:=fun z=>Nat.lt_irrefl _ (fpL _ z)
 have st0:=Wk.frame 0 _ (s2.heap.push {cls:= .type "list",data:= .seq #[]}) st fun b _ o e=>Heap.get?_push_of_some _ e
 have gS:(s2.heap.push {cls:= .type "list",data:= .seq #[]}).get? s2.heap.objs.size=some {cls:= .type "list",data:= .seq #[]}:=Heap.get?_push_size _ rfl
 have notWr:s2.heap.objs.size∉ [s.heap.objs.size]:=fun z=>notFp (Wk.sub _ z)
 refine wpAny_pure ⟨plainId_quiet F.plain_max_loop _,?_⟩
 refine codeAny_builtin F.entry_max_loop ?_
 rw[Around.under_plainId F.plain_max_loop _]
 refine wpAny_bind (m:=seqItems? (.ref s2.heap.objs.size)) (wpAny_seqItems gS rfl ?_)
 have hsz:(intItems xs).size=xs.size:=by simp [intItems]
 by_cases hne:0<xs.size
 ·refine wpAny_bind (m:=tryCatch (pyNext (.ref s.heap.objs.size)) _) (wpAny_tryCatch (Wk.item 0 _ _ _ (by rw[hsz];exact hne) st0 fun v h1 tk1 pv st1 k1=>?_))
  have gS1:=k1 s2.heap.objs.size _ notWr gS
  refine wpAny_bind (m:=updateSeq s2.heap.objs.size (fun _=> #[v,v])) ?_
  refine wpAny_updateSeq gS1 rfl ?_
  rw[nm]
  refine wpAny_pure ⟨plainId_quiet F.plain_max_loop _,Nr Wk _ (CmpOf.ints_gt (numAt xs) (fun _ _=>intItems_at)) notFp _ 0 _ v _ rfl (by rw[hsz];exact hne)
   (Wk.frame _ _ _ st1 fun b zb o e=>(Heap.get?_update_other _ _ (fun z:s2.heap.objs.size=b=>notFp (by rw[z];exact zb))).trans e) pv (Heap.get?_update_self _ gS1 rfl) fun v2 h2 tk2 p2 k2=>?_⟩
  subst e2
  exact some_ hne v2 h2 tk2 (by rw[←hsz];exact p2) (old_kept fun b o z1 e=>k2 b o z1 (Nat.ne_of_lt (Heap.lt_size e)) ((Heap.get?_update_other _ _ (Nat.ne_of_gt (Heap.lt_size e))).trans (k1 b o z1 (Heap.get?_push_of_some _ e))))
 ·have hz:xs.size=0:=by omega
  refine wpAny_bind (m:=tryCatch (pyNext (.ref s.heap.objs.size)) _) (wpAny_tryCatch (Wk.done _ _ _ (by rw[hsz,hz];exact st0) fun h1 tk1 k1=>?_))
  refine wpAny_pure (M:=model prog w) (A:=A.in1) (E:=E) ?_
  subst e2
  exact none_ hz h1 tk1 (old_kept fun b o z1 e=>k1 b o z1 (Heap.get?_push_of_some _ e))
end Mx
namespace L2
open PySem PySem.Spec PyProof.Rows
section
variable {X:Cx}
theorem xT:sr X "int.bit_length" (fun x xs H Q=> ∃i,x= .int i∧xs= []∧Q (.int (Builtin.Int.intBits i)) H):=by
 rintro pins s σ H x xs v us Q I rx rs ⟨i,rfl,rfl,q⟩
 obtain ⟨t,rfl⟩:=(show∃t,v=Value.int i t from rx)
 cases rs
 exact call_int_bit_length ⟨.int _,H,I.tok _,⟨_,rfl⟩,q⟩
def Iu (i j:Int):Prop:=Builtin.Int.intBits i≤2^20∧Builtin.Int.intBits j≤2^20
def Kt (i j:Int):Prop:=0≤j∧(Builtin.Int.intBits i:Int)+j≤2^27
def Qa (i j:Int):Prop:=j≠0∧j.natAbs.log2<9000
theorem CJ:bq X (binaryOp .Mult) (rI Iu fun i j=> .int (i*j)):=iS fun _ _ _ _ _ _ _ hc q=>mul_int q (.of_bits hc.1 hc.2)
theorem tX:bq X (binaryOp .LShift) (rI Kt fun i j=> .int (i*2^j.toNat)):=iS fun _ _ _ _ _ _ _ hc q=>PyProof.Rows.lshift_int hc.1 hc.2 q
theorem Qo:bq X (binaryOp .FloorDiv) (rI Qa fun i j=> .int (i.fdiv j)):=iS fun _ _ _ _ _ _ _ hc q=>floordiv_int hc.1 q (.inl (PyProof.noPylong_of_log2 hc.2))
theorem KP {prog:Program} {w:World} {A:Around} {E:Value→Shared→Prop} {s:Shared} {l:Addr} {its:List Value} {ns:List Int} {d:Value} {Q:Value→Shared→Prop} (hh:A.handled=none) (hl:s.heap.IsList l its.toArray) (hi:IntsAre its ns)
  (h0:ns= []→ ∀h2 tk2,(∀b o,s.heap.get? b=some o→h2.get? b=some o)→Q d {s with heap:=h2,toks:=tk2})
  (h1: ∀h2 tk2 M t2,(∀b o,s.heap.get? b=some o→h2.get? b=some o)→M∈ns→(∀a,a∈ns→a≤M)→Q (.int M t2) {s with heap:=h2,toks:=tk2}):
  wpAny (model prog w) A (call (.builtin "max") [.ref l] [(Str.ofString "default",d)]) Q E s:=by
 obtain ⟨xs,e⟩:=hi.allInts.items
 have hn:numsOf (intItems xs).toList=ns:=by rw[←e];exact hi.numsOf
 rw[nums_intItems] at hn
 subst hn
 rw[e] at hl
 refine Mx.Ji hh hl (fun hsz v h2 tk2 hv hk=>?_) (fun hz h2 tk2 hk=>h0 (by
  have:xs= #[]:=Array.size_eq_zero_iff.mp hz
  subst this;rfl) h2 tk2 hk)
 obtain ⟨t,rfl⟩:=intItems_at hv
 obtain ⟨g1,g2⟩:=argBest_gt (numAt xs) (xs.size-1)
 refine h1 h2 tk2 _ t hk ?_ fun a ha=>?_
 ·rw[numAt_eq]
  exact PySem.getD_mem (by rw[List.length_map,Array.length_toList];omega)
 ·obtain ⟨j,hj,rfl⟩:=mem_getD ha
  rw[List.length_map,Array.length_toList] at hj
  rw[←numAt_eq]
  exact g2 j (by omega)
def F4 (ta:TA):TE:=fun σ H Q=>ta σ H fun vs H1=> ∃i j:Int,vs= [.int i, .int j]∧ ∀p,H1 p=none→Q (.ref p) (upd H1 p (.gB i j))
theorem J8 {a b:Expr} {ta:TA} {p pos:Pos} (hg:Gl X "range") (hm:X.mg "range" =none) (ha:PA X [a,b] ta) (hs:starEach [a,b] X.env= [(false,eval a X.env),(false,eval b X.env)]:=by rfl) (hs2:starEach [b] X.env= [(false,eval b X.env)]:=by rfl):
  PE X (.Call (.Name "range" p) [a,b] [] pos) (F4 ta):=by
 intro pins s σ H Q I h
 refine Call_ (ia I hg hm boot_range (PyProof.Rows.callWith_type1 (aH (ha pos pins s σ H _ I h) fun us s1 ⟨vs,H1,I1,r1,q1⟩=>?_) (by rw[hs,hs2]) (by rw[hs2];rfl)))
 obtain ⟨i,j,e,q⟩:=q1
 subst e
 cases r1 with
 |cons r rr=>
  cases rr with
  |cons r' rr=>
   cases rr
   obtain ⟨t,rfl⟩:=r
   obtain ⟨t',rfl⟩:=r'
   refine call_range_2 ⟨.ref s1.heap.objs.size,_,I1.laid (o:= .gB i j) (fun b u e=>Heap.get?_push_of_some _ e) (Nat.le_refl _) ⟨_,_,_,Heap.get?_push_size _ rfl⟩,rfl,q _ (I1.ax.fresh (Nat.le_refl _))⟩
theorem zd: ∀{xs:List V} {us:List Value},xs.length=us.length→(∀(j:Nat) x u,xs[j]?=some x→us[j]?=some u→RelV x u)→Vals xs us
 | [], [],_,_=> .nil
 |x::xs,u::us,hl,h=> .cons (h 0 x u rfl rfl) (zd (by simpa using hl) fun j y v e1 e2=>h (j+1) y v (by simpa using e1) (by simpa using e2))
theorem Lq (hc:X.calm=true):fk X (.type "list") (fun xs H Q=> ∃p i j,xs= [.ref p]∧H p=some (.gB i j)∧(-(2^62)≤i∧i<2^62∧ -(2^62)≤j∧j<2^62)∧(j-i).toNat≤65536∧
  ∀l,H l=none→Q (.ref l) (upd H l (.lst ((List.range (j-i).toNat).map fun k=>V.int (i+(k:Nat)))))):=by
 rintro pins s σ H xs us Q I r ⟨p,i,j,rfl,hp,⟨b1,b2,b3,b4⟩,hle,q⟩
 obtain ⟨u,rfl,rx⟩:=vals1 r
 cases rx
 obtain ⟨t,u,v,e⟩:=(show cy X.prog X.w H s.heap p (.gB i j) from I.ax p _ hp)
 have hn:Builtin.Range.rangeSize i j 1=((j-i).toNat:Int):=by rw[rangeSize_one];split<;>omega
 refine call_list_range (I.ok.hd hc) (show IsRange s.heap p i j 1 t u v from e) (small_one b1 b2 b3 b4) hn (by omega) fun h2 tk acc cap hk hS hacc=>?_
 have hv:Vals ((List.range (j-i).toNat).map fun k=>V.int (i+(k:Nat))) acc.toList:=by
  refine zd (by rw[List.length_map,List.length_range,Array.length_toList,hacc.1]) fun k x u e1 e2=>?_
  obtain ⟨t2,rfl⟩:=hacc.2 k u (by simpa using e2)
  rw[List.getElem?_map] at e1
  have hk2:k<(j-i).toNat:=by
   have:=(Array.getElem?_eq_some_iff.mp (show acc[k]?=some _ by simpa using e2)).1
   rw[hacc.1] at this;exact this
  rw[List.getElem?_range hk2] at e1
  cases e1
  exact ⟨t2,by rw[Int.mul_one]⟩
 have hz:((List.range (j-i).toNat).map fun k=>V.int (i+(k:Nat))).length≤sizeLine:=by rw[List.length_map,List.length_range];exact Nat.le_trans hle (by decide)
 exact ⟨.ref s.heap.objs.size,_,I.laid (t':=tk) hk (Nat.le_refl _) (show cy X.prog X.w _ h2 _ (.lst _) from ⟨hz,acc.toList,cap,hv,by simpa using hS⟩),rfl,q _ (I.ax.fresh (Nat.le_refl _))⟩
end
end L2
namespace PySem
open Sem (wp)
namespace Zt
section
variable {prog:Program} {w:World} {A:Around} {E:Value→Shared→Prop} {s:Shared}
theorem Ki {j t:Addr} {n:Nat} {ys} {y:Value} {Q:Value→Shared→Prop} (hj:s.heap.IsTupleIter j t n) (ht:s.heap.IsTuple t ys) (hy:ys[n]?=some y)
  (k: ∀h',h'.IsTupleIter j t (n+1)→Heap.SameBut j s.heap h'→Q y {s with heap:=h'}):wpAny (model prog w) A (Builtin.SmallTypes.nextOf (.ref j)) Q E s:=by
 obtain ⟨o,go,gc,gd⟩:=id hj
 obtain ⟨ot,gt,_,nt,gdt⟩:=ht
 unfold Builtin.SmallTypes.nextOf
 refine wpAny_bind (wpAny_callSpecial?_slot (name:=Str.ofString "__next__") hj.typeIs F.slot_tuple_iterator_next (wpAny_call_entry F.slot_tuple_iterator_next hj.typeIs F.entry_tuple_iterator_next ?_ (F.args_tuple_iterator_next_1 _)))
 show wpAny _ _ (field (.ref j) 0>>=_) _ _ s
 refine wpAny_bind (wpAny_field go gd (x:= .ref t) rfl ?_)
 show wpAny _ _ (if (Value.ref t==Value.none)=true then _ else _) _ _ s
 rw[if_neg (by intro z;cases z)]
 show wpAny _ _ (field (.ref j) 1>>=_) _ _ s
 refine wpAny_bind (wpAny_field go gd (x:= .int n 0) rfl ?_)
 show wpAny _ _ (seqItems? (.ref t)>>=_) _ _ s
 refine wpAny_bind (wpAny_seqItems gt gdt ?_)
 simp only [Int.toNat_natCast,hy]
 refine wpAny_bind (wpAny_setField go gd (by simp) (wpAny_pure ⟨y,rfl,wpAny_pure (k _ ?_ (Heap.SameBut.update ..))⟩))
 exact ⟨_,Heap.get?_update_self _ go (Obj.isFreed_of_fields (Obj.data_mapFields gd _)),(Obj.cls_mapFields ..).trans gc,by rw[Obj.data_mapFields gd];simp [rawInt]⟩
theorem Qr {j t:Addr} {n:Nat} {ys} {Q:Value→Shared→Prop} (hh:A.handled=none) (hj:s.heap.IsTupleIter j t n) (ht:s.heap.IsTuple t ys) (hy:ys[n]?=none)
  (k: ∀h' e,Heap.ExtBut j s.heap h'→(∃o,h'.get? e=some o∧o.cls= .type "StopIteration")→E (.ref e) {s with heap:=h'}):wpAny (model prog w) A (Builtin.SmallTypes.nextOf (.ref j)) Q E s:=by
 obtain ⟨o,go,gc,gd⟩:=id hj
 obtain ⟨ot,gt,_,nt,gdt⟩:=ht
 unfold Builtin.SmallTypes.nextOf
 refine wpAny_bind (wpAny_callSpecial?_slot (name:=Str.ofString "__next__") hj.typeIs F.slot_tuple_iterator_next (wpAny_call_entry F.slot_tuple_iterator_next hj.typeIs F.entry_tuple_iterator_next ?_ (F.args_tuple_iterator_next_1 _)))
 show wpAny _ _ (field (.ref j) 0>>=_) _ _ s
 refine wpAny_bind (wpAny_field go gd (x:= .ref t) rfl ?_)
 show wpAny _ _ (if (Value.ref t==Value.none)=true then _ else _) _ _ s
 rw[if_neg (by intro z;cases z)]
 show wpAny _ _ (field (.ref j) 1>>=_) _ _ s
 refine wpAny_bind (wpAny_field go gd (x:= .int n 0) rfl ?_)
 show wpAny _ _ (seqItems? (.ref t)>>=_) _ _ s
 refine wpAny_bind (wpAny_seqItems gt gdt ?_)
 simp only [Int.toNat_natCast,hy]
 refine wpAny_bind (wpAny_rule (wpAny_bind (wpAny_setField go gd (by simp) ?_)))
 show wpAny _ _ (newExc (.type "StopIteration") []>>=_) _ _ _
 refine wpAny_bind ?_
 simp only [newExc,newTuple]
 refine wpAny_bind (wpAny_newObj_type ?_ (by size_fits))
 refine wpAny_bind (m:=firstArgMember _ _) (wpAny_of_eq (a:=Value.none) (by first|rfl|(simp only [firstArgMember];rfl)) ?_)
 refine wpAny_newObj_type ?_ (by size_fits)
 simp only [raiseNew]
 refine wpAny_bind (wpAny_handled ?_)
 first|rw[show A.in1.handled=none from hh]|rw[hh]
 refine wpAny_bind (wpAny_pure (wpAny_throw ?_))
 exact k _ _ (((Heap.SameBut.update ..).extBut.push _).push _) ⟨_,Heap.get?_push_size _ rfl,rfl⟩
theorem both {z I O i j l t:Addr} {n m:Nat} {xs ys:Array Value} {x y a b:Value} {Q:Value→Shared→Prop} (D:ZipApart z I O i j l t) (qz:IsZip s.heap z I O .none) (qI:IsPair s.heap I (.ref i) (.ref j)) (qO:IsPair s.heap O a b)
  (q1:s.heap.IsListIter i l n) (q2:s.heap.IsTupleIter j t m) (ql:s.heap.IsList l xs) (qt:s.heap.IsTuple t ys) (hx:xs[n]?=some x) (hy:ys[m]?=some y)
  (k: ∀h',IsZip h' z I O (rawInt s.heap.objs.size)→IsPair h' O x y→h'.IsListIter i l (n+1)→h'.IsTupleIter j t (m+1)→IsPair h' s.heap.objs.size x y→h'.objs.size=s.heap.objs.size+1→
   (∀c o,c≠z→c≠O→c≠i→c≠j→s.heap.get? c=some o→h'.get? c=some o)→Q (.ref s.heap.objs.size) {s with heap:=h'}):
  wpAny (model prog w) A (Builtin.«zip.__next__» ⟨[.ref z], []⟩) (fun fin s'=> ∃v,fin= .done (.ret v)∧Q v s') E s:=by
 show wpAny _ _ (field (.ref z) 2>>=_) _ _ _
 refine wpAny_bind (wpAny_field qz rfl (x:= .bool false) rfl ?_)
 show wpAny _ _ (field (.ref z) 3>>=_) _ _ _
 refine wpAny_bind (wpAny_field qz rfl (x:= .ref I) rfl ?_)
 refine wpAny_bind (wpAny_seqItems qI rfl ?_)
 show wpAny _ _ (Builtin.SmallTypes.ownedTupleIsFree (.ref z)>>=_) _ _ _
 refine wpAny_bind ?_
 unfold Builtin.SmallTypes.ownedTupleIsFree
 refine wpAny_bind (wpAny_field qz rfl (x:= .none) rfl (wpAny_pure ?_))
 simp only [if_true]
 refine wpAny_bind (wpAny_rule ?_)
 refine wpAny_bind (wpAny_field qz rfl (x:= .ref O) rfl ?_)
 refine wpAny_bind (wpAny_setField_rec qz (by simp) fun h1 qz1 s1=>?_)
 replace qz1:IsZip h1 z I O .ellipsis:=qz1
 refine wpAny_bind ?_
 simp only [List.forIn_cons,List.forIn_nil,List.zipIdx_cons,List.zipIdx_nil]
 refine wpAny_bind (wpAny_bind (wpAny_onRaise ?_))
 show wpAny _ _ (Builtin.SmallTypes.nextOf (.ref i)>>=_) _ _ _
 refine wpAny_bind (wpAny_nextOf_list_item (q1.extBut s1.extBut D.i1z) (ql.extBut s1.extBut D.l1z) hx fun h2 q12 s2=>wpAny_pure ?_)
 have qO2:IsPair h2 O a b:=s2.extBut _ _ D.TOi1 (s1.extBut _ _ D.TOz qO)
 refine wpAny_bind (wpAny_seqItems qO2 rfl ?_)
 refine wpAny_bind (wpAny_updateSeq_pair qO2 fun h3 qO3 s3=>?_)
 replace qO3:IsPair h3 O x b:=qO3
 refine wpAny_bind (wpAny_letGo (wpAny_pure ?_))
 refine wpAny_bind (wpAny_bind (wpAny_onRaise ?_))
 show wpAny _ _ (Builtin.SmallTypes.nextOf (.ref j)>>=_) _ _ _
 refine wpAny_bind (Ki (((q2.extBut s1.extBut D.i2z).extBut s2.extBut D.i12.symm).extBut s3.extBut D.TOi2.symm) (((qt.extBut s1.extBut D.l2z).extBut s2.extBut D.l2i1).extBut s3.extBut D.l2TO) hy fun h4 q24 s4=>wpAny_pure ?_)
 have qO4:IsPair h4 O x b:=s4.extBut _ _ D.TOi2 qO3
 refine wpAny_bind (wpAny_seqItems qO4 rfl ?_)
 refine wpAny_bind (wpAny_updateSeq_pair qO4 fun h5 qO5 s5=>?_)
 replace qO5:IsPair h5 O x y:=qO5
 refine wpAny_bind (wpAny_letGo (wpAny_pure (wpAny_pure ?_)))
 refine wpAny_bind (wpAny_seqItems qO5 rfl ?_)
 refine wpAny_bind (wpAny_newTuple ?_)
 have hsz:h5.objs.size=s.heap.objs.size:=by rw[s5.1,s4.1,s3.1,s2.1,s1.1]
 have qz5:IsZip h5 z I O .ellipsis:=s5.extBut _ _ D.TOz.symm (s4.extBut _ _ D.i2z.symm (s3.extBut _ _ D.TOz.symm (s2.extBut _ _ D.i1z.symm qz1)))
 have old: ∀c o,c≠z→c≠O→c≠i→c≠j→s.heap.get? c=some o→h5.get? c=some o:=fun c o c1 c2 c3 c4 e=>s5.extBut _ _ c2 (s4.extBut _ _ c4 (s3.extBut _ _ c2 (s2.extBut _ _ c3 (s1.extBut _ _ c1 e))))
 have q15:h5.IsListIter i l (n+1):=((q12.extBut s3.extBut D.TOi1.symm).extBut s4.extBut D.i12).extBut s5.extBut D.TOi1.symm
 have q25:h5.IsTupleIter j t (m+1):=q24.extBut s5.extBut D.TOi2.symm
 have zl:z<h5.objs.size:=Heap.lt_size qz5
 show wpAny _ _ (Builtin.SmallTypes.ownedTupleHandOut (.ref z) (.ref h5.objs.size)>>=_) _ _ _
 refine wpAny_bind ?_
 unfold Builtin.SmallTypes.ownedTupleHandOut
 have qz6:IsZip (h5.push {cls:= .type "tuple",data:= .seq #[x,y]}) z I O .ellipsis:=Heap.get?_push_of_some _ qz5
 refine wpAny_bind (wpAny_setField_rec qz6 (by simp) fun h7 qz7 s7=>?_)
 replace qz7:IsZip h7 z I O (rawInt h5.objs.size):=qz7
 refine wpAny_setField_rec qz7 (by simp) fun h8 qz8 s8=>?_
 replace qz8:IsZip h8 z I O (rawInt h5.objs.size):=qz8
 have up: ∀c o,c≠z→h5.get? c=some o→h8.get? c=some o:=fun c o c1 e=>s8.extBut _ _ c1 (s7.extBut _ _ c1 (Heap.get?_push_of_some _ e))
 have qT:IsPair h8 h5.objs.size x y:=s8.extBut _ _ (Nat.ne_of_gt zl) (s7.extBut _ _ (Nat.ne_of_gt zl) (Heap.get?_push_size _ rfl))
 have sz8:h8.objs.size=h5.objs.size+1:=by rw[s8.1,s7.1,Heap.size_push]
 rw[hsz] at qz8 qT sz8
 refine wpAny_pure ⟨_,rfl,?_⟩
 show Q (.ref h5.objs.size) _
 rw[hsz]
 obtain ⟨oj,ej,rj⟩:=q25
 exact k h8 qz8 (up _ _ D.TOz qO5) (q15.at fun o e=>up _ o D.i1z e) ⟨oj,up _ _ D.i2z ej,rj⟩ qT sz8 fun c o c1 c2 c3 c4 e=>up c o c1 (old c o c1 c2 c3 c4 e)
theorem stop {z I O i j l t:Addr} {n m:Nat} {xs ys:Array Value} {a b:Value} {Q:Fin→Shared→Prop} (hh:A.handled=none) (D:ZipApart z I O i j l t) (qz:IsZip s.heap z I O .none) (qI:IsPair s.heap I (.ref i) (.ref j)) (qO:IsPair s.heap O a b)
  (q1:s.heap.IsListIter i l n) (q2:s.heap.IsTupleIter j t m) (ql:s.heap.IsList l xs) (qt:s.heap.IsTuple t ys) (hend:xs[n]?=none∨ys[m]?=none)
  (k: ∀h' e,(∀c o,c≠z→c≠O→c≠i→c≠j→s.heap.get? c=some o→h'.get? c=some o)→(∃o,h'.get? e=some o∧o.cls= .type "StopIteration")→E (.ref e) {s with heap:=h'}):
  wpAny (model prog w) A (Builtin.«zip.__next__» ⟨[.ref z], []⟩) Q E s:=by
 show wpAny _ _ (field (.ref z) 2>>=_) _ _ _
 refine wpAny_bind (wpAny_field qz rfl (x:= .bool false) rfl ?_)
 show wpAny _ _ (field (.ref z) 3>>=_) _ _ _
 refine wpAny_bind (wpAny_field qz rfl (x:= .ref I) rfl ?_)
 refine wpAny_bind (wpAny_seqItems qI rfl ?_)
 show wpAny _ _ (Builtin.SmallTypes.ownedTupleIsFree (.ref z)>>=_) _ _ _
 refine wpAny_bind ?_
 unfold Builtin.SmallTypes.ownedTupleIsFree
 refine wpAny_bind (wpAny_field qz rfl (x:= .none) rfl (wpAny_pure ?_))
 simp only [if_true]
 refine wpAny_bind (wpAny_rule ?_)
 refine wpAny_bind (wpAny_field qz rfl (x:= .ref O) rfl ?_)
 refine wpAny_bind (wpAny_setField_rec qz (by simp) fun h1 qz1 s1=>?_)
 replace qz1:IsZip h1 z I O .ellipsis:=qz1
 refine wpAny_bind ?_
 simp only [List.forIn_cons,List.forIn_nil,List.zipIdx_cons,List.zipIdx_nil]
 refine wpAny_bind (wpAny_bind (wpAny_onRaise ?_))
 show wpAny _ _ (Builtin.SmallTypes.nextOf (.ref i)>>=_) _ _ _
 cases hx:xs[n]? with
 |none=>
  refine wpAny_bind (wpAny_nextOf_list_end hh (q1.extBut s1.extBut D.i1z) (ql.extBut s1.extBut D.l1z) hx fun h2 e s2 he=>?_)
  obtain ⟨oe,ge,ce⟩:=he
  have qz2:IsZip h2 z I O .ellipsis:=s2 _ _ D.i1z.symm qz1
  have ez:e≠z:=fun q=>by subst q;rw[qz2] at ge;cases ge;simp at ce
  exact wpAny_setField_rec qz2 (by simp) fun h3 _ s3=>k h3 e (fun c o c1 _ c3 _ q=>s3.extBut _ _ c1 (s2 _ _ c3 (s1.extBut _ _ c1 q))) ⟨oe,s3.extBut _ _ ez ge,ce⟩
 |some x=>
  have hy:ys[m]?=none:=by
   rcases hend with q|q
   ·rw[hx] at q;cases q
   ·exact q
  refine wpAny_bind (wpAny_nextOf_list_item (q1.extBut s1.extBut D.i1z) (ql.extBut s1.extBut D.l1z) hx fun h2 q12 s2=>wpAny_pure ?_)
  have qO2:IsPair h2 O a b:=s2.extBut _ _ D.TOi1 (s1.extBut _ _ D.TOz qO)
  refine wpAny_bind (wpAny_seqItems qO2 rfl ?_)
  refine wpAny_bind (wpAny_updateSeq_pair qO2 fun h3 qO3 s3=>?_)
  refine wpAny_bind (wpAny_letGo (wpAny_pure ?_))
  refine wpAny_bind (wpAny_bind (wpAny_onRaise ?_))
  show wpAny _ _ (Builtin.SmallTypes.nextOf (.ref j)>>=_) _ _ _
  refine wpAny_bind (Qr hh (((q2.extBut s1.extBut D.i2z).extBut s2.extBut D.i12.symm).extBut s3.extBut D.TOi2.symm) (((qt.extBut s1.extBut D.l2z).extBut s2.extBut D.l2i1).extBut s3.extBut D.l2TO) hy fun h4 e s4 he=>?_)
  obtain ⟨oe,ge,ce⟩:=he
  have qz4:IsZip h4 z I O .ellipsis:=s4 _ _ D.i2z.symm (s3.extBut _ _ D.TOz.symm (s2.extBut _ _ D.i1z.symm qz1))
  have ez:e≠z:=fun q=>by subst q;rw[qz4] at ge;cases ge;simp at ce
  exact wpAny_setField_rec qz4 (by simp) fun h5 _ s5=>k h5 e (fun c o c1 c2 c3 c4 q=>s5.extBut _ _ c1 (s4 _ _ c4 (s3.extBut _ _ c2 (s2.extBut _ _ c3 (s1.extBut _ _ c1 q))))) ⟨oe,s5.extBut _ _ ez ge,ce⟩
theorem nextOne {z I O i j l t:Addr} {n m:Nat} {xs ys:Array Value} {x y a b:Value} {Q:Option Value→Shared→Prop} (D:ZipApart z I O i j l t) (qz:IsZip s.heap z I O .none) (qI:IsPair s.heap I (.ref i) (.ref j)) (qO:IsPair s.heap O a b)
  (q1:s.heap.IsListIter i l n) (q2:s.heap.IsTupleIter j t m) (ql:s.heap.IsList l xs) (qt:s.heap.IsTuple t ys) (hx:xs[n]?=some x) (hy:ys[m]?=some y)
  (k: ∀h',IsZip h' z I O (rawInt s.heap.objs.size)→IsPair h' O x y→h'.IsListIter i l (n+1)→h'.IsTupleIter j t (m+1)→IsPair h' s.heap.objs.size x y→h'.objs.size=s.heap.objs.size+1→
   (∀c o,c≠z→c≠O→c≠i→c≠j→s.heap.get? c=some o→h'.get? c=some o)→Q (some (.ref s.heap.objs.size)) {s with heap:=h'}):wpAny (model prog w) A (pyNext (.ref z)) Q E s:=by
 have ty:s.TypeIs (.ref z) "zip" :=⟨_,qz,rfl⟩
 unfold pyNext
 exact wpAny_bind (wpAny_attempt (wpAny_callSpecial?_slot (name:=Str.ofString "__next__") ty F.slot_zip_next (wpAny_call_entry F.slot_zip_next ty F.entry_zip_next
  (both D qz qI qO q1 q2 ql qt hx hy fun h' a1 a2 a3 a4 a5 a6 a7=>wpAny_pure (k h' a1 a2 a3 a4 a5 a6 a7)) (F.args_zip_next_1 _))))
theorem Pz {z I O i j l t:Addr} {n m:Nat} {xs ys:Array Value} {a b:Value} {Q:Option Value→Shared→Prop} (hh:A.handled=none) (D:ZipApart z I O i j l t) (qz:IsZip s.heap z I O .none) (qI:IsPair s.heap I (.ref i) (.ref j)) (qO:IsPair s.heap O a b)
  (q1:s.heap.IsListIter i l n) (q2:s.heap.IsTupleIter j t m) (ql:s.heap.IsList l xs) (qt:s.heap.IsTuple t ys) (hend:xs[n]?=none∨ys[m]?=none)
  (k: ∀h',(∀c o,c≠z→c≠O→c≠i→c≠j→s.heap.get? c=some o→h'.get? c=some o)→Q none {s with heap:=h'}):wpAny (model prog w) A (pyNext (.ref z)) Q E s:=by
 have ty:s.TypeIs (.ref z) "zip" :=⟨_,qz,rfl⟩
 unfold pyNext
 refine wpAny_bind (wpAny_attempt (wpAny_callSpecial?_slot (name:=Str.ofString "__next__") ty F.slot_zip_next (wpAny_call_entry F.slot_zip_next ty F.entry_zip_next
  (stop hh D qz qI qO q1 q2 ql qt hend fun h' e hk he=>?_) (F.args_zip_next_1 _))))
 obtain ⟨o,ho,hc⟩:=he
 refine wpAny_bind (wpAny_isInstance (T:= "StopIteration") (b:=true) ⟨o,ho,hc⟩ isSubtype_stop ?_)
 exact wpAny_pure (k _ hk)
end
abbrev m1 (h:Heap) (l:Addr):Heap:=h.push {cls:= .type "list_iterator",data:= .fields #[.ref l, .int 0 0]}
abbrev m2 (h:Heap) (l t:Addr):Heap:=(m1 h l).push {cls:= .type "tuple_iterator",data:= .fields #[.ref t, .int 0 0]}
abbrev m3 (h:Heap) (l t:Addr):Heap:=(m2 h l t).push {cls:= .type "tuple",data:= .seq #[.ref h.objs.size, .ref (m1 h l).objs.size]}
abbrev m4 (h:Heap) (l t:Addr):Heap:=(m3 h l t).push {cls:= .type "tuple",data:= .seq #[.none, .none]}
abbrev m5 (h:Heap) (l t:Addr):Heap:=(m4 h l t).push {cls:= .type "zip",data:= .fields #[.none, .bool false, .bool false, .ref (m2 h l t).objs.size, .ref (m3 h l t).objs.size]}
theorem made (l t:Addr) (xs ys:Array Value):Meets (Builtin.«zip.__new__» ⟨[.type "zip", .ref l, .ref t], []⟩) (fun _ R s=>s.heap.IsList l xs∧s.heap.IsTuple t ys∧R (.ok (.ret (.ref (m4 s.heap l t).objs.size))) {s with heap:=m5 s.heap l t}):=
 .of_wp fun prog w A R s h=>by
  obtain ⟨hp,g,d,tk,os⟩:=s
  obtain ⟨ql,qt,h⟩:=h
  have hsub:=sub_zip
  have hL1:Heap.IsList (Shared.heap ⟨hp,g,d,tk,os⟩) l xs:=ql
  have hL2:Heap.IsTuple (Shared.heap ⟨hp.push {cls:= .type "list_iterator",data:= .fields #[.ref l, .int 0 0]},g,d,tk,os⟩) t ys:=Heap.IsTuple.push qt _
  wp_walk using wpAny_pyIter_list hL1,wpAny_pyIter_tuple hL2
  exact ⟨_,rfl,h⟩
theorem called {prog:Program} {w:World} {A:Around} {E:Value→Shared→Prop} {s:Shared} {l t:Addr} {xs ys:Array Value} {Q:Value→Shared→Prop} (ql:s.heap.IsList l xs) (qt:s.heap.IsTuple t ys)
  (k: ∀h',IsZip h' (s.heap.objs.size+4) (s.heap.objs.size+2) (s.heap.objs.size+3) .none→IsPair h' (s.heap.objs.size+2) (.ref s.heap.objs.size) (.ref (s.heap.objs.size+1))→IsPair h' (s.heap.objs.size+3) .none .none→
   h'.IsListIter s.heap.objs.size l 0→h'.IsTupleIter (s.heap.objs.size+1) t 0→h'.objs.size=s.heap.objs.size+5→(∀c o,s.heap.get? c=some o→h'.get? c=some o)→Q (.ref (s.heap.objs.size+4)) {s with heap:=h'}):
  wpAny (model prog w) A (call (.type "zip") [.ref l, .ref t]) Q E s:=by
 refine callType_new F.called_zip (by decide) (F.typeCall_zip_2 _ _) (F.newCall_zip_2 _ _) (fun obj=>F.args_object_init_3 obj _ _) F.entry_zip_new (made l t xs ys) ⟨ql,qt,?_⟩
 have n1:(m1 s.heap l).objs.size=s.heap.objs.size+1:=Heap.size_push ..
 have n2:(m2 s.heap l t).objs.size=s.heap.objs.size+2:=by rw[Heap.size_push,n1]
 have n3:(m3 s.heap l t).objs.size=s.heap.objs.size+3:=by rw[Heap.size_push,n2]
 have n4:(m4 s.heap l t).objs.size=s.heap.objs.size+4:=by rw[Heap.size_push,n3]
 have n5:(m5 s.heap l t).objs.size=s.heap.objs.size+5:=by rw[Heap.size_push,n4]
 have up:=fun (h:Heap) (o:Obj) (c:Addr) (x:Obj) (e:h.get? c=some x)=>Heap.get?_push_of_some o e
 have g5:(m5 s.heap l t).get? (m4 s.heap l t).objs.size=some _:=Heap.get?_push_size _ rfl
 have g4:(m5 s.heap l t).get? (m3 s.heap l t).objs.size=some _:=up _ _ _ _ (Heap.get?_push_size _ rfl)
 have g3:(m5 s.heap l t).get? (m2 s.heap l t).objs.size=some _:=up _ _ _ _ (up _ _ _ _ (Heap.get?_push_size _ rfl))
 have g2:(m5 s.heap l t).get? (m1 s.heap l).objs.size=some _:=up _ _ _ _ (up _ _ _ _ (up _ _ _ _ (Heap.get?_push_size _ rfl)))
 have g1:(m5 s.heap l t).get? s.heap.objs.size=some _:=up _ _ _ _ (up _ _ _ _ (up _ _ _ _ (up _ _ _ _ (Heap.get?_push_size _ rfl))))
 show _∧_
 rw[n2,n3,n4] at g5
 rw[n1,n2] at g3
 rw[n3] at g4
 rw[n1] at g2
 rw[n4]
 exact ⟨⟨_,g5,rfl⟩,k _ g5 g3 g4 ⟨_,g1,rfl,rfl⟩ ⟨_,g2,rfl,rfl⟩ n5 fun c o x=>up _ _ _ _ (up _ _ _ _ (up _ _ _ _ (up _ _ _ _ (up _ _ _ _ x))))⟩
end Zt
end PySem
namespace L2
open PySem PySem.Spec PyProof.Rows
def xC (K:PySem.W.Frag) (a b:Addr):It:=
 ⟨fun i H=> ∃(xs ys:List V) (x y:V),ae K H a xs∧aZ K H b ys∧xs[i]?=some x∧ys[i]?=some y,
  fun i H v H'=> ∃p x y,v= .ref p∧H p=none∧H'=upd H p (.tup [x,y])∧(∀xs,ae K H a xs→xs[i]?=some x)∧ ∀ys,aZ K H b ys→ys[i]?=some y,
  fun i H=> ∃xs ys:List V,ae K H a xs∧aZ K H b ys∧(xs.length≤i∨ys.length≤i)⟩
theorem Iv {P:Program} {w:World} {K:PySem.W.Frag} {elts:List Expr} {kk:Nat} {tpos:Pos} {a b z I O i1 i2:Addr} (D:ZipApart z I O i1 i2 a b):
  Turn P w K (.Tuple elts kk tpos) (xC K a b) [z,I,O,i1,i2] z (fun i h=>IsZip h z I O .none∧IsPair h I (.ref i1) (.ref i2)∧(∃x y,IsPair h O x y)∧h.IsListIter i1 a i∧h.IsTupleIter i2 b i) where
 mem:=by simp
 obj:=fun i h st c hc=>by
  obtain ⟨qz,qI,⟨x,y,qO⟩,⟨o1,e1,_,d1⟩,⟨o2,e2,_,d2⟩⟩:=st
  have e':c=z∨c=I∨c=O∨c=i1∨c=i2:=by simpa using hc
  rcases e' with rfl|rfl|rfl|rfl|rfl
  ·exact ⟨_,qz,fun v q=>nomatch q⟩
  ·exact ⟨_,qI,fun v q=>nomatch q⟩
  ·exact ⟨_,qO,fun v q=>nomatch q⟩
  ·exact ⟨o1,e1,fun v q=>by rw[d1] at q;cases q⟩
  ·exact ⟨o2,e2,fun v q=>by rw[d2] at q;cases q⟩
 keep:=fun i h h' st k=>by
  obtain ⟨qz,qI,⟨x,y,qO⟩,h1,o2,e2,r2⟩:=st
  exact ⟨k z (by simp) _ qz,k I (by simp) _ qI,⟨x,y,k O (by simp) _ qO⟩,h1.at fun o q=>k i1 (by simp) o q,o2,k i2 (by simp) _ e2,r2⟩
 item:=by
  intro X hP hw hK hc i pins s σ H E II hf st hg
  subst hP hw hK
  obtain ⟨qz,qI,⟨x0,y0,qO⟩,h1,h2⟩:=st
  obtain ⟨xs,ys,x,y,hqx,hqy,hx,hy⟩:=hg
  obtain ⟨its,rv,p,_⟩:=II.list hqx
  obtain ⟨its2,rv2,p2,_⟩:=II.tuple hqy
  obtain ⟨u,hu,ru⟩:=rv.get hx
  obtain ⟨u2,hu2,ru2⟩:=rv2.get hy
  have zl:z<s.heap.objs.size:=Heap.lt_size qz
  refine Zt.nextOne D qz qI qO h1 h2 p.isList p2 (x:=u) (y:=u2) (by simpa using hu) (by simpa using hu2) fun h' z' O' h1' h2' hT hsz hk=>?_
  refine ⟨_,rfl,wpAny_letOwnedTupleGo_zip (s:={s with heap:=h'}) z' fun h'' z'' sb=>?_⟩
  have hT2:h''.get? s.heap.objs.size=some {cls:= .type "tuple",data:= .seq #[u,u2]}:=(sb.2 _ (Nat.ne_of_gt zl)).trans hT
  have new:cy X.prog X.w (upd H s.heap.objs.size (.tup [x,y])) h'' s.heap.objs.size (.tup [x,y]):=⟨by show 2≤sizeLine;decide, [u,u2], .cons ru (.cons ru2 .nil),⟨_,hT2,rfl,_,rfl⟩⟩
  have I1:Inv X pins σ (upd H s.heap.objs.size (.tup [x,y])) {s with heap:=h''}:=II.vS (t':=s.toks) (ch:= [z,I,O,i1,i2])
   (fun c o hb q=>(sb.2 c (fun q'=>hb (by simp [q']))).trans (hk c o (fun q'=>hb (by simp [q'])) (fun q'=>hb (by simp [q'])) (fun q'=>hb (by simp [q'])) (fun q'=>hb (by simp [q'])) q)) hf (Nat.le_refl _) new
  refine ⟨.ref s.heap.objs.size,_,I1,rfl,⟨_,x,y,rfl,II.ax.fresh (Nat.le_refl _),rfl,fun l hl=>by rw[II.pL hl hqx];exact hx,fun l hl=>?_⟩,⟨z'',?_,⟨u,u2,?_⟩,?_,?_⟩,fun c hcm=>?_⟩
  ·rw[II.Iq hl hqy];exact hy
  ·exact (sb.2 _ D.TIz).trans (hk _ _ D.TIz D.TITO D.TIi1 D.TIi2 qI)
  ·exact (sb.2 _ D.TOz).trans O'
  ·exact h1'.at fun o q=>(sb.2 _ D.i1z).trans q
  ·obtain ⟨o2,e2,r2⟩:=h2'
   exact ⟨o2,(sb.2 _ D.i2z).trans e2,r2⟩
  ·have hlt:c<s.heap.objs.size:=by
    have e':c=z∨c=I∨c=O∨c=i1∨c=i2:=by simpa using hcm
    rcases e' with q|q|q|q|q
    ·rw[q];exact zl
    ·rw[q];exact Heap.lt_size qI
    ·rw[q];exact Heap.lt_size qO
    ·rw[q];obtain ⟨_,e1,_⟩:=h1;exact Heap.lt_size e1
    ·rw[q];obtain ⟨_,e2,_⟩:=h2;exact Heap.lt_size e2
   rw[aB (Nat.ne_of_lt hlt)]
   exact (hf c hcm).1
 done:=by
  intro X hP hw hK hc i pins s σ H E II hf st hg
  subst hP hw hK
  obtain ⟨qz,qI,⟨x0,y0,qO⟩,h1,h2⟩:=st
  obtain ⟨xs,ys,hqx,hqy,hend⟩:=hg
  obtain ⟨its,rv,p,_⟩:=II.list hqx
  obtain ⟨its2,rv2,p2,_⟩:=II.tuple hqy
  have l1:=rv.length
  have l2:=rv2.length
  have he:its.toArray[i]?=none∨its2.toArray[i]?=none:=by
   rcases hend with q|q
   ·exact .inl (by simp;lia)
   ·exact .inr (by simp;lia)
  exact Zt.Pz (II.ok.hd hc) D qz qI qO h1 h2 p.isList p2 he fun h' hk=>⟨rfl,II.Fs (t':=s.toks) (ch:= [z,I,O,i1,i2])
   (fun c o hb q=>hk c o (fun q'=>hb (by simp [q'])) (fun q'=>hb (by simp [q'])) (fun q'=>hb (by simp [q'])) (fun q'=>hb (by simp [q'])) q) hf⟩
 self:=fun A i s Q E st h=>wpAny_pyIter_zip st.1 h
def NL (K:PySem.W.Frag) (ta:TA):TI:=fun σ H R=>ta σ H fun vs H1=> ∃a b xs ys,vs= [.ref a, .ref b]∧ae K H1 a xs∧aZ K H1 b ys∧R (xC K a b) H1
theorem IJ {X:Cx} {e e2:Expr} {ta:TA} {p pos tpos:Pos} {elts:List Expr} {kk:Nat} (hg:Gl X "zip") (hm:X.mg "zip" =none) (ha:PA X [e,e2] ta)
  (hs:starEach [e,e2] X.env=(false,eval e X.env)::starEach [e2] X.env:=by rfl) (hpl:(backTo pos (starEach [e2] X.env)).any (·.1)=false:=by rfl):
  PI X (.Tuple elts kk tpos) (.Call (.Name "zip" p) [e,e2] [] pos) (NL X.K ta):=by
 intro pins s σ H R I h
 refine Call_ (ia I hg hm DT (PyProof.Rows.callWith_type1 (aH (ha pos pins s σ H _ I h) fun us s1 ⟨vs,H1,I1,r1,q1⟩=>?_) hs hpl))
 obtain ⟨a,b,xs,ys,ex,hqx,hqy,q⟩:=q1
 subst ex
 cases r1 with
 |cons r rr=>
  cases rr with
  |cons r' rr=>
   cases rr;cases r;cases r'
   obtain ⟨its,rv,p1,_⟩:=I1.list hqx
   obtain ⟨its2,rv2,p2,_⟩:=I1.tuple hqy
   have la:a<s1.heap.objs.size:=p1.lt
   have lb:b<s1.heap.objs.size:=by obtain ⟨_,e2,_⟩:=id p2;exact Heap.lt_size e2
   refine Zt.called p1.isList p2 fun h' qz qI qO h1 h2 hsz hk=>wpAny_pyIter_zip qz ?_
   have I2:Inv X pins σ H1 {s1 with heap:=h'}:=I1.kept (t':=s1.toks) hk
   refine ⟨s1.heap.objs.size+4, [s1.heap.objs.size+4,s1.heap.objs.size+2,s1.heap.objs.size+3,s1.heap.objs.size,s1.heap.objs.size+1],_,_,H1,rfl,I2,Iv (PySem.W.ktu_apart s1.heap.objs.size a b la lb),⟨qz,qI,⟨_,_,qO⟩,h1,h2⟩,fun c hcm=>?_,q⟩
   have hle:s1.heap.objs.size≤c:=by
    have e':c=s1.heap.objs.size+4∨c=s1.heap.objs.size+2∨c=s1.heap.objs.size+3∨c=s1.heap.objs.size∨c=s1.heap.objs.size+1:=by simpa using hcm
    rcases e' with z|z|z|z|z
    ·rw[z];exact Nat.le_add_right _ _
    ·rw[z];exact Nat.le_add_right _ _
    ·rw[z];exact Nat.le_add_right _ _
    ·rw[z];exact Nat.le_refl _
    ·rw[z];exact Nat.le_add_right _ _
   exact I1.jY hle (I1.ax.fresh hle)
def gr {α:Type} (xs:List α) (c k:Nat):List α:=(List.range ((xs.length-c+k-1)/k)).filterMap fun j=>xs[c+k*j]?
theorem N7 {c k n:Nat} (hc:c≤n) (hk:1≤k):sliceBounds (some (c:Int)) none (some (k:Int)) n=((c:Int),(n:Int),(k:Int)):=by
 unfold sliceBounds
 have h1:(k:Int)>0:=by lia
 have h2: ¬((c:Int)<0):=by lia
 simp only [Option.getD_some,if_pos h1,if_neg h2]
 congr 1;lia
theorem Nd {c k n:Nat} (hc:c≤n) (hk:1≤k):sliceRange (c:Int) (n:Int) (k:Int)=(List.range ((n-c+k-1)/k)).map fun j=>c+k*j:=by
 unfold sliceRange
 have h1:(k:Int)>0:=by lia
 simp only [if_pos h1]
 have e:(if (c:Int)<n then ((n:Int)-c+k-1)/k else 0).toNat=(n-c+k-1)/k:=by
  by_cases h:c<n
  ·rw[if_pos (by lia),show (n:Int)-c+k-1=((n-c+k-1:Nat):Int) by lia,←Int.natCast_ediv,Int.toNat_natCast]
  ·rw[if_neg (by lia),Int.toNat_zero,show n-c+k-1=k-1 by lia,Nat.div_eq_of_lt (by lia)]
 rw[e]
 refine List.map_congr_left fun j _=>?_
 rw[←Int.natCast_mul,←Int.natCast_add,Int.toNat_natCast]
theorem JY {its:List Value} {c k:Nat} (hc:c≤its.length) (hk:1≤k):slicePick its.toArray (some (c:Int)) none (some (k:Int))=(gr its c k).toArray:=by
 unfold slicePick
 rw[List.size_toArray,N7 hc hk]
 simp only
 rw[Nd hc hk,List.filterMap_map]
 unfold gr
 congr 1
 refine congrArg (fun f=>List.filterMap f _) (funext fun j=>?_)
 simp
theorem JE {xs:List V} {us:List Value} (r:Vals xs us) (c k:Nat):Vals (gr xs c k) (gr us c k):=by
 have hl:=r.length
 unfold gr
 rw[hl]
 generalize (us.length-c+k-1)/k=m
 have: ∀l:List Nat,Vals (l.filterMap fun j=>xs[c+k*j]?) (l.filterMap fun j=>us[c+k*j]?):=by
  intro l
  induction l with
  |nil=>exact .nil
  |cons j l ih=>
   rw[List.filterMap_cons,List.filterMap_cons]
   cases e:xs[c+k*j]? with
   |none=>
    have:us[c+k*j]?=none:=by
     rw[List.getElem?_eq_none_iff] at e⊢
     lia
    rw[this]
    exact ih
   |some x=>
    obtain ⟨u,hu,ru⟩:=r.get e
    rw[hu]
    exact .cons ru ih
 exact this _
theorem Il {α:Type} (xs:List α) (c k:Nat) (hk:1≤k):(gr xs c k).length≤xs.length:=by
 unfold gr
 refine Nat.le_trans (List.length_filterMap_le _ _) ?_
 rw[List.length_range]
 rcases Nat.eq_zero_or_pos (xs.length-c) with h|h
 ·rw[h,Nat.div_eq_of_lt (by lia)];lia
 ·refine Nat.le_trans (Nat.div_le_of_le_mul (n:=xs.length-c) ?_) (Nat.sub_le _ _)
  have:=Nat.mul_le_mul (show 1≤k from hk) (show 1≤xs.length-c from h)
  generalize xs.length-c=d at*
  obtain ⟨d',rfl⟩: ∃d',d=d'+1:=⟨d-1,by lia⟩
  obtain ⟨k',rfl⟩: ∃k',k=k'+1:=⟨k-1,by lia⟩
  have:(k'+1)*(d'+1)=k'*d'+k'+d'+1:=by rw[Nat.add_mul,Nat.mul_add];lia
  lia
def MD (K:PySem.W.Frag) (te tl ts:TE):TE:=fun σ H Q=>te σ H fun x H1=>tl σ H1 fun y H2=>ts σ H2 fun z H3=> ∃(a:Addr) (xs:List V) (c k:Nat),x= .ref a∧y= .int c∧z= .int k∧ae K H3 a xs∧(c≤xs.length∧1≤k)∧
 ∀p,H3 p=none→Q (.ref p) (upd H3 p (.lst (gr xs c k)))
theorem QF {X:Cx} {K:PySem.W.Frag} {e lo st:Expr} {te tl ts:TE} {pos p2:Pos} (hK:X.K=K) (he:PE X e te) (hl:PE X lo tl) (hs:PE X st ts):PE X (.Subscript e (.Slice (some lo) none (some st) p2) pos) (MD K te tl ts):=by
 subst hK
 intro pins s σ H Q I h
 refine Subscript_ (aH (he pins s σ H _ I h) fun v s1 ⟨x,H1,I1,r1,q1⟩=>?_)
 refine wpAny_Slice ?_
 rw[evalPart_some,evalPart_none,evalPart_some]
 refine aH (hl pins s1 σ H1 _ I1 q1) fun vl s2 ⟨y,H2,I2,r2,q2⟩=>?_
 refine wpAny_pure ?_
 refine aH (hs pins s2 σ H2 _ I2 q2) fun vk s3 ⟨z,H3,I3,r3,q3⟩=>?_
 obtain ⟨a,xs,c,k,rfl,rfl,rfl,hx,⟨hc,hk⟩,q⟩:=q3
 obtain ⟨t2,rfl⟩:=r2
 obtain ⟨t3,rfl⟩:=r3
 cases r1
 have I4:Inv X pins σ H3 {s3 with heap:=s3.heap.push {cls:= .type "slice",data:= .fields #[.int c t2, .none, .int k t3]}}:=I3.kept (t':=s3.toks) fun b ob q=>Heap.get?_push_of_some _ q
 obtain ⟨its,r,ht,hz⟩:=I4.list hx
 have hlen:=r.length
 have hg:wpAny (model X.prog X.w) X.A (getItem (.ref a) (.ref s3.heap.objs.size)) (EP X pins σ Q) X.xe {s3 with heap:=s3.heap.push {cls:= .type "slice",data:= .fields #[.int c t2, .none, .int k t3]}}:=by
  refine wpAny_getItem_list_slice ht.isList (Heap.IsSliceOf.new ..) (.int _ _) .none (.int _ _) (fun z=>by have:=Option.some.inj z;lia) ?_ (by rw[List.size_toArray];lia)
  rw[JY (by lia) hk]
  refine ⟨.ref _,_,I4.laid (t':=s3.toks) (o:= .lst (gr xs c k)) (fun b ob q=>Heap.get?_push_of_some _ q) (Nat.le_refl _) ?_,rfl,q _ (I4.ax.fresh (Nat.le_refl _))⟩
  exact ⟨Nat.le_trans (Il xs c k hk) hz,_,0,JE r c k,Heap.get?_push_size _ rfl⟩
 show wpAny (model X.prog X.w) X.A (subscriptTail e (.Slice (some lo) none (some st) p2) (.ref a) (.ref s3.heap.objs.size)) (EP X pins σ Q) X.xe {s3 with heap:=s3.heap.push {cls:= .type "slice",data:= .fields #[.int c t2, .none, .int k t3]}}
 exact tail_any (ops:= [.ref a, .ref s3.heap.objs.size]) ht.isList.typeIs slot_list_getitem.lookup hg (by with_unfolding_all rfl)
def MZ (t:TE):TE:=fun σ H Q=> ∃d xs,H d=some (.lst xs)∧ ∀φ,t σ (upd H d (.ext φ)) fun v H'=>H' d=some (.ext φ)∧Q v (upd H' d (.lst xs))
theorem JJ {X:Cx} {e:Expr} {t:TE} (h:PE X e t):PE X e (MZ t):=by
 intro pins s σ H Q I hw
 obtain ⟨d,xs,hd,hw⟩:=hw
 obtain ⟨z,its,n,r,e⟩:=I.ax d _ hd
 have new:cy X.prog X.w (upd H d (.ext fun h=>h.get? d=some {cls:= .type "list",data:= .seq its.toArray n})) s.heap d (.ext fun h=>h.get? d=some {cls:= .type "list",data:= .seq its.toArray n}):=⟨e,⟨_,e⟩,fun h1 h2 p k=>k _ p⟩
 have I1:=I.write (x:=d) (e:=d) (t':=s.toks) (h':=s.heap) (by rw[hd];trivial) (.inl rfl) (fun b v _ q=>q) ⟨_,e⟩ new
 refine aH (h pins s σ _ _ I1 (hw _)) fun v s1 ⟨x,H1,I2,r1,e1,q⟩=>?_
 obtain ⟨p1,_,_⟩:=I2.ax d _ e1
 exact ⟨x,_,I2.write (x:=d) (e:=d) (o:= .lst xs) (t':=s1.toks) (h':=s1.heap) (by rw[e1];trivial) (.inl rfl) (fun b v _ q=>q) ⟨_,p1⟩ ⟨z,its,n,r,p1⟩,r1,q⟩
theorem EO {X:Cx} {K:PySem.W.Frag} (h:X.K=K):o6 X (ra K):=by subst h;exact ro
end L2
namespace L2
open PySem PySem.Spec PyProof.Rows
theorem MC {P:Program} {w:World} {H:Hp} {h:Heap} {a:Addr} {o:HO} (x:cy P w H h a o): ∃ob,h.get? a=some ob:=by
 cases o with
 |lst xs=>obtain ⟨_,_,_,_,e⟩:=x;exact ⟨_,e⟩
 |tup xs=>obtain ⟨_,_,_,ob,e,_⟩:=x;exact ⟨ob,e⟩
 |dK kvs=>obtain ⟨_,_,_,_,o,_,_,e,_⟩:=x;exact ⟨o,e⟩
 |dT kvs=>obtain ⟨_,_,_,_,o,_,_,e,_⟩:=x;exact ⟨o,e⟩
 |set S n=>obtain ⟨o,_,_,_,e,_⟩:=x;exact ⟨o,e⟩
 |ins C dx fs=>obtain ⟨_,_,_,e,_⟩:=x;exact ⟨_,e⟩
 |own y=>exact x
 |xd fs=>obtain ⟨_,⟨o,_,_,e,_⟩,_⟩:=x;exact ⟨o,e⟩
 |gB lo hi=>obtain ⟨_,_,_,e⟩:=x;exact ⟨_,e⟩
 |dh ob u=>obtain ⟨e,_⟩:=x;exact ⟨_,e⟩
 |jw ps=>exact ⟨_,x⟩
 |met f y=>exact ⟨_,x⟩
 |ext φ=>obtain ⟨_,e,_⟩:=x;exact e
theorem rq {P:Program} {w:World} {H:Hp} {h:Heap} (x:bR P w H h) {a:Addr} (e:h.get? a=none):H a=none:=by
 cases q:H a with
 |none=>rfl
 |some o=>
  obtain ⟨ob,z⟩:=MC (x a o q)
  rw[e] at z;cases z
inductive ee (h:Heap) (H:Hp) (av:List Addr):Nat→Value→Prop
 |nil:ee h H av 0 .none
 |cons {n:Nat} {a:Addr} {o:Obj} {vs:Array Value} {c:Value}:h.get? a=some o→o.data= .fields vs→vs[2]?=some c→H a=none→a∉av→ee h H av n c→ee h H av (n+1) (.ref a)
theorem ee.move {h h':Heap} {H H':Hp} {av av':List Addr} {n:Nat} {c:Value} (x:ee h H av n c) (k: ∀a o vs,h.get? a=some o→o.data= .fields vs→H a=none→a∉av→h'.get? a=some o∧H' a=none∧a∉av'):ee h' H' av' n c:=by
 induction x with
 |nil=>exact .nil
 |cons h1 h2 h3 h4 h5 _ ih=>
  obtain ⟨k1,k2,k3⟩:=k _ _ _ h1 h2 h4 h5
  exact .cons k1 h2 h3 k2 k3 ih
def Mi (h base:Heap) (e:Addr) (cls c fl:Value):Prop:=
 ∃oe vs T oT ts,h.get? e=some oe∧(oe.cls=cls∧vs[2]?=some c)∧oe.data= .fields vs∧vs[1]?=some (.ref T)∧base.get? T=none∧T≠e∧h.get? T=some oT∧oT.data= .fields ts∧ts[3]?=some fl
def gM (base:Heap) (l:List Env) (e:Addr) (cls c fl:Value) (h:Heap):Prop:=base.StaysIn h∧base.get? e=none∧h.FunFrames base l∧Mi h base e cls c fl
section
variable {M:Model} {A:Around} {E:Value→Shared→Prop} {s:Shared}
theorem zI {base:Heap} {env:Env} {outer:List Env} {L e:Addr} {oe:Obj} {vs:Array Value} {hd c:Value} {nx:Bool} {Q:Unit→Shared→Prop} (hfr:A.frames=some (env::outer)) (hl:s.heap.FunFrames base (env::outer)) (hf:env.frame=some L)
  (ge:s.heap.get? e=some oe) (st:base.StaysIn s.heap) (ne:base.get? e=none) (de:oe.data= .fields vs) (z1:1<vs.size) (h2:vs[2]?=some c) (k: ∀h',gM base (env::outer) e oe.cls c (rawInt L) h'→s.heap.UpToSlots h'→Q () {s with heap:=h'}):
  wpAny M A (do let fo←frameOf env;let pc←entryPlaceOf L nx;let tb←EntryCells.newEntry hd fo .none (rawInt L) .none pc;setField (.ref e) 1 tb) Q E s:=by
 have nfr:e∉(env::outer).filterMap (·.frame):=fun m=>by
  obtain ⟨_,q,hq,nf⟩:=hl.mem m
  rw[ge] at hq;cases hq;exact nf vs de
 refine wpAny_bind (wpAny_frameOf_fun hfr hl hf fun g ⟨_,sg,tg⟩=>wpAny_bind (wpAny_entryPlaceOf fun pc hp=>?_))
 have e1:g.get? e=some oe:=(sg e nfr).trans ge
 have b1:base.StaysIn g:=fun b q hb=>(sg b fun m=>by rw[(hl.mem m).1] at hb;cases hb).trans (st b q hb)
 have Te:g.objs.size≠e:=Nat.ne_of_gt (Heap.lt_size e1)
 unfold EntryCells.newEntry newFields
 refine wpAny_bind (wpAny_newObj_type ?_ (hp.sizeOk5 _ _ _ _ _))
 generalize hts:([hd,Value.ref L, .none,rawInt L, .none]++(if pc.isEmpty then List.replicate 6 Value.none else pc)).toArray=ts
 have t3:ts[3]?=some (rawInt L):=by rw[←hts];simp
 have e2:(g.push {cls:= .type "traceback",data:= .fields ts}).get? e=some oe:=Heap.get?_push_of_some _ e1
 refine wpAny_setField e2 de z1 (k _ ?_ ?_)
 ·have d3:=Obj.data_mapFields de (·.setIfInBounds 1 (Value.ref g.objs.size))
  refine ⟨fun b q hb=>?_,ne,hl.of_keeps fun b q hb nf=>?_,_,_,g.objs.size,_,ts,Heap.get?_update_self _ e2 (Obj.isFreed_of_fields d3),⟨Obj.cls_mapFields _ _,?_⟩,d3,by simp [z1],b1.fresh,Te,(Heap.get?_update_other _ _ (Ne.symm Te)).trans (Heap.get?_push_size _ rfl),rfl,t3⟩
  ·rw[Heap.get?_update_other _ _ (fun z=>by rw[←z,ne] at hb;cases hb)]
   exact Heap.get?_push_of_some _ (b1 b q hb)
  ·obtain ⟨sl,hs⟩:=tg b q hb
   refine ⟨{q with slots:=sl},?_,rfl⟩
   rw[Heap.get?_update_other _ _ (fun z=>by rw[←z,ge] at hb;cases hb;exact nf vs de)]
   exact Heap.get?_push_of_some _ hs
  ·rw[Array.getElem?_setIfInBounds_ne (by decide)];exact h2
 ·intro b q hb nf
  obtain ⟨sl,hs⟩:=tg b q hb
  refine ⟨sl,?_⟩
  rw[Heap.get?_update_other _ _ (fun z=>by rw[←z,ge] at hb;cases hb;exact nf vs de)]
  exact Heap.get?_push_of_some _ hs
theorem NJ {base:Heap} {env:Env} {outer:List Env} {L e:Addr} {oe:Obj} {vs:Array Value} {c:Value} {Q:Unit→Shared→Prop} (hfr:A.frames=some (env::outer)) (hf:env.frame=some L) (hl:s.heap.FunFrames base (env::outer)) (ge:s.heap.get? e=some oe) (st:base.StaysIn s.heap) (ne:base.get? e=none) (de:oe.data= .fields vs) (h1:vs[1]?=some .none) (h2:vs[2]?=some c)
  (k: ∀h',gM base (env::outer) e oe.cls c (rawInt L) h'→s.heap.UpToSlots h'→Q () {s with heap:=h'}):wpAny M A (noteFrame (.ref e) env) Q E s:=by
 unfold noteFrame
 simp only [hf]
 refine wpAny_bind (wpAny_field ge de h1 ?_)
 rw[if_neg (by decide)]
 exact zI hfr hl hf ge st ne de (Array.getElem?_eq_some_iff.mp h1).1 h2 k
theorem z6 {base:Heap} {env:Env} {outer:List Env} {L e:Addr} {cls c fl:Value} {Q:Unit→Shared→Prop} (hfr:A.frames=some (env::outer)) (hf:env.frame=some L) (h:gM base (env::outer) e cls c fl s.heap)
  (k: ∀h',gM base (env::outer) e cls c (rawInt L) h'→s.heap.UpToSlots h'→Q () {s with heap:=h'}):wpAny M A (noteFrame (.ref e) env) Q E s:=by
 obtain ⟨st,ne,hl,oe,vs,T,oT,ts,ge,⟨hcls,h2⟩,de,h1,nT,Te,gT,dT,h3⟩:=id h
 subst hcls
 unfold noteFrame
 simp only [hf]
 refine wpAny_bind (wpAny_field ge de h1 ?_)
 rw[if_pos (by simp)]
 refine wpAny_bind (wpAny_field gT dT h3 ?_)
 by_cases q:fl=rawInt L
 ·subst q
  rw[if_pos (by simp)]
  exact wpAny_pure (k s.heap h (.refl _))
 ·rw[if_neg (by simpa using q)]
  refine wpAny_bind (wpAny_setField gT dT (Array.getElem?_eq_some_iff.mp h3).1 ?_)
  have oth: ∀b,b≠T→(s.heap.update T (Obj.mapFields (·.setIfInBounds 3 Value.none))).get? b=s.heap.get? b:=fun b hb=>Heap.get?_update_other _ _ (Ne.symm hb)
  have nrec: ∀b o,s.heap.get? b=some o→(∀vs,o.data≠ .fields vs)→b≠T:=fun b o hb hnf z=>by
   rw[z,gT] at hb;cases hb;exact hnf ts dT
  refine zI hfr (hl.of_keeps fun b o hb hnf=>⟨o,(oth b (nrec b o hb hnf)).trans hb,rfl⟩) hf ((oth e (Ne.symm Te)).trans ge)
   (fun b o hbo=>(oth b fun z=>by rw[z,nT] at hbo;cases hbo).trans (st b o hbo)) ne de (Array.getElem?_eq_some_iff.mp h1).1 h2 fun h' x up=>k h' x fun b o hb hnf=>up b o ((oth b (nrec b o hb hnf)).trans hb) hnf
theorem vY {base:Heap} {l:List Env} {e:Addr} {cls c fl:Value} {fo:Option Addr} {Q:Unit→Shared→Prop} (h:gM base l e cls c fl s.heap) (k: ∀h',gM base l e cls c (fo.elim Value.none fun f=>rawInt f) h'→s.heap.UpToSlots h'→Q () {s with heap:=h'}):wpAny M A (setFlight (.ref e) fo) Q E s:=by
 obtain ⟨st,ne,hl,oe,vs,T,oT,ts,ge,hc,de,h1,nT,Te,gT,dT,h3⟩:=h
 have z3:3<ts.size:=(Array.getElem?_eq_some_iff.mp h3).1
 have oth: ∀b,b≠T→(s.heap.update T (Obj.mapFields (·.setIfInBounds 3 (fo.elim Value.none fun f=>rawInt f)))).get? b=s.heap.get? b:=fun b hb=>Heap.get?_update_other _ _ (Ne.symm hb)
 have nrec: ∀b o,s.heap.get? b=some o→(∀vs,o.data≠ .fields vs)→b≠T:=fun b o hb hnf z=>by
  rw[z,gT] at hb;cases hb;exact hnf ts dT
 unfold setFlight
 refine wpAny_bind (wpAny_field ge de h1 ?_)
 rw[if_pos (by simp)]
 refine wpAny_setField gT dT z3 (k _ ⟨fun b o hb=>(oth b fun z=>by rw[z,nT] at hb;cases hb).trans (st b o hb),ne,hl.of_keeps fun b o hb nf=>⟨o,(oth b (nrec b o hb nf)).trans hb,rfl⟩,oe,vs,T,_,_,(oth e (Ne.symm Te)).trans ge,hc,de,h1,nT,Te,Heap.get?_update_self _ gT (Obj.isFreed_of_fields (Obj.data_mapFields dT _)),Obj.data_mapFields dT _,by simp [z3]⟩ fun b o hb nf=>⟨o.slots,(oth b (nrec b o hb nf)).trans hb⟩)
theorem PH {base:Heap} {env:Env} {outer:List Env} {L e:Addr} {cls c fl:Value} {Q:Unit→Shared→Prop} (hfr:A.frames=some (env::outer)) (hf:env.frame=some L) (h:gM base (env::outer) e cls c fl s.heap)
  (k: ∀h',gM base outer e cls c .none h'→s.heap.UpToSlots h'→Q () {s with heap:=h'}):wpAny M A (leaving env (.ref e)) Q E s:=by
 unfold leaving
 refine wpAny_bind (z6 hfr hf h fun h1 hh up=>?_)
 refine vY (s:={s with heap:=h1}) hh fun h2 fl2 up2=>?_
 obtain ⟨k1,k2,⟨_,_,k3⟩,k4⟩:=fl2
 exact k h2 ⟨k1,k2,k3,k4⟩ (up.trans up2)
end
def rX (h:Heap) (x T:Addr) (cls c fl:Value):Prop:= ∃oe vs oT ts,h.get? x=some oe∧(oe.cls=cls∧vs[2]?=some c)∧oe.data= .fields vs∧vs[1]?=some (.ref T)∧T≠x∧h.get? T=some oT∧oT.data= .fields ts∧ts[3]?=some fl
def dP (P:Program) (w:World):fi:=fun outer H s E e s'=> ∃(x T:Addr) (cls c:Value) (n:Nat) (H':Hp),e= .ref x∧s'.os=s.os∧AllBare s'.gens∧Un (br outer) [] H H' s.heap s'.heap∧bR P w H' s'.heap∧
 (s.heap.get? x=none∧s.heap.get? T=none∧H' x=none∧H' T=none)∧(rX s'.heap x T cls c .none∧ee s'.heap H' [x,T] n c)∧E cls none H'
section
variable {X:Cx} {pins:List (Addr×Obj)} {σ:St} {H:Hp} {s:Shared} {h':Heap}
theorem Inv.kl (I:Inv X pins σ H s) (hex:X.ex= []) {b:Addr} (e:s.heap.get? b=none):X.bB.heap.get? b=none:=by
 cases q:X.bB.heap.get? b with
 |none=>rfl
 |some o=>
  obtain ⟨o',z⟩:=I.base.there b o q (by rw[hex];simp)
  rw[e] at z;cases z
theorem Inv.apart (I:Inv X pins σ H s) (hex:X.ex= []) {b:Addr} (e:s.heap.get? b=none):X.bB.heap.get? b=none∧b≠X.env.locals∧(∀x c,X.env.cells.lookup x=some c→c≠b)∧ ∀p∈X.pn++pins,p.1≠b:=by
 refine ⟨I.kl hex e,fun z=>?_,fun x c q z=>?_,fun p hp z=>?_⟩
 ·obtain ⟨m,⟨o,_,_,ho,_⟩,_⟩:=I.loc
  rw[←z,e] at ho;cases ho
 ·obtain ⟨v,o,ho,_⟩:=I.cell x c q
  rw[z,e] at ho;cases ho
 ·have:=(I.pin p hp).1
  rw[z,e] at this;cases this
theorem CA (I:Inv X pins σ H s) (hex:X.ex= []) (hs:X.stack=X.env::X.outer) (hfr:X.env.frame=some X.env.locals) (hd:List Addr) (hh: ∀b∈hd,X.bB.heap.get? b=none∧H b=none)
  (keep: ∀b o,s.heap.get? b=some o→b∉br X.stack→b∉hd→h'.get? b=some o) (slot: ∀b o,s.heap.get? b=some o→b∈br X.stack→ ∃sl,h'.get? b=some {o with slots:=sl}):
  Un X.fs [] X.kM H X.bB.heap h'∧bR X.prog X.w H h':=by
 have fB: ∀b:Addr,b∉X.ex:=fun b=>by rw[hex];simp
 have est:br X.stack=X.env.locals::X.fs:=by rw[hs];unfold br;rw[List.filterMap_cons,hfr];rfl
 have hL:X.bB.heap.get? X.env.locals=none:=Heap.get?_none_of_le I.ok.above
 have nst: ∀b o,X.bB.heap.get? b=some o→b∉X.fs→b∉br X.stack:=fun b o e hb hm=>by
  rw[est] at hm
  rcases List.mem_cons.mp hm with z|z
  ·rw[z,hL] at e;cases e
  ·exact hb z
 have nhd: ∀b o,X.bB.heap.get? b=some o→b∉hd:=fun b o e hm=>by rw[(hh b hm).1] at e;cases e
 refine ⟨⟨fun b o e n hb _=>keep b o (I.base.keep b o e n hb (fB b)) (nst b o e hb) (nhd b o e),fun b o e n hb _=>?_,fun b o e n _=>I.base.free b o e n (fB b),fun b o e _=>?_,I.base.g9,I.base.gk,I.base.gW⟩,fun a o e=>?_⟩
 ·obtain ⟨sl,q⟩:=I.base.slot b o e n hb (fB b)
  obtain ⟨sl',q'⟩:=slot b _ q (by rw[est];exact List.mem_cons_of_mem _ hb)
  exact ⟨sl',q'⟩
 ·obtain ⟨o',q⟩:=I.base.there b o e (fB b)
  by_cases hm:b∈br X.stack
  ·obtain ⟨sl,z⟩:=slot b _ q hm
   exact ⟨_,z⟩
  ·exact ⟨o',keep b o' q hm (nhd b o e)⟩
 ·have tracked: ∀b u,H b=some u→b∉br X.stack∧b∉hd:=fun b u q=>⟨fun hm=>(by rw[I.rh b hm] at q;cases q),fun hm=>(by rw[(hh b hm).2] at q;cases q)⟩
  refine (I.ax a o e).fe (fun b u hb q=>?_) (fun _ q=>q) fun _ _ q=>q
  rcases hb with rfl|hb
  ·exact keep _ _ q (tracked _ _ e).1 (tracked _ _ e).2
  ·exact keep _ _ q (tracked _ _ hb).1 (tracked _ _ hb).2
theorem DJ {l:List Env} {env:Env} (he:env∈l) {a:Addr} (ha:env.frame=some a):a∈br l:=List.mem_filterMap.mpr ⟨env,he,ha⟩
theorem rA {P:Addr→Prop} {x T:Addr} (h1:P x) (h2:P T): ∀b∈ [x,T],P b:=fun b hb=>by
 rcases List.mem_cons.mp hb with rfl|hb
 ·exact h1
 ·rcases List.mem_cons.mp hb with rfl|hb
  ·exact h2
  ·cases hb
theorem Inv.moved (I:Inv X pins σ H s) (ch:List Addr) (hch: ∀b∈ch,X.bB.heap.get? b=none∧b≠X.env.locals∧(∀x c,X.env.cells.lookup x=some c→c≠b)∧(∀p∈X.pn++pins,p.1≠b)∧H b=none)
  (keep: ∀b o,s.heap.get? b=some o→b∉br X.stack→b∉ch→h'.get? b=some o) (slot: ∀b o,s.heap.get? b=some o→b∈br X.stack→ ∃sl,h'.get? b=some {o with slots:=sl}):Inv X pins σ H {s with heap:=h'}:=by
 have neL: ∀b o,X.bB.heap.get? b=some o→b≠X.env.locals:=fun b o e=>Nat.ne_of_lt (Nat.lt_of_lt_of_le (Heap.lt_size e) I.ok.above)
 have neC: ∀b o,X.bB.heap.get? b=some o→b∉ch:=fun b o e hb=>by rw[(hch b hb).1] at e;cases e
 have nst: ∀b o,X.bB.heap.get? b=some o→b∉X.fs→b∉br X.stack:=fun b o e hb hm=>(List.mem_cons.mp (I.qY b hm)).elim (neL b o e) hb
 have any: ∀b o,s.heap.get? b=some o→b∉ch→ ∃sl,h'.get? b=some {o with slots:=sl}:=fun b o e hb=>by
  by_cases hm:b∈br X.stack
  ·exact slot b o e hm
  ·exact ⟨o.slots,keep b o e hm hb⟩
 have cellK: ∀x c,X.env.cells.lookup x=some c→ ∀v,s.heap.IsCell c v→h'.IsCell c v:=fun x c e v ⟨o,ho,hd⟩=>by
  obtain ⟨sl,q⟩:=any c o ho fun z=>(hch c z).2.2.1 x c e rfl
  exact ⟨_,q,hd⟩
 have tracked: ∀b u,H b=some u→b∉br X.stack∧b∉ch:=fun b u q=>⟨fun hm=>(by rw[I.rh b hm] at q;cases q),fun hm=>(by rw[(hch b hm).2.2.2.2] at q;cases q)⟩
 refine ⟨I.ok,I.os,I.bare,⟨fun b o e n hb hx=>?_,fun b o e n hb hx=>?_,fun b o e n hx=>I.base.free b o e n hx,fun b o e hx=>?_,I.base.g9,I.base.gk,I.base.gW⟩,?_,fun x c e=>?_,I.free,I.dZ,fun p hp=>?_,fun a o e=>?_,I.len⟩
 ·exact keep b o (I.base.keep b o e n hb hx) (nst b o e hb) (neC b o e)
 ·obtain ⟨sl,e1⟩:=I.base.slot b o e n hb hx
  obtain ⟨sl',e2⟩:=any b _ e1 (neC b o e)
  exact ⟨sl',e2⟩
 ·obtain ⟨o',e1⟩:=I.base.there b o e hx
  obtain ⟨sl,e2⟩:=any b o' e1 (neC b o e)
  exact ⟨_,e2⟩
 ·obtain ⟨m,⟨o,es,ep,ho,r⟩,hl⟩:=I.loc
  obtain ⟨sl,q⟩:=any _ o ho fun z=>(hch _ z).2.1 rfl
  refine ⟨m,⟨_,es,ep,q,r⟩,fun i x v e1 e2 e3=>?_⟩
  obtain ⟨u,rr,l⟩:=hl i x v e1 e2 e3
  refine ⟨u,rr,?_⟩
  rcases l with l|⟨k,c,e,z⟩
  ·exact .inl l
  ·exact .inr ⟨k,c,e,cellK x c e _ z⟩
 ·obtain ⟨v,z⟩:=I.cell x c e
  exact ⟨v,cellK x c e v z⟩
 ·obtain ⟨e,n,ne,nf,d⟩:=I.pin p hp
  exact ⟨keep p.1 p.2 e (fun hm=>(List.mem_cons.mp (I.qY _ hm)).elim ne nf) (fun z=>(hch p.1 z).2.2.2.1 p hp rfl),n,ne,nf,d⟩
 ·refine (I.ax a o e).fe (fun b u hb q=>?_) (fun _ q=>q) fun _ _ q=>q
  rcases hb with rfl|hb
  ·exact keep _ _ q (tracked _ _ e).1 (tracked _ _ e).2
  ·exact keep _ _ q (tracked _ _ hb).1 (tracked _ _ hb).2
theorem vm (I:Inv X pins σ H s) {x T:Addr} {cls c fl:Value} (ht:rX s.heap x T cls c fl):gM (PySem.W.hideAll s.heap (x::T::br X.stack)) X.stack x cls c fl s.heap:=by
 obtain ⟨oe,vs,oT,ts,g1,g2,g3,g4,g5,g6,g7,g8⟩:=ht
 exact ⟨fun b o q=>PySem.W.of_hideAll _ q,PySem.W.hideAll_none _ (by simp),PySem.W.funFrames_hide I.stack (fun env henv a ha=>List.mem_cons_of_mem _ (List.mem_cons_of_mem _ (DJ henv ha))),oe,vs,T,oT,ts,g1,g2,g3,g4,PySem.W.hideAll_none _ (by simp),g5,g6,g7,g8⟩
theorem yB (I:Inv X pins σ H s) (up:s.heap.UpToSlots h'): ∀b o,s.heap.get? b=some o→b∈br X.stack→(∀vs,o.data≠ .fields vs)∧ ∃sl,h'.get? b=some {o with slots:=sl}:=fun b o q hm=>by
 obtain ⟨_,o2,q2,nf⟩:=I.stack.mem hm
 rw[q] at q2;cases q2
 exact ⟨nf,up b o q nf⟩
theorem yN {x T:Addr} (k1:(PySem.W.hideAll s.heap (x::T::br X.stack)).StaysIn h'): ∀b o,s.heap.get? b=some o→b∉br X.stack→b∉ [x,T]→h'.get? b=some o:=fun b o q nb nd=>k1 b o (PySem.W.hideAll_get _ q fun hm=>by
 rcases List.mem_cons.mp hm with z|hm
 ·exact nd (by rw[z];simp)
 ·rcases List.mem_cons.mp hm with z|hm
  ·exact nd (by rw[z];simp)
  ·exact nb hm)
theorem A9 (I:Inv X pins σ H s) {x T T':Addr} {oT':Obj} {ts':Array Value} (up:s.heap.UpToSlots h') (t5:(PySem.W.hideAll s.heap (x::T::br X.stack)).get? T'=none) (t6:T'≠x) (t7:h'.get? T'=some oT') (t8:oT'.data= .fields ts'):s.heap.get? T'=none∨T'=T:=by
 cases q:s.heap.get? T' with
 |none=>exact .inl rfl
 |some o=>
  by_cases hm:T'∈x::T::br X.stack
  ·rcases List.mem_cons.mp hm with z|hm
   ·exact absurd z t6
   ·rcases List.mem_cons.mp hm with z|hm
    ·exact .inr z
    ·obtain ⟨nf,sl,z⟩:=yB I up T' o q hm
     rw[t7] at z
     cases z
     exact absurd t8 (nf ts')
  ·have:=PySem.W.hideAll_get _ q hm
   rw[t5] at this;cases this
theorem y9 (I:Inv X pins σ H s) {x T T':Addr} {n:Nat} {c:Value} (k1:(PySem.W.hideAll s.heap (x::T::br X.stack)).StaysIn h') (e:s.heap.get? T'=none∨T'=T) (q:ee s.heap H [x,T] n c):ee h' H [x,T'] n c:=
 q.move fun a o vs g1 g2 g3 g4=>⟨yN k1 a o g1 (fun hm=>by obtain ⟨_,o2,q2,nf⟩:=I.stack.mem hm;rw[g1] at q2;cases q2;exact nf vs g2) g4,g3,fun hm=>by
  rcases List.mem_cons.mp hm with z|hm
  ·exact g4 (by rw[z];simp)
  ·rcases List.mem_cons.mp hm with z|hm
   ·rcases e with e|e
    ·rw[←z,g1] at e;cases e
    ·exact g4 (by rw[z,e];simp)
   ·cases hm⟩
end
def Mu (X:Cx) (E:XK):Prop:= ∀(pins:List (Addr×Obj)) (σ:St) (H:Hp) (s:Shared) (x T:Addr) (cls c fl:Value) (n:Nat),Inv X pins σ H s→(X.bB.heap.get? x=none∧X.bB.heap.get? T=none∧H x=none∧H T=none)→rX s.heap x T cls c fl→ee s.heap H [x,T] n c→E cls none H→X.xe (.ref x) s
def vZ (X:Cx) (E:XK):Prop:= ∀(pins:List (Addr×Obj)) (σ:St) (H:Hp) (s:Shared) (h1:Heap) (e:Addr) (oe:Obj) (vs:Array Value) (c:Value) (n:Nat),Inv X pins σ H s→(∀b o,s.heap.get? b=some o→h1.get? b=some o)→s.heap.get? e=none→h1.get? e=some oe→oe.data= .fields vs→vs[1]?=some .none→vs[2]?=some c→ee s.heap H [] n c→E oe.cls none H→X.xe (.ref e) {s with heap:=h1}
abbrev gR (P:Program) (w:World) (K:PySem.W.Frag) (mg:Str→Option Value) (base:Heap) (N:List Str) (qual:Str) (scope:Scope) (f:Addr) (cd:Value) (A:Around) (outer:List Env) (s0:Shared) (H0:Hp) (E:XK) (cb:Bool) (ps:List (Addr×Obj)):Cx:={gE (dP P w) P w K mg base N qual scope f cd A outer s0 H0 E with calm:=cb,pn:=ps}
section
variable {P:Program} {w:World} {K:PySem.W.Frag} {mg:Str→Option Value} {base:Heap} {N:List Str} {qual:Str} {scope:Scope} {f:Addr} {cd:Value} {A:Around} {outer:List Env} {s0:Shared} {H0:Hp} {E:XK} {cb:Bool} {ps:List (Addr×Obj)}
theorem Th:Mu (gR P w K mg base N qual scope f cd A outer s0 H0 E cb ps) E:=by
 intro pins σ H s x T cls c fl n I hh ht hq he
 refine PH I.ok.frames rfl (vm I ht) fun h' fl up=>?_
 obtain ⟨k1,k2,k3,oe',vs',T',oT',ts',t1,t2,t3,t4,t5,t6,t7,t8,t9⟩:=fl
 have hd:=rA (P:=fun b=>s0.heap.get? b=none∧H b=none) ⟨hh.1,hh.2.2.1⟩ ⟨hh.2.1,hh.2.2.2⟩
 obtain ⟨un',hok'⟩:=CA (h':=h') I rfl rfl rfl [x,T] hd (yN k1) (fun b o q hm=>(yB I up b o q hm).2)
 have ent:=A9 I up t5 t6 t7 t8
 have hT':s0.heap.get? T'=none∧H T'=none:=by
  rcases id ent with q|rfl
  ·exact ⟨I.kl rfl q,rq I.ax q⟩
  ·exact hd T' (by simp)
 exact ⟨x,T',cls,c,n,H,rfl,I.os,I.bare,un',hok',⟨hh.1,hT'.1,hh.2.2.1,hT'.2⟩,⟨⟨oe',vs',oT',ts',t1,t2,t3,t4,t6,t7,t8,t9⟩,y9 I k1 ent hq⟩,he⟩
theorem OB:Passes (dP P w) (gR P w K mg base N qual scope f cd A outer s0 H0 E cb ps) E:=by
 intro pins σ H s e s' I hx
 obtain ⟨x,T,cls,c,n,H',rfl,hos,hbare,un,ax,⟨hx0,hT0,hxn,hTn⟩,⟨ht,hq⟩,he⟩:=hx
 have I1:Inv (gR P w K mg base N qual scope f cd A outer s0 H0 E cb ps) pins σ H' s':=I.yk (ch:= []) hos un ax hbare (fun b hb=>absurd hb (by simp))
 exact Th pins σ H' s' x T cls c .none n I1 ⟨I.kl rfl hx0,I.kl rfl hT0,hxn,hTn⟩ ht hq he
theorem ML:vZ (gR P w K mg base N qual scope f cd A outer s0 H0 E cb ps) E:=by
 intro pins σ H s h1 e oe vs c n I kp ne ge de f1 f2 hq he
 have hff:=I.stack
 show wpAny _ _ (leaving _ (.ref e)) _ _ _
 unfold leaving
 have nh:(PySem.W.hideAll s.heap (br (gR P w K mg base N qual scope f cd A outer s0 H0 E cb ps).stack)).get? e=none:=by
  cases q:(PySem.W.hideAll s.heap (br (gR P w K mg base N qual scope f cd A outer s0 H0 E cb ps).stack)).get? e with
  |none=>rfl
  |some o=>rw[PySem.W.of_hideAll _ q] at ne;cases ne
 refine wpAny_bind (NJ (s:={s with heap:=h1}) (base:=PySem.W.hideAll s.heap (br (gR P w K mg base N qual scope f cd A outer s0 H0 E cb ps).stack)) I.ok.frames rfl ((PySem.W.funFrames_hide hff (fun env henv a ha=>DJ henv ha)).of_keeps fun b o q nf=>⟨o,kp b o q,rfl⟩) ge (fun b o q=>kp b o (PySem.W.of_hideAll _ q)) nh de f1 f2 fun h2 o2 up1=>?_)
 refine vY (s:={s with heap:=h2}) o2 fun h' fl up2=>?_
 obtain ⟨k1,k2,k3,oe',vs',T',oT',ts',t1,t2,t3,t4,t5,t6,t7,t8,t9⟩:=fl
 have slot: ∀b o,s.heap.get? b=some o→b∈br (gR P w K mg base N qual scope f cd A outer s0 H0 E cb ps).stack→(∀vs,o.data≠ .fields vs)∧ ∃sl,h'.get? b=some {o with slots:=sl}:=fun b o q hm=>by
  obtain ⟨_,o2,q2,nf⟩:=hff.mem hm
  rw[q] at q2;cases q2
  exact ⟨nf,(up1.trans up2) b o (kp b o q) nf⟩
 have keep: ∀b o,s.heap.get? b=some o→b∉br (gR P w K mg base N qual scope f cd A outer s0 H0 E cb ps).stack→h'.get? b=some o:=fun b o q nb=>k1 b o (PySem.W.hideAll_get _ q nb)
 obtain ⟨un',hok'⟩:=CA (h':=h') I rfl rfl rfl [] (fun b hb=>absurd hb (by simp)) (fun b o q nb _=>keep b o q nb) (fun b o q hm=>(slot b o q hm).2)
 have new:s.heap.get? T'=none:=by
  cases q:s.heap.get? T' with
  |none=>rfl
  |some o=>
   by_cases hm:T'∈br (gR P w K mg base N qual scope f cd A outer s0 H0 E cb ps).stack
   ·obtain ⟨nf,sl,z⟩:=slot T' o q hm
    rw[t7] at z
    cases z
    exact absurd t8 (nf ts')
   ·have:=PySem.W.hideAll_get _ q hm
    rw[t5] at this;cases this
 exact ⟨e,T',oe.cls,c,n,H,rfl,I.os,I.bare,un',hok',⟨I.kl rfl ne,I.kl rfl new,rq I.ax ne,rq I.ax new⟩,⟨⟨oe',vs',oT',ts',t1,t2,t3,t4,t6,t7,t8,t9⟩,hq.move fun a o vs g1 g2 g3 g4=>⟨keep a o g1 (fun hm=>by obtain ⟨_,o2,q2,nf⟩:=hff.mem hm;rw[g1] at q2;cases q2;exact nf vs g2),g3,fun hm=>by
  rcases List.mem_cons.mp hm with z|hm
  ·rw[←z,g1] at ne;cases ne
  ·rcases List.mem_cons.mp hm with z|hm
   ·rw[←z,g1] at new;cases new
   ·cases hm⟩⟩,he⟩
end
section
variable {P:Program} {w:World} {K:PySem.W.Frag} {mg:Str→Option Value} {base:Heap} {N:List Str} {qual:Str} {scope:Scope} {f:Addr} {cd:Value} {A:Around} {outer:List Env} {s0:Shared} {H0:Hp} {E:XK}
theorem fM:Passes (dP P w) (gE (dP P w) P w K mg base N qual scope f cd A outer s0 H0 E) E:=OB (cb:=true) (ps:= [])
theorem wK:vZ (gE (dP P w) P w K mg base N qual scope f cd A outer s0 H0 E) E:=ML (cb:=true) (ps:= [])
end
def kq:List Value:= [.type "Exception", .type "BaseException", .type "object"]
def kN (K:PySem.W.Frag) (C:Addr):Prop:=PySem.W.excIn K C kq "Exception.__new__" =true
theorem kN.obj {K:PySem.W.Frag} {h:Heap} {C:Addr} (X:K.In h) (q:kN K C): ∃bm N nm qn bs hdct sn sub ab col dd k0 k1 k2 k3 k5 mN,h.get? C=some (excClassObj nm qn C N bs bm hdct sn sub ab col dd k0 k1 k2 k3 k5 "Exception.__new__")∧h.Ns N mN∧mN "__init__" =none∧OwnTail h kq bm:=by
 unfold kN PySem.W.excIn at q
 split at q
 ·rename_i dd cd sl ho
  split at q
  ·rename_i C' bm k0 k1 k2 k3 n k5 hm hs
   simp only [Bool.and_eq_true,beq_iff_eq,Bool.not_eq_true'] at q
   obtain ⟨⟨⟨⟨⟨rfl,rfl⟩,hdel⟩,ht⟩,ax⟩,hni⟩:=q
   obtain ⟨nm,bs,mro,ns,qn,hd,sn,sub,ab,col,del⟩:=cd
   dsimp only at hm hdel ax hni
   subst hm hdel
   have hsl:sl= #[k0,k1,k2,k3,some (.builtin "Exception.__new__"),k5]:=by
    obtain ⟨l⟩:=sl
    simp only at hs
    rw[hs]
   subst hsl
   exact ⟨bm,ns,nm,qn,bs,hd,sn,sub,ab,col,dd,k0,k1,k2,k3,k5,_,X _ _ ho, .of_isNs (PySem.W.isNs_of_in X ax),PySem.W.nsMap_none_of_in X ax hni,PySem.W.tail_of_in X ht⟩
  ·cases q
 ·cases q
def Le (E:XK) (C:Addr):TS:=fun _ _ H=>E (.ref C) none H
theorem yy {X:Cx} {x:Str} {C:Addr} {E:XK} {np cpos pos:Pos} (hc:X.calm=true) (hg:Gl X x) (hm:X.mg x=some (.ref C)) (hC:kN X.K C) (hr:vZ X E) (hd:(x==("__debug__" :Str))=false:=by decide):
  PS X (.Raise (some (.Call (.Name x np) [] [] cpos)) none pos) (Le E C):=by
 intro pins s σ H D I h
 obtain ⟨bm,N,nm,qn,bs,hdct,sn,sub,ab,col,dd,k0,k1,k2,k3,k5,mN,g1,g2,g3,g4⟩:=hC.obj I.cI
 exact wpAny_Raise_call_subT (C:=C) (nm:=nm) (q:=qn) (N:=N) (bs:=bs) (bm:=bm) (hdct:=hdct) (sn:=sn) (sub:=sub) (ab:=ab) (col:=col) (dd:=dd) (k0:=k0) (k1:=k1) (k2:=k2) (k3:=k3) (k5:=k5)
  F.excBase_Exception (mN:=mN) (g4.hasType F.excBase_Exception.hasBase) (I.ok.hd hc) rfl g3 (kf I hg hm ⟨rfl,evalArgs_empty ⟨rfl,Nat.zero_le _,g1,g2,g4,fun h' e hx=>by
   obtain ⟨t,ht,_⟩:=hx.there
   exact hr pins σ H s h' e _ _ .none 0 I hx.keeps hx.new ht rfl rfl rfl .nil h⟩⟩ hd)
theorem aL.kE {P:Program} {w:World} {K:PySem.W.Frag} {mg:Str→Option Value} {base:Heap} {x qual:Str} {st:Stmt} {f:Addr} {fd:FuncData} {N ps:List Str} {k:Nat} {sp:Sp} (F:aL K x qual st f fd) (S:aM N ps (aG st)) (len: ∀vs H Q E,sp vs H Q E→vs.length=ps.length)
  (hbody: ∀(cdv:Value) (A:Around) (outer:List Env) (s:Shared) (H:Hp) (vs:List V) (Q:VK) (E:XK),aR k (A.deeper (envOfC qual (aG st) s.heap.objs.size f cdv))→sp vs H Q E→
   ∃t,dS (gE (dP P w) P w K mg base N qual (aG st) f cdv A outer s H E) (nV st) t∧t {nx:=fun _ H'=>Q .aD H',rt:=Q} (start N vs) H):aC P w K mg base (dP P w) (k+1) f fd ps sp:=by
 obtain ⟨oc,od,kV,doc,pm,an,cdv,ct,osl,rfl,lk,hcd⟩:=F.ex
 exact Em lk hcd S len fun A outer s H vs Q E hr hsp=>hbody cdv A outer s H vs Q E hr hsp
end L2
namespace L2
open PySem PySem.Spec PyProof.Rows
def eD (X:Cx) (pins:List (Addr×Obj)) (σ:St) (E:XK) (ev:Value) (s:Shared):Prop:= ∃(x T:Addr) (cls c fl:Value) (n:Nat) (H:Hp),ev= .ref x∧Inv X pins σ H s∧
 (∀b∈ [x,T],X.bB.heap.get? b=none∧b≠X.env.locals∧(∀y c,X.env.cells.lookup y=some c→c≠b)∧(∀p∈X.pn++pins,p.1≠b)∧H b=none)∧rX s.heap x T cls c fl∧ee s.heap H [x,T] n c∧E cls none H
section
variable {X:Cx} {pins:List (Addr×Obj)} {σ:St} {H:Hp} {s s':Shared} {E:XK}
theorem NF (I:Inv X pins σ H s) (hex:X.ex= []) {e:Value} (h:dP X.prog X.w X.stack H s E e s'):eD X pins σ E e s':=by
 obtain ⟨x,T,cls,c,n,H',rfl,hos,hbare,un,ax,⟨hx0,hT0,hxn,hTn⟩,⟨ht,hq⟩,he⟩:=h
 have I1:Inv X pins σ H' s':=I.yk (ch:= []) hos un ax hbare (fun b hb=>absurd hb (by simp))
 obtain ⟨z1,z2,z3,z4⟩:=I.apart hex hx0
 obtain ⟨y1,y2,y3,y4⟩:=I.apart hex hT0
 exact ⟨x,T,cls,c, .none,n,H',rfl,I1,rA ⟨z1,z2,z3,z4,hxn⟩ ⟨y1,y2,y3,y4,hTn⟩,ht,hq,he⟩
theorem Ax {x T:Addr} {cls c fl:Value} {n:Nat} {l:List Env} {h2:Heap} (hex:X.ex= []) (I:Inv X pins σ H s) (ap: ∀b∈ [x,T],X.bB.heap.get? b=none∧b≠X.env.locals∧(∀y c,X.env.cells.lookup y=some c→c≠b)∧(∀p∈X.pn++pins,p.1≠b)∧H b=none) (hq:ee s.heap H [x,T] n c) (he:E cls none H)
  (o:gM (PySem.W.hideAll s.heap (x::T::br X.stack)) l x cls c fl h2) (up:s.heap.UpToSlots h2):eD X pins σ E (.ref x) {s with heap:=h2}:=by
 obtain ⟨k1,k2,k3,oe',vs',T',oT',ts',t1,t2,t3,t4,t5,t6,t7,t8,t9⟩:=o
 have hent:=A9 I up t5 t6 t7 t8
 have apx:=ap x (by simp)
 have apT:=ap T (by simp)
 have apT':X.bB.heap.get? T'=none∧T'≠X.env.locals∧(∀y c,X.env.cells.lookup y=some c→c≠T')∧(∀p∈X.pn++pins,p.1≠T')∧H T'=none:=by
  rcases id hent with q|rfl
  ·obtain ⟨z1,z2,z3,z4⟩:=I.apart hex q
   exact ⟨z1,z2,z3,z4,rq I.ax q⟩
  ·exact apT
 have Im:Inv X pins σ H {s with heap:=h2}:=I.moved [x,T] (rA apx apT) (yN k1) (fun b o q hm=>(yB I up b o q hm).2)
 exact ⟨x,T',cls,c,fl,n,H,rfl,Im,rA apx apT',⟨oe',vs',oT',ts',t1,t2,t3,t4,t6,t7,t8,t9⟩,y9 I k1 hent hq,he⟩
theorem Ea {M:Model} {Ee:Value→Shared→Prop} {Q:Unit→Shared→Prop} {A:Around} {ev:Value} (hex:X.ex= []) (hst:X.stack=X.env::X.outer) (hfr:X.env.frame=some X.env.locals) (hA:A.frames=X.A.frames) (h:eD X pins σ E ev s) (k: ∀s3,eD X pins σ E ev s3→Q () s3):
  wpAny M A (noteFrame ev X.env) Q Ee s:=by
 obtain ⟨x,T,cls,c,fl,n,H,rfl,I,ap,ht,hq,he⟩:=h
 exact z6 (by rw[hA,I.ok.frames,hst]) hfr (by rw[←hst];exact vm I ht) fun h1 hh up=>k _ (Ax hex I ap hq he hh up)
theorem we {M:Model} {Ee:Value→Shared→Prop} {Q:Unit→Shared→Prop} {A:Around} {ev:Value} {fo:Option Addr} (hex:X.ex= []) (h:eD X pins σ E ev s) (k: ∀s3,eD X pins σ E ev s3→Q () s3):wpAny M A (setFlight ev fo) Q Ee s:=by
 obtain ⟨x,T,cls,c,fl,n,H,rfl,I,ap,ht,hq,he⟩:=h
 exact vY (vm I ht) fun h2 o up=>k _ (Ax hex I ap hq he o up)
theorem Mo {M:Model} {Q:Value→Shared→Prop} {A:Around} {ev:Value} (hex:X.ex= []) (h:eD X pins σ E ev s) (k: ∀s3,eD X pins σ E ev s3→Q ev s3):cameBackBy M A X.env Q ev s:=by
 obtain ⟨x,T,cls,c,fl,n,H,rfl,I,ap,ht,hq,he⟩:=id h
 obtain ⟨oe,vs,oT,ts,g1,g2,g3,g4,_⟩:=ht
 unfold cameBackBy
 refine wpAny_bind (wpAny_field g1 g3 g4 ?_)
 rw[if_neg (by simp)]
 exact we hex h k
end
theorem S5 {M:Model} {A:Around} {E:Value→Shared→Prop} {h:Heap} {g:Array GenState} {d:Drawn} {t:Nat} {os:OsState} {e C C2:Addr} {oe:Obj} {Q:Bool→Shared→Prop}
  {nm q:Str} {N:Addr} {bs bm:List Value} {hdct:Bool} {sn:List Str} {sub:List Value} {ab:Bool} {col:Option Bool} {dd:Option Addr} {k0 k1 k2 k3 k5:Option Value} {newId:String}
  {nm' q':Str} {N':Addr} {bs' bm':List Value} {hdct':Bool} {sn':List Str} {sub':List Value} {ab':Bool} {col':Option Bool} {dd':Option Addr} {j0 j1 j2 j3 j5:Option Value} {newId':String}
  (hC:h.get? C=some (excClassObj nm q C N bs bm hdct sn sub ab col dd k0 k1 k2 k3 k5 newId)) (hC2:h.get? C2=some (excClassObj nm' q' C2 N' bs' bm' hdct' sn' sub' ab' col' dd' j0 j1 j2 j3 j5 newId')) (he:h.get? e=some oe) (hcls:oe.cls= .ref C) (hbase:bm'.contains (.type "BaseException")=true)
  (hq:Q ((Value.ref C::bm).contains (.ref C2)) ⟨h,g,d,t,os⟩):wpAny M A (excMatches (.ref e) (.ref C2)) Q E ⟨h,g,d,t,os⟩:=by
 have hcB:(Value.ref C2::bm').contains (.type "BaseException")=true:=by rw[List.contains_cons,hbase,Bool.or_true]
 have f:=tc_notTuple
 unfold excMatches
 repeat (first|(with_reducible refine wpAny_loadPart_at he ?_;rw[hcls])|with_reducible refine wpAny_loadPart_at hC2 ?_|(with_reducible refine wpAny_isSubtype_exc hC2 ?_;rw[hcB])|with_reducible refine wpAny_isSubtype_exc hC ?_|wp_step)
 cases hb:(Value.ref C::bm).contains (.ref C2)<;>(rw[hb] at hq;wp_walk;exact hq)
def yP (K:PySem.W.Frag) (C:Addr):Bool:=match K.lookup C with
 |some ⟨_,_, .cls cd,_⟩=>cd.mro== .ref C::kq
 |_=>false
theorem FT {K:PySem.W.Frag} {h:Heap} {C:Addr} (X:K.In h) (hb:yP K C=true) {nm q:Str} {N:Addr} {bs bm:List Value} {hdct:Bool} {sn:List Str} {sub:List Value} {ab:Bool} {col:Option Bool} {dd:Option Addr} {k0 k1 k2 k3 k5:Option Value} {newId:String}
  (hC:h.get? C=some (excClassObj nm q C N bs bm hdct sn sub ab col dd k0 k1 k2 k3 k5 newId)):bm=kq:=by
 unfold yP at hb
 split at hb
 ·rename_i ho
  have:=X _ _ ho
  rw[hC] at this
  cases this
  have z:=beq_iff_eq.mp hb
  cases z
  rfl
 ·cases hb
structure Own (K:PySem.W.Frag) (C:Addr):Prop where
 exc:kN K C
 base:yP K C=true
inductive kJ:List (Addr×Obj)→Nat→Value→Prop
 |nil:kJ [] 0 .none
 |cons {a:Addr} {o:Obj} {vs:Array Value} {c:Value} {n:Nat} {ps:List (Addr×Obj)}:o.data= .fields vs→vs[2]?=some c→kJ ps n c→kJ ((a,o)::ps) (n+1) (.ref a)
theorem ee.pins {h:Heap} {H:Hp} {av:List Addr} {n:Nat} {c:Value} (x:ee h H av n c): ∃ps,kJ ps n c∧ ∀p∈ps,h.get? p.1=some p.2∧H p.1=none∧ ∃vs,p.2.data= .fields vs:=by
 induction x with
 |nil=>exact ⟨[], .nil,fun p hp=>absurd hp (by simp)⟩
 | @cons n a o vs c h1 h2 h3 h4 h5 _ ih=>
  obtain ⟨ps,k1,k2⟩:=ih
  refine ⟨(a,o)::ps, .cons h2 h3 k1,fun p hp=>?_⟩
  rcases List.mem_cons.mp hp with rfl|hp
  ·exact ⟨h1,h4,vs,h2⟩
  ·exact k2 p hp
abbrev Cx.fC (X:Cx) (x:Addr) (ps:List (Addr×Obj)):Cx:={X with A:=X.A.mark (some (.ref x)),calm:=false,pn:=X.pn++ps,xe:=notedBy (model X.prog X.w) (X.A.mark (some (.ref x))) X.env (cameBackBy (model X.prog X.w) X.A X.env X.xe)}
section
variable {X:Cx} {pins ps:List (Addr×Obj)} {σ:St} {H:Hp} {s:Shared} {x:Addr} {E:XK}
theorem Cx.Ok.fC (ok:X.Ok) (x:Addr) (ps:List (Addr×Obj)):(X.fC x ps).Ok:=⟨ok.mod,ok.kind,ok.glob,ok.blt,ok.above,ok.inj,ok.has,ok.jz,(fun z=>nomatch z),ok.frames,ok.kO,ok.kF,ok.bs,ok.gn,ok.fB,ok.kc,ok.eQ,ok.iu⟩
theorem Inv.fC (I:Inv X pins σ H s) (x:Addr) (hp: ∀p∈ps,s.heap.get? p.1=some p.2∧H p.1=none∧ ∃vs,p.2.data= .fields vs):Inv (X.fC x ps) pins σ H s:=by
 refine ⟨I.ok.fC x ps,I.os,I.bare,I.base,I.loc,I.cell,I.free,I.dZ,fun p hm=>?_,I.ax,I.len⟩
 rcases List.mem_append.mp hm with hm|hm
 ·rcases List.mem_append.mp hm with hm|hm
  ·exact I.pin p (List.mem_append_left _ hm)
  ·obtain ⟨g1,g2,vs,g3⟩:=hp p hm
   refine ⟨g1,g2,fun z=>?_,fun z=>?_,fun v q=>by rw[g3] at q;cases q⟩
   ·obtain ⟨m,⟨o,es,ep,ho,hd,_⟩,_⟩:=I.loc
    rw[←z,g1] at ho;cases ho;rw[g3] at hd;cases hd
   ·obtain ⟨_,o,ho,nf⟩:=I.eQ.mem z
    rw[g1] at ho;cases ho;exact nf vs g3
 ·exact I.pin p (List.mem_append_right _ hm)
theorem Inv.kI (ok:X.Ok) (I:Inv (X.fC x ps) pins σ H s):Inv X pins σ H s:=⟨ok,I.os,I.bare,I.base,I.loc,I.cell,I.free,I.dZ,fun p hm=>I.pin p (by
 rcases List.mem_append.mp hm with hm|hm
 ·exact List.mem_append_left _ (List.mem_append_left _ hm)
 ·exact List.mem_append_right _ hm),I.ax,I.len⟩
theorem SP.kI (ok:X.Ok) {D:Ends} {f:Flow} {s':Shared} (h:SP (X.fC x ps) pins D f s'):SP X pins D f s':=by
 cases f with
 |next=>obtain ⟨σ',H',I,q⟩:=h;exact ⟨σ',H',I.kI ok,q⟩
 |brk=>obtain ⟨σ',H',I,q⟩:=h;exact ⟨σ',H',I.kI ok,q⟩
 |cont=>obtain ⟨σ',H',I,q⟩:=h;exact ⟨σ',H',I.kI ok,q⟩
 |ret u=>obtain ⟨v,σ',H',I,r,q⟩:=h;exact ⟨v,σ',H',I.kI ok,r,q⟩
theorem clause {C:Addr} {y:Str} {np pos:Pos} {b0:Stmt} {suite:List Stmt} {rest:List ExceptHandler} {t:TS} {D:Ends} {ev:Value} (hex:X.ex= []) (hC:Own X.K C) (hg:Gl X y) (hm:X.mg y=some (.ref C)) (hsu: ∀x ps n,kJ ps n (.ref x)→dS (X.fC x ps) (b0::suite) t)
  (own: ∀cls d H,E cls d H→ ∃C',cls= .ref C'∧Own X.K C') (hit: ∀d H,E (.ref C) d H→t D σ H) (h:eD X pins σ E ev s)
  (miss: ∀s3,eD X pins σ (fun cls d H=>E cls d H∧cls≠ .ref C) ev s3→wpAny (model X.prog X.w) X.A (handleBy ev X.env rest) (SP X pins D) X.xe s3) (hd:(y==("__debug__" :Str))=false:=by decide):
  wpAny (model X.prog X.w) X.A (handleBy ev X.env (.ExceptHandler (some (.Name y np)) none (b0::suite) pos::rest)) (SP X pins D) X.xe s:=by
 obtain ⟨x,T,cls,c,fl,n,H,rfl,I,ap,ht,hq,he⟩:=id h
 refine wpAny_handleBy_cons (codeAny_handlers_test (kf (X:=X.fC x []) (I.fC x fun p hp=>absurd hp (by simp)) hg hm ?_ hd)) (by intro q;cases q)
 obtain ⟨C',rfl,oC⟩:=own _ _ _ he
 obtain ⟨bm,N,nm,qn,bs,hdct,sn,sub,ab,col,dd,k0,k1,k2,k3,k5,mN,g1,g2,g3,g4⟩:=oC.exc.obj I.cI
 obtain ⟨bm',N',nm',qn',bs',hdct',sn',sub',ab',col',dd',j0,j1,j2,j3,j5,mN',g1',g2',g3',g4'⟩:=hC.exc.obj I.cI
 obtain rfl:=FT I.cI oC.base g1
 obtain rfl:=FT I.cI hC.base g1'
 obtain ⟨oe,vs,oT,ts,e1,e2,_⟩:=id ht
 obtain ⟨hh,g,d,tk,os⟩:=s
 refine S5 g1 g1' e1 e2.1 (by decide) ?_
 by_cases hc:C'=C
 ·subst hc
  have:(Value.ref C'::kq).contains (.ref C')=true:=by simp
  rw[this]
  have h0:eD X pins σ (fun cls d H=>E cls d H∧cls= .ref C') (.ref x) ⟨hh,g,d,tk,os⟩:=⟨x,T,_,c,fl,n,H,rfl,I,ap,ht,hq,he,rfl⟩
  refine codeAny_handlers_suite (we hex h0 fun s3 h3=>?_)
  obtain ⟨x3,T3,cls3,c3,fl3,n3,H3,q3,I3,ap3,ht3,hq3,he3,rfl⟩:=h3
  cases q3
  obtain ⟨oe3,vs3,_,_,z1,z2,z3,_⟩:=ht3
  have ch:ee s3.heap H3 [] (n3+1) (.ref x):= .cons z1 z3 z2.2 (ap3 x (by simp)).2.2.2.2 (by simp) (hq3.move fun a o vs q1 _ q3 _=>⟨q1,q3,by simp⟩)
  obtain ⟨ps,p1,p2⟩:=ch.pins
  exact wpAny_mono (hsu x ps _ p1 pins s3 σ H3 D (I3.fC x p2) (hit _ _ he3)) (fun f s' q=>q.kI I.ok) (fun _ _ z=>z)
 ·have:(Value.ref C'::kq).contains (.ref C)=false:=by
   have e:(Value.ref C==Value.ref C')=false:=by simp;exact fun z=>hc z.symm
   rw[List.contains_cons,e];rfl
  rw[this]
  exact miss _ ⟨x,T,_,c,fl,n,H,rfl,I,ap,ht,hq,he,fun z=>hc (by cases z;rfl)⟩
def c1 (C:Addr) (u:TS):Ends→St→XK:=fun D σ cls _ H=>cls= .ref C∧u D σ H
abbrev Cx.tr (X:Cx) (pn:List (Addr×Obj)) (xe:Value→Shared→Prop):Cx:={X with pn:=pn,xe:=xe}
def rN (X:Cx) (E:St→XK):Prop:= ∀(pins:List (Addr×Obj)) (σ:St) (H:Hp) (s:Shared) (e:Value) (s':Shared),Inv X pins σ H s→dP X.prog X.w X.stack H s (E σ) e s'→X.xe e s'
def SO (tb:(St→XK)→TS) (cl:Ends→St→XK):TS:=fun D σ H=>tb (cl D) D σ H
theorem Inv.tr {xe:Value→Shared→Prop} (I:Inv X pins σ H s):Inv (X.tr (X.pn++pins) xe) [] σ H s:=
 ⟨⟨I.ok.mod,I.ok.kind,I.ok.glob,I.ok.blt,I.ok.above,I.ok.inj,I.ok.has,I.ok.jz,I.ok.hd,I.ok.frames,I.ok.kO,I.ok.kF,I.ok.bs,I.ok.gn,I.ok.fB,I.ok.kc,I.ok.eQ,I.ok.iu⟩,I.os,I.bare,I.base,I.loc,I.cell,I.free,I.dZ,fun p hp=>I.pin p (by rw[List.append_nil] at hp;exact hp),I.ax,I.len⟩
theorem Inv.jP {xe:Value→Shared→Prop} {pins':List (Addr×Obj)} (ok:X.Ok) (I:Inv (X.tr (X.pn++pins) xe) pins' σ H s):Inv X pins σ H s:=⟨ok,I.os,I.bare,I.base,I.loc,I.cell,I.free,I.dZ,fun p hp=>I.pin p (List.mem_append_left _ hp),I.ax,I.len⟩
theorem SP.jP {xe:Value→Shared→Prop} {pins':List (Addr×Obj)} (ok:X.Ok) {D:Ends} {f:Flow} {s':Shared} (h:SP (X.tr (X.pn++pins) xe) pins' D f s'):SP X pins D f s':=by
 cases f with
 |next=>obtain ⟨σ',H',I,q⟩:=h;exact ⟨σ',H',I.jP ok,q⟩
 |brk=>obtain ⟨σ',H',I,q⟩:=h;exact ⟨σ',H',I.jP ok,q⟩
 |cont=>obtain ⟨σ',H',I,q⟩:=h;exact ⟨σ',H',I.jP ok,q⟩
 |ret u=>obtain ⟨v,σ',H',I,r,q⟩:=h;exact ⟨v,σ',H',I.jP ok,r,q⟩
theorem Si {tb:(St→XK)→TS} {cl:Ends→St→XK} {body:List Stmt} {h0:ExceptHandler} {hs:List ExceptHandler} {pos:Pos} (hex:X.ex= []) (hst:X.stack=X.env::X.outer) (hfr:X.env.frame=some X.env.locals)
  (hb: ∀(E:St→XK) (pn:List (Addr×Obj)) (xe:Value→Shared→Prop),rN (X.tr pn xe) E→PassesOwn (model X.prog X.w) X.A X.env xe→dS (X.tr pn xe) body (tb E))
  (hh: ∀(pins:List (Addr×Obj)) (σ:St) (D:Ends) (ev:Value) (s3:Shared),eD X pins σ (cl D σ) ev s3→wpAny (model X.prog X.w) X.A (handleBy ev X.env (h0::hs)) (SP X pins D) X.xe s3):
  PS X (.Try body (h0::hs) [] [] pos) (SO tb cl):=by
 intro pins s σ H D I h
 have hp:rN (X.tr (X.pn++pins) fun ev s=> ∃σ',eD X pins σ' (cl D σ') ev s) (cl D):=fun pins' σ' H' s1 e s' I' q=>⟨σ',NF (I'.jP I.ok) hex q⟩
 have ho:PassesOwn (model X.prog X.w) X.A X.env fun ev s=> ∃σ',eD X pins σ' (cl D σ') ev s:=fun ev s1 ⟨σ',q⟩=>Ea hex hst hfr rfl q fun s2 q2=>Mo hex q2 fun s3 q3=>⟨σ',q3⟩
 refine wpAny_Try_except (wpAny_mono (hb (cl D) _ _ hp ho [] s σ H D I.tr h) (fun f s1 q=>?_) fun ev s1 ⟨σ',q⟩=>Ea hex hst hfr rfl q fun s2 q2=>we hex q2 fun s3 q3=>hh pins σ' D ev s3 q3)
 have q:=q.jP I.ok
 cases f with
 |next=>exact wpAny_execs_nil q
 |brk=>exact q
 |cont=>exact q
 |ret u=>exact q
theorem OD {C:Addr} {y:Str} {np pos:Pos} {b0:Stmt} {suite:List Stmt} {u:TS} (hex:X.ex= []) (hC:Own X.K C) (hg:Gl X y) (hm:X.mg y=some (.ref C)) (hsu: ∀x ps n,kJ ps n (.ref x)→dS (X.fC x ps) (b0::suite) u) (hd:(y==("__debug__" :Str))=false:=by decide):
  ∀(pins:List (Addr×Obj)) (σ:St) (D:Ends) (ev:Value) (s3:Shared),eD X pins σ (c1 C u D σ) ev s3→wpAny (model X.prog X.w) X.A (handleBy ev X.env [.ExceptHandler (some (.Name y np)) none (b0::suite) pos]) (SP X pins D) X.xe s3:=fun pins σ D ev s3 h=>by
 refine clause (t:=u) hex hC hg hm hsu (fun cls d H ⟨z,_⟩=>⟨C,z,hC⟩) (fun d H ⟨_,z⟩=>z) h (fun s3 h3=>?_) hd
 obtain ⟨_,_,_,_,_,_,_,_,_,_,_,_,⟨z,_⟩,n⟩:=h3
 exact absurd z n
end
section
variable {X:Cx} {k:Nat} {f:Addr} {fd:FuncData} {ps:List Str} {sp:Sp} {dvs:List V} {ds:List Value} {E:St→XK} {x:Str} {p pos:Pos} {e:Expr} {es:List Expr} {t:TA}
def OK (sp:Sp) (dvs:List V) (E:St→XK) (t:TA):TE:=fun σ H Q=>t σ H fun vs H1=>sp (vs++dvs) H1 Q (E σ)
theorem N8 {pins:List (Addr×Obj)} {σ:St} {H:Hp} {s:Shared} {Q:VK} {us:List Value} {vs:List V} (F:aC X.prog X.w X.K X.mg X.base (dP X.prog X.w) k f fd ps sp) (hr:aR k X.A) (hb:Binds X.K fd ps ds) (hd:Vals dvs ds) (hx:rN X E)
  (I:Inv X pins σ H s) (r:Vals vs us) (h:sp (vs++dvs) H Q (E σ)):wpAny (model X.prog X.w) X.A (call (.ref f) us) (EP X pins σ Q) X.xe s:=by
 have r2:Vals (vs++dvs) (us++ds):=r.append hd
 have hl:(us++ds).length=ps.length:=by rw[←r2.length];exact F.len _ _ _ _ h
 refine wpAny_call (codeAny_mono (F.run X.A X.stack s H ⟨us, []⟩ (us++ds) (vs++dvs) Q (E σ) hr I.vM (hb s us I.cI hl) r2 h) fun r s' hq=>?_)
 cases r with
 |error e=>exact hx pins σ H s e s' I hq
 |ok fl=>
  cases fl with
  |ret u=>exact I.after hq
  |next=>exact False.elim hq
  |brk=>exact False.elim hq
  |cont=>exact False.elim hq
theorem Ss (F:aC X.prog X.w X.K X.mg X.base (dP X.prog X.w) k f fd ps sp) (hr:aR k X.A) (hg:Gl X x) (hm:X.mg x=some (.ref f)) (hk:PySem.W.keepIn X.K (.ref f)=true) (hb:Binds X.K fd ps ds) (hd:Vals dvs ds) (hx:rN X E)
  (ha:PA X (e::es) t) (hdb:(x==("__debug__" :Str))=false:=by decide) (he:starEach (e::es) X.env=(false,eval e X.env)::starEach es X.env:=by rfl) (hpl:(backTo pos (starEach es X.env)).any (·.1)=false:=by rfl):
  PE X (.Call (.Name x p) (e::es) [] pos) (OK sp dvs E t):=by
 intro pins s σ H Q I h
 refine wpAny_Call_Name_kw (kf I hg hm ?_ hdb)
 refine PySem.W.callWith_K (h₀:=X.base) I.ok.mod.kC hk (aH (ha pos pins s σ H _ I h) fun us s1 ⟨vs,H1,I1,r,q⟩=>⟨I1.cI,?_⟩) he hpl
 exact N8 F hr hb hd hx I1 r q
end
end L2
namespace L2
open PySem PySem.Spec PyProof.Rows
section
variable {X:Cx}
def S2 (K:PySem.W.Frag):R2:=fun x y H Q=> ∃l b xs zs,x= .ref l∧y= .ref b∧ae K H l xs∧ae K H b zs∧xs.length+zs.length≤sizeLine∧ ∀p,H p=none→Q (.ref p) (upd H p (.lst (xs++zs)))
theorem dW:bq X (binaryOp .Add) (S2 X.K):=by
 intro pins s σ H x y v u Q I rx ry h
 obtain ⟨l,b,xs,zs,rfl,rfl,hl,hb,hz,q⟩:=h
 cases rx
 cases ry
 obtain ⟨its,r1,⟨⟨c1,d1,a1,s1⟩,n1,e1,k1,_,t1⟩,_⟩:=I.list hl
 obtain ⟨its2,r2,⟨⟨c2,d2,a2,s2⟩,n2,e2,k2,_,t2⟩,_⟩:=I.list hb
 simp only at k1 t1 k2 t2
 subst k1 t1 k2 t2
 have ez:its.toArray.size+its2.toArray.size≤sizeLine:=by rw[List.size_toArray,List.size_toArray,←r1.length,←r2.length];exact hz
 refine concat_meets ⟨_,e1,rfl⟩ ⟨_,e2,rfl⟩ noFill_list_add seq_list_add PySem.F.slot_list_add PySem.F.entry_list_add (PySem.F.args_list_add_2 _ _) (list_addW l b its.toArray its2.toArray n1 n2 d1 d2 s1 s2 ez) ⟨e1,e2,?_⟩
 have ea:its.toArray++its2.toArray=(its++its2).toArray:=by simp
 rw[ea]
 exact ⟨.ref _,_,I.vx (t':=s.toks) (r1.append r2) (by rw[List.length_append];omega),rfl,q _ I.fresh⟩
end
end L2
set_option maxHeartbeats 2000000
namespace L2
open PySem PySem.Spec PyProof.Rows
theorem yJ {K:PySem.W.Frag} {H:Hp}: ∀xs:List Int,jD K H (xs.map V.int) (xs.map PyData.int)
 | []=> .nil
 |x::xs=> .cons (.int x) (yJ xs)
theorem lay_ints: ∀xs:List Int,PyData.canLayAll0 (xs.map PyData.int)=true
 | []=>rfl
 |x::xs=>by
  rw[List.map_cons,PyData.canLayAll0,lay_ints xs];rfl
theorem DM: ∀xs:List Int,PyData.depthAll (xs.map PyData.int)≤1
 | []=>by simp [PyData.depthAll]
 |x::xs=>by
  have:=DM xs
  rw[List.map_cons,PyData.depthAll]
  simp only [PyData.depth]
  omega
theorem shaped_ints (xs:List Int):SeqAt.shaped (.list (xs.map PyData.int))=true:=by
 unfold SeqAt.shaped
 rw[Bool.and_eq_true]
 refine ⟨by rw[PyData.canLay0];exact lay_ints xs,decide_eq_true ?_⟩
 have:=DM xs
 rw[PyData.depth]
 omega
theorem Ge: ∀xs ys:List Int,PyData.eqvAll (xs.map PyData.int) (ys.map PyData.int)=decide (xs=ys)
 | [], []=>by simp [PyData.eqvAll]
 | [],_::_=>by simp [PyData.eqvAll]
 |_::_, []=>by simp [PyData.eqvAll]
 |x::xs,y::ys=>by
  rw[List.map_cons,List.map_cons,PyData.eqvAll,Ge xs ys,PyData.eqv]
  by_cases h:x=y
  ·by_cases h2:xs=ys
   ·simp [h,h2]
   ·simp [h,h2]
  ·simp [h]
section
variable {X:Cx}
def Fu (K:PySem.W.Frag):R2:=fun x y H Q=> ∃a b,∃xs ys:List Int,x= .ref a∧y= .ref b∧ae K H a (xs.map V.int)∧ae K H b (ys.map V.int)∧Q (.bl (decide (xs=ys))) H
theorem KS (hu:X.A.units+64<cLine):bq X (compareOp .Eq) (Fu X.K):=by
 intro pins s σ H x y v u Q I rx ry h
 obtain ⟨a,b,xs,ys,rfl,rfl,ha,hb,q⟩:=h
 refine RA hu pins s σ H _ _ v u Q I rx ry ⟨.list (xs.map PyData.int), .list (ys.map PyData.int), .lst ha (yJ xs), .lst hb (yJ ys),shaped_ints xs,shaped_ints ys,?_⟩
 rw[PyData.eqv,Ge]
 exact q
theorem PX {K:PySem.W.Frag} (h:X.K=K) (hu:X.A.units+64<cLine):bq X (compareOp .Eq) (Fu K):=by subst h;exact KS hu
end
end L2
namespace L2
open PySem PySem.Spec PyProof.Rows
theorem aE {K:PySem.W.Frag} {i:Nat} {f:Str} {σ:L2.St} {H:Hp} {Q:V→Prop} {p C dx:Addr} {fs:List (Str×V)} {v:V} (e:σ[i]?=some (some (.ref p))) (h:H p=some (.ins C dx fs)) (c:cD K C) (n:a9 K C f) (l:fs.lookup f=some v) (q:Q v): ∃w,σ[i]?=some (some w)∧ ∃a C' dx' fs' v',w= .ref a∧H a=some (.ins C' dx' fs')∧cD K C'∧a9 K C' f∧fs'.lookup f=some v'∧Q v':=⟨_,e,p,C,dx,fs,v,rfl,h,c,n,l,q⟩
theorem bA {i:Nat} {m:Str} {σ:L2.St} {H:Hp} {Q:V→Prop} {p C dx:Addr} {fs:List (Str×V)} (e:σ[i]?=some (some (.ref p))) (h:H p=some (.ins C dx fs)) (l:fs.lookup m=none) (q:Q (.ref p)): ∃w,σ[i]?=some (some w)∧ ∃a dx' fs',w= .ref a∧H a=some (.ins C dx' fs')∧fs'.lookup m=none∧Q w:=⟨_,e,p,dx,fs,rfl,h,l,q⟩
theorem af {T0 T1:Sort _} {P:T0→T1→Prop} (a:T0) (b:T1) (hh:P a b): ∃a b,P a b:=⟨a,b,hh⟩
theorem b8 {T0 T1 T2:Sort _} {P:T0→T1→T2→Prop} (a:T0) (b:T1) (c:T2) (hh:P a b c): ∃a b c,P a b c:=⟨a,b,c,hh⟩
theorem az {T0 T1 T2 T3:Sort _} {P:T0→T1→T2→T3→Prop} (a:T0) (b:T1) (c:T2) (d:T3) (hh:P a b c d): ∃a b c d,P a b c d:=⟨a,b,c,d,hh⟩
theorem fT {T0 T1 T2 T3 T4:Sort _} {P:T0→T1→T2→T3→T4→Prop} (a:T0) (b:T1) (c:T2) (d:T3) (e:T4) (hh:P a b c d e): ∃a b c d e,P a b c d e:=⟨a,b,c,d,e,hh⟩
theorem uO {T0 T1 T2 T3 T4 T5:Sort _} {P:T0→T1→T2→T3→T4→T5→Prop} (a:T0) (b:T1) (c:T2) (d:T3) (e:T4) (f:T5) (hh:P a b c d e f): ∃a b c d e f,P a b c d e f:=⟨a,b,c,d,e,f,hh⟩
theorem qi {T0 T1 T2 T3 T4 T5 T6:Sort _} {P:T0→T1→T2→T3→T4→T5→T6→Prop} (a:T0) (b:T1) (c:T2) (d:T3) (e:T4) (f:T5) (g:T6) (hh:P a b c d e f g): ∃a b c d e f g,P a b c d e f g:=⟨a,b,c,d,e,f,g,hh⟩
theorem gi {T0 T1 T2 T3 T4 T5 T6 T7:Sort _} {P:T0→T1→T2→T3→T4→T5→T6→T7→Prop} (a:T0) (b:T1) (c:T2) (d:T3) (e:T4) (f:T5) (g:T6) (h:T7) (hh:P a b c d e f g h): ∃a b c d e f g h,P a b c d e f g h:=⟨a,b,c,d,e,f,g,h,hh⟩
theorem Cp {T0 T1 T2 T3 T4 T5 T6 T7 T8:Sort _} {P:T0→T1→T2→T3→T4→T5→T6→T7→T8→Prop} (a:T0) (b:T1) (c:T2) (d:T3) (e:T4) (f:T5) (g:T6) (h:T7) (i:T8) (hh:P a b c d e f g h i): ∃a b c d e f g h i,P a b c d e f g h i:=⟨a,b,c,d,e,f,g,h,i,hh⟩
end L2
namespace Wg
def aU (c n:Nat):List Nat:=(List.range c).map fun i=>n/256^(c-1-i)%256
theorem M8 (c n:Nat):(Sound.high c n).map UInt8.toNat=aU c n:=by
 unfold Sound.high aU
 rw[List.map_map]
 refine List.map_congr_left fun i _=>?_
 simp [UInt8.toNat_ofNat']
def dX (l:List Nat):Nat:=l.foldl (fun n c=>256*n+c) 0
theorem uU (b:Sound.Bytes):Sound.fromHigh b=dX (b.map UInt8.toNat):=by
 unfold Sound.fromHigh dX
 rw[List.foldl_map]
def eS (d:Nat):Nat:=if d%2=1 then (d/2)^^^0xEDB88320 else d/2
def ki:List Nat:= [0,498536548,997073096,651767980,1994146192,1802195444,1303535960,1342533948,3988292384,4027552580,3604390888,3412177804,2607071920,2262029012,2685067896,3183342108]
def ox (c:Nat):Nat:=(c/16)^^^ki.getD (c%16) 0
def sG (c b:Nat):Nat:=ox (ox (c^^^b))
def kK (l:List Nat):Nat:=(l.foldl sG 0xFFFFFFFF)^^^0xFFFFFFFF
theorem La (a b:Nat):(a^^^b)/2=a/2^^^b/2:=by
 have:=Nat.shiftRight_xor_distrib (a:=a) (b:=b) (i:=1)
 simpa [Nat.shiftRight_eq_div_pow] using this
theorem Ka (a b:Nat):eS (a^^^b)=eS a^^^eS b:=by
 unfold eS
 rw[La]
 have h:(a^^^b)%2=(a%2+b%2)%2:=by
  have h1:=Nat.testBit_xor a b 0
  simp only [Nat.testBit_zero] at h1
  rcases Nat.mod_two_eq_zero_or_one a with ha|ha<;>rcases Nat.mod_two_eq_zero_or_one b with hb|hb<;>rcases Nat.mod_two_eq_zero_or_one (a^^^b) with hc|hc<;>rw[ha,hb,hc] at h1<;>first|(rw[ha,hb,hc];done)|(exact absurd h1 (by decide))
 rcases Nat.mod_two_eq_zero_or_one a with ha|ha<;>rcases Nat.mod_two_eq_zero_or_one b with hb|hb<;>simp only [h,ha,hb]
 ·simp
 ·simp [Nat.xor_assoc]
 ·simp only [Nat.reduceAdd,Nat.reduceMod,if_true]
  rw[if_neg (by decide),Nat.xor_assoc,Nat.xor_assoc,Nat.xor_comm (b/2)]
 ·simp only [Nat.reduceAdd,Nat.reduceMod,if_true]
  rw[if_neg (by decide),Nat.xor_assoc,←Nat.xor_assoc 3988292384,Nat.xor_comm 3988292384,Nat.xor_assoc (b/2),Nat.xor_self,Nat.xor_zero]
theorem LL (d:Nat):d=(16*(d/16))^^^(d%16):=by
 apply Nat.eq_of_testBit_eq
 intro i
 have e:d=2^4*(d/16)+d%16:=by lia
 rw[Nat.testBit_xor,show (16*(d/16))=2^4*(d/16) by lia,Nat.testBit_two_pow_mul]
 conv=>lhs;rw[e,Nat.testBit_two_pow_mul_add _ (by lia)]
 by_cases h:i<4
 ·rw[if_pos h,decide_eq_false (by lia)];simp
 ·rw[if_neg h,decide_eq_true (by lia),show (d%16).testBit i=false from Nat.testBit_lt_two_pow (Nat.lt_of_lt_of_le (Nat.mod_lt d (by decide)) (by rw[show 16=2^4 by decide];exact Nat.pow_le_pow_right (by decide) (by lia)))];simp
theorem OU (q:Nat):eS (2*q)=q:=by unfold eS;rw[if_neg (by lia)];lia
theorem EL (d:Nat):ox d=eS (eS (eS (eS d))):=by
 have h: ∀r:Nat,r<16→eS (eS (eS (eS r)))=ki.getD r 0:=by decide
 conv=>rhs;rw[LL d]
 simp only [Ka]
 rw[h _ (Nat.mod_lt d (by decide)),show 16*(d/16)=2*(2*(2*(2*(d/16)))) by lia]
 simp only [OU]
 rfl
theorem P2 (c:Nat) (x:UInt8):sG c x.toNat=Sound.crc32step c x:=by
 unfold sG
 rw[EL,EL]
 rfl
theorem Gz (b:Sound.Bytes):kK (b.map UInt8.toNat)=Sound.crc32 b:=by
 unfold kK Sound.crc32
 rw[List.foldl_map]
 congr 2
 funext c x
 exact P2 c x
def cH (a:Nat):Nat→Nat
 |0=>a
 |k+1=>Sound.times2 (cH a k)
def ff (k a b:Nat):Nat:=((List.range k).foldl (fun (x:Nat×Nat) (i:Nat)=>(if b.testBit i=true then x.1^^^x.2 else x.1,Sound.times2 x.2)) (0,a)).1
theorem OH (k a b:Nat):((List.range k).foldl (fun (x:Nat×Nat) (i:Nat)=>(if b.testBit i=true then x.1^^^x.2 else x.1,Sound.times2 x.2)) (0,a)).2=cH a k:=by
 induction k with
 |zero=>rfl
 |succ k ih=>rw[List.range_succ,List.foldl_append];simp only [List.foldl_cons,List.foldl_nil,ih];rfl
theorem jv (k a b:Nat):ff (k+1) a b=if b.testBit k=true then ff k a b^^^cH a k else ff k a b:=by
 unfold ff
 rw[List.range_succ,List.foldl_append]
 simp only [List.foldl_cons,List.foldl_nil,OH]
theorem Lk (k a b c:Nat) (h: ∀i,i<k→b.testBit i=c.testBit i):ff k a b=ff k a c:=by
 induction k with
 |zero=>rfl
 |succ k ih=>rw[jv,jv,h k (by lia),ih fun i hi=>h i (by lia)]
def gH (a k:Nat):List Nat:=(List.range (2^k)).map (ff k a)
theorem Ol (a k:Nat):gH a (k+1)=gH a k++(gH a k).map (fun p=>p^^^cH a k):=by
 unfold gH
 rw[show 2^(k+1)=2^k+2^k by rw[Nat.pow_succ];lia,List.range_add,List.map_append,List.map_map,List.map_map]
 congr 1
 ·refine List.map_congr_left fun b hb=>?_
  rw[jv,Nat.testBit_lt_two_pow (List.mem_range.mp hb)]
  simp
 ·refine List.map_congr_left fun b hb=>?_
  have hb:=List.mem_range.mp hb
  show ff (k+1) a (2^k+b)=ff k a b^^^cH a k
  have t: ∀j,(2^k+b).testBit j=if j<k then b.testBit j else (1:Nat).testBit (j-k):=fun j=>by
   have:=Nat.testBit_two_pow_mul_add 1 hb j
   rwa [Nat.mul_one] at this
  rw[jv,t k,if_neg (Nat.lt_irrefl _),Nat.sub_self,if_pos (by decide),Lk k a (2^k+b) b fun i hi=>by rw[t i,if_pos hi]]
theorem Ni {a:Nat} (h:a<256):Sound.times2 a<256:=by
 have: ∀a:Nat,a<256→Sound.times2 a<256:=by decide+kernel
 exact this a h
theorem uX {a:Nat} (h:a<256): ∀k,cH a k<256
 |0=>h
 |k+1=>Ni (uX h k)
theorem xp {a:Nat} (h:a<256) (b:Nat): ∀k,ff k a b<256
 |0=>by show 0<256;decide
 |k+1=>by
  rw[jv]
  split
  ·exact Nat.xor_lt_two_pow (n:=8) (xp h b k) (uX h k)
  ·exact xp h b k
theorem JU {a:Nat} (h:a<256) (b:Nat):Sound.mul a b<256:=xp h b 8
end Wg
namespace Wg
theorem BE (a b c:Nat): ∀k,ff k a (b^^^c)=ff k a b^^^ff k a c
 |0=>by show 0=0^^^0;rfl
 |k+1=>by
  rw[jv,jv,jv,Nat.testBit_xor,BE a b c k]
  cases b.testBit k<;>cases c.testBit k<;>simp
  ·rw[Nat.xor_assoc]
  ·rw[Nat.xor_assoc,Nat.xor_assoc,Nat.xor_comm (cH a k)]
  ·rw[Nat.xor_assoc,←Nat.xor_assoc (cH a k),Nat.xor_comm (cH a k),Nat.xor_assoc (ff k a c),Nat.xor_self,Nat.xor_zero]
theorem yS (a b c:Nat):Sound.mul a (b^^^c)=Sound.mul a b^^^Sound.mul a c:=BE a b c 8
theorem mul_zero (a:Nat):Sound.mul a 0=0:=by
 have:=yS a 0 0
 rw[Nat.xor_self,Nat.xor_self] at this
 exact this
theorem DQ: ∀a:Nat,a<256→a≠0→Sound.inverse a<256∧Sound.mul a (Sound.inverse a)=1∧ ∀i,i<8→Sound.mul (Sound.inverse a) (Sound.mul a (2^i))=2^i:=by decide+kernel
theorem z7 {b k:Nat} (h:b<2^(k+1)):b=(b%2^k)^^^(if b.testBit k=true then 2^k else 0):=by
 apply Nat.eq_of_testBit_eq
 intro i
 rw[Nat.testBit_xor,Nat.testBit_mod_two_pow]
 rcases Nat.lt_trichotomy i k with q|q|q
 ·rw[decide_eq_true q]
  split
  ·rw[Nat.testBit_two_pow,decide_eq_false (by lia)];simp
  ·simp
 ·subst q
  rw[decide_eq_false (Nat.lt_irrefl _)]
  cases e:b.testBit i<;>simp [Nat.testBit_two_pow]
 ·rw[decide_eq_false (by lia),Nat.testBit_lt_two_pow (Nat.lt_of_lt_of_le h (Nat.pow_le_pow_right (by decide) q))]
  split
  ·rw[Nat.testBit_two_pow,decide_eq_false (by lia)];rfl
  ·simp
theorem xg {a:Nat} (ha:a<256) (h0:a≠0): ∀k,k≤8→ ∀b,b<2^k→Sound.mul (Sound.inverse a) (Sound.mul a b)=b
 |0,_,b,hb=>by
  have:b=0:=by simp at hb;exact hb
  rw[this,mul_zero,mul_zero]
 |k+1,hk,b,hb=>by
  conv=>lhs;rw[z7 hb]
  rw[yS,yS,xg ha h0 k (by lia) _ (Nat.mod_lt _ (Nat.two_pow_pos k))]
  conv=>rhs;rw[z7 hb]
  congr 1
  split
  ·exact (DQ a ha h0).2.2 k (by lia)
  ·rw[mul_zero,mul_zero]
theorem K6 {a:Nat} (ha:a<256) (h0:a≠0) {b c:Nat} (hb:b<256) (hc:c<256) (h:Sound.mul a b=Sound.mul a c):b=c:=by
 rw[←xg ha h0 8 (Nat.le_refl _) b hb,←xg ha h0 8 (Nat.le_refl _) c hc,h]
theorem C9 {a:Nat} (ha:a<256) (h0:a≠0):Sound.inverse a<256∧Sound.mul a (Sound.inverse a)=1∧ ∀b,b<Sound.inverse a→Sound.mul a b≠1:=by
 obtain ⟨h1,h2,_⟩:=DQ a ha h0
 refine ⟨h1,h2,fun b hb e=>?_⟩
 have:=K6 ha h0 (by lia) h1 (e.trans h2.symm)
 lia
theorem zT: ∀i:Nat,i<8→ ∀j:Nat,j<4→i^^^(128+j)<256∧i^^^(128+j)≠0:=by decide
end Wg
namespace Wg
def ip:List Int→List Int→Int
 |a::l,b::m=>a*b+ip l m
 |_,_=>0
theorem fu: ∀l m:List Int,ip l m=ip m l
 | [], []=>rfl
 | [],_::_=>rfl
 |_::_, []=>rfl
 |a::l,b::m=>by simp only [ip,fu l m,Int.mul_comm]
def bQ (c d:Int):List Int→List Int→List Int
 |a::l,b::m=>(c*a-d*b)::bQ c d l m
 |_,_=> []
theorem gN (c d:Int): ∀{l m:List Int},l.length=m.length→(bQ c d l m).length=l.length
 | [], [],_=>rfl
 |a::l,b::m,h=>by simp only [bQ,List.length_cons];rw[gN c d (by simpa using h)]
theorem fZ (c d:Int): ∀{l m k:List Int},l.length=m.length→l.length=k.length→ip (bQ c d l m) k=c*ip l k-d*ip m k
 | [], [], [],_,_=>by simp [ip,bQ]
 |a::l,b::m,e::k,h,h'=>by
  simp only [bQ,ip]
  rw[fZ c d (by simpa using h) (by simpa using h')]
  grind
theorem jc: ∀l:List Int,0≤ip l l
 | []=>by simp [ip]
 |a::l=>by
  have h1:=jc l
  have h2:0≤a*a:=by
   rcases Int.le_total 0 a with h|h
   ·exact Int.mul_nonneg h h
   ·exact Int.mul_nonneg_of_nonpos_of_nonpos h h
  simp only [ip];omega
theorem sq_nonneg (a:Int):0≤a*a:=by
 rcases Int.le_total 0 a with h|h
 ·exact Int.mul_nonneg h h
 ·exact Int.mul_nonneg_of_nonpos_of_nonpos h h
theorem jU: ∀{l m:List Int},ip l l=0→ip l m=0
 | [],m,_=>by cases m<;>rfl
 |a::l, [],_=>rfl
 |a::l,b::m,h=>by
  have h1:=jc l
  have h2:=sq_nonneg a
  simp only [ip] at h⊢
  have h3:a*a=0:=by omega
  have h4:ip l l=0:=by omega
  have h5:a=0:=by rcases Int.mul_eq_zero.mp h3 with h|h<;>exact h
  rw[jU h4,h5];omega
section
variable {v1 v2 v3 v4:List Int}
structure jQ (g11 g12 g13 g14 g22 g23 g24 g33 g34 g44:Int):Prop where
 ex: ∃v1 v2 v3 v4:List Int,v1.length=v2.length∧v1.length=v3.length∧v1.length=v4.length∧g11=ip v1 v1∧g12=ip v1 v2∧g13=ip v1 v3∧g14=ip v1 v4∧g22=ip v2 v2∧g23=ip v2 v3∧g24=ip v2 v4∧g33=ip v3 v3∧g34=ip v3 v4∧g44=ip v4 v4
end
section
variable {g11 g12 g13 g14 g22 g23 g24 g33 g34 g44:Int}
theorem zM (G:jQ g11 g12 g13 g14 g22 g23 g24 g33 g34 g44):0≤g11∧(g11=0→g12=0∧g13=0∧g14=0):=by
 obtain ⟨v1,v2,v3,v4,l2,l3,l4,rfl,rfl,rfl,rfl,_⟩:=G.ex
 exact ⟨jc _,fun h=>⟨jU h,jU h,jU h⟩⟩
structure uz (c a22 a23 a24 a33 a34 a44:Int):Prop where
 ex: ∃w2 w3 w4:List Int,w2.length=w3.length∧w2.length=w4.length∧c*a22=ip w2 w2∧c*a23=ip w2 w3∧c*a24=ip w2 w4∧c*a33=ip w3 w3∧c*a34=ip w3 w4∧c*a44=ip w4 w4
theorem wA (G:jQ g11 g12 g13 g14 g22 g23 g24 g33 g34 g44):
  uz g11 (g11*g22-g12*g12) (g11*g23-g12*g13) (g11*g24-g12*g14) (g11*g33-g13*g13) (g11*g34-g13*g14) (g11*g44-g14*g14):=by
 obtain ⟨v1,v2,v3,v4,l2,l3,l4,e1,e2,e3,e4,e5,e6,e7,e8,e9,e10⟩:=G.ex
 have k2:=gN g11 g12 (l:=v2) (m:=v1) l2.symm
 have k3:=gN g11 g13 (l:=v3) (m:=v1) l3.symm
 have k4:=gN g11 g14 (l:=v4) (m:=v1) l4.symm
 have key: ∀(c d:Int) (u z:List Int),v1.length=u.length→v1.length=z.length→c=ip v1 u→d=ip v1 z→ip (bQ g11 c u v1) (bQ g11 d z v1)=g11*(g11*ip u z-c*d):=fun c d u z h1 h2 hc hd=>by
  rw[fZ _ _ h1.symm (by rw[gN _ _ h2.symm];omega),fu u,fu v1,fZ _ _ h2.symm (by omega),fZ _ _ h2.symm (by omega),←e1,fu z u,fu z v1,←hd,←hc]
  grind
 refine ⟨bQ g11 g12 v2 v1,bQ g11 g13 v3 v1,bQ g11 g14 v4 v1,by omega,by omega,?_,?_,?_,?_,?_,?_⟩
 ·rw[key _ _ _ _ l2 l2 e2 e2,e5]
 ·rw[key _ _ _ _ l2 l3 e2 e3,e6]
 ·rw[key _ _ _ _ l2 l4 e2 e4,e7]
 ·rw[key _ _ _ _ l3 l3 e3 e3,e8]
 ·rw[key _ _ _ _ l3 l4 e3 e4,e9]
 ·rw[key _ _ _ _ l4 l4 e4 e4,e10]
theorem wj {c a22 a23 a24 a33 a34 a44:Int} (hc:0<c) (S:uz c a22 a23 a24 a33 a34 a44):0≤a22∧(a22=0→a23=0∧a24=0):=by
 obtain ⟨w2,w3,w4,l3,l4,e1,e2,e3,_⟩:=S.ex
 have h:=jc w2
 refine ⟨?_,fun z=>?_⟩
 ·rw[←e1] at h
  exact Int.le_of_not_gt fun q=>by
   have:=Int.mul_neg_of_pos_of_neg hc q
   omega
 ·rw[z,Int.mul_zero] at e1
  rw[jU e1.symm] at e2 e3
  have hc':c≠0:=by omega
  exact ⟨(Int.mul_eq_zero.mp e2).resolve_left hc',(Int.mul_eq_zero.mp e3).resolve_left hc'⟩
structure BJ (c b33 b34 b44:Int):Prop where
 ex: ∃u3 u4:List Int,u3.length=u4.length∧c*b33=ip u3 u3∧c*b34=ip u3 u4∧c*b44=ip u4 u4
theorem zy {c a22 a23 a24 a33 a34 a44:Int} (S:uz c a22 a23 a24 a33 a34 a44):BJ (c*c*c*a22) (a22*a33-a23*a23) (a22*a34-a23*a24) (a22*a44-a24*a24):=by
 obtain ⟨w2,w3,w4,l3,l4,e1,e2,e3,e4,e5,e6⟩:=S.ex
 have key: ∀(x y:Int) (u z:List Int),w2.length=u.length→w2.length=z.length→x=ip w2 u→y=ip w2 z→ip (bQ (c*a22) x u w2) (bQ (c*a22) y z w2)=c*a22*(c*a22*ip u z-x*y):=fun x y u z h1 h2 hx hy=>by
  rw[fZ _ _ h1.symm (by rw[gN _ _ h2.symm];omega),fu u,fu w2,fZ _ _ h2.symm (by omega),fZ _ _ h2.symm (by omega),←e1,fu z u,fu z w2,←hx,←hy]
  grind
 refine ⟨bQ (c*a22) (c*a23) w3 w2,bQ (c*a22) (c*a24) w4 w2,by rw[gN _ _ l3.symm,gN _ _ l4.symm];omega,?_,?_,?_⟩
 ·rw[key _ _ _ _ l3 l3 e2 e2,←e4];grind
 ·rw[key _ _ _ _ l3 l4 e2 e3,←e5];grind
 ·rw[key _ _ _ _ l4 l4 e3 e3,←e6];grind
theorem Bw {c b33 b34 b44:Int} (hc:0<c) (S:BJ c b33 b34 b44):0≤b33∧(b33=0→b34=0)∧0≤b33*b44-b34*b34:=by
 obtain ⟨u3,u4,l4,e1,e2,e3⟩:=S.ex
 have h:=jc u3
 have hc':c≠0:=by omega
 have pos: ∀{x:Int},0≤c*x→0≤x:=fun {x} hx=>Int.le_of_not_gt fun q=>by
  have:=Int.mul_neg_of_pos_of_neg hc q
  omega
 have h33:0≤b33:=pos (by rw[e1];exact h)
 have z34:b33=0→b34=0:=fun z=>by
  rw[z,Int.mul_zero] at e1
  rw[jU e1.symm] at e2
  exact (Int.mul_eq_zero.mp e2).resolve_left hc'
 refine ⟨h33,z34,?_⟩
 rcases Int.lt_or_eq_of_le h33 with hp|hz
 ·have key:ip (bQ (c*b33) (c*b34) u4 u3) (bQ (c*b33) (c*b34) u4 u3)=c*b33*(c*b33*(c*b44)-c*b34*(c*b34)):=by
   rw[fZ _ _ l4.symm (by rw[gN _ _ l4.symm]),fu u4,fu u3,fZ _ _ l4.symm rfl,fZ _ _ l4.symm (by omega),←e1,←e3,fu u4 u3,←e2]
   grind
  have nn:=jc (bQ (c*b33) (c*b34) u4 u3)
  rw[key] at nn
  have e:c*b33*(c*b33*(c*b44)-c*b34*(c*b34))=(c*c*c*b33)*(b33*b44-b34*b34):=by grind
  rw[e] at nn
  have hq:0<c*c*c*b33:=Int.mul_pos (Int.mul_pos (Int.mul_pos hc hc) hc) hp
  exact Int.le_of_not_gt fun q=>by
   have:=Int.mul_neg_of_pos_of_neg hq q
   omega
 ·rw[←hz,z34 hz.symm];simp
end
end Wg
namespace Wg
open Sound
theorem GH (a:Int):det 1 [[a]]=a:=by simp [det,sumOf,List.range,List.range.loop]
theorem yM (a b c d:Int):det 2 [[a,b],[c,d]]=a*d-b*c:=by simp [det,sumOf,List.range,List.range.loop];grind
theorem gU (a11 a12 a13 a21 a22 a23 a31 a32 a33:Int):det 3 [[a11,a12,a13],[a21,a22,a23],[a31,a32,a33]]=a11*(a22*a33-a23*a32)-a12*(a21*a33-a23*a31)+a13*(a21*a32-a22*a31):=by
 simp [det,sumOf,List.range,List.range.loop];grind
theorem zG (a11 a12 a13 a14 a21 a22 a23 a24 a31 a32 a33 a34 a41 a42 a43 a44:Int):det 4 [[a11,a12,a13,a14],[a21,a22,a23,a24],[a31,a32,a33,a34],[a41,a42,a43,a44]]=
  a11*det 3 [[a22,a23,a24],[a32,a33,a34],[a42,a43,a44]]-a12*det 3 [[a21,a23,a24],[a31,a33,a34],[a41,a43,a44]]+a13*det 3 [[a21,a22,a24],[a31,a32,a34],[a41,a42,a44]]-a14*det 3 [[a21,a22,a23],[a31,a32,a33],[a41,a42,a43]]:=by
 rw[det]
 simp only [List.range_succ,List.map,sumOf,List.foldl,List.eraseIdx,List.getD_cons_zero,List.getD_cons_succ]
 simp
 grind
def cleared (row chosen:List Int) (k:Nat):List Int:=List.zipWith (fun x y=>chosen.getD k 0*x-row.getD k 0*y) row chosen
def cM (rows:List (List Int)) (k:Nat):List (List Int):=rows.zipIdx.map fun x=>if x.2=k then x.1 else cleared x.1 (rows.getD k []) k
def bT:Nat→Nat→List (List Int)→Option (List (List Int))
 |0,_,rows=>some rows
 |m+1,k,rows=>if (rows.getD k []).getD k 0=0 then none else bT m (k+1) (cM rows k)
def solved (rows:List (List Int)):Option (List (List Int)):=bT rows.length 0 rows
def gw (p:Nat) (X:List Int) (D:Int) (row:List Int):Prop:=row.length=p+1∧ip (row.take p) X=D*row.getD p 0
theorem zZ (c d:Int): ∀l m:List Int,List.zipWith (fun x y=>c*x-d*y) l m=bQ c d l m
 | [],_=>by simp [bQ]
 |_::_, []=>by simp [bQ]
 |a::l,b::m=>by rw[List.zipWith_cons_cons,zZ c d l m];rfl
theorem Eh (c d:Int): ∀(n:Nat) (l m:List Int),(bQ c d l m).take n=bQ c d (l.take n) (m.take n)
 |0,_,_=>by simp [bQ]
 |n+1, [],_=>by simp [bQ]
 |n+1,_::_, []=>by simp [bQ]
 |n+1,a::l,b::m=>by simp [bQ,Eh c d n l m]
theorem A7 (c d:Int): ∀(n:Nat) (l m:List Int),l.length=m.length→(bQ c d l m).getD n 0=c*l.getD n 0-d*m.getD n 0
 |n, [], [],_=>by simp [bQ]
 |0,a::l,b::m,_=>by simp [bQ]
 |n+1,a::l,b::m,h=>by
  have:=A7 c d n l m (by simpa using h)
  simpa [bQ] using this
theorem QO {p:Nat} {X:List Int} {D:Int} {row chosen:List Int} {k:Nat} (hX:X.length=p) (h1:gw p X D row) (h2:gw p X D chosen):gw p X D (cleared row chosen k):=by
 have e:cleared row chosen k=bQ (chosen.getD k 0) (row.getD k 0) row chosen:=zZ _ _ _ _
 have hl:row.length=chosen.length:=by rw[h1.1,h2.1]
 rw[e]
 refine ⟨by rw[gN _ _ hl];exact h1.1,?_⟩
 rw[Eh,fZ,h1.2,h2.2,A7 _ _ _ _ _ hl]
 ·grind
 ·rw[List.length_take,List.length_take,h1.1,h2.1]
 ·rw[List.length_take,h1.1,hX];lia
theorem rk (rows:List (List Int)) (k:Nat):(cM rows k).length=rows.length:=by simp [cM]
theorem M1 {p:Nat} {X:List Int} {D:Int} {rows:List (List Int)} {k:Nat} (hX:X.length=p) (hk:k<rows.length) (h: ∀r∈rows,gw p X D r): ∀r∈cM rows k,gw p X D r:=by
 intro r hr
 obtain ⟨⟨q,i⟩,hx,rfl⟩:=List.mem_map.mp hr
 have hq:q∈rows:=List.fst_mem_of_mem_zipIdx hx
 by_cases hi:i=k
 ·simp only [if_pos hi];exact h q hq
 ·simp only [if_neg hi]
  refine QO hX (h q hq) ?_
  have:rows.getD k []∈rows:=by
   rw[List.getD_eq_getElem?_getD,List.getElem?_eq_getElem hk];exact List.getElem_mem hk
  exact h _ this
theorem ye {p:Nat} {X:List Int} {D:Int} (hX:X.length=p): ∀(m k:Nat) (rows out:List (List Int)),k+m≤rows.length→(∀r∈rows,gw p X D r)→bT m k rows=some out→ ∀r∈out,gw p X D r
 |0,k,rows,out,_,h,e=>by
  have e:=Option.some.inj e
  subst e
  exact h
 |m+1,k,rows,out,hk,h,e=>by
  unfold bT at e
  by_cases hz:(rows.getD k []).getD k 0=0
  ·rw[if_pos hz] at e;cases e
  ·rw[if_neg hz] at e
   exact ye hX m (k+1) _ out (by rw[rk];lia) (M1 hX (by lia) h) e
structure Good (p:Nat) (rows:List (List Int)) (d:Int) (ns:List Int):Prop where
 len:rows.length=p
 UH: ∀r∈rows,r.length=p+1
 w6:ns.length=p
 MJ:d≠0
 pos: ∀i,i<p→0<(rows.getD i []).getD i 0
 eq: ∀i,i<p→(rows.getD i []).getD p 0*d=(rows.getD i []).getD i 0*ns.getD i 0
theorem S6 (g11 b1:Int) (h0:0≤g11):
  (det 1 [[g11]]=0→solved [[g11,b1]]=none)∧(det 1 [[g11]]≠0→ ∃rows,solved [[g11,b1]]=some rows∧Good 1 rows (det 1 [[g11]]) [det 1 [[b1]]]):=by
 rw[GH,GH]
 refine ⟨fun h=>by simp [solved,bT,h],fun h=>⟨[[g11,b1]],by simp [solved,bT,h,cM],⟨rfl,by simp,rfl,h,?_,?_⟩⟩⟩
 ·intro i hi
  have:i=0:=by lia
  subst this
  simp;lia
 ·intro i hi
  have:i=0:=by lia
  subst this
  simp;exact Int.mul_comm _ _
theorem iJ {x:Int} (h:0≤x) (h':x≠0):0<x:=by lia
theorem S1 {g11 g12 g22:Int} (b1 b2:Int) (h0:0≤g11) (z0:g11=0→g12=0) (h1:0<g11→0≤g11*g22-g12*g12):
  (det 2 [[g11,g12], [g12,g22]]=0→solved [[g11,g12,b1], [g12,g22,b2]]=none)∧
  (det 2 [[g11,g12], [g12,g22]]≠0→ ∃rows,solved [[g11,g12,b1], [g12,g22,b2]]=some rows∧Good 2 rows (det 2 [[g11,g12], [g12,g22]]) [det 2 [[b1,g12], [b2,g22]],det 2 [[g11,b1], [g12,b2]]]):=by
 have hd:det 2 [[g11,g12], [g12,g22]]=g11*g22-g12*g12:=yM _ _ _ _
 rw[hd,yM,yM]
 by_cases hg:g11=0
 ·refine ⟨fun _=>by simp [solved,bT,hg],fun h=>absurd (by rw[hg,z0 hg];simp) h⟩
 have hp:=iJ h0 hg
 have hq:=h1 hp
 have s0:solved [[g11,g12,b1], [g12,g22,b2]]=bT 1 1 [[g11,g12,b1], [0,g11*g22-g12*g12,g11*b2-g12*b1]]:=by
  show (if _ then _ else _)=_
  rw[if_neg (by simpa using hg)]
  simp only [cM,cleared]
  simp
  grind
 generalize ha:g11*g22-g12*g12=a22 at*
 refine ⟨fun h=>by rw[s0,h];simp [bT],fun h=>?_⟩
 have hpa:0<a22:=iJ hq h
 have s1:solved [[g11,g12,b1], [g12,g22,b2]]=some [[a22*g11,0,a22*b1-g12*(g11*b2-g12*b1)], [0,a22,g11*b2-g12*b1]]:=by
  rw[s0]
  show (if _ then _ else _)=_
  rw[if_neg (by simpa using h)]
  simp only [cM,cleared,bT]
  simp
  grind
 refine ⟨_,s1,rfl,by simp,rfl,h,fun i hi=>?_,fun i hi=>?_⟩
 ·rcases (by lia:i=0∨i=1) with rfl|rfl
  ·simp;exact Int.mul_pos hpa hp
  ·simpa using hpa
 ·rcases (by lia:i=0∨i=1) with rfl|rfl
  ·simp;grind
  ·simp;grind
theorem LR {g11 g12 g13 g22 g23 g33:Int} (b1 b2 b3:Int) (G:jQ g11 g12 g13 g13 g22 g23 g23 g33 g33 g33):
  (det 3 [[g11,g12,g13], [g12,g22,g23], [g13,g23,g33]]=0→solved [[g11,g12,g13,b1], [g12,g22,g23,b2], [g13,g23,g33,b3]]=none)∧
  (det 3 [[g11,g12,g13], [g12,g22,g23], [g13,g23,g33]]≠0→ ∃rows,solved [[g11,g12,g13,b1], [g12,g22,g23,b2], [g13,g23,g33,b3]]=some rows∧
   Good 3 rows (det 3 [[g11,g12,g13], [g12,g22,g23], [g13,g23,g33]]) [det 3 [[b1,g12,g13], [b2,g22,g23], [b3,g23,g33]],det 3 [[g11,b1,g13], [g12,b2,g23], [g13,b3,g33]],det 3 [[g11,g12,b1], [g12,g22,b2], [g13,g23,b3]]]):=by
 obtain ⟨h0,z0⟩:=zM G
 have hD:det 3 [[g11,g12,g13], [g12,g22,g23], [g13,g23,g33]]=g11*(g22*g33-g23*g23)-g12*(g12*g33-g23*g13)+g13*(g12*g23-g22*g13):=gU _ _ _ _ _ _ _ _ _
 generalize hD':det 3 [[g11,g12,g13], [g12,g22,g23], [g13,g23,g33]]=D at*
 generalize hX1:det 3 [[b1,g12,g13], [b2,g22,g23], [b3,g23,g33]]=X1
 generalize hX2:det 3 [[g11,b1,g13], [g12,b2,g23], [g13,b3,g33]]=X2
 generalize hX3:det 3 [[g11,g12,b1], [g12,g22,b2], [g13,g23,b3]]=X3
 rw[gU] at hX1 hX2 hX3
 by_cases hg:g11=0
 ·obtain ⟨z2,z3,_⟩:=z0 hg
  refine ⟨fun _=>by simp [solved,bT,hg],fun h=>absurd (by rw[hD,hg,z2,z3];simp) h⟩
 have hp:=iJ h0 hg
 have S:=wA G
 obtain ⟨h1,z1⟩:=wj hp S
 have s0:solved [[g11,g12,g13,b1], [g12,g22,g23,b2], [g13,g23,g33,b3]]=bT 2 1 [[g11,g12,g13,b1], [0,g11*g22-g12*g12,g11*g23-g12*g13,g11*b2-g12*b1], [0,g11*g23-g12*g13,g11*g33-g13*g13,g11*b3-g13*b1]]:=by
  show (if _ then _ else _)=_
  rw[if_neg (by simpa using hg)]
  simp only [cM,cleared]
  simp
  grind
 have L: ∀r∈ [[g11,g12,g13,b1], [g12,g22,g23,b2], [g13,g23,g33,b3]],gw 3 [X1,X2,X3] D r:=by
  intro r hr
  simp at hr
  rcases hr with rfl|rfl|rfl
  ·refine ⟨rfl,?_⟩;simp [ip];rw[hD,←hX1,←hX2,←hX3];grind
  ·refine ⟨rfl,?_⟩;simp [ip];rw[hD,←hX1,←hX2,←hX3];grind
  ·refine ⟨rfl,?_⟩;simp [ip];rw[hD,←hX1,←hX2,←hX3];grind
 have Lout: ∀out,solved [[g11,g12,g13,b1], [g12,g22,g23,b2], [g13,g23,g33,b3]]=some out→ ∀r∈out,gw 3 [X1,X2,X3] D r:=fun out e=>ye (p:=3) (X:= [X1,X2,X3]) rfl 3 0 _ out (by simp) L e
 clear L hX1 hX2 hX3
 have id3:g11*D=(g11*g22-g12*g12)*(g11*g33-g13*g13)-(g11*g23-g12*g13)*(g11*g23-g12*g13):=by rw[hD];grind
 have T:=zy S
 generalize g11*g22-g12*g12=a22 at*
 generalize g11*g23-g12*g13=a23 at*
 generalize g11*g33-g13*g13=a33 at*
 generalize g11*b2-g12*b1=c2 at*
 generalize g11*b3-g13*b1=c3 at*
 by_cases ha:a22=0
 ·have hz:D=0:=by
   obtain ⟨z2,_⟩:=z1 ha
   rw[ha,z2] at id3
   exact (Int.mul_eq_zero.mp (by simpa using id3)).resolve_left hg
  exact ⟨fun _=>by rw[s0,ha];simp [bT],fun h=>absurd hz h⟩
 have hpa:=iJ h1 ha
 obtain ⟨h2,_,_⟩:=Bw (Int.mul_pos (Int.mul_pos (Int.mul_pos hp hp) hp) hpa) T
 have s1:bT 2 1 [[g11,g12,g13,b1], [0,a22,a23,c2], [0,a23,a33,c3]]=bT 1 2 [[a22*g11,0,a22*g13-g12*a23,a22*b1-g12*c2], [0,a22,a23,c2], [0,0,a22*a33-a23*a23,a22*c3-a23*c2]]:=by
  show (if _ then _ else _)=_
  rw[if_neg (by simpa using ha)]
  simp only [cM,cleared]
  simp
  grind
 rw[←id3] at h2 s1
 by_cases hd:D=0
 ·exact ⟨fun _=>by rw[s0,s1,hd];simp [bT],fun h=>absurd hd h⟩
 have hdp:0<g11*D:=iJ h2 (Int.mul_ne_zero hg hd)
 refine ⟨fun h=>absurd h hd,fun _=>?_⟩
 generalize hb:g11*D=b33 at*
 generalize a22*g13-g12*a23=e13 at*
 generalize a22*b1-g12*c2=e1 at*
 generalize a22*c3-a23*c2=e3 at*
 have s2:bT 1 2 [[a22*g11,0,e13,e1], [0,a22,a23,c2], [0,0,b33,e3]]=some [[b33*(a22*g11),0,0,b33*e1-e13*e3], [0,b33*a22,0,b33*c2-a23*e3], [0,0,b33,e3]]:=by
  show (if _ then _ else _)=_
  rw[if_neg (by simp;lia)]
  simp only [cM,cleared,bT]
  simp
  grind
 have e:=s0.trans (s1.trans s2)
 have K:=Lout _ e
 refine ⟨_,e,rfl,by simp,rfl,hd,fun i hi=>?_,fun i hi=>?_⟩
 ·rcases (by lia:i=0∨i=1∨i=2) with rfl|rfl|rfl
  ·simp;exact Int.mul_pos hdp (Int.mul_pos hpa hp)
  ·simp;exact Int.mul_pos hdp hpa
  ·simp;exact hdp
 ·have k0:=(K _ (by simp: [b33*(a22*g11),0,0,b33*e1-e13*e3]∈_)).2
  have k1:=(K _ (by simp: [0,b33*a22,0,b33*c2-a23*e3]∈_)).2
  have k2:=(K _ (by simp: [0,0,b33,e3]∈_)).2
  simp [ip] at k0 k1 k2
  rcases (by lia:i=0∨i=1∨i=2) with rfl|rfl|rfl
  ·simp;rw[k0];exact Int.mul_comm _ _
  ·simp;rw[k1];exact Int.mul_comm _ _
  ·simp;rw[k2];exact Int.mul_comm _ _
theorem UG {g11 g12 g13 g14 g22 g23 g24 g33 g34 g44:Int} (b1 b2 b3 b4:Int) (G:jQ g11 g12 g13 g14 g22 g23 g24 g33 g34 g44):
  (det 4 [[g11,g12,g13,g14], [g12,g22,g23,g24], [g13,g23,g33,g34], [g14,g24,g34,g44]]=0→solved [[g11,g12,g13,g14,b1], [g12,g22,g23,g24,b2], [g13,g23,g33,g34,b3], [g14,g24,g34,g44,b4]]=none)∧
  (det 4 [[g11,g12,g13,g14], [g12,g22,g23,g24], [g13,g23,g33,g34], [g14,g24,g34,g44]]≠0→ ∃rows,solved [[g11,g12,g13,g14,b1], [g12,g22,g23,g24,b2], [g13,g23,g33,g34,b3], [g14,g24,g34,g44,b4]]=some rows∧
   Good 4 rows (det 4 [[g11,g12,g13,g14], [g12,g22,g23,g24], [g13,g23,g33,g34], [g14,g24,g34,g44]])
    [det 4 [[b1,g12,g13,g14], [b2,g22,g23,g24], [b3,g23,g33,g34], [b4,g24,g34,g44]],det 4 [[g11,b1,g13,g14], [g12,b2,g23,g24], [g13,b3,g33,g34], [g14,b4,g34,g44]],
     det 4 [[g11,g12,b1,g14], [g12,g22,b2,g24], [g13,g23,b3,g34], [g14,g24,b4,g44]],det 4 [[g11,g12,g13,b1], [g12,g22,g23,b2], [g13,g23,g33,b3], [g14,g24,g34,b4]]]):=by
 obtain ⟨h0,z0⟩:=zM G
 have hD:det 4 [[g11,g12,g13,g14], [g12,g22,g23,g24], [g13,g23,g33,g34], [g14,g24,g34,g44]]=g11*(g22*(g33*g44-g34*g34)-g23*(g23*g44-g34*g24)+g24*(g23*g34-g33*g24))-g12*(g12*(g33*g44-g34*g34)-g23*(g13*g44-g34*g14)+g24*(g13*g34-g33*g14))+g13*(g12*(g23*g44-g34*g24)-g22*(g13*g44-g34*g14)+g24*(g13*g24-g23*g14))-g14*(g12*(g23*g34-g33*g24)-g22*(g13*g34-g33*g14)+g23*(g13*g24-g23*g14)):=by
  rw[zG,gU,gU,gU,gU]
 generalize hD':det 4 [[g11,g12,g13,g14], [g12,g22,g23,g24], [g13,g23,g33,g34], [g14,g24,g34,g44]]=D at*
 generalize hX1:det 4 [[b1,g12,g13,g14], [b2,g22,g23,g24], [b3,g23,g33,g34], [b4,g24,g34,g44]]=X1
 generalize hX2:det 4 [[g11,b1,g13,g14], [g12,b2,g23,g24], [g13,b3,g33,g34], [g14,b4,g34,g44]]=X2
 generalize hX3:det 4 [[g11,g12,b1,g14], [g12,g22,b2,g24], [g13,g23,b3,g34], [g14,g24,b4,g44]]=X3
 generalize hX4:det 4 [[g11,g12,g13,b1], [g12,g22,g23,b2], [g13,g23,g33,b3], [g14,g24,g34,b4]]=X4
 rw[zG,gU,gU,gU,gU] at hX1 hX2 hX3 hX4
 by_cases hg:g11=0
 ·obtain ⟨z2,z3,z4⟩:=z0 hg
  refine ⟨fun _=>by simp [solved,bT,hg],fun h=>absurd (by rw[hD,hg,z2,z3,z4];simp) h⟩
 have hp:=iJ h0 hg
 have S:=wA G
 obtain ⟨h1,z1⟩:=wj hp S
 have s0:solved [[g11,g12,g13,g14,b1], [g12,g22,g23,g24,b2], [g13,g23,g33,g34,b3], [g14,g24,g34,g44,b4]]=bT 3 1 [[g11,g12,g13,g14,b1], [0,g11*g22-g12*g12,g11*g23-g12*g13,g11*g24-g12*g14,g11*b2-g12*b1], [0,g11*g23-g12*g13,g11*g33-g13*g13,g11*g34-g13*g14,g11*b3-g13*b1], [0,g11*g24-g12*g14,g11*g34-g13*g14,g11*g44-g14*g14,g11*b4-g14*b1]]:=by
  show (if _ then _ else _)=_
  rw[if_neg (by simpa using hg)]
  simp only [cM,cleared]
  simp
  grind
 have L: ∀r∈ [[g11,g12,g13,g14,b1], [g12,g22,g23,g24,b2], [g13,g23,g33,g34,b3], [g14,g24,g34,g44,b4]],gw 4 [X1,X2,X3,X4] D r:=by
  intro r hr
  simp at hr
  rcases hr with rfl|rfl|rfl|rfl
  ·refine ⟨rfl,?_⟩;simp [ip];rw[hD,←hX1,←hX2,←hX3,←hX4];grind
  ·refine ⟨rfl,?_⟩;simp [ip];rw[hD,←hX1,←hX2,←hX3,←hX4];grind
  ·refine ⟨rfl,?_⟩;simp [ip];rw[hD,←hX1,←hX2,←hX3,←hX4];grind
  ·refine ⟨rfl,?_⟩;simp [ip];rw[hD,←hX1,←hX2,←hX3,←hX4];grind
 have Lout: ∀out,solved [[g11,g12,g13,g14,b1], [g12,g22,g23,g24,b2], [g13,g23,g33,g34,b3], [g14,g24,g34,g44,b4]]=some out→ ∀r∈out,gw 4 [X1,X2,X3,X4] D r:=fun out e=>ye (p:=4) (X:= [X1,X2,X3,X4]) rfl 4 0 _ out (by simp) L e
 clear L hX1 hX2 hX3 hX4
 have chio:g11*g11*D=(g11*g22-g12*g12)*((g11*g33-g13*g13)*(g11*g44-g14*g14)-(g11*g34-g13*g14)*(g11*g34-g13*g14))-(g11*g23-g12*g13)*((g11*g23-g12*g13)*(g11*g44-g14*g14)-(g11*g34-g13*g14)*(g11*g24-g12*g14))+(g11*g24-g12*g14)*((g11*g23-g12*g13)*(g11*g34-g13*g14)-(g11*g33-g13*g13)*(g11*g24-g12*g14)):=by rw[hD];grind
 have T:=zy S
 clear hD hD' S G
 generalize g11*g22-g12*g12=a22 at*
 generalize g11*g23-g12*g13=a23 at*
 generalize g11*g24-g12*g14=a24 at*
 generalize g11*g33-g13*g13=a33 at*
 generalize g11*g34-g13*g14=a34 at*
 generalize g11*g44-g14*g14=a44 at*
 generalize g11*b2-g12*b1=c2 at*
 generalize g11*b3-g13*b1=c3 at*
 generalize g11*b4-g14*b1=c4 at*
 have hgg:g11*g11≠0:=Int.mul_ne_zero hg hg
 by_cases ha:a22=0
 ·have hz:D=0:=by
   obtain ⟨z2,z3⟩:=z1 ha
   rw[ha,z2,z3] at chio
   exact (Int.mul_eq_zero.mp (by simpa using chio)).resolve_left hgg
  exact ⟨fun _=>by rw[s0,ha];simp [bT],fun h=>absurd hz h⟩
 have hpa:=iJ h1 ha
 obtain ⟨h2,z2,h3⟩:=Bw (Int.mul_pos (Int.mul_pos (Int.mul_pos hp hp) hp) hpa) T
 have last:(a22*a33-a23*a23)*(a22*a44-a24*a24)-(a22*a34-a23*a24)*(a22*a34-a23*a24)=a22*(g11*g11*D):=by rw[chio];grind
 have s1:bT 3 1 [[g11,g12,g13,g14,b1], [0,a22,a23,a24,c2], [0,a23,a33,a34,c3], [0,a24,a34,a44,c4]]=bT 2 2 [[a22*g11,0,a22*g13-g12*a23,a22*g14-g12*a24,a22*b1-g12*c2], [0,a22,a23,a24,c2], [0,0,a22*a33-a23*a23,a22*a34-a23*a24,a22*c3-a23*c2], [0,0,a22*a34-a23*a24,a22*a44-a24*a24,a22*c4-a24*c2]]:=by
  show (if _ then _ else _)=_
  rw[if_neg (by simpa using ha)]
  simp only [cM,cleared]
  simp
  grind
 clear chio
 generalize a22*a33-a23*a23=b33 at*
 generalize a22*a34-a23*a24=b34 at*
 generalize a22*a44-a24*a24=b44 at*
 generalize a22*g13-g12*a23=e13 at*
 generalize a22*g14-g12*a24=e14 at*
 generalize a22*b1-g12*c2=e1 at*
 generalize a22*c3-a23*c2=e3 at*
 generalize a22*c4-a24*c2=e4 at*
 by_cases hb:b33=0
 ·have hz:D=0:=by
   rw[hb,z2 hb] at last
   have q:a22*(g11*g11*D)=0:=by rw[←last];simp
   exact (Int.mul_eq_zero.mp ((Int.mul_eq_zero.mp q).resolve_left ha)).resolve_left hgg
  exact ⟨fun _=>by rw[s0,s1,hb];simp [bT],fun h=>absurd hz h⟩
 have hpb:=iJ h2 hb
 have s2:bT 2 2 [[a22*g11,0,e13,e14,e1], [0,a22,a23,a24,c2], [0,0,b33,b34,e3], [0,0,b34,b44,e4]]=bT 1 3 [[b33*(a22*g11),0,0,b33*e14-e13*b34,b33*e1-e13*e3], [0,b33*a22,0,b33*a24-a23*b34,b33*c2-a23*e3], [0,0,b33,b34,e3], [0,0,0,b33*b44-b34*b34,b33*e4-b34*e3]]:=by
  show (if _ then _ else _)=_
  rw[if_neg (by simpa using hb)]
  simp only [cM,cleared]
  simp
  grind
 rw[last] at h3 s2
 by_cases hd:D=0
 ·exact ⟨fun _=>by rw[s0,s1,s2,hd];simp [bT],fun h=>absurd hd h⟩
 refine ⟨fun h=>absurd h hd,fun _=>?_⟩
 have hdp:0<a22*(g11*g11*D):=iJ h3 (Int.mul_ne_zero ha (Int.mul_ne_zero hgg hd))
 generalize a22*(g11*g11*D)=c44 at*
 generalize b33*e14-e13*b34=f14 at*
 generalize b33*e1-e13*e3=f1 at*
 generalize b33*a24-a23*b34=f24 at*
 generalize b33*c2-a23*e3=f2 at*
 generalize b33*e4-b34*e3=f4 at*
 have s3:bT 1 3 [[b33*(a22*g11),0,0,f14,f1], [0,b33*a22,0,f24,f2], [0,0,b33,b34,e3], [0,0,0,c44,f4]]=some [[c44*(b33*(a22*g11)),0,0,0,c44*f1-f14*f4], [0,c44*(b33*a22),0,0,c44*f2-f24*f4], [0,0,c44*b33,0,c44*e3-b34*f4], [0,0,0,c44,f4]]:=by
  show (if _ then _ else _)=_
  rw[if_neg (by simp;lia)]
  simp only [cM,cleared,bT]
  simp
  grind
 have e:=s0.trans (s1.trans (s2.trans s3))
 have K:=Lout _ e
 refine ⟨_,e,rfl,by simp,rfl,hd,fun i hi=>?_,fun i hi=>?_⟩
 ·rcases (by lia:i=0∨i=1∨i=2∨i=3) with rfl|rfl|rfl|rfl
  ·simp;exact Int.mul_pos hdp (Int.mul_pos hpb (Int.mul_pos hpa hp))
  ·simp;exact Int.mul_pos hdp (Int.mul_pos hpb hpa)
  ·simp;exact Int.mul_pos hdp hpb
  ·simp;exact hdp
 ·have k0:=(K _ (by simp: [c44*(b33*(a22*g11)),0,0,0,c44*f1-f14*f4]∈_)).2
  have k1:=(K _ (by simp: [0,c44*(b33*a22),0,0,c44*f2-f24*f4]∈_)).2
  have k2:=(K _ (by simp: [0,0,c44*b33,0,c44*e3-b34*f4]∈_)).2
  have k3:=(K _ (by simp: [0,0,0,c44,f4]∈_)).2
  simp [ip] at k0 k1 k2 k3
  rcases (by lia:i=0∨i=1∨i=2∨i=3) with rfl|rfl|rfl|rfl
  ·simp;rw[k0];exact Int.mul_comm _ _
  ·simp;rw[k1];exact Int.mul_comm _ _
  ·simp;rw[k2];exact Int.mul_comm _ _
  ·simp;rw[k3];exact Int.mul_comm _ _
end Wg
namespace Wg
open Sound
theorem foldl_add (l:List Int): ∀a:Int,l.foldl (fun (a b:Int)=>a+b) a=a+l.foldl (fun (a b:Int)=>a+b) 0:=by
 induction l with
 |nil=>intro a;simp
 |cons x l ih=>intro a;simp only [List.foldl_cons];rw[ih (a+x),ih (0+x)];lia
theorem C7 (x:Int) (l:List Int):sumOf (x::l)=x+sumOf l:=by
 unfold sumOf;rw[List.foldl_cons,foldl_add];lia
theorem Ga: ∀l:List Int,sumOf l=l.sum
 | []=>rfl
 |x::l=>by rw[C7,Ga l,List.sum_cons]
theorem yg: ∀l m:List Int,sumOf (List.zipWith (fun (a b:Int)=>a*b) l m)=ip l m
 | [],_=>by simp [sumOf,ip]
 |_::_, []=>by simp [sumOf,ip]
 |a::l,b::m=>by rw[List.zipWith_cons_cons,C7,yg l m];rfl
def bu (y:List Int) (p i:Nat):List Int:=(y.drop (p-i)).take (y.length-p)
theorem bF (y:List Int) (p i j:Nat):moment y p i j=ip (bu y p i) (bu y p j):=yg _ _
theorem xU {y:List Int} {p i:Nat} (hi:i≤p) (hp:p≤y.length):(bu y p i).length=y.length-p:=by
 simp only [bu,List.length_take,List.length_drop];lia
def eF (y:List Int) (p:Nat):List (List Int):=(List.range p).map fun i=>((List.range p).map fun j=>moment y p (i+1) (j+1))++ [moment y p (i+1) 0]
theorem x9 {y:List Int} {p:Nat} (h1:1≤p) (h4:p≤4) (hp:p≤y.length):
  (exact y p=none∧solved (eF y p)=none)∨ ∃d ns rows,exact y p=some (d,ns)∧solved (eF y p)=some rows∧Good p rows d ns:=by
 have sy: ∀i j,moment y p i j=moment y p j i:=fun i j=>by rw[bF,bF,fu]
 have L: ∀i,i≤p→(bu y p i).length=y.length-p:=fun i hi=>xU hi hp
 rcases (by lia:p=1∨p=2∨p=3∨p=4) with rfl|rfl|rfl|rfl
 ·have S:=S6 (moment y 1 1 1) (moment y 1 1 0) (by rw[bF];exact jc _)
  simp only [exact,eF,List.range_succ,List.range_zero,List.nil_append,List.map_cons,List.map_nil,List.cons_append,List.zipWith_cons_cons,List.zipWith_nil_left,List.set_cons_zero,Nat.zero_add] at*
  rw[sy 0 1]
  by_cases hd:det 1 [[moment y 1 1 1]]=0
  ·exact .inl ⟨by rw[if_pos hd],S.1 hd⟩
  ·obtain ⟨rows,e,g⟩:=S.2 hd
   exact .inr ⟨_,_,rows,by rw[if_neg hd],e,g⟩
 ·have S:=S1 (g11:=moment y 2 1 1) (g12:=moment y 2 1 2) (g22:=moment y 2 2 2) (moment y 2 1 0) (moment y 2 2 0) (by rw[bF];exact jc _) (fun h=>by rw[bF] at h⊢;exact jU h) (fun h=>by
   have G:jQ (moment y 2 1 1) (moment y 2 1 2) (moment y 2 1 2) (moment y 2 1 2) (moment y 2 2 2) (moment y 2 2 2) (moment y 2 2 2) (moment y 2 2 2) (moment y 2 2 2) (moment y 2 2 2):=
    ⟨bu y 2 1,bu y 2 2,bu y 2 2,bu y 2 2,by rw[L 1 (by lia),L 2 (by lia)],by rw[L 1 (by lia),L 2 (by lia)],by rw[L 1 (by lia),L 2 (by lia)],bF _ _ _ _,bF _ _ _ _,bF _ _ _ _,bF _ _ _ _,bF _ _ _ _,bF _ _ _ _,bF _ _ _ _,bF _ _ _ _,bF _ _ _ _,bF _ _ _ _⟩
   exact (wj h (wA G)).1)
  simp only [exact,eF,List.range_succ,List.range_zero,List.nil_append,List.map_cons,List.map_nil,List.cons_append,List.zipWith_cons_cons,List.zipWith_nil_left,List.set_cons_zero,List.set_cons_succ,Nat.zero_add,Nat.reduceAdd] at*
  rw[sy 0 1,sy 0 2,sy 2 1]
  by_cases hd:det 2 [[moment y 2 1 1,moment y 2 1 2], [moment y 2 1 2,moment y 2 2 2]]=0
  ·exact .inl ⟨by rw[if_pos hd],S.1 hd⟩
  ·obtain ⟨rows,e,g⟩:=S.2 hd
   exact .inr ⟨_,_,rows,by rw[if_neg hd],e,g⟩
 ·have G:jQ (moment y 3 1 1) (moment y 3 1 2) (moment y 3 1 3) (moment y 3 1 3) (moment y 3 2 2) (moment y 3 2 3) (moment y 3 2 3) (moment y 3 3 3) (moment y 3 3 3) (moment y 3 3 3):=
    ⟨bu y 3 1,bu y 3 2,bu y 3 3,bu y 3 3,by rw[L 1 (by lia),L 2 (by lia)],by rw[L 1 (by lia),L 3 (by lia)],by rw[L 1 (by lia),L 3 (by lia)],bF _ _ _ _,bF _ _ _ _,bF _ _ _ _,bF _ _ _ _,bF _ _ _ _,bF _ _ _ _,bF _ _ _ _,bF _ _ _ _,bF _ _ _ _,bF _ _ _ _⟩
  have S:=LR (moment y 3 1 0) (moment y 3 2 0) (moment y 3 3 0) G
  simp only [exact,eF,List.range_succ,List.range_zero,List.nil_append,List.map_cons,List.map_nil,List.cons_append,List.zipWith_cons_cons,List.zipWith_nil_left,List.set_cons_zero,List.set_cons_succ,Nat.zero_add,Nat.reduceAdd] at*
  rw[sy 0 1,sy 0 2,sy 0 3,sy 2 1,sy 3 1,sy 3 2]
  by_cases hd:det 3 [[moment y 3 1 1,moment y 3 1 2,moment y 3 1 3], [moment y 3 1 2,moment y 3 2 2,moment y 3 2 3], [moment y 3 1 3,moment y 3 2 3,moment y 3 3 3]]=0
  ·exact .inl ⟨by rw[if_pos hd],S.1 hd⟩
  ·obtain ⟨rows,e,g⟩:=S.2 hd
   exact .inr ⟨_,_,rows,by rw[if_neg hd],e,g⟩
 ·have G:jQ (moment y 4 1 1) (moment y 4 1 2) (moment y 4 1 3) (moment y 4 1 4) (moment y 4 2 2) (moment y 4 2 3) (moment y 4 2 4) (moment y 4 3 3) (moment y 4 3 4) (moment y 4 4 4):=
    ⟨bu y 4 1,bu y 4 2,bu y 4 3,bu y 4 4,by rw[L 1 (by lia),L 2 (by lia)],by rw[L 1 (by lia),L 3 (by lia)],by rw[L 1 (by lia),L 4 (by lia)],bF _ _ _ _,bF _ _ _ _,bF _ _ _ _,bF _ _ _ _,bF _ _ _ _,bF _ _ _ _,bF _ _ _ _,bF _ _ _ _,bF _ _ _ _,bF _ _ _ _⟩
  have S:=UG (moment y 4 1 0) (moment y 4 2 0) (moment y 4 3 0) (moment y 4 4 0) G
  simp only [exact,eF,List.range_succ,List.range_zero,List.nil_append,List.map_cons,List.map_nil,List.cons_append,List.zipWith_cons_cons,List.zipWith_nil_left,List.set_cons_zero,List.set_cons_succ,Nat.zero_add,Nat.reduceAdd] at*
  rw[sy 0 1,sy 0 2,sy 0 3,sy 0 4,sy 2 1,sy 3 1,sy 3 2,sy 4 1,sy 4 2,sy 4 3]
  by_cases hd:det 4 [[moment y 4 1 1,moment y 4 1 2,moment y 4 1 3,moment y 4 1 4], [moment y 4 1 2,moment y 4 2 2,moment y 4 2 3,moment y 4 2 4], [moment y 4 1 3,moment y 4 2 3,moment y 4 3 3,moment y 4 3 4], [moment y 4 1 4,moment y 4 2 4,moment y 4 3 4,moment y 4 4 4]]=0
  ·exact .inl ⟨by rw[if_pos hd],S.1 hd⟩
  ·obtain ⟨rows,e,g⟩:=S.2 hd
   exact .inr ⟨_,_,rows,by rw[if_neg hd],e,g⟩
def nv (i:Int):Int:=if i<0 then-i else i
def jA (a b:Int):Int:=let q:=(2*nv a+b).fdiv (2*b)
 if 0≤a then q else-q
theorem Rj (i:Int):nv i=(i.natAbs:Int):=by unfold nv;lia
theorem JI {a b a' b':Int} (hb:0<b) (hb':b'≠0) (h:a*b'=b*a'):jA a b=nearest a' b':=by
 have hq:(2*nv a+b).fdiv (2*b)=(((2*a'.natAbs+b'.natAbs)/(2*b'.natAbs):Nat):Int):=by
  rw[Rj]
  have e1:(2*(a.natAbs:Int)+b).fdiv (2*b)=(((2*a.natAbs+b.natAbs)/(2*b.natAbs):Nat):Int):=by
   have hbn:b=(b.natAbs:Int):=by lia
   rw[Int.fdiv_eq_ediv_of_nonneg _ (by lia),hbn]
   simp
  rw[e1]
  have hn:a.natAbs*b'.natAbs=b.natAbs*a'.natAbs:=by rw[←Int.natAbs_mul,←Int.natAbs_mul,h]
  have p1:0<b.natAbs:=by lia
  have p2:0<b'.natAbs:=by lia
  congr 1
  rw[←Nat.mul_div_mul_left (2*a.natAbs+b.natAbs) (2*b.natAbs) p2,←Nat.mul_div_mul_left (2*a'.natAbs+b'.natAbs) (2*b'.natAbs) p1]
  have e2:b'.natAbs*(2*a.natAbs+b.natAbs)=b.natAbs*(2*a'.natAbs+b'.natAbs):=by grind
  have e3:b'.natAbs*(2*b.natAbs)=b.natAbs*(2*b'.natAbs):=by grind
  rw[e2,e3]
 unfold jA nearest
 simp only [hq]
 generalize hqq:(((2*a'.natAbs+b'.natAbs)/(2*b'.natAbs):Nat):Int)=q
 by_cases ha:a=0
 ·have ha':a'=0:=by
   rw[ha,Int.zero_mul] at h
   exact (Int.mul_eq_zero.mp h.symm).resolve_left (by lia)
  have q0:q=0:=by
   rw[←hqq,ha']
   have:(2*(0:Int).natAbs+b'.natAbs)/(2*b'.natAbs)=0:=Nat.div_eq_of_lt (by simp;lia)
   rw[this];rfl
  rw[ha,q0];simp
 ·have sgn:(decide (a'<0) !=decide (b'<0))=decide (a<0):=by
   rcases Int.lt_or_lt_of_ne ha with hn|hp<;>rcases Int.lt_or_lt_of_ne hb' with bn|bp
   ·have:0<a*b':=Int.mul_pos_of_neg_of_neg hn bn
    have:0<a':=Int.lt_of_not_ge fun q=>by have:=Int.mul_nonpos_of_nonneg_of_nonpos (Int.le_of_lt hb) q;lia
    simp [bn,hn];lia
   ·have:a*b'<0:=Int.mul_neg_of_neg_of_pos hn bp
    have:a'<0:=Int.lt_of_not_ge fun q=>by have:=Int.mul_nonneg (Int.le_of_lt hb) q;lia
    simp [hn,this];lia
   ·have:a*b'<0:=Int.mul_neg_of_pos_of_neg hp bn
    have:a'<0:=Int.lt_of_not_ge fun q=>by have:=Int.mul_nonneg (Int.le_of_lt hb) q;lia
    simp [bn,this];lia
   ·have:0<a*b':=Int.mul_pos hp bp
    have:0<a':=Int.lt_of_not_ge fun q=>by have:=Int.mul_nonpos_of_nonneg_of_nonpos (Int.le_of_lt hb) q;lia
    have h1: ¬a'<0:=by lia
    have h2: ¬b'<0:=by lia
    have h3: ¬a<0:=by lia
    simp [h1,h2,h3]
  rw[sgn]
  by_cases hn:a<0
  ·rw[if_neg (by lia),if_pos (by simpa using hn)]
  ·rw[if_pos (by lia),if_neg (by simpa using hn)]
def cN (rows:List (List Int)) (p h:Nat):List Int:=rows.zipIdx.map fun x=>jA (x.1.getD p 0*2^h) ((rows.getD x.2 []).getD x.2 0)
def fN (y:List Int) (p:Nat):Option (Nat×List Int):=match solved (eF y p) with
 |none=>none
 |some rows=>((List.range 16).reverse.find? fun h=>(cN rows p h).all fun f=>decide (-2048≤f)&&decide (f≤2047)).map fun h=>(h,cN rows p h)
theorem Jt {p:Nat} {rows:List (List Int)} {d:Int} {ns:List Int} (g:Good p rows d ns) (h:Nat):cN rows p h=ns.map fun x=>nearest (x*2^h) d:=by
 apply List.ext_getElem
 ·simp [cN,g.len,g.w6]
 ·intro i h1 h2
  have hi:i<p:=by simpa [cN,g.len] using h1
  have hr:i<rows.length:=by rw[g.len];exact hi
  have hn:i<ns.length:=by rw[g.w6];exact hi
  have e:=g.eq i hi
  have ps:=g.pos i hi
  simp only [cN,List.getElem_map,List.getElem_zipIdx,Nat.zero_add]
  have er:rows.getD i []=rows[i]:=by rw[List.getD_eq_getElem?_getD,List.getElem?_eq_getElem hr];rfl
  have en:ns.getD i 0=ns[i]:=by rw[List.getD_eq_getElem?_getD,List.getElem?_eq_getElem hn];rfl
  rw[er] at e ps
  rw[en] at e
  simp only [er]
  exact JI ps g.MJ (by rw[Int.mul_right_comm,e,Int.mul_assoc])
theorem sP {y:List Int} {p:Nat} (h1:1≤p) (h4:p≤4) (hp:p≤y.length):fN y p=factors y p:=by
 rcases x9 h1 h4 hp with ⟨e1,e2⟩|⟨d,ns,rows,e1,e2,g⟩
 ·simp only [fN,factors,e1,e2]
 ·simp only [fN,factors,e1,e2,Jt g,List.all_map]
  rfl
end Wg
namespace Wg
open PySem
theorem rm (n m:Nat):(n&&&m)%2=0↔n%2=0∨m%2=0:=by
 have h:=congrArg (· =true) (Nat.testBit_and n m 0)
 simp only [Nat.testBit_zero,Bool.and_eq_true,decide_eq_true_eq,eq_iff_iff] at h
 lia
theorem Cq (n m:Nat):(n|||m)%2=0↔n%2=0∧m%2=0:=by
 have h:=congrArg (· =true) (Nat.testBit_or n m 0)
 simp only [Nat.testBit_zero,Bool.or_eq_true,decide_eq_true_eq,eq_iff_iff] at h
 lia
theorem sk (n m:Nat):(n&&&m)/2=n/2&&&m/2:=by
 apply Nat.eq_of_testBit_eq;intro i
 rw[Nat.testBit_and,Nat.testBit_div_two,Nat.testBit_div_two,Nat.testBit_div_two,Nat.testBit_and]
theorem Dz (n m:Nat):(n|||m)/2=n/2|||m/2:=by
 apply Nat.eq_of_testBit_eq;intro i
 rw[Nat.testBit_or,Nat.testBit_div_two,Nat.testBit_div_two,Nat.testBit_div_two,Nat.testBit_or]
theorem ER {x y:Int} (hx:0≤x) (hy:0≤y):Builtin.bitOr x y=((x.toNat|||y.toNat:Nat):Int):=by
 unfold Builtin.bitOr Builtin.bitAnd Builtin.bitNot
 have h1:decide (0≤ -x-1)=false:=by simp;lia
 have h2:decide (0≤ -y-1)=false:=by simp;lia
 simp only [h1,h2]
 have e1:(-(-x-1)-1).toNat=x.toNat:=by congr 1;lia
 have e2:(-(-y-1)-1).toNat=y.toNat:=by congr 1;lia
 rw[e1,e2];lia
theorem P1 {x y:Int} (hx:0≤x) (hy:y<0):Builtin.bitOr x y= -((-y-1)-(((-y-1).toNat&&&x.toNat:Nat):Int))-1:=by
 unfold Builtin.bitOr Builtin.bitAnd Builtin.bitNot
 have h1:decide (0≤ -x-1)=false:=by simp;lia
 have h2:decide (0≤ -y-1)=true:=by simp;lia
 simp only [h1,h2]
 have e1:(-(-x-1)-1).toNat=x.toNat:=by congr 1;lia
 rw[e1]
theorem Q1 {x y:Int} (hx:x<0) (hy:0≤y):Builtin.bitOr x y= -((-x-1)-(((-x-1).toNat&&&y.toNat:Nat):Int))-1:=by
 unfold Builtin.bitOr Builtin.bitAnd Builtin.bitNot
 have h1:decide (0≤ -x-1)=true:=by simp;lia
 have h2:decide (0≤ -y-1)=false:=by simp;lia
 simp only [h1,h2]
 have e1:(-(-y-1)-1).toNat=y.toNat:=by congr 1;lia
 rw[e1]
theorem MP {x y:Int} (hx:x<0) (hy:y<0):Builtin.bitOr x y= -(((-x-1).toNat&&&(-y-1).toNat:Nat):Int)-1:=by
 unfold Builtin.bitOr Builtin.bitAnd Builtin.bitNot
 have h1:decide (0≤ -x-1)=true:=by simp;lia
 have h2:decide (0≤ -y-1)=true:=by simp;lia
 simp only [h1,h2]
theorem hN (a:Nat):(-(a:Int)-1)/2= -((a/2:Nat):Int)-1:=by lia
theorem tN (a:Nat):(-(-(a:Int)-1)-1).toNat=a:=by lia
theorem pN (a:Nat):(-(a:Int)-1)%2=0↔ ¬a%2=0:=by lia
theorem pP (a:Nat):(a:Int)%2=0↔a%2=0:=by lia
theorem DR (a b:Nat):Builtin.bitOr (-(a:Int)-1) (-(b:Int)-1)= -((a&&&b:Nat):Int)-1:=by
 rw[MP (by lia) (by lia),tN,tN]
theorem Ec (a b:Nat):Builtin.bitOr (-(a:Int)-1) (b:Int)= -((a-(a&&&b):Nat):Int)-1:=by
 rw[Q1 (by lia) (by lia),tN,Int.toNat_natCast]
 have c:(a&&&b)≤a:=Nat.and_le_left
 lia
theorem Gn (a b:Nat):Builtin.bitOr (b:Int) (-(a:Int)-1)= -((a-(a&&&b):Nat):Int)-1:=by
 rw[P1 (by lia) (by lia),tN,Int.toNat_natCast]
 have c:(a&&&b)≤a:=Nat.and_le_left
 lia
theorem DN (a b:Nat):Builtin.bitOr (a:Int) (b:Int)=((a|||b:Nat):Int):=by
 rw[ER (by lia) (by lia),Int.toNat_natCast,Int.toNat_natCast]
theorem rl (a b:Nat):(a-(a&&&b))/2=a/2-(a/2&&&b/2)∧((a-(a&&&b))%2=0↔ ¬(¬a%2=0∧b%2=0)):=by
 have l:=rm a b
 have c:(a&&&b)≤a:=Nat.and_le_left
 rw[←sk]
 generalize (a&&&b)=d at*
 lia
theorem MX (x y:Int):Builtin.bitOr x y/2=Builtin.bitOr (x/2) (y/2)∧(Builtin.bitOr x y%2=0↔x%2=0∧y%2=0):=by
 have gt: ∀z:Int,(∃a:Nat,z=a)∨ ∃a:Nat,z= -(a:Int)-1:=by
  intro z
  rcases Int.lt_or_le z 0 with h|h
  ·exact Or.inr ⟨(-z-1).toNat,by lia⟩
  ·exact Or.inl ⟨z.toNat,(Int.toNat_of_nonneg h).symm⟩
 rcases gt x with ⟨a,rfl⟩|⟨a,rfl⟩<;>rcases gt y with ⟨b,rfl⟩|⟨b,rfl⟩
 ·rw[DN,pP,pP,pP,Cq]
  exact ⟨(congrArg Nat.cast (Dz a b)).trans (DN (a/2) (b/2)).symm,Iff.rfl⟩
 ·rw[Gn,hN,hN,pN,pP,pN,(rl b a).1,(rl b a).2]
  exact ⟨(Gn (b/2) (a/2)).symm,by rw[Classical.not_not,And.comm]⟩
 ·rw[Ec,hN,hN,pN,pN,pP,(rl a b).1,(rl a b).2]
  exact ⟨(Ec (a/2) (b/2)).symm,by rw[Classical.not_not]⟩
 ·rw[DR,hN,hN,hN,DR,pN,pN,pN,←sk,rm,not_or]
  exact ⟨rfl,Iff.rfl⟩
theorem uE (z:Nat) (x:Int):x%2^(z+1)=0↔x%2=0∧x/2%2^z=0:=by
 have e:(2:Int)^(z+1)=2*2^z:=by rw[Int.pow_succ];exact Int.mul_comm _ _
 rw[e]
 constructor
 ·intro h
  obtain ⟨k,hk⟩:=Int.dvd_of_emod_eq_zero h
  have e1:x=2*(2^z*k):=by rw[hk,Int.mul_assoc]
  constructor
  ·lia
  ·have e2:x/2=2^z*k:=by lia
   rw[e2];exact Int.mul_emod_right _ _
 ·rintro ⟨h1,h2⟩
  obtain ⟨k,hk⟩:=Int.dvd_of_emod_eq_zero h2
  have e1:x=2*2^z*k:=by rw[Int.mul_assoc,←hk];lia
  rw[e1];exact Int.mul_emod_right _ _
theorem Ek: ∀(z:Nat) (x y:Int),Builtin.bitOr x y%2^z=0↔x%2^z=0∧y%2^z=0
 |0,x,y=>by simp [Int.emod_one]
 |z+1,x,y=>by
  obtain ⟨h1,h2⟩:=MX x y
  rw[uE,uE,uE,h1,h2,Ek z]
  constructor
  ·rintro ⟨⟨a,b⟩,c,d⟩;exact ⟨⟨a,c⟩,b,d⟩
  ·rintro ⟨⟨a,c⟩,b,d⟩;exact ⟨⟨a,b⟩,c,d⟩
def together (l:List Int):Int:=l.foldl Builtin.bitOr 0
theorem Fj (z:Nat): ∀(l:List Int) (a:Int),l.foldl Builtin.bitOr a%2^z=0↔a%2^z=0∧ ∀x∈l,x%2^z=0
 | [],a=>by simp
 |x::l,a=>by
  rw[List.foldl_cons,Fj z l,Ek]
  simp [and_assoc]
theorem vw (z:Nat) (l:List Int):together l%2^z=0↔ ∀x∈l,x%2^z=0:=by
 unfold together;rw[Fj];simp
theorem Ez: ∀(b n:Nat),n≤b→0<n→ ∃k,n-(n&&&(n-1))=2^k∧n%2^k=0∧n%2^(k+1)≠0
 |0,n,h,p=>by lia
 |b+1,n,h,p=>by
  have a:=rm n (n-1)
  have c:=sk n (n-1)
  rcases Nat.mod_two_eq_zero_or_one n with e|e
  ·obtain ⟨k,h1,h2,h3⟩:=Ez b (n/2) (by lia) (by lia)
   have e1:(n-1)/2=n/2-1:=by lia
   rw[e1] at c
   have d:(n/2&&&(n/2-1))≤n/2:=Nat.and_le_left
   refine ⟨k+1,?_,?_,?_⟩
   ·rw[Nat.pow_succ,←h1];lia
   ·have:=Nat.mod_mul (x:=n) (a:=2) (b:=2^k)
    rw[Nat.pow_succ,Nat.mul_comm,this,e,h2]
   ·have:=Nat.mod_mul (x:=n) (a:=2) (b:=2^(k+1))
    rw[Nat.pow_succ,Nat.mul_comm,this,e]
    lia
  ·refine ⟨0,?_,by simp [Nat.mod_one],by simp;lia⟩
   have e1:(n-1)/2=n/2:=by lia
   rw[e1,Nat.and_self] at c
   simp;lia
theorem Nw {t:Int} (h:t≠0):Builtin.bitAnd t (-t)=((t.natAbs-(t.natAbs&&&(t.natAbs-1)):Nat):Int):=by
 have d:(t.natAbs&&&(t.natAbs-1))≤t.natAbs:=Nat.and_le_left
 rcases Int.lt_or_lt_of_ne h with hn|hp
 ·unfold Builtin.bitAnd Builtin.bitNot
  have h1:decide (0≤t)=false:=by simp;lia
  have h2:decide (0≤ -t)=true:=by simp;lia
  simp only [h1,h2]
  have e1:(-t).toNat=t.natAbs:=by lia
  have e2:(-t-1).toNat=t.natAbs-1:=by lia
  rw[e1,e2];lia
 ·unfold Builtin.bitAnd Builtin.bitNot
  have h1:decide (0≤t)=true:=by simp;lia
  have h2:decide (0≤ -t)=false:=by simp;lia
  simp only [h1,h2]
  have e1:t.toNat=t.natAbs:=by lia
  have e2:(- -t-1).toNat=t.natAbs-1:=by lia
  rw[e1,e2];lia
def Gv (i j:Int):Int:=if j>i then j else i
def tI (l:List Int):Int:=Gv ((Builtin.Int.intBits (Builtin.bitAnd (together l) (-(together l))):Int)-1) 0
theorem JP (k:Nat):Builtin.Int.intBits ((2^k:Nat):Int)=k+1:=by
 unfold Builtin.Int.intBits
 have h:0<2^k:=Nat.two_pow_pos k
 have h0:(((2^k:Nat):Int)==0)=false:=by simp;exact_mod_cast (by lia:(2:Nat)^k≠0)
 rw[h0]
 simp [Int.natAbs_natCast,Nat.log2_two_pow]
theorem Aw (z:Nat) (t:Int):t.natAbs%2^z=0↔t%2^z=0:=by
 rw[←Nat.dvd_iff_mod_eq_zero,←Int.dvd_iff_emod_eq_zero]
 have:((2:Int)^z)=((2^z:Nat):Int):=by simp
 rw[this]
 rw[←Int.natAbs_dvd_natAbs,Int.natAbs_natCast]
theorem Bk {p:Nat→Bool} {k:Nat} (hk:p k=true) (hn: ∀z,k<z→p z=false): ∀w:Nat,k<w→(List.range w).reverse.find? p=some k
 |0,h=>by lia
 |w+1,h=>by
  rw[List.range_succ,List.reverse_append,List.reverse_singleton,List.singleton_append,List.find?_cons]
  by_cases e:w=k
  ·subst e;rw[hk]
  ·rw[hn w (by lia)]
   exact Bk hk hn w (by lia)
theorem mod_le {x:Int} {z k:Nat} (h:z≤k) (hk:x%2^k=0):x%2^z=0:=by
 have d1:(2:Int)^z∣2^k:=⟨2^(k-z),by rw[←Int.pow_add];congr 1;lia⟩
 exact Int.emod_eq_zero_of_dvd (Int.dvd_trans d1 (Int.dvd_of_emod_eq_zero hk))
theorem Q8 {w:Nat} {l:List Int} (hw:1≤w) (hf: ∀x∈l,-(2^(w-1):Int)≤x∧x<2^(w-1)):tI l=(Sound.zeros w l:Int)∧Sound.zeros w l<w:=by
 by_cases h0: ∀x∈l,x=0
 ·have e1:together l=0:=by
   unfold together
   have: ∀(l:List Int),(∀x∈l,x=0)→l.foldl Builtin.bitOr 0=0:=by
    intro l
    induction l with
    |nil=>intro _;rfl
    |cons x l ih=>
     intro h
     rw[List.foldl_cons,h x (by simp)]
     exact ih fun y hy=>h y (by simp [hy])
   exact this l h0
  have e2:Sound.zeros w l=0:=by
   unfold Sound.zeros
   rw[if_pos]
   simp;exact h0
  rw[e2]
  refine ⟨?_,by lia⟩
  unfold tI;rw[e1];decide
 ·have ht:together l≠0:=fun e=>h0 fun x hx=>by
   have hz:=(vw w l).mp (by rw[e];simp) x hx
   obtain ⟨a,b⟩:=hf x hx
   have e3:(2:Int)^w=2*2^(w-1):=by rw[←Int.pow_succ'];congr 1;lia
   obtain ⟨k,hk⟩:=Int.dvd_of_emod_eq_zero hz
   have hpos:(0:Int)<2^(w-1):=Int.pow_pos (by decide)
   rw[e3] at hk
   rcases Int.lt_trichotomy k 0 with q|q|q
   ·have:2*2^(w-1)*k≤2*2^(w-1)*(-1):=Int.mul_le_mul_of_nonneg_left (by lia) (by lia)
    lia
   ·rw[hk,q];simp
   ·have:2*2^(w-1)*1≤2*2^(w-1)*k:=Int.mul_le_mul_of_nonneg_left (by lia) (by lia)
    lia
  obtain ⟨k,h1,h2,h3⟩:=Ez _ (together l).natAbs (Nat.le_refl _) (by lia)
  have d2:=(vw k l).mp ((Aw k _).mp h2)
  have d3: ¬ ∀x∈l,x%2^(k+1)=0:=fun q=>h3 ((Aw _ _).mpr ((vw (k+1) l).mpr q))
  have hk:k<w:=by
   obtain ⟨x,hx⟩:=Classical.not_forall.mp h0
   obtain ⟨hx,hne⟩:=Classical.not_imp.mp hx
   obtain ⟨a,b⟩:=hf x hx
   have hd:=d2 x hx
   refine Nat.lt_of_not_le fun hwk=>hne ?_
   have hz:=mod_le hwk hd
   have e3:(2:Int)^w=2*2^(w-1):=by rw[←Int.pow_succ'];congr 1;lia
   obtain ⟨k,hk⟩:=Int.dvd_of_emod_eq_zero hz
   have hpos:(0:Int)<2^(w-1):=Int.pow_pos (by decide)
   rw[e3] at hk
   rcases Int.lt_trichotomy k 0 with q|q|q
   ·have:2*2^(w-1)*k≤2*2^(w-1)*(-1):=Int.mul_le_mul_of_nonneg_left (by lia) (by lia)
    lia
   ·rw[hk,q];simp
   ·have:2*2^(w-1)*1≤2*2^(w-1)*k:=Int.mul_le_mul_of_nonneg_left (by lia) (by lia)
    lia
  have e2:Sound.zeros w l=k:=by
   unfold Sound.zeros
   rw[if_neg,Bk (k:=k) _ _ w hk]
   ·rfl
   ·simpa using d2
   ·intro z hz
    cases q:l.all fun (x:Int)=>x%(2^z:Int)==0 with
    |false=>rfl
    |true=>
     refine absurd ?_ d3
     intro x hx
     have:=List.all_eq_true.mp q x hx
     exact mod_le hz (by simpa using this)
   ·simpa using h0
  rw[e2]
  refine ⟨?_,hk⟩
  unfold tI
  rw[Nw ht,h1,JP]
  unfold Gv
  lia
end Wg
namespace Wg
open PySem Sound
def bl (n:Nat):Nat:=if n=0 then 0 else n.log2+1
theorem tW (n:Nat):Builtin.Int.intBits (n:Int)=bl n:=by
 unfold Builtin.Int.intBits bl
 by_cases h:n=0
 ·subst h;rfl
 ·rw[if_neg h,if_neg (by simpa using h),Int.natAbs_natCast]
theorem Cu (n:Nat):n<2^bl n:=by
 unfold bl
 by_cases h:n=0
 ·subst h;decide
 ·rw[if_neg h];exact Nat.lt_log2_self
theorem jJ {n v:Nat} (h:n<2^v):bl n≤v:=by
 unfold bl
 by_cases h0:n=0
 ·rw[if_pos h0];exact Nat.zero_le _
 ·rw[if_neg h0]
  exact (Nat.log2_lt h0).mpr h
def bG (l:List Nat):Nat:=l.foldl max 0
theorem GN: ∀(l:List Nat) (a:Nat),a≤l.foldl max a∧ ∀x∈l,x≤l.foldl max a
 | [],a=>⟨Nat.le_refl _,fun x h=>by simp at h⟩
 |y::l,a=>by
  obtain ⟨h1,h2⟩:=GN l (max a y)
  rw[List.foldl_cons]
  refine ⟨Nat.le_trans (Nat.le_max_left _ _) h1,fun x hx=>?_⟩
  rcases List.mem_cons.mp hx with rfl|hx
  ·exact Nat.le_trans (Nat.le_max_right _ _) h1
  ·exact h2 x hx
theorem vL: ∀(l:List Nat) (a:Nat),l.foldl max a=a∨l.foldl max a∈l
 | [],a=> .inl rfl
 |y::l,a=>by
  rw[List.foldl_cons]
  rcases vL l (max a y) with h|h
  ·rcases Nat.le_total a y with q|q
   ·rw[h,Nat.max_eq_right q];exact .inr (by simp)
   ·rw[h,Nat.max_eq_left q];exact .inl rfl
  ·exact .inr (List.mem_cons_of_mem _ h)
theorem uV {l:List Nat} {x:Nat} (h:x∈l):x≤bG l:=(GN l 0).2 x h
theorem mj {l:List Nat} {b:Nat} (hb:0<b) (h: ∀x∈l,x<b):bG l<b:=by
 rcases vL l 0 with e|e
 ·unfold bG;rw[e];exact hb
 ·exact h _ e
theorem TN {l:List Nat} {m:Nat} (h1:m∈l) (h2: ∀y∈l,y≤m):bG l=m:=by
 have a:=uV h1
 rcases vL l 0 with e|e
 ·have:bG l=0:=e
  lia
 ·have:=h2 _ e
  have:bG l≤m:=this
  lia
def comb {α:Type} (acc:Option (α×Nat)) (x:α×Nat):Option (α×Nat):=match acc with
 |none=>some x
 |some a=>if x.2<a.2 then some x else some a
theorem EJ {α:Type}: ∀(l:List (α×Nat)) (acc:Option (α×Nat)),l.foldl comb acc=match acc,leastOf l with
  |none,r=>r
  |some a,none=>some a
  |some a,some z=>if z.2<a.2 then some z else some a
 | [],acc=>by cases acc<;>rfl
 |x::l,acc=>by
  rw[List.foldl_cons,EJ l]
  cases acc with
  |none=>
   simp only [comb,leastOf]
   cases leastOf l with
   |none=>rfl
   |some z=>
    simp only
    by_cases h:z.2<x.2
    ·rw[if_pos h,if_neg (by lia)]
    ·rw[if_neg h,if_pos (by lia)]
  |some a=>
   simp only [comb,leastOf]
   by_cases h:x.2<a.2
   ·rw[if_pos h]
    cases leastOf l with
    |none=>simp only;rw[if_pos h]
    |some z=>
     simp only
     by_cases q:z.2<x.2
     ·rw[if_pos q,if_neg (by lia)]
      exact (if_pos (show z.2<a.2 by lia)).symm
     ·rw[if_neg q,if_pos (by lia)]
      exact (if_pos h).symm
   ·rw[if_neg h]
    cases leastOf l with
    |none=>simp only;rw[if_neg h]
    |some z=>
     simp only
     by_cases q:z.2<a.2
     ·rw[if_pos q,if_neg (by lia)]
      exact (if_pos q).symm
     ·rw[if_neg q]
      by_cases r:x.2≤z.2
      ·rw[if_pos r]
       exact (if_neg h).symm
      ·rw[if_neg r]
       exact (if_neg q).symm
theorem wR {α:Type} (l:List (α×Nat)):l.foldl comb none=leastOf l:=by rw[EJ]
theorem uC {α:Type} (b:α×Nat): ∀l:List (α×Nat),leastOf (l++ [b])=some (l.foldr (fun x z=>if x.2≤z.2 then x else z) b)
 | []=>rfl
 |x::l=>by
  rw[List.cons_append,leastOf,uC b l]
  simp only [List.foldr_cons]
  split<;>rfl
def cost (F:List Nat) (g:Nat):Nat:=5+F.length*(g+1)+(F.map fun n=>n/2^g).sum
def jK (F:List Nat) (s:Nat×Nat) (lower:Nat):Nat×Nat:=if cost F lower≤s.2 then (lower,cost F lower) else s
theorem vB: ∀(l:List Nat) (a:Nat),l.foldl (fun (a b:Nat)=>a+b) a=a+l.sum
 | [],a=>by simp
 |x::l,a=>by rw[List.foldl_cons,vB l,List.sum_cons];lia
theorem Cz (es:List Int) {g:Nat} (h:g<31):groupSize es ⟨g,0⟩=cost (es.map fold) g:=by
 unfold groupSize cost
 rw[if_neg (by simp;lia)]
 unfold total
 rw[vB]
 induction es with
 |nil=>simp
 |cons e es ih=>simp [Nat.add_mul] at ih⊢;lia
theorem Nm {v:Nat} (hv:1≤v) (e:Int):Sound.fits v e=decide (fold e<2^v):=by
 have h2:(2:Nat)^v=2*2^(v-1):=by rw[←Nat.pow_succ'];congr 1;lia
 have h3:((2:Int)^(v-1))=((2^(v-1):Nat):Int):=by simp
 unfold Sound.fits fold
 rw[h2,h3]
 generalize 2^(v-1)=b
 by_cases h:e<0
 ·rw[if_pos h]
  by_cases q: -(b:Int)≤e
  ·have:(-2*e-1).toNat<2*b:=by lia
   simp [q,this];lia
  ·have: ¬(-2*e-1).toNat<2*b:=by lia
   rw[decide_eq_false q,decide_eq_false this];rfl
 ·rw[if_neg h]
  by_cases q:e<(b:Int)
  ·have:(2*e).toNat<2*b:=by lia
   simp [q,this];lia
  ·have: ¬(2*e).toNat<2*b:=by lia
   simp [q,this]
theorem Li (e:Int):(e==0)=decide (fold e<2^0):=by
 unfold fold
 by_cases h:e<0
 ·rw[if_pos h]
  have: ¬(-2*e-1).toNat<2^0:=by simp only [Nat.pow_zero];lia
  rw[decide_eq_false this];simp;lia
 ·rw[if_neg h]
  by_cases q:e=0
  ·subst q;rfl
  ·have: ¬(2*e).toNat<2^0:=by simp only [Nat.pow_zero];lia
   rw[decide_eq_false this];simpa using q
theorem CC {es:List Int} (hb: ∀e∈es,fold e<2^40):room es=bl (bG (es.map fold)):=by
 have hp: ∀v:Nat,(es.all fun (e:Int)=>if v=0 then e==0 else Sound.fits v e)=decide (bG (es.map fold)<2^v):=fun v=>by
  have e1: ∀e:Int,(if v=0 then e==0 else Sound.fits v e)=decide (fold e<2^v):=fun e=>by
   by_cases h:v=0
   ·subst h;exact Li e
   ·rw[if_neg h];exact Nm (by lia) e
  rw[Bool.eq_iff_iff,List.all_eq_true,decide_eq_true_eq]
  constructor
  ·intro h
   refine mj (Nat.two_pow_pos v) fun x hx=>?_
   obtain ⟨e,he,rfl⟩:=List.mem_map.mp hx
   have:=h e he
   rw[e1] at this
   simpa using this
  ·intro h e he
   rw[e1,decide_eq_true_eq]
   exact Nat.lt_of_le_of_lt (uV (List.mem_map_of_mem he)) h
 unfold room
 simp only [hp]
 have hm:bG (es.map fold)<2^40:=mj (by decide) fun x hx=>by
  obtain ⟨e,he,rfl⟩:=List.mem_map.mp hx
  exact hb e he
 have hle:=jJ hm
 have:(List.range 64).find? (fun v=>decide (bG (es.map fold)<2^v))=some (bl (bG (es.map fold))):=by
  rw[List.find?_range_eq_some]
  refine ⟨by simpa using Cu _,by simp;lia,fun j hj=>?_⟩
  simp only [Bool.not_eq_true',decide_eq_false_iff_not,Nat.not_lt]
  exact Nat.le_of_not_lt fun q=>by
   have:=jJ q
   lia
 rw[this];rfl
theorem Td {X:List Nat} {b:Nat×Nat} {G:Nat} (hG: ∀x∈X,x<2^(G-1)) (h1:1≤G) (hG31:G≤31):
  ((List.range 31).map fun g=>(g,cost X g)).foldr (fun x z=>if x.2≤z.2 then x else z) b=((List.range G).map fun g=>(g,cost X g)).foldr (fun x z=>if x.2≤z.2 then x else z) b:=by
 have big: ∀g,G-1≤g→cost X g=5+X.length*(g+1):=fun g hg=>by
  unfold cost
  have:(X.map fun n=>n/2^g)=X.map fun _=>0:=List.map_congr_left fun x hx=>Nat.div_eq_of_lt (Nat.lt_of_lt_of_le (hG x hx) (Nat.pow_le_pow_right (by decide) hg))
  rw[this]
  have z: ∀l:List Nat,(l.map fun _=>0).sum=0:=fun l=>by
   induction l with
   |nil=>rfl
   |cons x X ih=>rw[List.map_cons,List.sum_cons,ih]
  rw[z];rfl
 have mono: ∀g,G-1≤g→cost X (G-1)≤cost X g:=fun g hg=>by
  rw[big g hg,big (G-1) (Nat.le_refl _)]
  have:=Nat.mul_le_mul_left X.length (show G-1+1≤g+1 by lia)
  lia
 have split:List.range 31=List.range G++(List.range (31-G)).map (fun i=>G+i):=by
  rw[←List.range_add];congr 1;lia
 rw[split,List.map_append,List.foldr_append]
 have tail: ∀l:List Nat,(∀g∈l,G-1≤g)→let Z:=(l.map fun g=>(g,cost X g)).foldr (fun x z=>if x.2≤z.2 then x else z) b
   Z=b∨(cost X (G-1)≤Z.2∧Z.2≤b.2):=by
  intro l
  induction l with
  |nil=>intro _;exact .inl rfl
  |cons g l ih=>
   intro h
   have ih:=ih fun x hx=>h x (List.mem_cons_of_mem _ hx)
   simp only [List.map_cons,List.foldr_cons] at ih⊢
   generalize (l.map fun g=>(g,cost X g)).foldr (fun x z=>if x.2≤z.2 then x else z) b=Z at ih⊢
   by_cases q:cost X g≤Z.2
   ·rw[if_pos q]
    refine .inr ⟨mono g (h g (by simp)),?_⟩
    rcases ih with e|e
    ·rw[←e];exact q
    ·exact Nat.le_trans q e.2
   ·rw[if_neg q];exact ih
 have ht:=tail ((List.range (31-G)).map (fun i=>G+i)) fun g hg=>by
  obtain ⟨i,_,rfl⟩:=List.mem_map.mp hg
  lia
 simp only at ht
 generalize (((List.range (31-G)).map (fun i=>G+i)).map fun g=>(g,cost X g)).foldr (fun x z=>if x.2≤z.2 then x else z) b=Z at ht⊢
 rcases ht with e|⟨e1,e2⟩
 ·rw[e]
 ·have last:List.range G=List.range (G-1)++ [G-1]:=by
   rw[←List.range_succ];congr 1;lia
  rw[last,List.map_append,List.foldr_append,List.foldr_append]
  congr 1
  simp only [List.map_cons,List.map_nil,List.foldr_cons,List.foldr_nil]
  exact (if_pos e1).trans (if_pos (Nat.le_trans e1 e2)).symm
def dE (X:List Nat) (G:Nat):Nat×Nat:=(List.range G).reverse.foldl (jK X) (31,11+X.length*bl (bG X))
theorem Mh {es:List Int} {G:Nat} (hb: ∀e∈es,fold e<2^40) (hG: ∀e∈es,fold e<2^(G-1)) (h1:1≤G) (hG31:G≤31):
  bestWay es=some (⟨(dE (es.map fold) G).1,if (dE (es.map fold) G).1=31 then bl (bG (es.map fold)) else 0⟩,(dE (es.map fold) G).2):=by
 have hall:(es.all fun (e:Int)=>decide (fold e<GREAT))=true:=List.all_eq_true.mpr fun e he=>decide_eq_true (hb e he)
 have hr:=CC hb
 have hle:room es≤40:=by rw[hr];exact jJ (mj (by decide) fun x hx=>by
  obtain ⟨e,he,rfl⟩:=List.mem_map.mp hx
  exact hb e he)
 unfold bestWay ways
 rw[if_pos hall,if_pos hle,List.map_append,List.map_cons,List.map_nil,List.map_map,uC]
 let wy:Nat×Nat→Way×Nat:=fun x=>(⟨x.1,if x.1=31 then bl (bG (es.map fold)) else 0⟩,x.2)
 have hl:((List.range 31).map ((fun (w:Way)=>(w,groupSize es w))∘fun (g:Nat)=>(⟨g,0⟩:Way)))=((List.range 31).map fun g=>(g,cost (es.map fold) g)).map wy:=by
  rw[List.map_map]
  refine List.map_congr_left fun g hg=>?_
  have:g<31:=by simpa using hg
  show ((⟨g,0⟩:Way),groupSize es ⟨g,0⟩)=wy (g,cost (es.map fold) g)
  rw[Cz es this]
  show _=((⟨g,if g=31 then _ else 0⟩:Way),_)
  rw[if_neg (by lia)]
 have h31:((⟨31,room es⟩:Way),groupSize es ⟨31,room es⟩)=wy (31,11+(es.map fold).length*bl (bG (es.map fold))):=by
  show _=((⟨31,if 31=31 then _ else 0⟩:Way),_)
  rw[if_pos rfl,←hr]
  show _=(_,_)
  congr 1
  unfold groupSize
  rw[if_pos rfl,List.length_map,Nat.mul_comm]
 rw[hl,h31]
 have push: ∀(l:List (Nat×Nat)) (b:Nat×Nat),(l.map wy).foldr (fun x z=>if x.2≤z.2 then x else z) (wy b)=wy (l.foldr (fun x z=>if x.2≤z.2 then x else z) b):=by
  intro l b
  induction l with
  |nil=>rfl
  |cons x l ih=>
   simp only [List.map_cons,List.foldr_cons,ih]
   show (if x.2≤(l.foldr (fun x z=>if x.2≤z.2 then x else z) b).2 then _ else _)=_
   split<;>rfl
 rw[push,Td (G:=G) (fun x hx=>by
  obtain ⟨e,he,rfl⟩:=List.mem_map.mp hx
  exact hG e he) h1 hG31]
 have fin:((List.range G).map fun g=>(g,cost (es.map fold) g)).foldr (fun x z=>if x.2≤z.2 then x else z) (31,11+(es.map fold).length*bl (bG (es.map fold)))=dE (es.map fold) G:=by
  unfold dE
  rw[List.foldl_reverse,List.foldr_map]
  rfl
 rw[fin]
end Wg
namespace Wg
open PySem Sound
structure GW where
 first:Nat
 last:Nat
 g:Nat
 v:Nat
 bits:Nat
structure RW where
 r:Nat
 groups:List GW
 bits:Nat
def slice {α:Type} (l:List α) (a b:Nat):List α:=(l.drop a).take (b-a)
def iy (F:List Nat) (G first last:Nat):GW:=⟨first,last,(dE (slice F first last) G).1,bl (bG (slice F first last)),(dE (slice F first last) G).2⟩
def firstOf (n p r i:Nat):Nat:=if i=0 then 0 else i*(n/2^r)-p
def lastOf (n p r i:Nat):Nat:=(i+1)*(n/2^r)-p
def ft (n p r:Nat) (F:List Nat) (G:Nat):List GW:=(List.range (2^r)).map fun i=>iy F G (firstOf n p r i) (lastOf n p r i)
def dO (n p r:Nat) (F:List Nat) (G:Nat):RW:=⟨r,ft n p r F G,3+((ft n p r F G).map GW.bits).sum⟩
def di (n p r:Nat):Bool:=decide (r≤6)&&(decide (n/2^r*2^r=n)&&decide (p≤n/2^r))
def aF (F:List Nat):Nat:=min 31 (bl (bG F)+1)
def eG (n p:Nat) (F:List Nat) (least:Option RW) (r:Nat):Option RW:=if di n p r=true then (match least with
 |none=>some (dO n p r F (aF F))
 |some l=>if (dO n p r F (aF F)).bits<l.bits then some (dO n p r F (aF F)) else some l) else least
def fA (n p:Nat) (F:List Nat):Option RW:=(List.range 7).foldl (eG n p F) none
def sX (X:List Nat) (G:Nat):Way:=⟨(dE X G).1,if (dE X G).1=31 then bl (bG X) else 0⟩
theorem DY {α β:Type} (f:α→β) (l:List α) (a b:Nat):(slice l a b).map f=slice (l.map f) a b:=by simp [slice,List.map_take,List.map_drop]
theorem SJ {n p r:Nat} (hp:p≤n/2^r) (es:List Int):Sound.cut n p r es=(List.range (2^r)).map fun i=>slice es (firstOf n p r i) (lastOf n p r i):=by
 unfold Sound.cut
 refine List.map_congr_left fun i _=>?_
 unfold slice firstOf lastOf
 generalize n/2^r=sz at hp⊢
 by_cases h:i=0
 ·subst h;simp
 ·rw[if_neg h,if_neg h]
  have e:(i+1)*sz=i*sz+sz:=by rw[Nat.add_mul,Nat.one_mul]
  have q:1*sz≤i*sz:=Nat.mul_le_mul_right sz (by lia)
  have e2:(i+1)*sz-p-(i*sz-p)=sz:=by lia
  rw[e2]
theorem tj {α:Type} {l:List α} {a b:Nat} {x:α} (h:x∈slice l a b):x∈l:=List.mem_of_mem_drop (List.mem_of_mem_take h)
theorem rf {F:List Nat}:1≤aF F∧aF F≤31:=by unfold aF;lia
theorem OP {F:List Nat} {x:Nat} (hx:x∈F) (hF:aF F<31):x<2^(aF F-1):=by
 have:aF F-1=bl (bG F):=by unfold aF at hF⊢;lia
 rw[this]
 exact Nat.lt_of_le_of_lt (uV hx) (Cu _)
theorem Sl {es:List Int} {F:List Nat} (hb: ∀e∈es,fold e<2^40) (hF: ∀e∈es,fold e∈F):
  bestWay es=some (sX (es.map fold) (aF F),(dE (es.map fold) (aF F)).2):=by
 obtain ⟨h1,h31⟩:=rf (F:=F)
 by_cases h:aF F<31
 ·exact Mh hb (fun e he=>OP (hF e he) h) h1 h31
 ·have e:aF F=31:=by lia
  have hall:(es.all fun (e:Int)=>decide (fold e<GREAT))=true:=List.all_eq_true.mpr fun e he=>decide_eq_true (hb e he)
  have hr:=CC hb
  have hle:room es≤40:=by rw[hr];exact jJ (mj (by decide) fun x hx=>by
   obtain ⟨e,he,rfl⟩:=List.mem_map.mp hx
   exact hb e he)
  rw[e]
  unfold bestWay ways
  rw[if_pos hall,if_pos hle,List.map_append,List.map_cons,List.map_nil,List.map_map,uC]
  let wy:Nat×Nat→Way×Nat:=fun x=>(⟨x.1,if x.1=31 then bl (bG (es.map fold)) else 0⟩,x.2)
  have hl:((List.range 31).map ((fun (w:Way)=>(w,groupSize es w))∘fun (g:Nat)=>(⟨g,0⟩:Way)))=((List.range 31).map fun g=>(g,cost (es.map fold) g)).map wy:=by
   rw[List.map_map]
   refine List.map_congr_left fun g hg=>?_
   have:g<31:=by simpa using hg
   show ((⟨g,0⟩:Way),groupSize es ⟨g,0⟩)=wy (g,cost (es.map fold) g)
   rw[Cz es this]
   show _=((⟨g,if g=31 then _ else 0⟩:Way),_)
   rw[if_neg (by lia)]
  have hh31:((⟨31,room es⟩:Way),groupSize es ⟨31,room es⟩)=wy (31,11+(es.map fold).length*bl (bG (es.map fold))):=by
   show _=((⟨31,if 31=31 then _ else 0⟩:Way),_)
   rw[if_pos rfl,←hr]
   show _=(_,_)
   congr 1
   unfold groupSize
   rw[if_pos rfl,List.length_map,Nat.mul_comm]
  rw[hl,hh31]
  have push: ∀(l:List (Nat×Nat)) (b:Nat×Nat),(l.map wy).foldr (fun x z=>if x.2≤z.2 then x else z) (wy b)=wy (l.foldr (fun x z=>if x.2≤z.2 then x else z) b):=by
   intro l b
   induction l with
   |nil=>rfl
   |cons x l ih=>
    simp only [List.map_cons,List.foldr_cons,ih]
    show (if x.2≤(l.foldr (fun x z=>if x.2≤z.2 then x else z) b).2 then _ else _)=_
    split<;>rfl
  rw[push]
  have fin:((List.range 31).map fun g=>(g,cost (es.map fold) g)).foldr (fun x z=>if x.2≤z.2 then x else z) (31,11+(es.map fold).length*bl (bG (es.map fold)))=dE (es.map fold) 31:=by
   unfold dE
   rw[List.foldl_reverse,List.foldr_map]
   rfl
  rw[fin]
  rfl
def mI (n p r:Nat) (es:List Int) (G:Nat):List (List Int×Way):=(List.range (2^r)).map fun i=>
 (slice es (firstOf n p r i) (lastOf n p r i),sX ((slice es (firstOf n p r i) (lastOf n p r i)).map fold) G)
theorem FH {es:List Int} (hb: ∀e∈es,fold e<2^40) (f l:Nat→Nat): ∀is:List Nat,
  cutWays (is.map fun i=>slice es (f i) (l i))=some (is.map (fun i=>(slice es (f i) (l i),sX ((slice es (f i) (l i)).map fold) (aF (es.map fold)))),3+(is.map fun i=>(dE ((slice es (f i) (l i)).map fold) (aF (es.map fold))).2).sum)
 | []=>rfl
 |i::is=>by
  rw[List.map_cons,cutWays,Sl (F:=es.map fold) (fun e he=>hb e (tj he)) (fun e he=>List.mem_map_of_mem (tj he)),FH hb f l is]
  simp only [List.map_cons,List.sum_cons]
  congr 2
  lia
theorem ng {n p:Nat} {es:List Int} (hb: ∀e∈es,fold e<2^40):
  bestCut n p es=(fA n p (es.map fold)).map fun w=>((w.r,mI n p w.r es (aF (es.map fold))),w.bits):=by
 unfold bestCut fA
 rw[←wR]
 let tr:RW→(Nat×List (List Int×Way))×Nat:=fun w=>((w.r,mI n p w.r es (aF (es.map fold))),w.bits)
 have one: ∀r:Nat,r≤6→(if mayCut n p r=true then (cutWays (Sound.cut n p r es)).map fun (c:List (List Int×Way)×Nat)=>((r,c.1),c.2) else none)=
   if di n p r=true then some (tr (dO n p r (es.map fold) (aF (es.map fold)))) else none:=fun r hr=>by
  have hc:di n p r=mayCut n p r:=by
   unfold di mayCut
   rw[decide_eq_true hr,Bool.true_and]
   congr 1
   have:=Nat.div_add_mod n (2^r)
   rw[Nat.mul_comm] at this
   rw[Bool.eq_iff_iff,decide_eq_true_eq,beq_iff_eq]
   lia
  rw[hc]
  by_cases h:mayCut n p r=true
  ·rw[if_pos h,if_pos h]
   have hp:p≤n/2^r:=by unfold mayCut at h;simp at h;exact h.2
   rw[SJ hp,FH hb]
   show some _=some _
   congr 1
   show _=(_,_)
   unfold mI dO ft
   simp only [List.map_map]
   refine Prod.ext rfl ?_
   show 3+_=3+_
   congr 2
   refine List.map_congr_left fun i _=>?_
   show (dE _ _).2=(iy _ _ _ _).bits
   unfold iy
   rw[DY]
  ·rw[if_neg h,if_neg h]
 have step: ∀(l:List Nat),(∀r∈l,r≤6)→ ∀acc:Option RW,
   (l.filterMap fun (r:Nat)=>if mayCut n p r=true then (cutWays (Sound.cut n p r es)).map fun (c:List (List Int×Way)×Nat)=>((r,c.1),c.2) else none).foldl comb (acc.map tr)=(l.foldl (eG n p (es.map fold)) acc).map tr:=by
  intro l
  induction l with
  |nil=>intro _ acc;rfl
  |cons r l ih=>
   intro h acc
   have ih:=ih fun x hx=>h x (List.mem_cons_of_mem _ hx)
   rw[List.filterMap_cons,one r (h r (by simp)),List.foldl_cons]
   by_cases hc:di n p r=true
   ·rw[if_pos hc]
    simp only [List.foldl_cons]
    rw[←ih]
    congr 1
    unfold eG
    rw[if_pos hc]
    cases acc with
    |none=>rfl
    |some a=>
     show (if (tr (dO n p r (es.map fold) (aF (es.map fold)))).2<(tr a).2 then _ else _)=Option.map tr (if _ then _ else _)
     by_cases q:(dO n p r (es.map fold) (aF (es.map fold))).bits<a.bits
     ·rw[if_pos q,if_pos q];rfl
     ·rw[if_neg q,if_neg q];rfl
   ·rw[if_neg hc]
    rw[ih]
    congr 1
    unfold eG
    rw[if_neg hc]
 exact step (List.range 7) (fun r hr=>by simp at hr;lia) none
theorem RH {n p:Nat} (hp:p≤n) (F:List Nat): ∃w,fA n p F=some w∧di n p w.r=true:=by
 unfold fA
 have h0:di n p 0=true:=by unfold di;simp [hp]
 have fe: ∀(l:List Nat) (w:RW),di n p w.r=true→ ∃w',l.foldl (eG n p F) (some w)=some w'∧di n p w'.r=true:=by
  intro l
  induction l with
  |nil=>intro w hw;exact ⟨w,rfl,hw⟩
  |cons r l ih=>
   intro w hw
   rw[List.foldl_cons]
   unfold eG
   by_cases hc:di n p r=true
   ·rw[if_pos hc]
    simp only
    split
    ·exact ih _ hc
    ·exact ih _ hw
   ·rw[if_neg hc];exact ih _ hw
 rw[show List.range 7=0::(List.range 6).map (· +1) from rfl,List.foldl_cons]
 have e:eG n p F none 0=some (dO n p 0 F (aF F)):=by unfold eG;rw[if_pos h0]
 rw[e]
 exact fe _ _ h0
end Wg
namespace Wg
open PySem Sound
def eK:List Int→List Int→Nat→Int
 | [],_,_=>0
 |f::fs,y,t=>f*y.getD (t-1) 0+eK fs y (t-1)
def gz (a:List Int) (h:Nat) (y:List Int) (t:Nat):Int:=eK a y t/2^h
def cB (a:List Int) (h:Nat) (y:List Int):List Int:=(List.range (y.length-a.length)).map fun i=>y.getD (a.length+i) 0-gz a h y (a.length+i)
theorem uQ: ∀a b:List Int,ip a (b.take a.length)=ip a b
 | [],b=>by simp [ip]
 |x::a, []=>by simp [ip]
 |x::a,y::b=>by simp [ip,uQ a b]
theorem Fb {y:List Int} {t:Nat} (h:t<y.length):(y.take (t+1)).reverse=y.getD t 0::(y.take t).reverse:=by
 rw[List.take_succ,List.getElem?_eq_getElem h,List.getD_eq_getElem?_getD,List.getElem?_eq_getElem h]
 simp
theorem An: ∀(a y:List Int) (t:Nat),t≤y.length→a.length≤t→ip a (y.take t).reverse=eK a y t
 | [],y,t,_,_=>by simp [ip,eK]
 |f::fs,y,0,h1,h2=>by simp at h2
 |f::fs,y,t+1,h1,h2=>by
  rw[Fb (by lia)]
  simp only [ip,eK,Nat.add_sub_cancel]
  rw[An fs y t (by lia) (by simpa using h2)]
theorem Uc {a y before:List Int} {h t:Nat} (h1:t≤y.length) (h2:a.length≤t) (hb:before.take a.length=(y.take t).reverse.take a.length):guess a h before=gz a h y t:=by
 unfold guess gz
 rw[yg,←uQ,hb,uQ,An a y t h1 h2,Int.fdiv_eq_ediv_of_nonneg _ (Int.le_of_lt (Int.pow_pos (by decide)))]
theorem BX {a y:List Int} {h:Nat}: ∀(m t:Nat) (before:List Int),t+m=y.length→a.length≤t→before.take a.length=(y.take t).reverse.take a.length→
  restsFrom a h before (y.drop t)=(List.range m).map fun i=>y.getD (t+i) 0-gz a h y (t+i)
 |0,t,before,h1,h2,hb=>by
  rw[List.drop_eq_nil_of_le (by lia)];rfl
 |m+1,t,before,h1,h2,hb=>by
  have ht:t<y.length:=by lia
  rw[List.drop_eq_getElem_cons ht,restsFrom,Uc (by lia) h2 hb,List.range_succ_eq_map,List.map_cons]
  have e:y.getD t 0=y[t]:=by rw[List.getD_eq_getElem?_getD,List.getElem?_eq_getElem ht];rfl
  congr 1
  ·rw[Nat.add_zero,e]
  ·rw[BX m (t+1) _ (by lia) (by lia),List.map_map]
   ·refine List.map_congr_left fun i _=>?_
    show _=y.getD (t+(i+1)) 0-gz a h y (t+(i+1))
    rw[show t+(i+1)=t+1+i by lia]
   ·rw[Fb ht,e,hb]
    cases hh:a.length with
    |zero=>rfl
    |succ q=>simp [List.take_take]
theorem tH {a y:List Int} {h:Nat} (hp:a.length≤y.length):rests a h y=cB a h y:=by
 unfold rests cB
 exact BX _ _ _ (by lia) (Nat.le_refl _) rfl
def Bd (B:Int) (l:List Int):Prop:= ∀x∈l,-B≤x∧x≤B
theorem Bd.getD {B:Int} {l:List Int} (hB:0≤B) (h:Bd B l) (i:Nat): -B≤l.getD i 0∧l.getD i 0≤B:=by
 rw[List.getD_eq_getElem?_getD]
 cases e:l[i]? with
 |none=>simp;lia
 |some x=>exact h x (List.mem_of_getElem? e)
theorem DL {A B x y:Int} (hA:0≤A) (hx: -A≤x∧x≤A) (hy: -B≤y∧y≤B): -(A*B)≤x*y∧x*y≤A*B:=by
 have hB:0≤B:=by lia
 have n1:(x*y).natAbs≤(A*B).natAbs:=by
  rw[Int.natAbs_mul,Int.natAbs_mul]
  exact Nat.mul_le_mul (by lia) (by lia)
 have:=Int.mul_nonneg hA hB
 lia
theorem B2 {A B:Int} (hA:0≤A) (hB:0≤B): ∀(a y:List Int) (t:Nat),Bd A a→Bd B y→ -(a.length*(A*B))≤eK a y t∧eK a y t≤a.length*(A*B)
 | [],y,t,_,_=>by simp [eK]
 |f::fs,y,t,ha,hy=>by
  have h1:=DL hA (ha f (by simp)) (hy.getD hB (t-1))
  have h2:=B2 hA hB fs y (t-1) (fun x hx=>ha x (List.mem_cons_of_mem _ hx)) hy
  simp only [eK,List.length_cons]
  have e:((fs.length+1:Nat):Int)*(A*B)=fs.length*(A*B)+A*B:=by
   rw[Int.natCast_add,Int.add_mul];simp
  rw[e]
  lia
theorem Gd {M x:Int} {h:Nat} (hx: -M≤x∧x≤M): -M≤x/2^h∧x/2^h≤M:=by
 have hp:(0:Int)<2^h:=Int.pow_pos (by decide)
 have h1:(1:Int)≤2^h:=hp
 have hM:0≤M:=by lia
 constructor
 ·rw[Int.le_ediv_iff_mul_le hp]
  have: -M*2^h≤ -M*1:=Int.mul_le_mul_of_nonpos_left (by lia) h1
  lia
 ·have:x/2^h≤M/2^h:=Int.ediv_le_ediv hp hx.2
  have:=Int.ediv_le_self (2^h) hM
  lia
theorem LB {A B:Int} (hA:0≤A) (hB:0≤B) {a y:List Int} {h t:Nat} (ha:Bd A a) (hy:Bd B y): -(B+a.length*(A*B))≤y.getD t 0-gz a h y t∧y.getD t 0-gz a h y t≤B+a.length*(A*B):=by
 have h1:=hy.getD hB t
 have h2:=Gd (h:=h) (B2 hA hB a y t ha hy)
 unfold gz
 lia
theorem O5 {e:Int} (h: -274877906944≤e∧e≤274877906944):fold e<2^40:=by
 unfold fold
 have:(2:Nat)^40=1099511627776:=by decide
 split<;>lia
theorem uJ {a y:List Int} {h:Nat} (ha:Bd 2048 a) (hl:a.length≤4) (hy:Bd 16777216 y): ∀e∈cB a h y,fold e<2^40:=by
 intro e he
 obtain ⟨i,_,rfl⟩:=List.mem_map.mp he
 have:=LB (t:=a.length+i) (h:=h) (by decide:(0:Int)≤2048) (by decide:(0:Int)≤16777216) ha hy
 refine O5 ?_
 have e1:(a.length:Int)*(2048*16777216)≤4*(2048*16777216):=by lia
 lia
theorem bt (n v:Nat):(u n v).length=n:=by simp [u]
theorem ly (n:Nat) (z:Int):(sb n z).length=n:=bt _ _
theorem sv (q:Nat):(Sound.run q).length=q+1:=by simp [Sound.run]
theorem vy {α:Type} {f:α→Bits} {k:Nat}: ∀l:List α,(∀x∈l,(f x).length=k)→(l.flatMap f).length=l.length*k
 | [],_=>by simp
 |x::l,h=>by
  rw[List.flatMap_cons,List.length_append,h x (by simp),vy l fun y hy=>h y (List.mem_cons_of_mem _ hy),List.length_cons,Nat.add_mul];lia
theorem eh (w:Nat) (y:List Int):(Sound.numbers w y).length=y.length*w:=vy _ fun x _=>ly w x
theorem iq (z:Nat):(flag z).length=1+z:=by
 unfold flag
 split
 ·rename_i h;subst h;rfl
 ·rename_i h;rw[List.length_cons,sv];lia
theorem Mn (es:List Int) (w:Way):(groupBits es w).length=groupSize es w:=by
 unfold groupBits groupSize
 by_cases h:w.g=31
 ·rw[if_pos h,if_pos h,List.length_append,List.length_append,bt,bt,vy es fun e _=>ly w.v e,Nat.mul_comm];lia
 ·rw[if_neg h,if_neg h,List.length_append,bt]
  congr 1
  unfold total
  rw[vB]
  induction es with
  |nil=>rfl
  |cons e es ih=>rw[List.flatMap_cons,List.length_append,ih,List.map_cons,List.sum_cons,List.length_append,sv,bt];lia
theorem vh {α:Type}: ∀{l:List (α×Nat)} {x:α×Nat},leastOf l=some x→x∈l
 | [],x,h=>by cases h
 |y::l,x,h=>by
  rw[leastOf] at h
  cases e:leastOf l with
  |none=>rw[e] at h;cases h;simp
  |some z=>
   rw[e] at h
   simp only at h
   split at h
   ·cases h;simp
   ·cases h;exact List.mem_cons_of_mem _ (vh e)
theorem Ed: ∀(ls:List (List Int)) (x:List (List Int×Way)) (k:Nat),cutWays ls=some (x,k)→(x.flatMap fun (y:List Int×Way)=>groupBits y.1 y.2).length+3=k
 | [],x,k,h=>by cases h;rfl
 |l::ls,x,k,h=>by
  rw[cutWays] at h
  cases e1:bestWay l with
  |none=>rw[e1] at h;cases h
  |some wk=>
   obtain ⟨w,k1⟩:=wk
   cases e2:cutWays ls with
   |none=>rw[e1,e2] at h;cases h
   |some xk=>
    obtain ⟨x',k2⟩:=xk
    rw[e1,e2] at h
    cases h
    have ih:=Ed ls x' k2 e2
    have hm:=vh e1
    obtain ⟨w',_,hw⟩:=List.mem_map.mp hm
    cases hw
    rw[List.flatMap_cons,List.length_append,Mn]
    simp only
    lia
theorem yl {n p:Nat} {es:List Int} {c:(Nat×List (List Int×Way))×Nat} (h:bestCut n p es=some c):(restBits c.1).length=c.2:=by
 have hm:=vh h
 obtain ⟨r,_,hr⟩:=List.mem_filterMap.mp hm
 by_cases q:mayCut n p r=true
 ·rw[if_pos q] at hr
  obtain ⟨c',h1,h2⟩:=Option.map_eq_some_iff.mp hr
  subst h2
  have:=Ed _ _ _ h1
  unfold restBits
  rw[List.length_append,bt]
  simp only
  lia
 ·rw[if_neg q] at hr;cases hr
def jy (w z p:Nat) (a:List Int) (h:Nat) (y:List Int) (more:Nat):Option Nat:=(fA y.length p ((cB a h y).map fold)).map fun (q:RW)=>1+z+4+(p*w+q.bits)+more
def rK (w z:Nat) (y:List Int) (kind:Nat):Option Nat:=
 if kind=1 then some (1+z+4+y.length*w)
 else if kind≤6 then (if kind-2≤y.length then jy w z (kind-2) (FIXED.getD (kind-2) []) 0 y 0 else none)
 else if kind-6<y.length then (match fN y (kind-6) with
  |none=>none
  |some (h,a)=>jy w z (kind-6) a h y (4+(kind-6)*12)) else none
theorem yc {y:List Int} {p h:Nat} {a:List Int} (e:factors y p=some (h,a)) (hp:1≤p) (h4:p≤4) (hn:p≤y.length):a.length=p∧Bd 2048 a∧h≤15:=by
 unfold factors at e
 rcases x9 hp h4 hn with ⟨e1,_⟩|⟨d,ns,rows,e1,_,g⟩
 ·rw[e1] at e;cases e
 ·rw[e1] at e
  obtain ⟨h',h1,h2⟩:=Option.map_eq_some_iff.mp e
  cases h2
  have hm:=List.find?_some h1
  have hmem:=List.mem_of_find?_eq_some h1
  refine ⟨by rw[List.length_map,g.w6],fun x hx=>?_,by simp at hmem;lia⟩
  obtain ⟨n,hn,rfl⟩:=List.mem_map.mp hx
  have:=List.all_eq_true.mp hm n hn
  simp at this
  lia
theorem DI {p:Nat} (h:p≤4):(FIXED.getD p []).length=p∧Bd 2048 (FIXED.getD p []):=by
 rcases (by lia:p=0∨p=1∨p=2∨p=3∨p=4) with rfl|rfl|rfl|rfl|rfl
 ·exact ⟨rfl,fun x hx=>by simp [FIXED] at hx⟩
 ·exact ⟨rfl,fun x hx=>by simp [FIXED] at hx;lia⟩
 ·exact ⟨rfl,fun x hx=>by simp [FIXED] at hx;lia⟩
 ·exact ⟨rfl,fun x hx=>by simp [FIXED] at hx;lia⟩
 ·exact ⟨rfl,fun x hx=>by simp [FIXED] at hx;lia⟩
theorem kind_len {w z:Nat} {y:List Int} {kind:Nat} (h1:1≤kind) (h10:kind≤10) (hy:Bd 16777216 y):(Sound.kindBits w y kind).map (fun b=>(flag z++b).length)=rK w z y kind:=by
 unfold Sound.kindBits rK
 rw[if_neg (by lia)]
 by_cases k1:kind=1
 ·rw[if_pos k1,if_pos k1]
  show some ((flag z++(u 4 kind++Sound.numbers w y)).length)=some _
  rw[List.length_append,List.length_append,iq,bt,eh]
  congr 1
  lia
 rw[if_neg k1,if_neg k1]
 by_cases k6:kind≤6
 ·rw[if_pos k6,if_pos k6]
  simp only
  by_cases hp:y.length<kind-2
  ·rw[if_pos hp,if_neg (by lia)];rfl
  ·rw[if_neg hp,if_pos (by lia)]
   obtain ⟨f1,f2⟩:=DI (p:=kind-2) (by lia)
   generalize FIXED.getD (kind-2) []=a at f1 f2⊢
   rw[tH (by lia),Option.map_map]
   unfold jy
   have hb:=uJ (h:=0) f2 (by lia) hy
   rw[ng hb,Option.map_map]
   cases e:fA y.length (kind-2) ((cB a 0 y).map fold) with
   |none=>rfl
   |some q=>
    have hc:=yl (ng (n:=y.length) (p:=kind-2) hb|>.trans (by rw[e];rfl))
    show some _=some _
    congr 1
    show (flag z++(u 4 kind++(Sound.numbers w (y.take (kind-2))++restBits _))).length=_
    rw[List.length_append,List.length_append,List.length_append,iq,bt,eh,hc,List.length_take,Nat.min_eq_left (by lia)]
    simp only
    lia
 ·rw[if_neg k6,if_neg k6]
  simp only
  by_cases hp:y.length≤kind-6
  ·rw[if_pos hp,if_neg (by lia)];rfl
  ·rw[if_neg hp,if_pos (by lia),sP (by lia) (by lia) (by lia)]
   cases ef:factors y (kind-6) with
   |none=>rfl
   |some ha=>
    obtain ⟨h,a⟩:=ha
    obtain ⟨f1,f2,f3⟩:=yc ef (by lia) (by lia) (by lia)
    simp only
    rw[tH (by lia),Option.map_map]
    unfold jy
    have hb:=uJ (h:=h) f2 (by lia) hy
    rw[ng hb,Option.map_map]
    cases e:fA y.length (kind-6) ((cB a h y).map fold) with
    |none=>rfl
    |some q=>
     have hc:=yl (ng (n:=y.length) (p:=kind-6) hb|>.trans (by rw[e];rfl))
     show some _=some _
     congr 1
     show (flag z++(u 4 kind++(Sound.numbers w (y.take (kind-6))++(u 4 h++(Sound.numbers 12 a++restBits _))))).length=_
     rw[List.length_append,List.length_append,List.length_append,List.length_append,List.length_append,iq,bt,bt,eh,eh,hc,List.length_take,Nat.min_eq_left (by lia),f1]
     simp only
     lia
theorem CM {w:Nat} {s:List Int} (hw:w≤25) (hf: ∀x∈s,-(2^(w-1):Int)≤x∧x<2^(w-1)):Bd 16777216 (Sound.shrunk w s):=by
 intro x hx
 obtain ⟨y,hy,rfl⟩:=List.mem_map.mp hx
 obtain ⟨a,b⟩:=hf y hy
 have:(2:Int)^(w-1)≤2^24:=by
  have:=Nat.pow_le_pow_right (show 0<2 by decide) (show w-1≤24 by lia)
  exact_mod_cast this
 have e:(2:Int)^24=16777216:=by decide
 exact Gd (h:=zeros w s) ⟨by lia,by lia⟩
end Wg
namespace Wg
open PySem
theorem LV (l:Sound.Bits): ∀a:Nat,l.foldl (fun (n:Nat) (b:Bool)=>2*n+(if b=true then 1 else 0)) a=a*2^l.length+Sound.value l:=by
 induction l with
 |nil=>intro a;simp [Sound.value]
 |cons b l ih=>
  intro a
  unfold Sound.value
  rw[List.foldl_cons,List.foldl_cons,ih,ih (2*0+_),List.length_cons,Nat.pow_succ]
  generalize 2^l.length=m
  rw[Nat.add_mul,Nat.add_mul]
  have e1:2*a*m=a*(m*2):=by rw[Nat.mul_comm m 2,←Nat.mul_assoc,Nat.mul_comm a 2]
  have e2:2*0*m=0:=by simp
  lia
theorem rM (l m:Sound.Bits):Sound.value (l++m)=Sound.value l*2^m.length+Sound.value m:=by
 unfold Sound.value
 rw[List.foldl_append,LV m]
 rfl
theorem xy (b:Bool) (l:Sound.Bits):Sound.value (b::l)=(if b=true then 1 else 0)*2^l.length+Sound.value l:=by
 have:=rM [b] l
 rw[List.singleton_append] at this
 rw[this]
 cases b<;>rfl
theorem rT: ∀l:Sound.Bits,Sound.value l<2^l.length
 | []=>by simp [Sound.value]
 |b::l=>by
  have:=rT l
  rw[xy,List.length_cons,Nat.pow_succ]
  cases b<;>simp<;>lia
theorem DP (n v:Nat):Sound.u (n+1) v=v.testBit n::Sound.u n v:=by
 unfold Sound.u
 rw[List.range_succ_eq_map,List.map_cons,List.map_map]
 congr 1
 refine List.map_congr_left fun i hi=>?_
 show v.testBit (n+1-1-(i+1))=v.testBit (n-1-i)
 congr 1;lia
theorem BY: ∀n v:Nat,Sound.value (Sound.u n v)=v%2^n
 |0,v=>by simp [Sound.u,Sound.value,Nat.mod_one]
 |n+1,v=>by
  rw[DP,xy,BY n v,bt]
  have h:=Nat.mod_mul (x:=v) (a:=2^n) (b:=2)
  have hb:v.testBit n=decide (v/2^n%2=1):=by rw[Nat.testBit_eq_decide_div_mod_eq]
  rw[Nat.pow_succ,h,hb]
  rcases Nat.mod_two_eq_zero_or_one (v/2^n) with e|e
  ·rw[e];simp
  ·rw[e];simp;lia
theorem M4 (n:Nat):Sound.value (List.replicate n false)=0:=by
 induction n with
 |zero=>rfl
 |succ n ih=>rw[List.replicate_succ,xy,ih];simp
theorem yj (a b:Nat):Builtin.bitOr (a:Int) (b:Int)=((a|||b:Nat):Int):=by
 rw[ER (by lia) (by lia),Int.toNat_natCast,Int.toNat_natCast]
theorem yG (a b:Nat):Builtin.bitAnd (a:Int) (b:Int)=((a&&&b:Nat):Int):=by
 unfold Builtin.bitAnd
 have h1:decide (0≤(a:Int))=true:=by simp
 have h2:decide (0≤(b:Int))=true:=by simp
 simp only [h1,h2,Int.toNat_natCast]
theorem Sz (n m:Nat):(n^^^m)%2=(n+m)%2:=by
 have h:=Nat.testBit_xor n m 0
 simp only [Nat.testBit_zero] at h
 rcases Nat.mod_two_eq_zero_or_one n with a|a<;>rcases Nat.mod_two_eq_zero_or_one m with b|b<;>rw[a,b] at h
 ·have: ¬(n^^^m)%2=1:=of_decide_eq_false h
  lia
 ·have:(n^^^m)%2=1:=of_decide_eq_true h
  lia
 ·have:(n^^^m)%2=1:=of_decide_eq_true h
  lia
 ·have: ¬(n^^^m)%2=1:=of_decide_eq_false h
  lia
theorem Nn (n m:Nat):(n^^^m)/2=n/2^^^m/2:=by
 apply Nat.eq_of_testBit_eq;intro i
 rw[Nat.testBit_xor,Nat.testBit_div_two,Nat.testBit_div_two,Nat.testBit_div_two,Nat.testBit_xor]
theorem Gg: ∀(k n m:Nat),n≤k→m≤k→(n|||m)=(n^^^m)+(n&&&m)
 |0,n,m,h1,h2=>by
  have:n=0:=by lia
  have:m=0:=by lia
  subst n m;rfl
 |k+1,n,m,h1,h2=>by
  by_cases h0:n=0∧m=0
  ·obtain ⟨rfl,rfl⟩:=h0;rfl
  have ih:=Gg k (n/2) (m/2) (by lia) (by lia)
  have a1:=Cq n m
  have a2:=Sz n m
  have a3:=rm n m
  have b1:=Dz n m
  have b2:=Nn n m
  have b3:=sk n m
  lia
theorem ir (a b:Nat):Builtin.bitXor (a:Int) (b:Int)=((a^^^b:Nat):Int):=by
 unfold Builtin.bitXor
 rw[yj,yG,Gg (max a b) a b (by lia) (by lia)]
 lia
theorem Sk {a b w:Nat} (h:b<2^w):Builtin.bitOr ((a:Int)*2^w) (b:Int)=((a*2^w+b:Nat):Int):=by
 have e:(a:Int)*2^w=((a*2^w:Nat):Int):=by simp
 rw[e,yj,Nat.mul_comm,Nat.two_pow_add_eq_or_of_lt h]
theorem mask (x:Int) (w:Nat):Builtin.bitAnd x ((2^w:Int)-1)=x%2^w:=by
 have hp:0<2^w:=Nat.two_pow_pos w
 have e2:((2:Int)^w)=((2^w:Nat):Int):=by simp
 have e1:(2:Int)^w-1=((2^w-1:Nat):Int):=by rw[e2];lia
 rcases Int.lt_or_le x 0 with hx|hx
 ·unfold Builtin.bitAnd Builtin.bitNot
  have h1:decide (0≤x)=false:=by simp;lia
  have h2:decide (0≤(2:Int)^w-1)=true:=by rw[e1];simp
  simp only [h1,h2]
  rw[e1,Int.toNat_natCast,Nat.and_comm,Nat.and_two_pow_sub_one_eq_mod]
  generalize hm:(-x-1).toNat=m
  have hd:=Nat.div_add_mod m (2^w)
  have hlt:=Nat.mod_lt m hp
  rw[e2]
  have ex:x=((2^w-1-m%2^w:Nat):Int)+((2^w:Nat):Int)*(-((m/2^w:Nat):Int)-1):=by
   have:((2^w:Nat):Int)*(-((m/2^w:Nat):Int)-1)= -((2^w*(m/2^w):Nat):Int)-((2^w:Nat):Int):=by
    rw[Int.mul_sub,Int.mul_neg,←Int.natCast_mul,Int.mul_one]
   rw[this]
   lia
  have:x%((2^w:Nat):Int)=((2^w-1-m%2^w:Nat):Int):=by
   rw[ex,Int.add_mul_emod_self_left]
   exact Int.emod_eq_of_lt (by lia) (by lia)
  rw[this]
  lia
 ·obtain ⟨n,rfl⟩:=Int.eq_ofNat_of_zero_le hx
  rw[e1,yG,Nat.and_two_pow_sub_one_eq_mod,e2]
  simp
theorem vq (n:Nat):Builtin.bitAnd (n:Int) 255=((n%256:Nat):Int):=by
 have:=mask (n:Int) 8
 have e:(2:Int)^8=256:=by decide
 rw[e] at this
 rw[show (255:Int)=256-1 by decide,this]
 simp
theorem uq: ∀(nb k:Nat) (L:Sound.Bits),L.length=8*nb→nb≤k→(Sound.bytesOf (k+1) L).map UInt8.toNat=(List.range nb).map fun i=>Sound.value L/2^(8*(nb-1-i))%256
 |0,k,L,hl,_=>by
  have:L= []:=List.eq_nil_of_length_eq_zero (by lia)
  subst this
  rfl
 |nb+1,k,L,hl,hk=>by
  have hne:L.isEmpty=false:=by cases L with
   |nil=>simp at hl
   |cons _ _=>rfl
  rw[Sound.bytesOf,hne,if_neg Bool.false_ne_true,List.map_cons,List.range_succ_eq_map,List.map_cons,List.map_map]
  have hs:L=L.take 8++L.drop 8:=(List.take_append_drop 8 L).symm
  have l1:(L.take 8).length=8:=by rw[List.length_take];lia
  have l2:(L.drop 8).length=8*nb:=by rw[List.length_drop];lia
  have hv:Sound.value L=Sound.value (L.take 8)*2^(8*nb)+Sound.value (L.drop 8):=by
   conv=>lhs;rw[hs]
   rw[rM,l2]
  have b1:Sound.value (L.take 8)<256:=by have:=rT (L.take 8);rw[l1] at this;exact this
  have b2:Sound.value (L.drop 8)<2^(8*nb):=by have:=rT (L.drop 8);rw[l2] at this;exact this
  obtain ⟨k',rfl⟩: ∃k',k=k'+1:=⟨k-1,by lia⟩
  congr 1
  ·rw[show 8*(nb+1-1-0)=8*nb by lia,hv]
   have:(Sound.value (L.take 8)*2^(8*nb)+Sound.value (L.drop 8))/2^(8*nb)=Sound.value (L.take 8):=by
    rw[Nat.mul_comm,Nat.mul_add_div (Nat.two_pow_pos _),Nat.div_eq_of_lt b2,Nat.add_zero]
   rw[this,UInt8.toNat_ofNat']
  ·rw[uq nb k' (L.drop 8) l2 (by lia)]
   refine List.map_congr_left fun i hi=>?_
   have hi:i<nb:=by simpa using hi
   show Sound.value (L.drop 8)/2^(8*(nb-1-i))%256=Sound.value L/2^(8*(nb+1-1-(i+1)))%256
   rw[show 8*(nb+1-1-(i+1))=8*(nb-1-i) by lia,hv]
   have e:(2:Nat)^(8*nb)=2^(8*(nb-1-i))*(256*2^(8*i)):=by
    rw[show (256:Nat)=2^8 by decide,←Nat.pow_add,←Nat.pow_add]
    congr 1;lia
   rw[e]
   generalize 2^(8*(nb-1-i))=m at*
   have hm:0<m:=by
    rcases Nat.eq_zero_or_pos m with z|z
    ·rw[z,Nat.zero_mul] at e
     have:=Nat.two_pow_pos (8*nb)
     lia
    ·exact z
   have:Sound.value (L.take 8)*(m*(256*2^(8*i)))+Sound.value (L.drop 8)=m*(256*(Sound.value (L.take 8)*2^(8*i)))+Sound.value (L.drop 8):=by grind
   rw[this,Nat.mul_add_div hm,Nat.add_comm,Nat.add_mul_mod_self_left]
end Wg
namespace Wg
open PySem
def iM (p:Nat):Nat:=if 65535<2*p then 2*p^^^69665 else 2*p
def eu (c b:Nat):Nat:=(List.range 8).foldl (fun p _=>iM p) (c^^^(b*256))
def kL (l:List Nat):Nat:=l.foldl eu 65535
def cj (c:Nat) (x:Bool):Nat:=let d:=2*c%65536
 if (c.testBit 15 !=x)=true then d^^^0x1021 else d
theorem tw (q i:Nat):(q%65536).testBit i=(decide (i<16)&&q.testBit i):=by
 rw[show (65536:Nat)=2^16 by decide,Nat.testBit_mod_two_pow]
theorem B4 {q:Nat} (h1:65536≤q) (h2:q<131072):q^^^65536=q%65536:=by
 apply Nat.eq_of_testBit_eq
 intro i
 rw[Nat.testBit_xor,tw,show (65536:Nat)=2^16 by decide,Nat.testBit_two_pow]
 rcases Nat.lt_trichotomy i 16 with h|h|h
 ·rw[decide_eq_true h,decide_eq_false (by lia)];simp
 ·subst h
  have:q.testBit 16=true:=by
   rw[Nat.testBit_eq_decide_div_mod_eq]
   simp;lia
  rw[this];simp
 ·have:q.testBit i=false:=Nat.testBit_lt_two_pow (Nat.lt_of_lt_of_le h2 (by rw[show (131072:Nat)=2^17 by decide];exact Nat.pow_le_pow_right (by decide) h))
  rw[this,decide_eq_false (by lia),decide_eq_false (by lia)];rfl
theorem Q7 (a b:Nat):2*(a^^^b)%65536=(2*a%65536)^^^(2*b%65536):=by
 apply Nat.eq_of_testBit_eq
 intro i
 rw[Nat.testBit_xor,tw,tw,tw]
 cases i with
 |zero=>simp [Nat.testBit_zero]
 |succ i=>
  have e: ∀x:Nat,(2*x).testBit (i+1)=x.testBit i:=fun x=>by
   rw[Nat.testBit_succ];congr 1;lia
  rw[e,e,e,Nat.testBit_xor]
  cases decide (i+1<16)<;>simp
theorem OO {p:Nat} (h:p<65536):p.testBit 15=decide (65535<2*p):=by
 rw[Nat.testBit_eq_decide_div_mod_eq]
 have:p/2^15=p/32768:=rfl
 rw[this,Bool.eq_iff_iff,decide_eq_true_eq,decide_eq_true_eq];lia
theorem sR {a b:Nat} (h1:a<65536) (h2:b<65536):a^^^b<65536:=Nat.xor_lt_two_pow (n:=16) h1 h2
theorem ja {c:Nat} (x:Bool):cj c x<65536:=by
 unfold cj
 simp only
 split
 ·exact sR (Nat.mod_lt _ (by decide)) (by decide)
 ·exact Nat.mod_lt _ (by decide)
theorem jb {s r:Nat} (hs:s<65536) (hr:r<256):iM (s^^^(r*256))=cj s (r.testBit 7)^^^((2*r%256)*256):=by
 have hp:s^^^(r*256)<65536:=sR hs (by lia)
 have hb:(s^^^(r*256)).testBit 15=(s.testBit 15 !=r.testBit 7):=by
  rw[Nat.testBit_xor,show r*256=2^8*r by lia,Nat.testBit_two_pow_mul]
  simp
 have hd:2*(s^^^(r*256))%65536=(2*s%65536)^^^((2*r%256)*256):=by
  rw[Q7]
  congr 1;lia
 have wQ:=OO hp
 unfold iM cj
 simp only
 rw[←hb,wQ]
 by_cases hc:65535<2*(s^^^(r*256))
 ·rw[if_pos hc,if_pos (decide_eq_true hc)]
  have e:(69665:Nat)=65536^^^4129:=by decide
  rw[e,←Nat.xor_assoc,B4 (by lia) (by lia),hd,show (0x1021:Nat)=4129 by decide,Nat.xor_assoc,Nat.xor_assoc,Nat.xor_comm (2*r%256*256)]
 ·rw[if_neg hc,if_neg (by simpa using hc),←hd]
  lia
theorem vC {c b:Nat} (hc:c<65536) (hb:b<256):eu c b=(Sound.u 8 b).foldl cj c∧eu c b<65536:=by
 have hu:Sound.u 8 b= [b.testBit 7,b.testBit 6,b.testBit 5,b.testBit 4,b.testBit 3,b.testBit 2,b.testBit 1,b.testBit 0]:=rfl
 have tb: ∀(x i:Nat),i<7→(2*x%256).testBit (i+1)=x.testBit i:=fun x i hi=>by
  rw[show (256:Nat)=2^8 by decide,Nat.testBit_mod_two_pow,decide_eq_true (by lia),Nat.testBit_succ,Bool.true_and]
  congr 1;lia
 have lt: ∀x:Nat,2*x%256<256:=fun x=>Nat.mod_lt _ (by decide)
 have h0:=jb hc hb
 have h1:=jb (ja (c:=c) (b.testBit 7)) (lt b)
 have h2:=jb (ja (c:=cj c (b.testBit 7)) ((2*b%256).testBit 7)) (lt (2*b%256))
 rw[tb b 6 (by lia)] at h1 h2
 have h3:=jb (ja (c:=cj (cj c (b.testBit 7)) (b.testBit 6)) ((2*(2*b%256)%256).testBit 7)) (lt (2*(2*b%256)%256))
 rw[tb _ 6 (by lia),tb _ 5 (by lia)] at h2 h3
 have h4:=jb (ja (c:=cj (cj (cj c (b.testBit 7)) (b.testBit 6)) (b.testBit 5)) ((2*(2*(2*b%256)%256)%256).testBit 7)) (lt (2*(2*(2*b%256)%256)%256))
 rw[tb _ 6 (by lia),tb _ 5 (by lia),tb _ 4 (by lia)] at h3 h4
 have h5:=jb (ja (c:=cj (cj (cj (cj c (b.testBit 7)) (b.testBit 6)) (b.testBit 5)) (b.testBit 4)) ((2*(2*(2*(2*b%256)%256)%256)%256).testBit 7)) (lt (2*(2*(2*(2*b%256)%256)%256)%256))
 rw[tb _ 6 (by lia),tb _ 5 (by lia),tb _ 4 (by lia),tb _ 3 (by lia)] at h4 h5
 have h6:=jb (ja (c:=cj (cj (cj (cj (cj c (b.testBit 7)) (b.testBit 6)) (b.testBit 5)) (b.testBit 4)) (b.testBit 3)) ((2*(2*(2*(2*(2*b%256)%256)%256)%256)%256).testBit 7)) (lt (2*(2*(2*(2*(2*b%256)%256)%256)%256)%256))
 rw[tb _ 6 (by lia),tb _ 5 (by lia),tb _ 4 (by lia),tb _ 3 (by lia),tb _ 2 (by lia)] at h5 h6
 have h7:=jb (ja (c:=cj (cj (cj (cj (cj (cj c (b.testBit 7)) (b.testBit 6)) (b.testBit 5)) (b.testBit 4)) (b.testBit 3)) (b.testBit 2)) ((2*(2*(2*(2*(2*(2*b%256)%256)%256)%256)%256)%256).testBit 7)) (lt (2*(2*(2*(2*(2*(2*b%256)%256)%256)%256)%256)%256))
 rw[tb _ 6 (by lia),tb _ 5 (by lia),tb _ 4 (by lia),tb _ 3 (by lia),tb _ 2 (by lia),tb _ 1 (by lia)] at h6 h7
 rw[tb _ 6 (by lia),tb _ 5 (by lia),tb _ 4 (by lia),tb _ 3 (by lia),tb _ 2 (by lia),tb _ 1 (by lia),tb _ 0 (by lia)] at h7
 have hz:2*(2*(2*(2*(2*(2*(2*(2*b%256)%256)%256)%256)%256)%256)%256)%256=0:=by lia
 have e:eu c b=(Sound.u 8 b).foldl cj c:=by
  unfold eu
  rw[show List.range 8= [0,1,2,3,4,5,6,7] from rfl]
  simp only [List.foldl_cons,List.foldl_nil]
  rw[h0,h1,h2,h3,h4,h5,h6,h7,hz,hu]
  simp only [List.foldl_cons,List.foldl_nil,Nat.zero_mul,Nat.xor_zero]
 rw[e]
 refine ⟨rfl,?_⟩
 rw[hu]
 simp only [List.foldl_cons,List.foldl_nil]
 exact ja _
theorem Ue (b:Sound.Bytes):kL (b.map UInt8.toNat)=Sound.crc16 b:=by
 have key: ∀(l:Sound.Bytes) (c:Nat),c<65536→(l.map UInt8.toNat).foldl eu c=(Sound.bitsOf l).foldl cj c:=by
  intro l
  induction l with
  |nil=>intro c _;rfl
  |cons x l ih=>
   intro c hc
   obtain ⟨h1,h2⟩:=vC hc x.toNat_lt
   have e:Sound.bitsOf (x::l)=Sound.u 8 x.toNat++Sound.bitsOf l:=List.flatMap_cons
   rw[List.map_cons,List.foldl_cons,e,List.foldl_append,←h1,ih _ h2]
 unfold kL
 rw[key b 65535 (by decide)]
 rfl
end Wg
namespace Wg
open PySem PySem.Spec PyProof.Rows L2
def top (i:Nat):Stmt:=PySem.Challenge.pw_soundkeeping_s06_pack.main.body.getD i (.Pass ⟨0,0,0,0⟩)
abbrev FE:Stmt:=top 3
abbrev zA:Stmt:=top 8
abbrev CQ:Stmt:=top 9
abbrev GB:Stmt:=top 10
abbrev zF:Stmt:=top 16
abbrev AS:Stmt:=top 17
abbrev Ck:Stmt:=top 18
abbrev BQ:Stmt:=top 19
abbrev BP:Stmt:=top 20
abbrev DF:Stmt:=top 21
abbrev zK:Stmt:=top 22
abbrev ET:Stmt:=top 28
abbrev Cw:Stmt:=top 29
abbrev Bt:Stmt:=top 30
abbrev Gp:Stmt:=top 31
abbrev BH:Stmt:=top 32
abbrev BC:Stmt:=top 33
abbrev AE:Stmt:=top 34
abbrev Ce:Stmt:=top 35
abbrev FW:Stmt:=top 36
abbrev GA:Stmt:=top 44
abbrev Fl:Stmt:=top 45
abbrev C6:Stmt:=top 46
abbrev AH:Stmt:=top 47
abbrev zR:Stmt:=top 48
abbrev Dm:Stmt:=top 49
abbrev za:Stmt:=top 50
abbrev CV:Stmt:=top 51
abbrev Bg:Stmt:=top 52
abbrev zQ:Stmt:=top 56
abbrev Gk:Stmt:=top 57
abbrev C4:Stmt:=top 58
abbrev FQ:Stmt:=top 62
abbrev zr:Stmt:=top 63
abbrev Fw:Stmt:=top 64
abbrev Gs:Stmt:=top 65
abbrev B0:Stmt:=top 79
abbrev Dj:Stmt:=top 80
abbrev Av:Stmt:=top 81
abbrev Gi:Stmt:=top 84
abbrev Ej:Stmt:=top 87
abbrev Am:Stmt:=top 88
abbrev GC:Stmt:=top 89
abbrev CG:Stmt:=top 90
abbrev E5:Stmt:=top 95
abbrev EK:Stmt:=top 96
abbrev Fi:Stmt:=top 97
abbrev De:Stmt:=top 98
abbrev EW:Stmt:=top 102
abbrev BZ:Stmt:=top 103
abbrev B5:Stmt:=top 104
abbrev z8:Stmt:=top 105
abbrev zJ:Stmt:=top 106
abbrev Fc:Stmt:=top 109
abbrev zE:Stmt:=top 110
abbrev FR:Stmt:=top 111
abbrev zO:Stmt:=inClass (top 2) 0
abbrev Ep:Stmt:=inClass (top 2) 1
abbrev C5:Stmt:=inClass (top 2) 2
abbrev Dh:Stmt:=inClass (top 2) 3
abbrev Cv:Stmt:=inClass (top 2) 4
abbrev Fm:Stmt:=inClass (top 7) 0
abbrev zc:Stmt:=inClass (top 7) 1
abbrev F5:Stmt:=inClass (top 7) 5
abbrev Gq:Stmt:=inClass (top 15) 0
abbrev EE:Stmt:=inClass (top 15) 1
abbrev Bu:Stmt:=inClass (top 15) 2
abbrev B9:Stmt:=inClass (top 26) 0
abbrev CO:Stmt:=inClass (top 27) 0
abbrev Aq:Stmt:=inClass (top 42) 0
abbrev Bf:Stmt:=inClass (top 43) 0
abbrev FF:Stmt:=inClass (top 55) 0
abbrev B6:Stmt:=inClass (top 69) 0
abbrev GO:Stmt:=inClass (top 69) 1
abbrev FZ:Stmt:=inClass (top 69) 2
abbrev FK:Stmt:=inClass (top 69) 3
abbrev EC:Stmt:=inClass (top 69) 4
abbrev CD:Stmt:=inClass (top 78) 0
abbrev E4:Stmt:=inClass (top 101) 0
abbrev CW:Stmt:=inClass (top 101) 1
abbrev zV:Stmt:=inClass (top 101) 2
set_option genInjectivity false in
structure cF where
 (nD pz qJ pM mQ lS qm oW lh lZ qj oF oh lG mU mq qW lJ mY qC qd qU pq qQ nM oz mf ph qb pB qM nF o5 lA ma qP qK oX oJ mi lN pY nW nZ pX oU mK pZ nq oY pQ qp lU pA om lQ oN lO pH ow lC lr nE qe pE lV mO kT ky pf nJ mH o8 lM lT qL nS ni mh nB qg aX bI cu bK cq cG bL dN a8 cT dm eY nA qv j4 qy oi nc pK pS pO nQ qS mM k8 oM p8:Addr)
 (ml l0 oS nu qc nz mB lF qh ou mR nI qX nr mz nP oQ oV mF qG mw l9 qA pW nU oA lx mW nY oR mT mm k7 lg nR pT pI mx nX p9 qF oP lK pG lW mn mD mJ qR nN mS l8 qN pR pk jH lR oE o7 nj pj lP nG qB oy m9 lY lX oq qo pC nH pD mE oH qH l7 nL oa pV o9:FuncData)
 (wI wC uP vb x6 yu uY vR yD uT wH yd vV uo wb wX yp xD uN vD vp wq uG xi wx:Tok)
structure Txt (K:PySem.W.Frag) (mg:Str→Option Value) (A:cF):Prop where
 Rq:mg "BitWriter" =some (.ref A.aX)
 Qh:mg "Form" =some (.ref A.bI)
 zt:mg "Guess" =some (.ref A.cu)
 Us:mg "GroupWay" =some (.ref A.bK)
 M6:mg "RestsWay" =some (.ref A.cq)
 R0:mg "Shrunk" =some (.ref A.cG)
 wV:mg "PartWay" =some (.ref A.bL)
 tF:mg "PairWay" =some (.ref A.dN)
 Sq:mg "Reading" =some (.ref A.a8)
 J0:mg "Tag" =some (.ref A.cT)
 QZ:mg "Body" =some (.ref A.dm)
 MR:mg "crc16" =some (.ref A.nD)
 EF:aL K "crc16" "crc16" FE A.nD A.ml
 Ro:Binds K A.ml ["data"] []
 OZ:mg "is_form" =some (.ref A.pz)
 GG:aL K "is_form" "is_form" zA A.pz A.l0
 QA:Binds K A.l0 ["form"] []
 E9:mg "fits" =some (.ref A.qJ)
 xO:aL K "fits" "fits" CQ A.qJ A.oS
 Ao:Binds K A.oS ["width", "number"] []
 P4:mg "all_fit" =some (.ref A.pM)
 Dx:aL K "all_fit" "all_fit" GB A.pM A.nu
 KR:Binds K A.nu ["width", "numbers"] []
 UA:mg "fixed_guess" =some (.ref A.mQ)
 Dy:aL K "fixed_guess" "fixed_guess" zF A.mQ A.qc
 Lo:Binds K A.qc ["order"] []
 Up:mg "linear_guess" =some (.ref A.lS)
 Fe:aL K "linear_guess" "linear_guess" AS A.lS A.nz
 TC:Binds K A.nz ["order", "numbers"] []
 NH:mg "normal_row" =some (.ref A.qm)
 FY:aL K "normal_row" "normal_row" Ck A.qm A.mB
 Qi:Binds K A.mB ["order", "numbers", "lag"] []
 Nt:mg "lagged_product" =some (.ref A.oW)
 Eb:aL K "lagged_product" "lagged_product" BQ A.oW A.lF
 To:Binds K A.lF ["order", "numbers", "lag", "other"] []
 LA:mg "solved" =some (.ref A.lh)
 AY:aL K "solved" "solved" BP A.lh A.qh
 L7:Binds K A.qh ["equations"] []
 JN:mg "cleared" =some (.ref A.lZ)
 CF:aL K "cleared" "cleared" DF A.lZ A.ou
 Tq:Binds K A.ou ["row", "chosen", "step"] []
 Q4:mg "nearest" =some (.ref A.qj)
 BU:aL K "nearest" "nearest" zK A.qj A.mR
 Mt:Binds K A.mR ["number", "divisor"] []
 GD:mg "folded_rest" =some (.ref A.oF)
 xX:aL K "folded_rest" "folded_rest" ET A.oF A.nI
 FC:Binds K A.nI ["rest"] []
 TK:mg "can_split" =some (.ref A.oh)
 EX:aL K "can_split" "can_split" Cw A.oh A.qX
 K5:Binds K A.qX ["n", "order", "r"] []
 NI:mg "least_rests" =some (.ref A.lG)
 Fx:aL K "least_rests" "least_rests" Bt A.lG A.nr
 QQ:Binds K A.nr ["n", "order", "rests"] []
 P7:mg "shifted_sums" =some (.ref A.mU)
 F0:aL K "shifted_sums" "shifted_sums" Gp A.mU A.mz
 SI:Binds K A.mz ["folded"] []
 QH:mg "running_sums" =some (.ref A.mq)
 En:aL K "running_sums" "running_sums" BH A.mq A.nP
 Q0:Binds K A.nP ["folded", "g"] []
 MV:mg "split_groups" =some (.ref A.qW)
 A8:aL K "split_groups" "split_groups" BC A.qW A.oQ
 Od:Binds K A.oQ ["n", "order", "r", "folded", "sums"] []
 QT:mg "least_group" =some (.ref A.lJ)
 C3:aL K "least_group" "least_group" AE A.lJ A.oV
 MM:Binds K A.oV ["first", "last", "folded", "sums"] []
 Rp:mg "write_rests" =some (.ref A.mY)
 E3:aL K "write_rests" "write_rests" Ce A.mY A.mF
 Jx:Binds K A.mF ["writer", "way", "rests"] []
 Jo:mg "write_rest" =some (.ref A.qC)
 CN:aL K "write_rest" "write_rest" FW A.qC A.qG
 M7:Binds K A.qG ["writer", "group", "rest"] []
 y6:mg "order_of_kind" =some (.ref A.qd)
 yE:aL K "order_of_kind" "order_of_kind" GA A.qd A.mw
 EI:Binds K A.mw ["kind"] []
 P0:mg "shared_zeros" =some (.ref A.qU)
 Gw:aL K "shared_zeros" "shared_zeros" Fl A.qU A.l9
 Qd:Binds K A.l9 ["numbers"] []
 qf:mg "least_part" =some (.ref A.pq)
 kP:aL K "least_part" "least_part" C6 A.pq A.qA
 lp:Binds K A.qA ["width", "order", "numbers"] []
 Kb:mg "plain_way" =some (.ref A.qQ)
 Di:aL K "plain_way" "plain_way" AH A.qQ A.pW
 Tf:Binds K A.pW ["shrunk"] []
 Oe:mg "guessed_way" =some (.ref A.nM)
 Cm:aL K "guessed_way" "guessed_way" zR A.nM A.nU
 MA:Binds K A.nU ["kind", "shrunk"] []
 Ur:mg "chosen_guess" =some (.ref A.oz)
 Co:aL K "chosen_guess" "chosen_guess" Dm A.oz A.oA
 RS:Binds K A.oA ["kind", "order", "numbers"] []
 zY:mg "write_part" =some (.ref A.mf)
 xY:aL K "write_part" "write_part" za A.mf A.lx
 DX:Binds K A.lx ["writer", "way"] []
 Sm:mg "write_zeros" =some (.ref A.ph)
 Bq:aL K "write_zeros" "write_zeros" CV A.ph A.mW
 LZ:Binds K A.mW ["writer", "z"] []
 xo:mg "write_plainly" =some (.ref A.qb)
 rB:aL K "write_plainly" "write_plainly" Bg A.qb A.nY
 uf:Binds K A.nY ["writer", "width", "numbers"] []
 R4:mg "least_pair" =some (.ref A.pB)
 Aa:aL K "least_pair" "least_pair" zQ A.pB A.oR
 RJ:Binds K A.oR ["form", "left", "right"] []
 Kg:mg "least_pairs" =some (.ref A.qM)
 Ab:aL K "least_pairs" "least_pairs" Gk A.qM A.mT
 Qx:Binds K A.mT ["form", "channels"] []
 Ms:mg "write_frame" =some (.ref A.nF)
 DB:aL K "write_frame" "write_frame" C4 A.nF A.mm
 MB:Binds K A.mm ["form", "k", "numbers"] []
 f9:mg "to_octets" =some (.ref A.o5)
 fH:aL K "to_octets" "to_octets" FQ A.o5 A.k7
 f7:Binds K A.k7 ["count", "number"] []
 TM:mg "from_octets" =some (.ref A.lA)
 DZ:aL K "from_octets" "from_octets" zr A.lA A.lg
 Qt:Binds K A.lg ["data"] []
 BB:mg "crc32" =some (.ref A.ma)
 uh:aL K "crc32" "crc32" Fw A.ma A.nR
 zS:Binds K A.nR ["data"] []
 rD:mg "sealed" =some (.ref A.qP)
 qw:aL K "sealed" "sealed" Gs A.qP A.pT
 tu:Binds K A.pT ["data"] []
 Ie:mg "can_be_key" =some (.ref A.qK)
 Gj:aL K "can_be_key" "can_be_key" B0 A.qK A.pI
 Ud:Binds K A.pI ["key"] []
 L4:mg "read_tag" =some (.ref A.oX)
 Fo:aL K "read_tag" "read_tag" Dj A.oX A.mx
 LD:Binds K A.mx ["reading", "end", "tags"] []
 Mw:mg "write_tags" =some (.ref A.oJ)
 zp:aL K "write_tags" "write_tags" Av A.oJ A.nX
 Ut:Binds K A.nX ["pad", "data"] []
 Su:mg "write_head" =some (.ref A.mi)
 Fy:aL K "write_head" "write_head" Gi A.mi A.p9
 JA:Binds K A.p9 ["form", "samples", "tags_size"] []
 yV:mg "products" =some (.ref A.lN)
 xI:aL K "products" "products" Ej A.lN A.qF
 C0:Binds K A.qF ["factor"] []
 Jm:mg "inverse" =some (.ref A.pY)
 BF:aL K "inverse" "inverse" Am A.pY A.oP
 KH:Binds K A.oP ["number"] []
 TY:mg "scaled" =some (.ref A.nW)
 CK:aL K "scaled" "scaled" GC A.nW A.lK
 LG:Binds K A.lK ["factor", "data"] []
 Ry:mg "added" =some (.ref A.nZ)
 AX:aL K "added" "added" CG A.nZ A.pG
 M0:Binds K A.pG ["one", "other"] []
 Ja:mg "factor_of" =some (.ref A.pX)
 Dl:aL K "factor_of" "factor_of" E5 A.pX A.lW
 K1:Binds K A.lW ["i", "j"] []
 UC:mg "row_sum" =some (.ref A.oU)
 CB:aL K "row_sum" "row_sum" EK A.oU A.mn
 Uo:Binds K A.mn ["j", "row_size", "frames"] []
 Nu:mg "longest_row" =some (.ref A.mK)
 F9:aL K "longest_row" "longest_row" Fi A.mK A.mD
 Jw:Binds K A.mD ["frames"] []
 UD:mg "write_piece" =some (.ref A.pZ)
 BR:aL K "write_piece" "write_piece" De A.pZ A.mJ
 J4:Binds K A.mJ ["g", "j", "frames"] []
 N1:mg "write_file" =some (.ref A.nq)
 Ba:aL K "write_file" "write_file" EW A.nq A.qR
 OX:Binds K A.qR ["form", "numbers", "tags_part"] []
 N2:mg "write_body" =some (.ref A.oY)
 CS:aL K "write_body" "write_body" BZ A.oY A.nN
 RF:Binds K A.nN ["form", "numbers"] []
 KU:mg "write_index" =some (.ref A.pQ)
 FG:aL K "write_index" "write_index" B5 A.pQ A.mS
 Oq:Binds K A.mS ["starts"] []
 Rz:mg "write_sum" =some (.ref A.qp)
 Eg:aL K "write_sum" "write_sum" z8 A.qp A.l8
 IQ:Binds K A.l8 ["depth", "numbers"] []
 QD:mg "plain_bytes" =some (.ref A.lU)
 zB:aL K "plain_bytes" "plain_bytes" zJ A.lU A.qN
 Mj:Binds K A.qN ["depth", "numbers"] []
 Np:mg "counted" =some (.ref A.pA)
 Ff:aL K "counted" "counted" Fc A.pA A.pR
 SM:Binds K A.pR ["data"] []
 KJ:mg "file_answer" =some (.ref A.om)
 AK:aL K "file_answer" "file_answer" zE A.om A.pk
 Lg:Binds K A.pk ["data"] []
 NC:mg "pack" =some (.ref A.lQ)
 TV:aL K "pack" "pack" FR A.lQ A.jH
 UK:Binds K A.jH ["pad", "form", "numbers", "tags"] []
 JQ:Mk K A.aX A.oN
 Tx:aL K "__init__" "BitWriter.__init__" zO A.oN A.lR
 Tr:Binds K A.lR ["self"] []
 fb:Meth K A.aX "unsigned" A.lO
 R9:aL K "unsigned" "BitWriter.unsigned" Ep A.lO A.oE
 fc:Binds K A.oE ["self", "width", "number"] []
 ur:Meth K A.aX "signed" A.pH
 S7:aL K "signed" "BitWriter.signed" C5 A.pH A.o7
 yC:Binds K A.o7 ["self", "width", "number"] []
 GK:Meth K A.aX "run" A.ow
 QN:aL K "run" "BitWriter.run" Dh A.ow A.nj
 Ew:Binds K A.nj ["self", "zeros"] []
 P5:Meth K A.aX "whole_bytes" A.lC
 JL:aL K "whole_bytes" "BitWriter.whole_bytes" Cv A.lC A.pj
 Ij:Binds K A.pj ["self"] []
 SK:Mk K A.bI A.lr
 Ia:aL K "__init__" "Form.__init__" Fm A.lr A.lP
 Um:Binds K A.lP ["self", "form"] []
 J7:Meth K A.bI "frame_count" A.nE
 Kn:aL K "frame_count" "Form.frame_count" zc A.nE A.nG
 L1:Binds K A.nG ["self", "samples"] []
 Sb:Meth K A.bI "last_of_group" A.qe
 ID:aL K "last_of_group" "Form.last_of_group" F5 A.qe A.qB
 NY:Binds K A.qB ["self", "k", "frame_count"] []
 AQ:Mk K A.cu A.pE
 SQ:aL K "__init__" "Guess.__init__" Gq A.pE A.oy
 BW:Binds K A.oy ["self", "factors", "shift"] []
 GX:Meth K A.cu "at" A.lV
 Sg:aL K "at" "Guess.at" EE A.lV A.m9
 R3:Binds K A.m9 ["self", "numbers", "place"] []
 F8:Meth K A.cu "all_rests" A.mO
 So:aL K "all_rests" "Guess.all_rests" Bu A.mO A.lY
 zw:Binds K A.lY ["self", "numbers"] []
 AO:Mk K A.bK A.kT
 Et:aL K "__init__" "GroupWay.__init__" B9 A.kT A.lX
 Uh:Binds K A.lX ["self", "first", "last", "g", "v", "bits"] []
 DA:Mk K A.cq A.ky
 DD:aL K "__init__" "RestsWay.__init__" CO A.ky A.oq
 SF:Binds K A.oq ["self", "r", "groups"] []
 Lm:Mk K A.cG A.pf
 MQ:aL K "__init__" "Shrunk.__init__" Aq A.pf A.qo
 Mg:Binds K A.qo ["self", "width", "numbers"] []
 xZ:Mk K A.bL A.nJ
 O0:aL K "__init__" "PartWay.__init__" Bf A.nJ A.pC
 xG:Binds K A.pC ["self", "kind", "shrunk", "guess"] []
 tU:Mk K A.dN A.mH
 RM:aL K "__init__" "PairWay.__init__" FF A.mH A.nH
 rS:Binds K A.nH ["self", "mode", "parts"] []
 Lz:Mk K A.a8 A.o8
 Tw:aL K "__init__" "Reading.__init__" B6 A.o8 A.pD
 Qu:Binds K A.pD ["self", "data"] []
 oZ:Meth K A.a8 "stop_at" A.lM
 Mz:aL K "stop_at" "Reading.stop_at" GO A.lM A.mE
 pF:Binds K A.mE ["self", "fault", "place"] []
 LP:Meth K A.a8 "end_too_soon" A.lT
 S8:aL K "end_too_soon" "Reading.end_too_soon" FZ A.lT A.oH
 R1:Binds K A.oH ["self"] []
 yt:Meth K A.a8 "take" A.qL
 PY:aL K "take" "Reading.take" FK A.qL A.qH
 ux:Binds K A.qH ["self", "count"] []
 EZ:Meth K A.a8 "number" A.nS
 Ox:aL K "number" "Reading.number" EC A.nS A.l7
 El:Binds K A.l7 ["self", "count"] []
 Jz:Mk K A.cT A.ni
 TU:aL K "__init__" "Tag.__init__" CD A.ni A.nL
 KD:Binds K A.nL ["self", "key", "value"] []
 O3:Mk K A.dm A.mh
 UE:aL K "__init__" "Body.__init__" E4 A.mh A.oa
 QU:Binds K A.oa ["self"] []
 G6:Meth K A.dm "add_frame" A.nB
 Q2:aL K "add_frame" "Body.add_frame" CW A.nB A.pV
 OQ:Binds K A.pV ["self", "one"] []
 TJ:Meth K A.dm "add_piece" A.qg
 JG:aL K "add_piece" "Body.add_piece" zV A.qg A.o9
 Iy:Binds K A.o9 ["self", "piece"] []
 cf:cD K A.aX
 rO:a9 K A.aX "written"
 sM:a9 K A.aX "size"
 bw:cD K A.bI
 gA:a9 K A.bI "channels"
 iB:a9 K A.bI "depth"
 oG:a9 K A.bI "block"
 kn:a9 K A.bI "order"
 sZ:a9 K A.bI "group"
 wG:a9 K A.bI "spare"
 gJ:cD K A.cu
 rE:a9 K A.cu "factors"
 wU:a9 K A.cu "shift"
 dY:cD K A.bK
 AL:a9 K A.bK "first"
 A5:a9 K A.bK "last"
 jG:a9 K A.bK "g"
 wc:a9 K A.bK "v"
 Gf:a9 K A.bK "bits"
 i4:cD K A.cq
 C1:a9 K A.cq "r"
 GJ:a9 K A.cq "groups"
 rF:a9 K A.cq "bits"
 cV:cD K A.cG
 qx:a9 K A.cG "z"
 j9:a9 K A.cG "width"
 iT:a9 K A.cG "numbers"
 cx:cD K A.bL
 kD:a9 K A.bL "kind"
 AG:a9 K A.bL "shrunk"
 sU:a9 K A.bL "guess"
 rg:a9 K A.bL "rests_way"
 iC:a9 K A.bL "bits"
 jR:cD K A.dN
 Gr:a9 K A.dN "mode"
 Ac:a9 K A.dN "parts"
 uH:a9 K A.dN "bits"
 cn:cD K A.a8
 sS:a9 K A.a8 "data"
 jm:a9 K A.a8 "place"
 FP:a9 K A.a8 "fault"
 Ci:a9 K A.a8 "fault_place"
 uF:cD K A.cT
 Gh:a9 K A.cT "key"
 Oh:a9 K A.cT "value"
 gZ:cD K A.dm
 oI:a9 K A.dm "written"
 xN:a9 K A.dm "starts"
 rG:mg "Faulty" =some (.ref A.eY)
 ua:Own K A.eY
 RT:mg "MOST_NUMBERS" =some (.int 2048 A.wI)
 xW:mg "FACTOR_WIDTH" =some (.int 12 A.wC)
 Pe:mg "GREATEST_SHIFT" =some (.int 15 A.uP)
 CP:mg "GREATEST_SPLIT" =some (.int 6 A.vb)
 tV:mg "PLAIN" =some (.int 31 A.x6)
 zo:mg "SAME" =some (.int 0 A.yu)
 B3:mg "PLAIN_KIND" =some (.int 1 A.uY)
 Az:mg "FIRST_FIXED" =some (.int 2 A.vR)
 kW:mg "FIRST_LINEAR" =some (.int 7 A.yD)
 TH:mg "MARK_frames" =some (.int 19287 A.uT)
 wB:mg "CRC32_SIZE" =some (.int 4 A.wH)
 Pt:mg "ENDS_TOO_SOON" =some (.int 1 A.yd)
 su:mg "BAD_TAGS" =some (.int 5 A.vV)
 Rx:mg "MOST_TAGS" =some (.int 16 A.uo)
 NA:mg "LONGEST_KEY" =some (.int 32 A.wb)
 FV:mg "COUNT_SIZE" =some (.int 2 A.wX)
 BK:mg "VALUE_LENGTH_SIZE" =some (.int 2 A.yp)
 Lw:mg "MOST_TAGS_SIZE" =some (.int 1024 A.xD)
 OY:mg "EQUALS_SIGN" =some (.int 61 A.uN)
 RC:mg "MODULUS" =some (.int 285 A.vD)
 Jn:mg "MARK_spares" =some (.int 19280 A.vp)
 vP:mg "LENGTH_SIZE" =some (.int 2 A.wq)
 Pc:mg "FIRST_DIVISOR" =some (.int 128 A.uG)
 JM:mg "ENTRY_SIZE" =some (.int 3 A.xi)
 Q9:mg "LONGEST_FILE" =some (.int 16384 A.wx)
 AU:mg "RANGES" =some (.ref A.j4)
 mG: ∀H,aZ K H A.j4 [V.ref A.qy,V.ref A.oi,V.ref A.nc,V.ref A.pK,V.ref A.pS,V.ref A.pO]
 Po: ∀H,aZ K H A.qy [V.int (1),V.int (4)]
 Uy: ∀H,aZ K H A.oi [V.int (4),V.int (24)]
 Nb: ∀H,aZ K H A.nc [V.int (16),V.int (256)]
 Pj: ∀H,aZ K H A.pK [V.int (0),V.int (4)]
 G0: ∀H,aZ K H A.pS [V.int (1),V.int (8)]
 RR: ∀H,aZ K H A.pO [V.int (0),V.int (4)]
 JX:mg "FIXED" =some (.ref A.nQ)
 Km: ∀H,aZ K H A.nQ [V.ref A.qS,V.ref A.mM,V.ref A.k8,V.ref A.oM,V.ref A.p8]
 NQ: ∀H,aZ K H A.qS []
 NZ: ∀H,aZ K H A.mM [V.int (1)]
 QI: ∀H,aZ K H A.k8 [V.int (2),V.int (-1)]
 Ti: ∀H,aZ K H A.oM [V.int (3),V.int (-3),V.int (1)]
 Og: ∀H,aZ K H A.p8 [V.int (4),V.int (-6),V.int (4),V.int (-1)]
 A2:mg "CRC32_STEPS" =some (.ref A.nA)
 Ls: ∀H,aZ K H A.nA [V.int (0),V.int (498536548),V.int (997073096),V.int (651767980),V.int (1994146192),V.int (1802195444),V.int (1303535960),V.int (1342533948),V.int (3988292384),V.int (4027552580),V.int (3604390888),V.int (3412177804),V.int (2607071920),V.int (2262029012),V.int (2685067896),V.int (3183342108)]
 Jb:mg "MARK_heads" =some (.ref A.qv)
 Ir: ∀H,aZ K H A.qv [V.int (83),V.int (75),V.int (69),V.int (69),V.int (80),V.int (1),V.int (13),V.int (10)]
 Kf:mg "abs" =none
 ll:mg "all" =none
 LQ:mg "any" =none
 uL:mg "enumerate" =none
 bW:mg "len" =none
 yr:mg "list" =none
 r8:mg "max" =none
 K0:mg "min" =none
 dt:mg "range" =none
 vj:mg "sum" =none
 kx:mg "zip" =none
 entry: ∀(s:Shared) (us:List Value),us.length=(["pad", "form", "numbers", "tags"]:List Str).length→BindsTo s A.jH ⟨us, []⟩ ((["pad", "form", "numbers", "tags"]:List Str).zip us)
theorem QG {K:PySem.W.Frag} {a:Addr} {d:Option Addr} {n:Nat} {s:Array (Option Value)} {i:Array Value} {x:List V} (t:K.lookup a=some ⟨.type "tuple",d, .seq i n,s⟩) (z:i.size≤sizeLine) (v:Vals x i.toList) (H:Hp):aZ K H a x:= .inr ⟨_,_,_,t,rfl,rfl,z,v⟩
theorem I0 {K:PySem.W.Frag} {mg:Str→Option Value} {nD pz qJ pM mQ lS qm oW lh lZ qj oF oh lG mU mq qW lJ mY qC qd qU pq qQ nM oz mf ph qb pB qM nF o5 lA ma qP qK oX oJ mi lN pY nW nZ pX oU mK pZ nq oY pQ qp lU pA om lQ oN lO pH ow lC lr nE qe pE lV mO kT ky pf nJ mH o8 lM lT qL nS ni mh nB qg aX bI cu bK cq cG bL dN a8 cT dm eY nA qv j4 qy oi nc pK pS pO nQ qS mM k8 oM p8:Addr} {ml l0 oS nu qc nz mB lF qh ou mR nI qX nr mz nP oQ oV mF qG mw l9 qA pW nU oA lx mW nY oR mT mm k7 lg nR pT pI mx nX p9 qF oP lK pG lW mn mD mJ qR nN mS l8 qN pR pk jH lR oE o7 nj pj lP nG qB oy m9 lY lX oq qo pC nH pD mE oH qH l7 nL oa pV o9:FuncData} {wI wC uP vb x6 yu uY vR yD uT wH yd vV uo wb wX yp xD uN vD vp wq uG xi wx:Tok} (h:Txt K mg ⟨nD,pz,qJ,pM,mQ,lS,qm,oW,lh,lZ,qj,oF,oh,lG,mU,mq,qW,lJ,mY,qC,qd,qU,pq,qQ,nM,oz,mf,ph,qb,pB,qM,nF,o5,lA,ma,qP,qK,oX,oJ,mi,lN,pY,nW,nZ,pX,oU,mK,pZ,nq,oY,pQ,qp,lU,pA,om,lQ,oN,lO,pH,ow,lC,lr,nE,qe,pE,lV,mO,kT,ky,pf,nJ,mH,o8,lM,lT,qL,nS,ni,mh,nB,qg,aX,bI,cu,bK,cq,cG,bL,dN,a8,cT,dm,eY,nA,qv,j4,qy,oi,nc,pK,pS,pO,nQ,qS,mM,k8,oM,p8,ml,l0,oS,nu,qc,nz,mB,lF,qh,ou,mR,nI,qX,nr,mz,nP,oQ,oV,mF,qG,mw,l9,qA,pW,nU,oA,lx,mW,nY,oR,mT,mm,k7,lg,nR,pT,pI,mx,nX,p9,qF,oP,lK,pG,lW,mn,mD,mJ,qR,nN,mS,l8,qN,pR,pk,jH,lR,oE,o7,nj,pj,lP,nG,qB,oy,m9,lY,lX,oq,qo,pC,nH,pD,mE,oH,qH,l7,nL,oa,pV,o9,wI,wC,uP,vb,x6,yu,uY,vR,yD,uT,wH,yd,vV,uo,wb,wX,yp,xD,uN,vD,vp,wq,uG,xi,wx⟩): ∃A,Txt K mg A:=⟨_,h⟩
theorem PJ {K:PySem.W.Frag} {fd:FuncData} {a0:Str} (h: ∀u0,bindArgs fd ⟨[u0], []⟩=pure [(a0,u0)]):Binds K fd [a0] []:= .all fun us hl=>match us,hl with| [u0],_=>h u0
theorem GQ {K:PySem.W.Frag} {fd:FuncData} {a0 a1:Str} (h: ∀u0 u1,bindArgs fd ⟨[u0,u1], []⟩=pure [(a0,u0),(a1,u1)]):Binds K fd [a0,a1] []:= .all fun us hl=>match us,hl with| [u0,u1],_=>h u0 u1
theorem Oa {K:PySem.W.Frag} {fd:FuncData} {a0 a1 a2:Str} (h: ∀u0 u1 u2,bindArgs fd ⟨[u0,u1,u2], []⟩=pure [(a0,u0),(a1,u1),(a2,u2)]):Binds K fd [a0,a1,a2] []:= .all fun us hl=>match us,hl with| [u0,u1,u2],_=>h u0 u1 u2
theorem OT {K:PySem.W.Frag} {fd:FuncData} {a0 a1 a2 a3:Str} (h: ∀u0 u1 u2 u3,bindArgs fd ⟨[u0,u1,u2,u3], []⟩=pure [(a0,u0),(a1,u1),(a2,u2),(a3,u3)]):Binds K fd [a0,a1,a2,a3] []:= .all fun us hl=>match us,hl with| [u0,u1,u2,u3],_=>h u0 u1 u2 u3
theorem Rm {K:PySem.W.Frag} {fd:FuncData} {a0 a1 a2 a3 a4:Str} (h: ∀u0 u1 u2 u3 u4,bindArgs fd ⟨[u0,u1,u2,u3,u4], []⟩=pure [(a0,u0),(a1,u1),(a2,u2),(a3,u3),(a4,u4)]):Binds K fd [a0,a1,a2,a3,a4] []:= .all fun us hl=>match us,hl with| [u0,u1,u2,u3,u4],_=>h u0 u1 u2 u3 u4
theorem PB {K:PySem.W.Frag} {fd:FuncData} {a0 a1 a2 a3 a4 a5:Str} (h: ∀u0 u1 u2 u3 u4 u5,bindArgs fd ⟨[u0,u1,u2,u3,u4,u5], []⟩=pure [(a0,u0),(a1,u1),(a2,u2),(a3,u3),(a4,u4),(a5,u5)]):Binds K fd [a0,a1,a2,a3,a4,a5] []:= .all fun us hl=>match us,hl with| [u0,u1,u2,u3,u4,u5],_=>h u0 u1 u2 u3 u4 u5
end Wg
namespace Wg
open PySem PySem.Spec PyProof.Rows L2
def hide (D:Addr) (H:Hp):Hp:=fun b=>if b=D then none else H b
theorem hide_ne {D b:Addr} {H:Hp} (h:b≠D):hide D H b=H b:=by unfold hide;rw[if_neg h]
theorem eC {D b:Addr} {H:Hp} {o:HO} (h:hide D H b=some o):H b=some o∧b≠D:=by
 unfold hide at h
 by_cases e:b=D
 ·rw[if_pos e] at h;cases h
 ·rw[if_neg e] at h;exact ⟨h,e⟩
theorem fF (D:Addr) (H:Hp):ah (hide D H) H:=fun b o h=>(eC h).1
theorem kR {D:Addr} {H H':Hp} (s:ah H H'):ah (hide D H) (hide D H'):=fun b o h=>by
 obtain ⟨h1,h2⟩:=eC h
 rw[hide_ne h2];exact s b o h1
theorem AB (D:Addr) (H:Hp) (o:HO):hide D (upd H D o)=hide D H:=by
 funext b
 unfold hide
 by_cases e:b=D
 ·rw[if_pos e,if_pos e]
 ·rw[if_neg e,if_neg e,aB e]
theorem aQ {H:Hp} {p:Addr} {o:HO} (h:H p=none):ah H (upd H p o):=fun b u e=>by rw[aB (bD e h)];exact e
theorem eO {H H':Hp} {p:Addr} {o:HO} (s:ah H H') (h:H p=none):ah H (upd H' p o):=fun b u e=>by rw[aB (bD e h)];exact s b u e
theorem kz {J:It} {H1:Hp} {D:Addr} {σ:L2.St} {vs:List Nat} {g:TG} {te:TE} {Qf:Hp→Prop} (hD:H1 D=none) (n:Nat) (hn:n≤sizeLine) (Pr:Nat→V→Hp→Prop)
  (fe: ∀k v H H',k<n→ah H H'→Pr k v H→Pr k v H')
  (hgo: ∀i Hh,i<n→ah H1 Hh→J.go i Hh) (hstop: ∀Hh,ah H1 Hh→J.stop n Hh)
  (turn: ∀i Hh x H',i<n→ah H1 Hh→(∃acc,Hh D=some (.lst acc))→J.fO i Hh x H'→ ∀C:VK,(∀y H4,ah Hh H4→Pr i y (hide D H4)→C y H4)→g x (wipe σ vs) H' fun σ2 H2=>wipe σ2 vs=wipe σ vs∧te σ2 H2 C)
  (fin: ∀Hh xs,ah H1 Hh→xs.length=n→(∀(k:Nat) (v:V),xs[k]?=some v→Pr k v Hh)→Hh D=some (.lst xs)→Qf Hh):
  ∃W:Nat→Nat→Hp→Prop,(∃m,W 0 m (upd H1 D (.lst [])))∧ ∀i m H,W i m H→
   (J.stop i H∧Qf H)∨(J.go i H∧ ∃Nx:Hp→Prop,(∀H',Nx H'→ ∃m',m'<m∧W (i+1) m' H')∧ ∀x H',J.fO i H x H'→g x (wipe σ vs) H' fun σ2 H2=>wipe σ2 vs=wipe σ vs∧rQ σ2 H2 fun b H3=>
    if b=true then te σ2 H3 fun y H4=> ∃acc,H4 D=some (.lst acc)∧acc.length<sizeLine∧Nx (upd H4 D (.lst (acc++ [y]))) else Nx H3):=by
 refine ⟨fun i m H=>i+m=n∧ah H1 H∧ ∃xs:List V,xs.length=i∧H D=some (.lst xs)∧ ∀(k:Nat) (v:V),xs[k]?=some v→Pr k v (hide D H),⟨n,by omega,aQ hD, [],rfl,ao,fun k v e=>by simp at e⟩,?_⟩
 rintro i m H ⟨hm,s1,xs,hl,hx,hp⟩
 by_cases hi:i=n
 ·subst hi
  exact .inl ⟨hstop H s1,fin H xs s1 hl (fun k v e=>fe k v _ _ (by have:=(List.getElem?_eq_some_iff.mp e).1;omega) (fF D H) (hp k v e)) hx⟩
 ·have hi:i<n:=by omega
  refine .inr ⟨hgo i H hi s1,fun H'=> ∃m',m'<m∧i+1+m'=n∧ah H1 H'∧ ∃xs:List V,xs.length=i+1∧H' D=some (.lst xs)∧ ∀(k:Nat) (v:V),xs[k]?=some v→Pr k v (hide D H'),fun H' h=>?_,fun x H' hy=>?_⟩
  ·obtain ⟨m',h1,h2,h3⟩:=h
   exact ⟨m',h1,h2,h3⟩
  ·refine turn i H x H' hi s1 ⟨xs,hx⟩ hy _ fun y H4 s4 p4=>?_
   refine ⟨xs,s4 _ _ hx,by omega,m-1,by omega,by omega,eO (s1.trans s4) hD,xs++ [y],by rw[List.length_append,hl];rfl,ao,fun k v e=>?_⟩
   rw[AB]
   by_cases hk:k<xs.length
   ·rw[List.getElem?_append_left hk] at e
    exact fe k v _ _ (by omega) (kR s4) (hp k v e)
   ·rw[List.getElem?_append_right (by omega)] at e
    have hk0:k-xs.length=0:=by
     have:=(List.getElem?_eq_some_iff.mp e).1
     simp at this;omega
    rw[hk0] at e
    have e:=Option.some.inj e
    subst e
    have:k=i:=by omega
    subst this
    exact p4
theorem cC {J:It} {H1:Hp} {D:Addr} {σ:L2.St} {vs:List Nat} {g:TG} {te:TE} {Qf:Hp→Prop} (hD:H1 D=none) (n:Nat) (hn:n≤sizeLine) (val:Nat→V)
  (hgo: ∀i Hh,i<n→ah H1 Hh→J.go i Hh) (hstop: ∀Hh,ah H1 Hh→J.stop n Hh)
  (turn: ∀i Hh x H',i<n→ah H1 Hh→J.fO i Hh x H'→ ∀C:VK,(∀H4,ah Hh H4→C (val i) H4)→g x (wipe σ vs) H' fun σ2 H2=>wipe σ2 vs=wipe σ vs∧te σ2 H2 C)
  (fin: ∀Hh,ah H1 Hh→Hh D=some (.lst ((List.range n).map val))→Qf Hh):
  ∃W:Nat→Nat→Hp→Prop,(∃m,W 0 m (upd H1 D (.lst [])))∧ ∀i m H,W i m H→
   (J.stop i H∧Qf H)∨(J.go i H∧ ∃Nx:Hp→Prop,(∀H',Nx H'→ ∃m',m'<m∧W (i+1) m' H')∧ ∀x H',J.fO i H x H'→g x (wipe σ vs) H' fun σ2 H2=>wipe σ2 vs=wipe σ vs∧rQ σ2 H2 fun b H3=>
    if b=true then te σ2 H3 fun y H4=> ∃acc,H4 D=some (.lst acc)∧acc.length<sizeLine∧Nx (upd H4 D (.lst (acc++ [y]))) else Nx H3):=by
 refine kz hD n hn (fun k v _=>v=val k) (fun _ _ _ _ _ _ h=>h) hgo hstop (fun i Hh x H' hi s1 _ hy C hC=>turn i Hh x H' hi s1 hy C fun H4 s4=>hC _ H4 s4 rfl) fun Hh xs s1 hl hp hx=>fin Hh s1 ?_
 have:xs=(List.range n).map val:=by
  refine List.ext_getElem? fun k=>?_
  by_cases hk:k<n
  ·rw[List.getElem?_map,List.getElem?_range hk]
   have e:=List.getElem?_eq_getElem (l:=xs) (i:=k) (by omega)
   rw[e,hp k _ e];rfl
  ·rw[List.getElem?_eq_none (by omega),List.getElem?_eq_none (by rw[List.length_map,List.length_range];omega)]
 rw[←this];exact hx
theorem aY {X:Cx} {x:Str} {i:Int} {tk:Tok} {pos:Pos} (hg:Gl X x) (hm:X.mg x=some (.int i tk)) (hd:(x==("__debug__" :Str))=false:=by decide):PE X (.Name x pos) (tC (.int i)):=DK hg hm (show RelV (.int i) (.int i tk) from ⟨tk,rfl⟩) hd
theorem kh {X:Cx} {x:Str} {a:Addr} {pos:Pos} (hg:Gl X x) (hm:X.mg x=some (.ref a)) (hd:(x==("__debug__" :Str))=false:=by decide):PE X (.Name x pos) (tC (.ref a)):=DK hg hm (show RelV (.ref a) (.ref a) from rfl) hd
theorem fw {X:Cx} {K:PySem.W.Frag} (h:X.K=K):o6 X (yA K):=by subst h;exact eN
theorem qV {X:Cx} {K:PySem.W.Frag} {e:Expr} {f:Str} {pos:Pos} {ta:TE} (h:X.K=K) (he:PE X e ta) (hb:attributeBase e f X.env (eval e X.env)=eval e X.env):PE X (.Attribute e f pos) (i7 K ta f):=by subst h;exact aA he hb
theorem dU {l:List Int} {i:Nat} {x:V} (h:(l.map V.int)[i]?=some x):x= .int (l.getD i 0)∧i<l.length:=by
 rw[List.getElem?_map] at h
 cases e:l[i]? with
 |none=>rw[e] at h;cases h
 |some z=>
  rw[e] at h
  refine ⟨?_,(List.getElem?_eq_some_iff.mp e).1⟩
  rw[List.getD_eq_getElem?_getD,e]
  exact (Option.some.inj h).symm
theorem cK {l:List Int} {i:Nat} (h:i<l.length):(l.map V.int)[i]?=some (.int (l.getD i 0)):=by
 rw[List.getElem?_map,List.getElem?_eq_getElem h,List.getD_eq_getElem?_getD,List.getElem?_eq_getElem h];rfl
end Wg
namespace Wg
open PySem PySem.Spec PyProof.Rows L2
local macro_rules | `(tactic| walk_at "rd") => `(tactic| simp only [L2.start, kv, zf, qk, xQ, CU, fS, tC, cZ, FD, yO, fh, fY, qD, mC, i7, FA, CY, CL, tB, wJ, B7, Ef, zP, rW, BM, Bl, xc, F2, rU, rI, du, yA, ra, DG, Bs, Dg, i9, uv, BV, Df, yL, rQ, Dr, CI, uS, Bi, E1, zW, A4, Ft, yf, tD, FX, xf, F4, uA, wipe, List.map_cons, List.map_nil, List.length_cons, List.length_nil, List.replicate, List.append_nil, List.nil_append, List.cons_append, List.getElem?_cons_zero, List.getElem?_cons_succ, List.set_cons_zero, List.set_cons_succ, Nat.zero_add, Nat.reduceAdd, Nat.reduceSub, Nat.sub_zero, Nat.sub_self, Option.some.injEq, V.int.injEq, V.ref.injEq, V.bl.injEq, exists_eq_left', exists_eq_left, exists_and_left, exists_and_right, exists_eq', exists_eq, true_and, and_true, List.cons.injEq, reduceCtorEq, false_and, and_false, exists_false, exists_const])
section
variable {P:Program} {w:World} {K:PySem.W.Frag} {mg:Str→Option Value} {base:Heap} {A:cF}
theorem _root_.L2.ah.none {H H':Hp} {b:Addr} (s:ah H H') (h:H' b=none):H b=none:=by
 cases q:H b with
 |none=>rfl
 |some o=>rw[s b o q] at h;cases h
def vN (F:List Nat):List V:=F.map fun (n:Nat)=>V.int (n:Int)
theorem rP (F:List Nat):vN F=(F.map fun (n:Nat)=>(n:Int)).map V.int:=by unfold vN;rw[List.map_map];rfl
theorem aK (F:List Nat):(vN F).length=F.length:=by simp [vN]
theorem gg {F:List Nat} {i:Nat} (h:i<F.length):(vN F)[i]?=some (.int ((F.getD i 0:Nat):Int)):=by
 unfold vN
 rw[List.getElem?_map,List.getElem?_eq_getElem h,List.getD_eq_getElem?_getD,List.getElem?_eq_getElem h];rfl
theorem fE {F:List Nat} {i:Nat} {x:V} (h:(vN F)[i]?=some x):x= .int ((F.getD i 0:Nat):Int)∧i<F.length:=by
 have hi:i<F.length:=by
  have:=(List.getElem?_eq_some_iff.mp h).1
  rwa [aK] at this
 rw[gg hi] at h
 exact ⟨(Option.some.inj h).symm,hi⟩
theorem cO (F G:List Nat):vN (F++G)=vN F++vN G:=by unfold vN;rw[List.map_append]
theorem zu {α:Type} (l:List α) (a b:Nat):(l.drop (min a l.length)).take (min b l.length-min a l.length)=(l.drop a).take (b-a):=by
 rcases Nat.le_total a l.length with h|h
 ·rw[Nat.min_eq_left h]
  rcases Nat.le_total b l.length with g|g
  ·rw[Nat.min_eq_left g]
  ·rw[Nat.min_eq_right g,List.take_of_length_le (Nat.le_of_eq List.length_drop),List.take_of_length_le (by rw[List.length_drop];exact Nat.sub_le_sub_right g a)]
 ·rw[Nat.min_eq_right h,List.drop_length,List.drop_of_length_le h,List.take_nil,List.take_nil]
theorem Ov (F:List Nat) (a b:Nat):dv (vN F) (some (a:Int)) (some (b:Int))=vN ((F.drop a).take (b-a)):=by
 unfold dv HT.cX vN
 simp only [List.length_map]
 rw[if_neg (by lia),if_neg (by lia),Int.toNat_natCast,Int.toNat_natCast,←List.map_drop,←List.map_take,zu]
theorem uD (k:Nat):256^k=2^(8*k):=by rw[Nat.pow_mul]
theorem Ai {nb:Nat} (h:nb≤100000000):gG (8*(nb:Int)-8) (-1) (-8) nb:=by
 refine ⟨by decide,by decide,?_,?_⟩
 ·unfold Builtin.Range.small Builtin.Range.rangeSize
  simp only [Builtin.Range.rangeFitsLong,Bool.and_eq_true,Bool.or_eq_true,decide_eq_true_eq,beq_iff_eq,show¬((-8:Int)>0) by decide,if_false,show-(-8:Int)=8 by decide]
  split<;>lia
 ·unfold Builtin.Range.rangeSize
  rw[if_neg (by decide),show-(-8:Int)=8 by decide]
  split<;>lia
abbrev fQ (H:Hp) (Q:VK) (l:List Nat):Prop:= ∀D H',H D=none→ah H H'→H' D=some (.lst (vN l))→Q (.ref D) H'
theorem Al: ∀(l:List Nat),(∀x∈l,x<256)→ ∀n,l.foldl (fun n c=>256*n+c) n<(n+1)*256^l.length
 | [],_,n=>by simp
 |x::l,h,n=>by
  have:=Al l (fun y hy=>h y (List.mem_cons_of_mem _ hy)) (256*n+x)
  rw[List.foldl_cons,List.length_cons,Nat.pow_succ]
  have hx:=h x (List.mem_cons_self ..)
  have h2:(256*n+x+1)*256^l.length≤((n+1)*256)*256^l.length:=Nat.mul_le_mul_right _ (by lia)
  have e:(n+1)*(256^l.length*256)=(n+1)*256*256^l.length:=by rw[Nat.mul_comm (256^l.length),Nat.mul_assoc]
  lia
theorem Bh {l:List Nat} (h: ∀x∈l,x<256):dX l<256^l.length:=by
 have:=Al l h 0
 rwa [Nat.zero_add,Nat.one_mul] at this
theorem wO {α β:Type} (f:β→α→β) (l:List α) (i:Nat) (h:i<l.length) (b:β):(l.take (i+1)).foldl f b=f ((l.take i).foldl f b) l[i]:=by
 rw[List.take_succ,List.getElem?_eq_getElem h,List.foldl_append];rfl
theorem z9 {l:List Nat} {m i:Nat} (h: ∀x∈l,x<m) (hi:i<l.length):l.getD i 0<m:=h _ (by rw[List.getD_eq_getElem?_getD,List.getElem?_eq_getElem hi];exact List.getElem_mem hi)
theorem getD_at {l:List Nat} {i:Nat} (hi:i<l.length):l.getD i 0=l[i]:=by rw[List.getD_eq_getElem?_getD,List.getElem?_eq_getElem hi];rfl
theorem Nk {n b:Nat} (h:b<256):(256*n)|||b=256*n+b:=by
 have:=Nat.two_pow_add_eq_or_of_lt (i:=8) h n
 exact this.symm
theorem PQ {n k:Nat} (h:n<2^k):Builtin.Int.intBits ((n:Nat):Int)≤k:=by rw[tW];exact jJ h
theorem Ob {J:It} {g:TG} {tb:TS} {D:Ends} {σ:L2.St} {H:Hp} (n:Nat) (Pv:Nat→L2.St→Hp→Prop) (h0:Pv 0 σ H) (hgo: ∀i σ H,i<n→Pv i σ H→J.go i H) (hstop: ∀σ H,Pv n σ H→J.stop n H)
  (hs: ∀i σ H x H',i<n→Pv i σ H→J.fO i H x H'→g x σ H' fun σ2 H2=>tb {D with nx:=Pv (i+1),ct:=Pv (i+1),bk:=D.nx} σ2 H2) (hd: ∀σ H,Pv n σ H→D.nx σ H):
  ∃W:Nat→Nat→L2.St→Hp→Prop,(∃m,W 0 m σ H)∧ ∀i m σ H,W i m σ H→
   (J.stop i H∧D.nx σ H)∨(J.go i H∧ ∃N:L2.St→Hp→Prop,(∀σ' H',N σ' H'→ ∃m',m'<m∧W (i+1) m' σ' H')∧ ∀x H',J.fO i H x H'→g x σ H' fun σ2 H2=>tb {D with nx:=N,ct:=N,bk:=D.nx} σ2 H2):=by
 refine ⟨fun i m σ H=>i+m=n∧Pv i σ H,⟨n,by lia,h0⟩,?_⟩
 rintro i m σ H ⟨hm,p⟩
 by_cases hi:i=n
 ·subst hi
  exact .inl ⟨hstop σ H p,hd σ H p⟩
 ·exact .inr ⟨hgo i σ H (by lia) p,Pv (i+1),fun σ' H' p'=>⟨m-1,by lia,by lia,p'⟩,fun x H' y=>hs i σ H x H' (by lia) p y⟩
theorem map_getD {f:Nat→Nat} (l:List Nat):(List.range l.length).map (fun i=>V.int ((f (l.getD i 0):Nat):Int))=vN (l.map f):=by
 unfold vN
 rw[List.map_map]
 refine List.ext_getElem (by simp) fun i h1 h2=>?_
 simp at h1 h2
 simp [List.getD_eq_getElem?_getD,List.getElem?_eq_getElem h2]
theorem iL {X:Cx} {K:PySem.W.Frag} {pos:Pos} {es:List Expr} {k:Nat} {t:ju} {n:Nat} (h:X.K=K) (hc:X.calm=true) (hg:oO X es t)
  (hn:(assignEach es X.env).length=n:=by rfl) (hst:(assignEach es X.env).findIdx? (·.1)=none:=by rfl):PG X (.Tuple es k pos) (uv K n t):=by subst h;exact PF hc hg hn hst
theorem Q6 {X:Cx} {K:PySem.W.Frag} (h:X.K=K):fk X (.builtin "len") (fun xs H Q=> ∃p ys,xs= [.ref p]∧(ae K H p ys∨aZ K H p ys)∧Q (.int ys.length) H):=by subst h;exact bU
theorem vt {as:List Addr} {i:Nat} {x:V} (h:(as.map V.ref)[i]?=some x): ∃a,x= .ref a∧as[i]?=some a:=by
 rw[List.getElem?_map] at h
 cases e:as[i]? with
 |none=>rw[e] at h;cases h
 |some a=>rw[e] at h;exact ⟨a,(Option.some.inj h).symm,rfl⟩
theorem uR {as:List Addr} {i:Nat} (h:i<as.length): ∃a,(as.map V.ref)[i]?=some (.ref a)∧as[i]?=some a:=⟨as[i],by rw[List.getElem?_map,List.getElem?_eq_getElem h];rfl,List.getElem?_eq_getElem h⟩
def bn (b:Sound.Bytes):List Nat:=b.map UInt8.toNat
theorem bg (b:Sound.Bytes):(bn b).length=b.length:=by unfold bn;rw[List.length_map]
theorem j6 (b:Sound.Bytes): ∀x∈bn b,x<256:=fun x hx=>by
 obtain ⟨c,_,rfl⟩:=List.mem_map.mp hx
 exact c.toNat_lt
theorem IH (b:Sound.Bytes) (n:Nat):(bn b).drop n=bn (b.drop n):=by unfold bn;rw[List.map_drop]
theorem Pb (b:Sound.Bytes) (n:Nat):(bn b).take n=bn (b.take n):=by unfold bn;rw[List.map_take]
theorem dc (a b:Sound.Bytes):bn (a++b)=bn a++bn b:=by unfold bn;rw[List.map_append]
theorem GV {c:TT} {tb:TS} {D:Ends} {σ:L2.St} {H:Hp} (Pv:L2.St→Hp→Prop) (μ:L2.St→Hp→Nat) (h0:Pv σ H)
  (hs: ∀σ H,Pv σ H→ ∀C:Bool→Hp→Prop,(∀H1,tb {D with nx:=fun σ' H'=>Pv σ' H'∧μ σ' H'<μ σ H,ct:=fun σ' H'=>Pv σ' H'∧μ σ' H'<μ σ H,bk:=D.nx} σ H1→C true H1)→(∀H1,D.nx σ H1→C false H1)→c σ H C):E2 c tb D σ H:=by
 refine ⟨fun m σ H=>m=μ σ H∧Pv σ H,⟨_,rfl,h0⟩,?_⟩
 rintro m σ H ⟨rfl,p⟩
 exact hs σ H p _ (fun H1 h=>⟨_,fun σ' H' ⟨p',l⟩=>⟨_,l,rfl,p'⟩,h⟩) (fun H1 h=>h)
def newOf (H H':Hp):Hp:=fun b=>match H b with
 |none=>H' b
 |some _=>none
theorem tp {H H':Hp} {b:Addr} (h:H b=none):newOf H H' b=H' b:=by unfold newOf;rw[h]
theorem A6 {H H':Hp} {b:Addr} {o:HO} (h:newOf H H' b=some o):H b=none∧H' b=some o:=by
 unfold newOf at h
 cases e:H b with
 |none=>rw[e] at h;exact ⟨rfl,h⟩
 |some u=>rw[e] at h;cases h
theorem QV (H H':Hp):ah (newOf H H') H':=fun b o h=>(A6 h).2
def J5:Sp:=fun vs H Q _=> ∃c n:Nat,vs= [.int c, .int n]∧c≤1000∧fQ H Q (aU c n)
theorem vz:aM ["count", "number", "shift"] ["count", "number"] (aG FQ):=⟨rfl,rfl,rfl,by decide+kernel,rfl,by decide+kernel,by decide+kernel⟩
theorem gj (T:Txt K mg A):aC P w K mg base aO 1 A.o5 A.k7 ["count", "number"] J5:=by
 refine T.fH.ok vz (fun vs H Q E h=>?_) (fun cdv Ar outer s H vs Q E hr h=>?_)
 ·obtain ⟨c,n,rfl,_⟩:=h
  rfl
 ·obtain ⟨c,n,rfl,hc,k⟩:=h
  refine ⟨_,aw (aS (cw (own:= [("shift",2)]) rfl vz.nd (jM rfl T.dt (aa (aq cc (aq eE au (pv 0)) au) (aa (dB dz au) (aa (dB dz au) ag))))
   (b5 (by kernel_rfl)) (fun _ _ _ _ _=>aT (i:=2) vz.nd rfl (Or.inl rfl)) (fun _ _ _ _ _=>bZ) (fun _ _ _ _ _=>aq jo (aq fg (pv 1) (pv 2)) au))),?_⟩
  refine ⟨_,rfl,af _ _ ⟨rfl,rfl, .inl ⟨by decide,by decide⟩,af _ _ ⟨rfl,rfl,_,rfl,_,rfl,8*(c:Int)-8,-1,-8,c,rfl,Ai (by lia),fun D hD=>?_⟩⟩⟩
  refine cC (J:=iI (8*(c:Int)-8) (-8) c) hD c (by rw[sizeLine_eq];lia) (fun i=> .int ((n/256^(c-1-i)%256:Nat):Int)) (fun i Hh hi s1=>hi) (fun Hh s1=>Nat.le_refl _) ?_ ?_
  ·rintro i Hh z H' hi s1 ⟨rfl,rfl⟩ C hC
   have e1:8*(c:Int)-8+(i:Nat)*(-8)=((8*(c-1-i):Nat):Int):=by lia
   rw[e1]
   refine ⟨rfl,_,rfl,_,rfl,af _ _ ⟨rfl,rfl,(by lia),af _ _ ⟨rfl,rfl,?_⟩⟩⟩
   have e2:((n:Nat):Int)/2^((8*(c-1-i):Nat):Int).toNat=((n/256^(c-1-i):Nat):Int):=by rw[Int.toNat_natCast,uD];simp
   dsimp only
   rw[e2,vq]
   exact hC _ (ah.refl _)
  ·intro Hh s1 hx
   refine k D Hh hD s1 (hx.trans ?_)
   unfold vN aU
   rw[List.map_map]
   rfl
def Ks (K:PySem.W.Frag):Sp:=fun vs H Q _=> ∃(q:Addr) (l:List Nat),vs= [.ref q]∧ae K H q (vN l)∧l.length≤1000∧(∀x∈l,x<256)∧Q (.int (dX l:Nat)) H
theorem sD:aM ["data", "number", "byte"] ["data"] (aG zr):=⟨rfl,rfl,rfl,by decide+kernel,rfl,by decide+kernel,by decide+kernel⟩
theorem Sa (T:Txt K mg A):aC P w K mg base aO 1 A.lA A.lg ["data"] (Ks K):=by
 refine T.DZ.ok sD (fun vs H Q E h=>?_) (fun cdv Ar outer s H vs Q E hr h=>?_)
 ·obtain ⟨q,l,rfl,_⟩:=h
  rfl
 ·obtain ⟨q,l,rfl,hq,hl,hb,k⟩:=h
  refine ⟨_,ak (aI (i:=1) sD.nd rfl (Or.inl rfl) au)
   (ak (cv PassesOwn.never rfl (cg (pv 0)) (aT (i:=2) sD.nd rfl (Or.inl rfl))
    (aw (aI (i:=1) sD.nd rfl (Or.inl rfl) (aq Ex (aq tX (pv 1) au) (pv 2)))))
   (aw (aS (pv 1)))),?_⟩
  refine ⟨_,rfl,q,rfl,⟨_,hq⟩,?_⟩
  refine eA (K:=K) (a:=q) (xs:=vN l) (fun i σ H'=>H'=H∧ ∃v2:Option V,σ= [some (.ref q),some (.int (dX (l.take i):Nat)),v2]) ⟨rfl,none,rfl⟩ (fun i σ H' _ ⟨e,_⟩=>by rw[e];exact hq) ?_ ?_
  ·rintro i x σ H' hi ⟨rfl,v2,rfl⟩
   obtain ⟨rfl,hil⟩:=fE hi
   have hlt:=Bh (l:=l.take i) fun x hx=>hb x (List.mem_of_mem_take hx)
   have hbits:Builtin.Int.intBits ((dX (l.take i):Nat):Int)≤8*i:=by
    rw[uD,List.length_take] at hlt
    exact PQ (Nat.lt_of_lt_of_le hlt (Nat.pow_le_pow_right (by decide) (by lia)))
   have e27:(2:Int)^27=134217728:=by decide
   refine ⟨_,rfl,af _ _ ⟨rfl,rfl,⟨by lia,by lia⟩,_,rfl,af _ _ ⟨rfl,rfl,rfl,some (.int (l.getD i 0:Nat)),?_⟩⟩⟩
   have e:dX (l.take (i+1))=256*dX (l.take i)+l.getD i 0:=by
    unfold dX
    rw[wO _ _ _ hil,getD_at hil]
   have ex:Builtin.bitOr (((dX (l.take i):Nat):Int)*2^(8:Int).toNat) ((l.getD i 0:Nat):Int)=((dX (l.take (i+1)):Nat):Int):=by
    have e8:((dX (l.take i):Nat):Int)*2^(8:Int).toNat=((256*dX (l.take i):Nat):Int):=by
     rw[show (2:Int)^(8:Int).toNat=256 by decide];lia
    rw[e8,yj,Nk (z9 hb hil),e]
   show [some (V.ref q),some (V.int (Builtin.bitOr _ _)),_]=_
   rw[ex]
  ·rintro σ H' ⟨rfl,v2,rfl⟩
   refine ⟨_,rfl,?_⟩
   have:dX (l.take (vN l).length)=dX l:=by rw[aK,List.take_length]
   rw[this]
   exact k
def Pk (K:PySem.W.Frag):Sp:=fun vs H Q _=> ∃(q:Addr) (l:List Nat),vs= [.ref q]∧ae K H q (vN l)∧(∀x∈l,x<256)∧Q (.int (kK l:Nat)) H
theorem kQ:aM ["data", "check", "byte"] ["data"] (aG Fw):=⟨rfl,rfl,rfl,by decide+kernel,rfl,by decide+kernel,by decide+kernel⟩
theorem Rk (n:Nat):Builtin.bitAnd (n:Int) 15=((n%16:Nat):Int):=by
 rw[show (15:Int)=((15:Nat):Int) from rfl,yG,show (15:Nat)=2^4-1 by decide,Nat.and_two_pow_sub_one_eq_mod]
theorem AD {c:Nat} {H:Hp} {a:Addr} {Qf:V→Hp→Prop} (hs:aZ K H a (vN ki)) (k:Qf (.int (ox c:Nat)) H) {σ:L2.St} (hσ:σ[1]?=some (some (V.int (c:Nat)))):
  fS (du fun i j=> .int (Builtin.bitXor i j)) (fS (rI (fun _ j=>0≤j) fun i j=> .int (i/2^j.toNat)) (cZ 1) (tC (.int 4))) (fS (ra K) (tC (.ref a)) (fS (du fun i j=> .int (Builtin.bitAnd i j)) (cZ 1) (tC (.int 15)))) σ H Qf:=by
 refine ⟨_,hσ,af _ _ ⟨rfl,rfl,(by show (0:Int)≤4;decide),_,hσ,af _ _ ⟨rfl,rfl,?_⟩⟩⟩
 dsimp only
 rw[Rk]
 have hm:c%16<ki.length:=Nat.mod_lt _ (by decide)
 refine (az a _ _ _ ⟨rfl,rfl,hs,bP (gg hm),af _ _ ⟨rfl,rfl,?_⟩⟩)
 have e:Builtin.bitXor (((c:Nat):Int)/2^(4:Int).toNat) ((ki.getD (c%16) 0:Nat):Int)=((ox c:Nat):Int):=by
  have e1:((c:Nat):Int)/2^(4:Int).toNat=((c/16:Nat):Int):=by rw[show (2:Int)^(4:Int).toNat=16 by decide];lia
  rw[e1,ir];rfl
 dsimp only
 rw[e]
 exact k
theorem Ei (T:Txt K mg A):aC P w K mg base aO 1 A.ma A.nR ["data"] (Pk K):=by
 refine T.uh.ok kQ (fun vs H Q E h=>?_) (fun cdv Ar outer s H vs Q E hr h=>?_)
 ·obtain ⟨q,l,rfl,_⟩:=h
  rfl
 ·obtain ⟨q,l,rfl,hq,hb,k⟩:=h
  refine ⟨_,ak (aI (i:=1) kQ.nd rfl (Or.inl rfl) au)
   (ak (cv PassesOwn.never rfl (cg (pv 0)) (aT (i:=2) kQ.nd rfl (Or.inl rfl))
    (ak (ie (i:=1) kQ.nd rfl (Or.inl rfl) (pv 2) si)
    (ak (aI (i:=1) kQ.nd rfl (Or.inl rfl) (aq ku (aq fg (pv 1) au) (bS ro (kh rfl T.A2) (aq jo (pv 1) au) (fun _ _=>rfl))))
    (aw (aI (i:=1) kQ.nd rfl (Or.inl rfl) (aq ku (aq fg (pv 1) au) (bS ro (kh rfl T.A2) (aq jo (pv 1) au) (fun _ _=>rfl))))))))
   (aw (aS (aq ku (pv 1) au)))),?_⟩
  refine ⟨_,rfl,q,rfl,⟨_,hq⟩,?_⟩
  have hS: ∀H,aZ K H A.nA (vN ki):=fun H=>T.Ls H
  refine eA (K:=K) (a:=q) (xs:=vN l) (fun i σ H'=>H'=H∧ ∃v2:Option V,σ= [some (.ref q),some (.int ((l.take i).foldl sG 0xFFFFFFFF:Nat)),v2]) ⟨rfl,none,rfl⟩ (fun i σ H' _ ⟨e,_⟩=>by rw[e];exact hq) ?_ ?_
  ·rintro i x σ H' hi ⟨rfl,v2,rfl⟩
   obtain ⟨rfl,hil⟩:=fE hi
   refine ⟨_,rfl,_,rfl,af _ _ ⟨rfl,rfl,?_⟩⟩
   dsimp only
   rw[ir]
   refine AD (hS _) (AD (hS _) ⟨rfl,some (.int (l.getD i 0:Nat)),?_⟩ rfl) rfl
   rw[wO _ _ _ hil,←getD_at hil]
   rfl
  ·rintro σ H' ⟨rfl,v2,rfl⟩
   refine ⟨_,rfl,af _ _ ⟨rfl,rfl,?_⟩⟩
   dsimp only
   rw[aK,List.take_length,show (4294967295:Int)=((4294967295:Nat):Int) from rfl,ir]
   exact k
def ji (l:List Nat):List Nat:=l++aU 4 (kK l)
theorem bz (c n:Nat):(aU c n).length=c:=by unfold aU;rw[List.length_map,List.length_range]
theorem o4 (c n:Nat): ∀x∈aU c n,x<256:=fun x hx=>by
 unfold aU at hx
 obtain ⟨i,_,rfl⟩:=List.mem_map.mp hx
 exact Nat.mod_lt _ (by decide)
def IC:Sp:=fun vs H Q _=> ∃a:Nat,vs= [.int a]∧a<256∧fQ H Q ((List.range 256).map (Sound.mul a))
theorem iG:aM ["factor", "table", "power", "step", "product"] ["factor"] (aG Ej):=⟨rfl,rfl,rfl,by decide+kernel,rfl,by decide+kernel,by decide+kernel⟩
theorem uc (a k:Nat):(gH a k).length=2^k:=by unfold gH;rw[List.length_map,List.length_range]
theorem DU (T:Txt K mg A):aC P w K mg base aO 1 A.lN A.qF ["factor"] IC:=by
 refine T.xI.ok iG (fun vs H Q E h=>?_) (fun cdv Ar outer s H vs Q E hr h=>?_)
 ·obtain ⟨a,rfl,_⟩:=h
  rfl
 ·obtain ⟨a,rfl,ha,k⟩:=h
  refine ⟨_,ak (aI (i:=1) iG.nd rfl (Or.inl rfl) (b9 (aa au ag)))
   (ak (aI (i:=2) iG.nd rfl (Or.inr rfl) (pv 0))
   (ak (cv PassesOwn.never rfl (jh rfl T.dt (aa au ag)) (aT (i:=3) iG.nd rfl (Or.inl rfl))
    (ak (aI (i:=1) iG.nd rfl (Or.inl rfl) (aq i8 (pv 1) (cw (own:= [("product",4)]) rfl iG.nd (cg (pv 1)) (b5 (by kernel_rfl)) (fun _ _ _ _ _=>aT (i:=4) iG.nd rfl (Or.inl rfl)) (fun _ _ _ _ _=>bZ) (fun _ _ _ _ _=>aq ku (pv 4) (pv 2)))))
    (ak (ie (i:=2) iG.nd rfl (Or.inr rfl) au Bj)
    (aw (bN (bO iv (pv 2) au (bo _)) (aw (ie (i:=2) iG.nd rfl (Or.inr rfl) (aY rfl T.RC) si)) bX)))))
   (aw (aS (pv 1))))),?_⟩
  refine ⟨by rw[sizeLine_eq];show 1≤_;lia,fun t0 ht0=>⟨_,rfl,_,rfl,by decide,by decide,?_⟩⟩
  refine jE (lo:=0) (n:=8) (fun j σ H'=> ∃(t:Addr) (v3 v4:Option V),H t=none∧ah H H'∧H' t=some (.lst (vN (gH a j)))∧σ= [some (.int a),some (.ref t),some (.int (cH a j:Nat)),v3,v4]) ⟨t0,none,none,ht0,aQ ht0,ao,rfl⟩ ?_ ?_
  ·rintro j σ H1 hj ⟨t,v3,v4,ht,s1,hx,rfl⟩
   have hp:=uX ha j
   have h2j:2^j≤128:=Nat.le_trans (Nat.pow_le_pow_right (by decide) (show j≤7 by lia)) (by decide)
   refine ⟨_,rfl,_,rfl,t,rfl,⟨_,ae.of hx⟩,fun D hD=>?_⟩
   refine cC (J:=dH K t) hD (2^j) (by rw[sizeLine_eq];lia) (fun i=> .int (((gH a j).getD i 0^^^cH a j:Nat):Int)) (fun i Hh hi t1=>⟨_,_,t1.seq (ae.of hx),gg (by rw[uc];exact hi)⟩) (fun Hh t1=>⟨_,t1.seq (ae.of hx),by rw[aK,uc];exact Nat.le_refl _⟩) ?_ ?_
   ·rintro i Hh z H' hi t1 ⟨rfl,hz⟩ C hC
    obtain ⟨rfl,_⟩:=fE (hz _ (t1.seq (ae.of hx)))
    refine ⟨rfl,_,rfl,_,rfl,af _ _ ⟨rfl,rfl,?_⟩⟩
    dsimp only
    rw[ir]
    exact hC _ (ah.refl _)
   ·intro H2 s2 hx2
    have e2:(List.range (2^j)).map (fun i=>V.int (((gH a j).getD i 0^^^cH a j:Nat):Int))=vN ((gH a j).map fun p=>p^^^cH a j):=by
     unfold vN
     rw[List.map_map]
     refine List.ext_getElem (by rw[List.length_map,List.length_map,List.length_range,uc]) fun i h1 h2=>?_
     simp at h1 h2
     simp [List.getD_eq_getElem?_getD,List.getElem?_eq_getElem h2]
    rw[e2] at hx2
    refine (az t D _ _ ⟨rfl,rfl,s2 _ _ hx,hx2,(by rw[aK,aK,List.length_map,uc,sizeLine_eq];lia),fun p hp2=>?_⟩)
    rw[←cO,←Ol]
    have n0:H p=none:=(s1.trans s2).none hp2
    refine ⟨_,rfl,af _ _ ⟨rfl,rfl,⟨by decide,by decide,by rw[Int.natAbs_natCast];lia⟩,?_⟩⟩
    have e3:((cH a j:Nat):Int)*2^(1:Int).toNat=((2*cH a j:Nat):Int):=by
     rw[show (2:Int)^(1:Int).toNat=2 by decide];lia
    dsimp only
    rw[e3]
    refine ⟨_,rfl,af _ _ ⟨rfl,rfl,_,rfl,?_⟩⟩
    refine cP (fun hc2=>?_) fun hc2=>?_
    ·have hc2:(255:Int)<((2*cH a j:Nat):Int):=of_decide_eq_true hc2
     refine ⟨_,rfl,af _ _ ⟨rfl,rfl,p,some (.int (0+(j:Nat))),v4,n0,eO (s1.trans s2) n0,ao,?_⟩⟩
     show [_,_,some (V.int (Builtin.bitXor ((2*cH a j:Nat):Int) 285)),_,_]=_
     rw[show (285:Int)=((285:Nat):Int) from rfl,ir]
     have:cH a (j+1)=2*cH a j^^^285:=by
      show Sound.times2 _=_
      unfold Sound.times2
      rw[if_pos (by lia)]
     rw[this]
    ·have hc2: ¬(255:Int)<((2*cH a j:Nat):Int):=fun z=>hc2 (decide_eq_true z)
     refine ⟨p,some (.int (0+(j:Nat))),v4,n0,eO (s1.trans s2) n0,ao,?_⟩
     have:cH a (j+1)=2*cH a j:=by
      show Sound.times2 _=_
      unfold Sound.times2
      rw[if_neg (by lia)]
     rw[this];rfl
  ·rintro σ H1 ⟨t,v3,v4,ht,s1,hx,rfl⟩
   exact ⟨_,rfl,k t H1 ht s1 hx⟩
def Ky (K:PySem.W.Frag):Sp:=fun vs H Q _=> ∃(q:Addr) (l:List Nat),vs= [.ref q]∧ae K H q (vN l)∧(∀x∈l,x<256)∧l.length≤1000000∧fQ H Q (ji l)
theorem Oc:aM ["data"] ["data"] (aG Gs):=⟨rfl,rfl,rfl,by decide+kernel,rfl,by decide+kernel,by decide+kernel⟩
theorem sI (T:Txt K mg A):aC P w K mg base aO 2 A.qP A.pT ["data"] (Ky K):=by
 refine T.qw.ok Oc (fun vs H Q E h=>?_) (fun cdv Ar outer s H vs Q E hr h=>?_)
 ·obtain ⟨q,l,rfl,_⟩:=h
  rfl
 ·obtain ⟨q,l,rfl,hq,hb,hl,k⟩:=h
  refine ⟨_,aw (aS (aq dW (pv 0) (aN (gj T) hr rfl T.f9 T.fH.kp T.f7 .nil ay
   (aa (aY rfl T.wB) (aa (aN (Ei T) hr rfl T.BB T.uh.kp T.zS .nil ay (aa (pv 0) ag)) ag))))),?_⟩
  refine ⟨_,rfl,_,rfl,af q l ⟨rfl,hq,hb,4,kK l,rfl,by decide,fun D H1 hD s1 hx=>?_⟩⟩
  refine (az q D _ _ ⟨rfl,rfl,s1.seq hq,ae.of hx,(by rw[aK,aK,bz,sizeLine_eq];lia),fun p hp=>?_⟩)
  refine k p _ (s1.none hp) (eO s1 (s1.none hp)) ?_
  rw[ao,←cO];rfl
theorem K3 (a b:Int):gh (.int a) (.int b)=decide (a=b):=by
 by_cases h:a=b
 ·subst h;simp [gh]
 ·simp [gh,h]
theorem NS (F:List Nat):(vN F).all gP=true:=by
 rw[List.all_eq_true]
 intro x hx
 obtain ⟨n,_,rfl⟩:=List.mem_map.mp hx
 rfl
def QB:Sp:=fun vs H Q _=> ∃a:Nat,vs= [.int a]∧(a<256∧a≠0)∧ ∀H',ah H H'→Q (.int (Sound.inverse a:Nat)) H'
theorem OE:aM ["number"] ["number"] (aG Am):=⟨rfl,rfl,rfl,by decide+kernel,rfl,by decide+kernel,by decide+kernel⟩
theorem NM (T:Txt K mg A):aC P w K mg base aO 2 A.pY A.oP ["number"] QB:=by
 refine T.BF.ok OE (fun vs H Q E h=>?_) (fun cdv Ar outer s H vs Q E hr h=>?_)
 ·obtain ⟨a,rfl,_⟩:=h
  rfl
 ·obtain ⟨a,rfl,⟨ha,h0⟩,k⟩:=h
  refine ⟨_,aw (aS (ig PySem.F.plainAttrs_list PySem.F.slot_list_index PySem.F.type_list_index OL (aN (DU T) hr rfl T.yV T.xI.kp T.C0 .nil ay (aa (pv 0) ag)) (aa au ag))),?_⟩
  obtain ⟨i1,i2,i3⟩:=C9 ha h0
  refine ⟨_,rfl,a,rfl,ha,fun D H1 hD s1 hx=>?_⟩
  have gt: ∀b,b<256→((List.range 256).map (Sound.mul a)).getD b 0=Sound.mul a b:=fun b hb=>by
   rw[List.getD_eq_getElem?_getD,List.getElem?_map,List.getElem?_range hb];rfl
  have hl:((List.range 256).map (Sound.mul a)).length=256:=by rw[List.length_map,List.length_range]
  refine ⟨.inl ⟨rfl,_,ae.of hx⟩,fT D _ (.int 1) (Sound.inverse a) _ ⟨rfl,rfl,ae.of hx,rfl,NS _,gg (by rw[hl];exact i1),?_,fun m z' hm hz=>?_,k _ s1⟩⟩
  ·rw[gt _ i1,i2];rfl
  ·obtain ⟨rfl,_⟩:=fE hz
   rw[gt m (by lia),K3]
   have:=i3 m hm
   exact decide_eq_false (by lia)
def Se (K:PySem.W.Frag):Sp:=fun vs H Q _=> ∃(a:Nat) (q:Addr) (l:List Nat),vs= [.int a, .ref q]∧a<256∧ae K H q (vN l)∧(∀x∈l,x<256)∧l.length≤100000∧fQ H Q (l.map (Sound.mul a))
theorem sf:aM ["factor", "data", "table", "byte"] ["factor", "data"] (aG GC):=⟨rfl,rfl,rfl,by decide+kernel,rfl,by decide+kernel,by decide+kernel⟩
theorem LF (T:Txt K mg A):aC P w K mg base aO 2 A.nW A.lK ["factor", "data"] (Se K):=by
 refine T.CK.ok sf (fun vs H Q E h=>?_) (fun cdv Ar outer s H vs Q E hr h=>?_)
 ·obtain ⟨a,q,l,rfl,_⟩:=h
  rfl
 ·obtain ⟨a,q,l,rfl,ha,hq,hb,hl,k⟩:=h
  refine ⟨_,ak (aI (i:=2) sf.nd rfl (Or.inr rfl) (aN (DU T) hr rfl T.yV T.xI.kp T.C0 .nil ay (aa (pv 0) ag)))
   (aw (aS (cw (own:= [("byte",3)]) rfl sf.nd (cg (pv 1)) (b5 (by kernel_rfl)) (fun _ _ _ _ _=>aT (i:=3) sf.nd rfl (Or.inl rfl)) (fun _ _ _ _ _=>bZ) (fun _ _ _ _ _=>bS (fw (K:=K) rfl) (pv 2) (pv 3) (fun _ _=>rfl))))),?_⟩
  refine ⟨_,rfl,a,rfl,ha,fun D H1 hD s1 hx=>⟨_,rfl,q,rfl,⟨_,s1.seq hq⟩,fun D2 hD2=>?_⟩⟩
  refine cC (J:=dH K q) hD2 l.length (by rw[sizeLine_eq];lia) (fun i=> .int ((Sound.mul a (l.getD i 0):Nat):Int)) (fun i Hh hi t1=>⟨_,_,t1.seq (s1.seq hq),gg hi⟩) (fun Hh t1=>⟨_,t1.seq (s1.seq hq),by rw[aK];exact Nat.le_refl _⟩) ?_ ?_
  ·rintro i Hh z H' hi t1 ⟨rfl,hz⟩ C hC
   obtain ⟨rfl,_⟩:=fE (hz _ (t1.seq (s1.seq hq)))
   have hbl:=z9 hb hi
   have hg:((List.range 256).map (Sound.mul a)).getD (l.getD i 0) 0=Sound.mul a (l.getD i 0):=by
    rw[List.getD_eq_getElem?_getD,List.getElem?_map,List.getElem?_range hbl];rfl
   have:=gg (F:=(List.range 256).map (Sound.mul a)) (i:=l.getD i 0) (by rw[List.length_map,List.length_range];exact hbl)
   rw[hg] at this
   exact ⟨rfl,_,rfl,_,rfl,az D _ _ _ ⟨rfl,rfl,t1.seq (ae.of hx),bP this,hC _ (ah.refl _)⟩⟩
  ·intro H2 s2 hx2
   rw[map_getD] at hx2
   exact k D2 H2 (s1.none hD2) (s1.trans s2) hx2
def RX (K:PySem.W.Frag):Sp:=fun vs H Q _=> ∃(q r:Addr) (l m:List Nat),vs= [.ref q, .ref r]∧ae K H q (vN l)∧ae K H r (vN m)∧l.length=m.length∧l.length≤100000∧fQ H Q (Sound.added l m)
theorem r6:aM ["one", "other", "x", "y"] ["one", "other"] (aG CG):=⟨rfl,rfl,rfl,by decide+kernel,rfl,by decide+kernel,by decide+kernel⟩
theorem Tn (T:Txt K mg A):aC P w K mg base aO 1 A.nZ A.pG ["one", "other"] (RX K):=by
 refine T.AX.ok r6 (fun vs H Q E h=>?_) (fun cdv Ar outer s H vs Q E hr h=>?_)
 ·obtain ⟨q,r,l,m,rfl,_⟩:=h
  rfl
 ·obtain ⟨q,r,l,m,rfl,hq,hr',hlm,hl,k⟩:=h
  refine ⟨_,aw (aS (cw (own:= [("x",2),("y",3)]) rfl r6.nd (lI rfl T.kx (aa (pv 0) (aa (pv 1) ag))) (b5 (by kernel_rfl))
   (fun _ _ _ _ _=>iL (K:=K) (n:=2) rfl rfl (dC (aT (i:=2) r6.nd rfl (Or.inl rfl)) (dC (aT (i:=3) r6.nd rfl (Or.inl rfl)) iQ))) (fun _ _ _ _ _=>bZ) (fun _ _ _ _ _=>aq ku (pv 2) (pv 3)))),?_⟩
  refine ⟨_,rfl,_,rfl,az q r _ _ ⟨rfl,hq,hr',fun D hD=>?_⟩⟩
  refine cC (J:=jV K q r) hD l.length (by rw[sizeLine_eq];lia) (fun i=> .int ((l.getD i 0^^^m.getD i 0:Nat):Int))
   (fun i Hh hi t1=>⟨_,_,_,_,t1.seq hq,t1.seq hr',gg hi,gg (by lia)⟩) (fun Hh t1=>⟨_,_,t1.seq hq,t1.seq hr', .inl (by rw[aK];exact Nat.le_refl _)⟩) ?_ ?_
  ·rintro i Hh z H' hi t1 ⟨t,x1,y1,rfl,ht,rfl,hx,hy⟩ C hC
   obtain ⟨rfl,_⟩:=fE (hx _ (t1.seq hq))
   obtain ⟨rfl,_⟩:=fE (hy _ (t1.seq hr'))
   refine (af t _ ⟨rfl,aZ.of ao,rfl,af _ _ ⟨rfl,af _ _ ⟨rfl,rfl,rfl,_,rfl,_,rfl,af _ _ ⟨rfl,rfl,?_⟩⟩⟩⟩)
   dsimp only
   rw[ir]
   exact hC _ (aQ ht)
  ·intro H2 s2 hx2
   refine k D H2 hD s2 (hx2.trans ?_)
   congr 2
   unfold vN Sound.added
   refine List.ext_getElem (by simp;lia) fun i h1 h2=>?_
   simp at h1
   simp [List.getD_eq_getElem?_getD,List.getElem?_eq_getElem h1,List.getElem?_eq_getElem (show i<m.length by lia)]
def UB:Sp:=fun vs H Q _=> ∃i j:Nat,vs= [.int i, .int j]∧(i<8∧j<4)∧ ∀H',ah H H'→Q (.int (Sound.factor i j:Nat)) H'
theorem L5:aM ["i", "j"] ["i", "j"] (aG E5):=⟨rfl,rfl,rfl,by decide+kernel,rfl,by decide+kernel,by decide+kernel⟩
theorem Lb (T:Txt K mg A):aC P w K mg base aO 3 A.pX A.lW ["i", "j"] UB:=by
 refine T.Dl.ok L5 (fun vs H Q E h=>?_) (fun cdv Ar outer s H vs Q E hr h=>?_)
 ·obtain ⟨i,j,rfl,_⟩:=h
  rfl
 ·obtain ⟨i,j,rfl,⟨hi,hj⟩,k⟩:=h
  refine ⟨_,aw (aS (aN (NM T) hr rfl T.Jm T.BF.kp T.KH .nil ay (aa (aq ku (pv 0) (aq bE (aY rfl T.Pc) (pv 1))) ag))),?_⟩
  refine ⟨_,rfl,_,rfl,af _ _ ⟨rfl,rfl,af _ _ ⟨rfl,rfl,i^^^(128+j),?_,zT i hi j hj,k⟩⟩⟩
  show [V.int (Builtin.bitXor _ _)]=_
  rw[show (128:Int)+(j:Nat)=((128+j:Nat):Int) by lia,ir]
def gK (K:PySem.W.Frag) (H:Hp) (r:Addr) (M:List (List Nat)):Prop:= ∃as:List Addr,ae K H r (as.map V.ref)∧as.length=M.length∧ ∀(k:Nat) (a:Addr),as[k]?=some a→ae K H a (vN (M.getD k []))
theorem gK.same {H H':Hp} {r:Addr} {M:List (List Nat)} (h:gK K H r M) (s:ah H H'):gK K H' r M:=by
 obtain ⟨as,h1,h2,h3⟩:=h
 exact ⟨as,s.seq h1,h2,fun k a e=>s.seq (h3 k a e)⟩
def fz (M:List (List Nat)):List Nat:=M.map List.length
def dj (M:List (List Nat)):Nat:=(fz M).foldl max 0+2
theorem lE: ∀(l:List Nat) (b:Nat),b≤l.foldl max b∧(∀x∈l,x≤l.foldl max b)∧(l.foldl max b=b∨l.foldl max b∈l)
 | [],b=>⟨Nat.le_refl _,fun x hx=>(by cases hx), .inl rfl⟩
 |y::l,b=>by
  obtain ⟨h1,h2,h3⟩:=lE l (max b y)
  rw[List.foldl_cons]
  refine ⟨by lia,fun x hx=>?_,?_⟩
  ·rcases List.mem_cons.mp hx with rfl|hx
   ·lia
   ·exact h2 x hx
  ·rcases h3 with h3|h3
   ·rw[h3]
    rcases Nat.le_total b y with q|q
    ·exact .inr (by rw[Nat.max_eq_right q];simp)
    ·exact .inl (Nat.max_eq_left q)
   ·exact .inr (List.mem_cons_of_mem _ h3)
theorem Bn {l:List Nat} {m:Nat} (h1:m∈l) (h2: ∀x∈l,x≤m):l.foldl max 0=m:=by
 obtain ⟨a,b,c⟩:=lE l 0
 have:=b m h1
 rcases c with c|c
 ·lia
 ·have:=h2 _ c;lia
def Uw (K:PySem.W.Frag):Sp:=fun vs H Q _=> ∃(r:Addr) (M:List (List Nat)),vs= [.ref r]∧gK K H r M∧(1≤M.length∧M.length≤100000)∧ ∀H',ah H H'→Q (.int (dj M:Nat)) H'
theorem vo:aM ["frames", "one"] ["frames"] (aG Fi):=⟨rfl,rfl,rfl,by decide+kernel,rfl,by decide+kernel,by decide+kernel⟩
theorem LH {M:List (List Nat)} {i:Nat} (h:i<M.length):(fz M).getD i 0=(M.getD i []).length:=by
 unfold fz
 rw[List.getD_eq_getElem?_getD,List.getD_eq_getElem?_getD,List.getElem?_map,List.getElem?_eq_getElem h];rfl
theorem RI (T:Txt K mg A):aC P w K mg base aO 1 A.mK A.mD ["frames"] (Uw K):=by
 refine T.F9.ok vo (fun vs H Q E h=>?_) (fun cdv Ar outer s H vs Q E hr h=>?_)
 ·obtain ⟨r,M,rfl,_⟩:=h
  rfl
 ·obtain ⟨r,M,rfl,⟨as,hr',hlen,hrow⟩,⟨hM1,hM2⟩,k⟩:=h
  refine ⟨_,aw (aS (aq bE (bf (RQ rfl) (by rfl) T.r8 (by decide+kernel:bootBuiltins "max" =some (.builtin "max")) (aa (cw (own:= [("one",1)]) rfl vo.nd (cg (pv 0)) (b5 (by kernel_rfl)) (fun _ _ _ _ _=>aT (i:=1) vo.nd rfl (Or.inl rfl)) (fun _ _ _ _ _=>bZ)
   (fun _ _ _ _ _=>bf (Q6 (K:=K) rfl) (by rfl) T.bW PySem.boot_len (aa (pv 1) ag))) ag)) (aY rfl T.vP))),?_⟩
  refine ⟨_,rfl,r,rfl,⟨_,hr'⟩,fun D hD=>?_⟩
  refine cC (J:=dH K r) hD M.length (by rw[sizeLine_eq];lia) (fun i=> .int (((fz M).getD i 0:Nat):Int)) (fun i Hh hi t1=>?_) (fun Hh t1=>⟨_,t1.seq hr',by rw[List.length_map];lia⟩) ?_ ?_
  ·obtain ⟨a,h1,_⟩:=uR (as:=as) (i:=i) (by lia)
   exact ⟨_,_,t1.seq hr',h1⟩
  ·rintro i Hh z H' hi t1 ⟨rfl,hz⟩ C hC
   obtain ⟨a,rfl,ha⟩:=vt (hz _ (t1.seq hr'))
   refine ⟨rfl,_,rfl,af a _ ⟨rfl, .inl (t1.seq (hrow i a ha)),?_⟩⟩
   rw[aK,←LH hi]
   exact hC _ (ah.refl _)
  ·intro H2 s2 hx2
   have e:(List.range M.length).map (fun i=>V.int (((fz M).getD i 0:Nat):Int))=vN (fz M):=by
    have:=map_getD (f:=id) (fz M)
    rw[List.map_id] at this
    rw[←this]
    unfold fz
    rw[List.length_map];rfl
   rw[e] at hx2
   refine ⟨D,(fz M).map fun (n:Nat)=>(n:Int),rfl,(by rw[←rP];exact ae.of hx2),(by unfold fz;rw[List.length_map,List.length_map];exact hM1),fun m hm hall=>?_⟩
   obtain ⟨n,hn,rfl⟩:=List.mem_map.mp hm
   refine (af _ _ ⟨rfl,rfl,?_⟩)
   have:dj M=n+2:=by
    unfold dj
    rw[Bn hn fun x hx=>by have:=hall _ (List.mem_map_of_mem hx);lia]
   have k2:=k H2 s2
   rw[this] at k2
   exact k2
def cW (r:Nat) (m:List Nat):List Nat:=aU 2 m.length++m++List.replicate (r-2-m.length) 0
def iH (r j:Nat) (M:List (List Nat)):List Nat:=(M.zipIdx).foldl (fun a x=>Sound.added a ((cW r x.1).map (Sound.mul (Sound.factor x.2 j)))) (List.replicate r 0)
theorem ub {r:Nat} {m:List Nat} (h:m.length+2≤r):(cW r m).length=r:=by
 unfold cW
 rw[List.length_append,List.length_append,bz,List.length_replicate];lia
theorem N4 {r:Nat} {m:List Nat} (h: ∀x∈m,x<256): ∀x∈cW r m,x<256:=fun x hx=>by
 unfold cW at hx
 rcases List.mem_append.mp hx with hx|hx
 ·rcases List.mem_append.mp hx with hx|hx
  ·exact o4 _ _ x hx
  ·exact h x hx
 ·rw[(List.mem_replicate.mp hx).2];decide
theorem GF {i j:Nat} (hi:i<8) (hj:j<4):Sound.factor i j<256:=by
 obtain ⟨h1,h2⟩:=zT i hi j hj
 exact (C9 h1 h2).1
theorem CT {a b:List Nat}:(Sound.added a b).length=min a.length b.length:=by unfold Sound.added;rw[List.length_zipWith]
theorem vW (n:Nat):(List.replicate n [V.int 0]).flatten=vN (List.replicate n 0):=by
 unfold vN
 induction n with
 |zero=>rfl
 |succ n ih=>rw[List.replicate_succ,List.replicate_succ,List.flatten_cons,ih];rfl
def Qz (K:PySem.W.Frag):Sp:=fun vs H Q _=> ∃(j r:Nat) (f:Addr) (M:List (List Nat)),vs= [.int j, .int r, .ref f]∧gK K H f M∧(j<4∧r≤50000∧M.length≤8)∧(∀m∈M,m.length+2≤r∧ ∀x∈m,x<256)∧fQ H Q (iH r j M)
theorem kr:aM ["j", "row_size", "frames", "total", "i", "one", "row"] ["j", "row_size", "frames"] (aG EK):=⟨rfl,rfl,rfl,by decide+kernel,rfl,by decide+kernel,by decide+kernel⟩
theorem Rn {r j i:Nat} {M:List (List Nat)} (hi:i<M.length):((M.zipIdx).take (i+1)).foldl (fun a x=>Sound.added a ((cW r x.1).map (Sound.mul (Sound.factor x.2 j)))) (List.replicate r 0)=Sound.added (((M.zipIdx).take i).foldl (fun a x=>Sound.added a ((cW r x.1).map (Sound.mul (Sound.factor x.2 j)))) (List.replicate r 0)) ((cW r (M.getD i [])).map (Sound.mul (Sound.factor i j))):=by
 rw[wO _ _ _ (by rw[List.length_zipIdx];exact hi)]
 have e:M.zipIdx[i]'(by rw[List.length_zipIdx];exact hi)=(M.getD i [],i):=by
  rw[List.getElem_zipIdx,List.getD_eq_getElem?_getD,List.getElem?_eq_getElem hi];simp
 rw[e]
theorem getD_mem' {M:List (List Nat)} {i:Nat} (h:i<M.length):M.getD i []∈M:=by
 rw[List.getD_eq_getElem?_getD,List.getElem?_eq_getElem h];exact List.getElem_mem h
theorem NV (T:Txt K mg A):aC P w K mg base aO 4 A.oU A.mn ["j", "row_size", "frames"] (Qz K):=by
 refine T.CB.ok kr (fun vs H Q E h=>?_) (fun cdv Ar outer s H vs Q E hr h=>?_)
 ·obtain ⟨j,r,f,M,rfl,_⟩:=h
  rfl
 ·obtain ⟨j,r,f,M,rfl,hf,⟨hj,hr1,hM⟩,hrows,k⟩:=h
  have hr1':aR 1 _:=hr.mono (by decide)
  have hr2':aR 2 _:=hr.mono (by decide)
  refine ⟨_,ak (aI (i:=3) kr.nd rfl (Or.inl rfl) (aq wF (b9 (aa au ag)) (pv 1)))
   (ak (cv PassesOwn.never rfl (wL rfl T.uL (aa (pv 2) ag)) (iL (K:=K) (n:=2) rfl rfl (dC (aT (i:=4) kr.nd rfl (Or.inl rfl)) (dC (aT (i:=5) kr.nd rfl (Or.inl rfl)) iQ)))
    (ak (aI (i:=6) kr.nd rfl (Or.inl rfl) (aq i8 (aq dW (aN (gj T) hr1' rfl T.f9 T.fH.kp T.f7 .nil ay (aa (aY rfl T.vP) (aa (bf bU (by rfl) T.bW PySem.boot_len (aa (pv 5) ag)) ag))) (pv 5))
     (aq wF (b9 (aa au ag)) (aq cc (aq cc (pv 1) (aY rfl T.vP)) (bf bU (by rfl) T.bW PySem.boot_len (aa (pv 5) ag))))))
    (aw (aI (i:=3) kr.nd rfl (Or.inl rfl) (aN (Tn T) hr1' rfl T.Ry T.AX.kp T.M0 .nil ay (aa (pv 3) (aa (aN (LF T) hr2' rfl T.TY T.CK.kp T.LG .nil ay (aa (aN (Lb T) hr rfl T.Ja T.Dl.kp T.K1 .nil ay (aa (pv 4) (aa (pv 0) ag))) (aa (pv 6) ag))) ag)))))))
   (aw (aS (pv 3)))),?_⟩
  refine ⟨by rw[sizeLine_eq];show 1≤_;lia,fun p0 hp0=>⟨_,rfl,b8 p0 _ _ ⟨rfl,rfl,ao,by lia,by lia,(by rw[sizeLine_eq];simp;lia),fun t0 ht0=>?_⟩⟩⟩
  have n0:H t0=none:=(aQ hp0).none ht0
  have s0:ah H (upd (upd H p0 (.lst [.int 0])) t0 (.lst (List.replicate ((r:Nat):Int).toNat [V.int 0]).flatten)):=eO (aQ hp0) n0
  obtain ⟨as,hf1,hf2,hf3⟩:=id hf
  refine ⟨_,rfl,af f _ ⟨rfl,s0.seq hf1,?_⟩⟩
  rw[Int.toNat_natCast,vW] at s0⊢
  refine Ob (J:=l6 K f) M.length (fun i σ H'=> ∃(t:Addr) (v4 v5 v6:Option V),H t=none∧ah H H'∧(((M.zipIdx).take i).foldl (fun a x=>Sound.added a ((cW r x.1).map (Sound.mul (Sound.factor x.2 j)))) (List.replicate r 0)).length=r∧H' t=some (.lst (vN (((M.zipIdx).take i).foldl (fun a x=>Sound.added a ((cW r x.1).map (Sound.mul (Sound.factor x.2 j)))) (List.replicate r 0))))∧σ= [some (.int j),some (.int r),some (.ref f),some (.ref t),v4,v5,v6])
   ⟨t0,none,none,none,n0,s0,(by simp),ao,rfl⟩ ?_ ?_ ?_ ?_
  ·rintro i σ H1 hi ⟨t,v4,v5,v6,ht,s1,hl,hx,rfl⟩
   obtain ⟨a,h1,_⟩:=uR (as:=as) (i:=i) (by lia)
   exact ⟨_,_,s1.seq hf1,h1⟩
  ·rintro σ H1 ⟨t,v4,v5,v6,ht,s1,hl,hx,rfl⟩
   exact ⟨_,s1.seq hf1,by rw[List.length_map];lia⟩
  ·rintro i σ H1 x H1' hi ⟨t,v4,v5,v6,ht,s1,hl,hx,rfl⟩ ⟨T1,x1,rfl,hT1,rfl,hz⟩
   obtain ⟨a,rfl,ha⟩:=vt (hz _ (s1.seq hf1))
   obtain ⟨hm1,hm2⟩:=hrows _ (getD_mem' hi)
   rw[Rn hi]
   generalize (((M.zipIdx).take i).foldl (fun a x=>Sound.added a ((cW r x.1).map (Sound.mul (Sound.factor x.2 j)))) (List.replicate r 0))=acc at*
   generalize hm:M.getD i []=m at*
   have sT:=aQ (o:= .tup [.int (i:Nat), .ref a]) hT1
   have hma:ae K H a (vN m):=by rw[←hm];exact hf3 i a ha
   have s1T:=s1.trans sT
   refine (af T1 _ ⟨rfl,aZ.of ao,rfl,af _ _ ⟨rfl,af _ _ ⟨rfl,rfl,?_⟩⟩⟩)
   refine ⟨_,rfl,af a _ ⟨rfl, .inl (s1T.seq hma),2,m.length,?_,by decide,fun D1 H2 hD1 s2 hx2=>?_⟩⟩
   ·rw[aK];rfl
   have s12:=s1T.trans s2
   refine ⟨_,rfl,az D1 a _ _ ⟨rfl,rfl,ae.of hx2,s12.seq hma,(by rw[aK,aK,bz,sizeLine_eq];lia),fun p1 hp1=>?_⟩⟩
   have s3:=aQ (o:= .lst (vN (aU 2 m.length)++vN m)) hp1
   have s13:=s12.trans s3
   refine ⟨by rw[sizeLine_eq];show 1≤_;lia,fun p2 hp2=>?_⟩
   have s4:=aQ (o:= .lst [V.int 0]) hp2
   have s14:=s13.trans s4
   refine ⟨_,rfl,af _ _ ⟨rfl,rfl,_,rfl,af a _ ⟨rfl, .inl (s14.seq hma),af _ _ ⟨rfl,rfl,b8 p2 _ _ ⟨rfl,rfl,ao,by rw[aK];lia,by rw[aK];lia,(by rw[sizeLine_eq,aK];simp;lia),fun p3 hp3=>?_⟩⟩⟩⟩⟩
   have e1:(((r:Nat):Int)-2-((vN m).length:Nat)).toNat=r-2-m.length:=by rw[aK];lia
   rw[e1,vW]
   have s5:=aQ (o:= .lst (vN (List.replicate (r-2-m.length) 0))) hp3
   have s15:=s14.trans s5
   refine (az p1 p3 _ _ ⟨rfl,rfl,(s4.trans s5) _ _ ao,ao,(by rw[List.length_append,aK,aK,aK,bz,List.length_replicate,sizeLine_eq];lia),fun p4 hp4=>?_⟩)
   have e2:vN (aU 2 m.length)++vN m++vN (List.replicate (r-2-m.length) 0)=vN (cW r m):=by unfold cW;rw[cO,cO]
   rw[e2]
   have s6:=aQ (o:= .lst (vN (cW r m))) hp4
   have s16:=s15.trans s6
   refine ⟨_,rfl,_,rfl,_,rfl,af i j ⟨rfl,⟨by lia,hj⟩,fun H6 s7=>?_⟩⟩
   refine ⟨_,rfl,Sound.factor i j,p4,cW r m,rfl,GF (by lia) hj,ae.of (s7 _ _ ao),N4 hm2,(by rw[ub hm1];lia),fun D2 H7 hD2 s8 hx8=>?_⟩
   have hxt:H7 t=some (.lst (vN acc)):=s8 _ _ (s7 _ _ (s6 _ _ (s5 _ _ (s4 _ _ (s3 _ _ (s2 _ _ (sT _ _ hx)))))))
   have s18:=s16.trans (s7.trans s8)
   refine (az t D2 acc _ ⟨rfl,ae.of hxt,ae.of hx8,(by rw[List.length_map,ub hm1,hl]),by lia,fun D3 H8 hD3 s9 hx9=>?_⟩)
   exact ⟨D3,_,_,_,s18.none hD3,s18.trans s9,(by rw[CT,List.length_map,ub hm1,hl];lia),hx9,rfl⟩
  ·rintro σ H1 ⟨t,v4,v5,v6,ht,s1,hl,hx,rfl⟩
   refine ⟨_,rfl,k t H1 ht s1 ?_⟩
   rw[hx]
   unfold iH
   rw[List.take_of_length_le (by rw[List.length_zipIdx];exact Nat.le_refl _)]
def kZ (g j:Nat) (M:List (List Nat)):List Nat:=ji (aU 2 0x4B50++aU 2 g++ [j]++aU 2 (dj M)++iH (dj M) j M)
theorem Es {r j:Nat}: ∀(L:List (List Nat×Nat)) (a:List Nat),a.length=r→(∀x∈L,x.1.length+2≤r)→(L.foldl (fun a x=>Sound.added a ((cW r x.1).map (Sound.mul (Sound.factor x.2 j)))) a).length=r
 | [],a,h,_=>h
 |x::L,a,h,hx=>Es L _ (by rw[CT,List.length_map,ub (hx x (List.mem_cons_self ..)),h];lia) fun y hy=>hx y (List.mem_cons_of_mem _ hy)
theorem vO {r j:Nat} {M:List (List Nat)} (h: ∀m∈M,m.length+2≤r):(iH r j M).length=r:=
 Es _ _ (by simp) fun x hx=>h _ (List.fst_mem_of_mem_zipIdx hx)
theorem Oo {a b:List Nat} (ha: ∀x∈a,x<256) (hb: ∀x∈b,x<256): ∀x∈Sound.added a b,x<256:=fun x hx=>by
 unfold Sound.added at hx
 obtain ⟨i,hi,rfl⟩:=List.getElem_of_mem hx
 rw[List.length_zipWith] at hi
 rw[List.getElem_zipWith]
 exact Nat.xor_lt_two_pow (n:=8) (ha _ (List.getElem_mem (by lia))) (hb _ (List.getElem_mem (by lia)))
theorem Gx {r j:Nat} (hj:j<4): ∀(L:List (List Nat×Nat)) (a:List Nat),(∀x∈a,x<256)→(∀x∈L,x.2<8)→ ∀x∈L.foldl (fun a x=>Sound.added a ((cW r x.1).map (Sound.mul (Sound.factor x.2 j)))) a,x<256
 | [],a,h,_=>h
 |y::L,a,h,hx=>Gx hj L _ (Oo h fun z hz=>by
   obtain ⟨c,_,rfl⟩:=List.mem_map.mp hz
   exact JU (GF (hx y (List.mem_cons_self ..)) hj) c) fun z hz=>hx z (List.mem_cons_of_mem _ hz)
theorem Bm {r j:Nat} {M:List (List Nat)} (hj:j<4) (hM:M.length≤8): ∀x∈iH r j M,x<256:=
 Gx hj _ _ (fun x hx=>by rw[(List.mem_replicate.mp hx).2];decide) fun x hx=>by have:=List.snd_lt_of_mem_zipIdx hx;lia
theorem mr {M:List (List Nat)} {m:List Nat} (h:m∈M):m.length+2≤dj M:=by
 have:=(lE (fz M) 0).2.1 m.length (List.mem_map_of_mem h)
 unfold dj;lia
theorem F3 {M:List (List Nat)} {b:Nat} (h: ∀m∈M,m.length≤b):dj M≤b+2:=by
 rcases (lE (fz M) 0).2.2 with q|q
 ·unfold dj;lia
 ·obtain ⟨m,hm,e⟩:=List.mem_map.mp q
  have:=h m hm
  unfold dj;lia
def QK (K:PySem.W.Frag):Sp:=fun vs H Q _=> ∃(g j:Nat) (f:Addr) (M:List (List Nat)),vs= [.int g, .int j, .ref f]∧gK K H f M∧(j<4∧1≤M.length∧M.length≤8)∧(∀m∈M,m.length≤30000∧ ∀x∈m,x<256)∧fQ H Q (kZ g j M)
theorem wg:aM ["g", "j", "frames", "row_size", "front"] ["g", "j", "frames"] (aG De):=⟨rfl,rfl,rfl,by decide+kernel,rfl,by decide+kernel,by decide+kernel⟩
theorem KO (T:Txt K mg A):aC P w K mg base aO 5 A.pZ A.mJ ["g", "j", "frames"] (QK K):=by
 refine T.BR.ok wg (fun vs H Q E h=>?_) (fun cdv Ar outer s H vs Q E hr h=>?_)
 ·obtain ⟨g,j,f,M,rfl,_⟩:=h
  rfl
 ·obtain ⟨g,j,f,M,rfl,hf,⟨hj,hM1,hM⟩,hrows,k⟩:=h
  have hr1':aR 1 _:=hr.mono (by decide)
  have hr2':aR 2 _:=hr.mono (by decide)
  refine ⟨_,ak (aI (i:=3) wg.nd rfl (Or.inl rfl) (aN (RI T) hr1' rfl T.Nu T.F9.kp T.Jw .nil ay (aa (pv 2) ag)))
   (ak (aI (i:=4) wg.nd rfl (Or.inl rfl) (aq i8 (aq i8 (aq i8 (aN (gj T) hr1' rfl T.f9 T.fH.kp T.f7 .nil ay (aa au (aa (aY rfl T.Jn) ag)))
     (aN (gj T) hr1' rfl T.f9 T.fH.kp T.f7 .nil ay (aa au (aa (pv 0) ag)))) (b9 (aa (pv 1) ag))) (aN (gj T) hr1' rfl T.f9 T.fH.kp T.f7 .nil ay (aa au (aa (pv 3) ag)))))
   (aw (aS (aN (sI T) hr2' rfl T.rD T.qw.kp T.tu .nil ay (aa (aq i8 (pv 4) (aN (NV T) hr rfl T.UC T.CB.kp T.Uo .nil ay (aa (pv 1) (aa (pv 3) (aa (pv 2) ag))))) ag))))),?_⟩
  refine ⟨_,rfl,af f M ⟨rfl,hf,⟨hM1,by lia⟩,fun H1 s1=>?_⟩⟩
  have hL:=F3 fun m hm=>(hrows m hm).1
  have hge: ∀m∈M,m.length+2≤dj M:=fun m hm=>mr hm
  have hx:=vO (r:=dj M) (j:=j) fun m hm=>mr hm
  have hlt:=Bm (r:=dj M) (M:=M) hj hM
  unfold kZ at k
  generalize dj M=r at*
  refine (af 2 19280 ⟨rfl,by decide,fun D1 H2 hD1 s2 x1=>?_⟩)
  refine ⟨_,rfl,af 2 g ⟨rfl,by decide,fun D2 H3 hD2 s3 x2=>?_⟩⟩
  refine (az D1 D2 _ _ ⟨rfl,rfl,s3 _ _ x1,x2,(by rw[aK,aK,bz,bz,sizeLine_eq];lia),fun p1 hp1=>?_⟩)
  have s4:=aQ (o:= .lst (vN (aU 2 19280)++vN (aU 2 g))) hp1
  refine ⟨_,rfl,by rw[sizeLine_eq];show 1≤_;lia,fun p2 hp2=>?_⟩
  have s5:=aQ (o:= .lst [V.int (j:Nat)]) hp2
  refine (az p1 p2 _ _ ⟨rfl,rfl,s5 _ _ ao,ao,(by rw[List.length_append,aK,aK,bz,bz,sizeLine_eq];show _+1≤_;lia),fun p3 hp3=>?_⟩)
  have e1:vN (aU 2 19280)++vN (aU 2 g)++ [V.int (j:Nat)]=vN (aU 2 19280++aU 2 g++ [j]):=by rw[cO,cO];rfl
  rw[e1]
  have s6:=aQ (o:= .lst (vN (aU 2 19280++aU 2 g++ [j]))) hp3
  refine ⟨_,rfl,af 2 r ⟨rfl,by decide,fun D3 H4 hD3 s7 x3=>?_⟩⟩
  refine (az p3 D3 _ _ ⟨rfl,rfl,s7 _ _ ao,x3,(by rw[aK,aK,bz,List.length_append,List.length_append,bz,bz,sizeLine_eq];show _+1+_≤_;lia),fun p4 hp4=>?_⟩)
  rw[←cO]
  have s8:=aQ (o:= .lst (vN (aU 2 19280++aU 2 g++ [j]++aU 2 r))) hp4
  have s08:=s1.trans (s2.trans (s3.trans (s4.trans (s5.trans (s6.trans (s7.trans s8))))))
  refine ⟨_,rfl,_,rfl,_,rfl,_,rfl,az j r f M ⟨rfl,hf.same s08,⟨hj,by lia,hM⟩,fun m hm=>⟨?_,(hrows m hm).2⟩,fun D5 H5 hD5 s9 x5=>?_⟩⟩
  ·exact hge m hm
  refine (az p4 D5 _ _ ⟨rfl,rfl,s9 _ _ ao,x5,(by rw[aK,aK,hx,List.length_append,List.length_append,List.length_append,bz,bz,bz,sizeLine_eq];show _+1+_+_≤_;lia),fun p6 hp6=>?_⟩)
  rw[←cO]
  have s10:=aQ (o:= .lst (vN (aU 2 19280++aU 2 g++ [j]++aU 2 r++iH r j M))) hp6
  have s0:=s08.trans (s9.trans s10)
  refine (af p6 _ ⟨rfl,ae.of ao,fun x hx=>?_,(by rw[List.length_append,hx,List.length_append,List.length_append,List.length_append,bz,bz,bz];show _+1+_+_≤_;lia),fun D7 H7 hD7 s11 x7=>k D7 H7 (s0.none hD7) (s0.trans s11) x7⟩)
  rcases List.mem_append.mp hx with hx|hx
  ·rcases List.mem_append.mp hx with hx|hx
   ·rcases List.mem_append.mp hx with hx|hx
    ·rcases List.mem_append.mp hx with hx|hx
     ·exact o4 _ _ x hx
     ·exact o4 _ _ x hx
    ·rcases List.mem_cons.mp hx with rfl|hx
     ·lia
     ·cases hx
   ·exact o4 _ _ x hx
  ·exact hlt x hx
def dR (fs:List Sound.Bytes):List (List Nat):=fs.map bn
def NR (K:PySem.W.Frag):Sp:=fun vs H Q _=> ∃(q:Addr) (xs:List V),vs= [.ref q]∧ae K H q xs∧xs.length≤16000000∧ ∀D H',H D=none→ah H H'→H' D=some (.lst (.int (xs.length:Nat)::xs))→Q (.ref D) H'
theorem N6:aM ["data"] ["data"] (aG Fc):=⟨rfl,rfl,rfl,by decide+kernel,rfl,by decide+kernel,by decide+kernel⟩
theorem Kv (T:Txt K mg A):aC P w K mg base aO 1 A.pA A.pR ["data"] (NR K):=by
 refine T.Ff.ok N6 (fun vs H Q E h=>?_) (fun cdv Ar outer s H vs Q E hr h=>?_)
 ·obtain ⟨q,l,rfl,_⟩:=h
  rfl
 ·obtain ⟨q,l,rfl,hq,hl,k⟩:=h
  refine ⟨_,aw (aS (aq dW (b9 (aa (bf bU (by rfl) T.bW PySem.boot_len (aa (pv 0) ag)) ag)) (pv 0))),?_⟩
  refine ⟨_,rfl,q,_,rfl, .inl hq,by rw[sizeLine_eq];show 1≤_;lia,fun p hp=>?_⟩
  refine ⟨_,rfl,p,q,_,_,rfl,rfl,ae.of ao,(aQ hp).seq hq,(by rw[sizeLine_eq];show 1+_≤_;lia),fun p2 hp2=>?_⟩
  have n2:H p2=none:=(aQ hp).none hp2
  exact k p2 _ n2 (eO (aQ hp) n2) ao
theorem RU {l:List Nat} (h: ∀x∈l,x<256):bn (Sound.toBytes l)=l:=by
 unfold bn Sound.toBytes
 rw[List.map_map]
 conv=>rhs;rw[←List.map_id l]
 refine List.map_congr_left fun x hx=>?_
 have:=h x hx
 simp [UInt8.toNat_ofNat',Nat.mod_eq_of_lt this]
theorem ei (c n:Nat):bn (Sound.high c n)=aU c n:=M8 c n
theorem ny {j:Nat} (h:j<256):aU 1 j= [j]:=by
 unfold aU
 simp [List.range_succ,Nat.mod_eq_of_lt h]
theorem Lc {r:Nat} {b:Sound.Bytes} (h:b.length+2≤r):Sound.rowIn r b=cW r (bn b):=by
 unfold Sound.rowIn cW
 have e:(Sound.rowOf b).map UInt8.toNat=aU 2 (bn b).length++bn b:=by
  unfold Sound.rowOf
  rw[bg,←ei,←dc];rfl
 simp only [e]
 rw[List.length_append,bz,bg,show r-(2+b.length)=r-2-b.length by lia,List.take_of_length_le]
 rw[List.length_append,List.length_append,bz,bg,List.length_replicate];lia
theorem Tv {r j:Nat} {fs:List Sound.Bytes} (h: ∀b∈fs,b.length+2≤r):Sound.sumRows r j (Sound.numbered fs)=iH r j (dR fs):=by
 unfold Sound.sumRows Sound.numbered iH dR
 rw[List.foldl_map,List.zipIdx_map,List.foldl_map]
 have key: ∀(L:List (Sound.Bytes×Nat)) (a:List Nat),(∀x∈L,x.1.length+2≤r)→L.foldl (fun a x=>Sound.added a (Sound.scaled (Sound.factor x.2 j) (Sound.rowIn r x.1))) a=L.foldl (fun a x=>Sound.added a ((cW r (Prod.map bn id x).1).map (Sound.mul (Sound.factor (Prod.map bn id x).2 j)))) a:=by
  intro L
  induction L with
  |nil=>intro a _;rfl
  |cons x L ih=>
   intro a hx
   rw[List.foldl_cons,List.foldl_cons,ih _ fun y hy=>hx y (List.mem_cons_of_mem _ hy),Lc (hx x (List.mem_cons_self ..))]
   rfl
 exact key _ _ fun x hx=>h _ (List.fst_mem_of_mem_zipIdx hx)
theorem Lf {fs:List Sound.Bytes} (h:fs≠ []):Sound.longest fs=dj (dR fs):=by
 unfold Sound.longest dj fz dR
 rw[List.map_map]
 have e:(List.length∘bn)=fun b:Sound.Bytes=>b.length:=by funext b;exact bg b
 rw[e]
 obtain ⟨a,b,c⟩:=lE (fs.map fun b:Sound.Bytes=>b.length) 0
 generalize hm:(fs.map fun b:Sound.Bytes=>b.length).foldl max 0=m at*
 refine Bn ?_ fun x hx=>?_
 ·rcases c with c|c
  ·subst c
   obtain ⟨x,fs,rfl⟩:=List.exists_cons_of_ne_nil h
   have:=b x.length (by simp)
   exact List.mem_map.mpr ⟨x,by simp,by lia⟩
  ·obtain ⟨x,hx,rfl⟩:=List.mem_map.mp c
   exact List.mem_map.mpr ⟨x,hx,rfl⟩
 ·obtain ⟨y,hy,rfl⟩:=List.mem_map.mp hx
  have:=b y.length (List.mem_map.mpr ⟨y,hy,rfl⟩)
  lia
theorem rC (b:Sound.Bytes):bn (b++Sound.high 4 (Sound.crc32 b))=ji (bn b):=by
 unfold ji
 rw[dc,ei,←Gz];rfl
theorem SD {g j:Nat} {row:Sound.Bytes} (hj:j<256):bn (Sound.pieceOf g j row)=ji (aU 2 0x4B50++aU 2 g++ [j]++aU 2 row.length++bn row):=by
 unfold Sound.pieceOf
 simp only
 rw[rC]
 congr 1
 rw[dc,dc,dc,dc,ei,ei,ei,ei,ny hj]
 simp only [List.append_assoc]
theorem z5 {g j:Nat} {fs:List Sound.Bytes} (hj:j<4) (h:fs≠ []) (hl:fs.length≤8):bn (Sound.spare fs g j)=kZ g j (dR fs):=by
 unfold Sound.spare kZ
 rw[SD (by lia),Lf h]
 unfold Sound.spareRow
 have hge: ∀b∈fs,b.length+2≤dj (dR fs):=fun b hb=>by
  have:=mr (M:=dR fs) (List.mem_map_of_mem hb)
  rwa [bg] at this
 have hge2: ∀m∈dR fs,m.length+2≤dj (dR fs):=fun m hm=>mr hm
 rw[Tv hge,RU (Bm hj (by unfold dR;rw[List.length_map];exact hl))]
 have e:(Sound.toBytes (iH (dj (dR fs)) j (dR fs))).length=dj (dR fs):=by
  unfold Sound.toBytes;rw[List.length_map,vO hge2]
 rw[e]
def jf (l:List Int):Sound.Bytes:=SoNeutral.bytes l
theorem MK {l:List Int} (h: ∀x∈l,0≤x∧x≤255):l.map V.int=vN (bn (jf l)):=by
 unfold vN bn jf SoNeutral.bytes
 rw[List.map_map,List.map_map]
 refine List.map_congr_left fun x hx=>?_
 obtain ⟨h1,h2⟩:=h x hx
 show V.int x=V.int (((UInt8.ofNat x.toNat).toNat:Nat):Int)
 rw[UInt8.toNat_ofNat',Nat.mod_eq_of_lt (by lia)]
 congr 1;lia
theorem Sd (l:List Int):(jf l).length=l.length:=by unfold jf SoNeutral.bytes;rw[List.length_map]
def jW (l:List Int):List Nat:=l.map Int.toNat
theorem Ui {fm:List Int} (h: ∀z∈fm,0≤z):fm.map V.int=vN (jW fm):=by
 unfold vN jW
 rw[List.map_map]
 refine List.map_congr_left fun z hz=>?_
 have:=h z hz
 show V.int z=V.int (z.toNat:Nat)
 congr 1;lia
theorem Nv {l:List Nat} {F:Sound.Form} (h:Sound.formOf l=some F):l= [F.channels,F.depth,F.block,F.order,F.group,F.spare]∧F.ok=true:=by
 unfold Sound.formOf at h
 split at h
 ·simp only at h
  split at h
  ·rename_i ax
   cases h
   exact ⟨rfl,ax⟩
  ·cases h
 ·cases h
theorem dG {H:Hp} {x dx:Addr} {o u:HO} (hx:H x=none) (hd:H dx=none):ah H (upd (upd H dx o) x u):=fun b v e=>by
 rw[aB (bD e hx),aB (bD e hd)];exact e
theorem gL {H:Hp} {x dx C:Addr} {fs:List (Str×V)}:upd (upd (upd H dx (.own x)) x (.ins C dx [])) x (.ins C dx fs)=upd (upd H dx (.own x)) x (.ins C dx fs):=b7
def sY:List Nat:= [1,4,16,0,1,0]
def yz:List Nat:= [4,24,256,4,8,4]
def me (i z:Nat):Bool:=decide (((sY.getD i 0:Nat):Int)≤(z:Nat))&&decide ((z:Int)≤(yz.getD i 0:Nat))
theorem AR (T:Txt K mg A) {i:Nat} (hi:i<6): ∃b,([V.ref A.qy,V.ref A.oi,V.ref A.nc,V.ref A.pK,V.ref A.pS,V.ref A.pO]:List V)[i]?=some (.ref b)∧ ∀H,aZ K H b [V.int ((sY.getD i 0:Nat):Int),V.int ((yz.getD i 0:Nat):Int)]:=by
 rcases (by omega:i=0∨i=1∨i=2∨i=3∨i=4∨i=5) with rfl|rfl|rfl|rfl|rfl|rfl
 ·exact ⟨_,rfl,T.Po⟩
 ·exact ⟨_,rfl,T.Uy⟩
 ·exact ⟨_,rfl,T.Nb⟩
 ·exact ⟨_,rfl,T.Pj⟩
 ·exact ⟨_,rfl,T.G0⟩
 ·exact ⟨_,rfl,T.RR⟩
theorem Kj {fm:List Nat} (h: ¬fm.length=6):(Sound.formOf fm).isSome=false:=by
 unfold Sound.formOf
 split
 ·exact absurd rfl h
 ·rfl
theorem Mr {fm:List Nat} (h:fm.length=6):((List.range 6).map fun i=>me i (fm.getD i 0)).all id=(Sound.formOf fm).isSome:=by
 match fm,h with
 | [c,d,b,o,g,p],_=>
  rw[show List.range 6= [0,1,2,3,4,5] from rfl]
  have e:(Sound.formOf [c,d,b,o,g,p]).isSome=(Sound.Form.mk c d b o g p).ok:=by
   unfold Sound.formOf
   simp only
   cases (Sound.Form.mk c d b o g p).ok<;>rfl
  rw[e,Bool.eq_iff_iff]
  unfold Sound.Form.ok
  simp only [List.map_cons,List.map_nil,List.all_cons,List.all_nil,me,sY,yz,List.getD_cons_zero,List.getD_cons_succ,id,Bool.and_eq_true,decide_eq_true_eq,and_true]
  omega
def PM (K:PySem.W.Frag):Sp:=fun vs H Q _=> ∃(q:Addr) (fm:List Nat),vs= [.ref q]∧ae K H q (vN fm)∧ ∀H',ah H H'→Q (.bl (Sound.formOf fm).isSome) H'
theorem sJ:aM ["form", "number", "bounds"] ["form"] (aG zA):=⟨rfl,rfl,rfl,by decide+kernel,rfl,by decide+kernel,by decide+kernel⟩
theorem JK (T:Txt K mg A):aC P w K mg base aO 1 A.pz A.l0 ["form"] (PM K):=by
 refine T.GG.ok sJ (fun vs H Q E h=>?_) (fun cdv Ar outer s H vs Q E hr h=>?_)
 ·obtain ⟨q,fm,rfl,_⟩:=h
  rfl
 ·obtain ⟨q,fm,rfl,hq,k⟩:=h
  refine ⟨_,ak (bN (bO xM (bf bU (by rfl) T.bW PySem.boot_len (aa (pv 0) ag)) (bf bU (by rfl) T.bW PySem.boot_len (aa (kh rfl T.AU) ag)) (bo _)) (aw (aS Md)) bX)
   (aw (aS (bf (o3 rfl) rfl T.ll (by decide+kernel:bootBuiltins "all" =some (.builtin "all")) (aa (cw (own:= [("number",1),("bounds",2)]) rfl sJ.nd (IJ rfl T.kx (aa (pv 0) (aa (kh rfl T.AU) ag))) (b5 (by kernel_rfl))
    (fun _ _ _ _ _=>iL (K:=K) (n:=2) rfl rfl (dC (aT (i:=1) sJ.nd rfl (Or.inl rfl)) (dC (aT (i:=2) sJ.nd rfl (Or.inl rfl)) iQ))) (fun _ _ _ _ _=>bZ)
    (fun _ _ _ _ _=>xt gI gI (bS (EO (K:=K) rfl) (pv 2) au (fun _ _=>rfl)) (pv 1) (bS (EO (K:=K) rfl) (pv 2) au (fun _ _=>rfl)))) ag)))),?_⟩
  refine ⟨_,rfl,q,_,rfl, .inl hq,A.j4,_,rfl, .inr (T.mG _),rfl,_,rfl,?_⟩
  refine cP (fun hne=>?_) fun hne=>?_
  ·have h6: ¬fm.length=6:=fun e=>by
    have hl:(vN fm).length=6:=by rw[aK,e]
    rw[hl] at hne
    exact absurd hne (show¬((!decide (V.int ((6:Nat):Int)=V.int ((6:Nat):Int)))=true) by decide)
   have:=k H (ah.refl _)
   rw[Kj h6] at this
   exact this
  ·have h6:fm.length=6:=by
    by_cases e:fm.length=6
    ·exact e
    ·exfalso
     apply hne
     rw[Bool.not_eq_true',decide_eq_false_iff_not]
     intro z
     have z:=V.int.inj z
     rw[aK] at z
     have z:((fm.length:Nat):Int)=((6:Nat):Int):=z
     omega
   refine ⟨_,rfl,q,A.j4,_,_,rfl,hq,T.mG _,fun D hD=>?_⟩
   refine cC (J:=xC K q A.j4) hD 6 (by rw[sizeLine_eq];omega) (fun i=> .bl (me i (fm.getD i 0)))
    (fun i Hh hi s1=>by
     obtain ⟨b,hb1,_⟩:=AR T hi
     exact ⟨_,_,_,_,s1.seq hq,T.mG _,gg (by omega),hb1⟩) (fun Hh s1=>⟨_,_,s1.seq hq,T.mG _, .inl (by rw[aK];omega)⟩) ?_ ?_
   ·rintro i Hh z H' hi s1 ⟨t,x1,y1,rfl,ht,rfl,hx,hy⟩ C hC
    obtain ⟨rfl,_⟩:=fE (hx _ (s1.seq hq))
    obtain ⟨b,hb1,hb2⟩:=AR T hi
    have e:=hy _ (T.mG _)
    rw[hb1] at e
    cases e
    have st:ah Hh (upd Hh t (.tup [V.int ((fm.getD i 0:Nat):Int),V.ref b])):=aQ ht
    refine ⟨t,_,rfl,aZ.of ao,rfl,_,_,rfl,_,_,rfl,rfl,rfl,?_⟩
    refine ⟨_,rfl,b,_,_,_,rfl,rfl,hb2 _,bP (j:=0) rfl,_,rfl,_,_,rfl,rfl,_,rfl,?_⟩
    have hC:=hC _ st
    unfold me at hC
    by_cases c1:((sY.getD i 0:Nat):Int)≤((fm.getD i 0:Nat):Int)
    ·rw[decide_eq_true c1,Bool.true_and] at hC
     rw[decide_eq_true c1]
     exact bx ⟨_,rfl,b,_,_,_,rfl,rfl,hb2 _,bP (j:=1) rfl,_,_,rfl,rfl,hC⟩
    ·rw[decide_eq_false c1,Bool.false_and] at hC
     rw[decide_eq_false c1]
     exact bJ hC
   ·intro Hh s1 hx
    refine ⟨D,(List.range 6).map fun i=>me i (fm.getD i 0),rfl,ae.of (hx.trans ?_),?_⟩
    ·rw[List.map_map];rfl
    ·rw[Mr h6]
     exact k _ s1
def lq (c d b o g s:V):List (Str×V):= [("channels",c),("depth",d),("block",b),("order",o),("group",g),("spare",s)]
def mX (C:Addr) (H:Hp) (f:Addr) (F:Sound.Form):Prop:= ∃dx,H f=some (.ins C dx (lq (.int F.channels) (.int F.depth) (.int F.block) (.int F.order) (.int F.group) (.int F.spare)))
def RY (K:PySem.W.Frag) (C:Addr):Sp:=fun vs H Q _=> ∃(p dx q:Addr) (c d b o g s:Int),vs= [.ref p, .ref q]∧H p=some (.ins C dx [])∧ae K H q [.int c, .int d, .int b, .int o, .int g, .int s]∧Q .aD (upd H p (.ins C dx (lq (.int c) (.int d) (.int b) (.int o) (.int g) (.int s))))
theorem LJ:aM ["self", "form"] ["self", "form"] (aG Fm):=⟨rfl,rfl,rfl,by decide+kernel,rfl,by decide+kernel,by decide+kernel⟩
theorem IK (T:Txt K mg A):aC P w K mg base aO 1 A.lr A.lP ["self", "form"] (RY K A.bI):=by
 refine T.Ia.ok LJ (fun vs H Q E h=>?_) (fun cdv Ar outer s H vs Q E hr h=>?_)
 ·obtain ⟨p,dx,q,c,d,b,o,g,s,rfl,_⟩:=h
  rfl
 ·obtain ⟨p,dx,q,c,d,b,o,g,s,rfl,hp,hq,k⟩:=h
  refine ⟨_,ak (bh (pv 0) (bS eN (pv 1) au (fun _ _=>rfl)) rfl) (ak (bh (pv 0) (bS eN (pv 1) au (fun _ _=>rfl)) rfl) (ak (bh (pv 0) (bS eN (pv 1) au (fun _ _=>rfl)) rfl)
   (ak (bh (pv 0) (bS eN (pv 1) au (fun _ _=>rfl)) rfl) (ak (bh (pv 0) (bS eN (pv 1) au (fun _ _=>rfl)) rfl) (aw (bh (pv 0) (bS eN (pv 1) au (fun _ _=>rfl)) rfl)))))),?_⟩
  have sq: ∀fs,ae K (upd H p (.ins A.bI dx fs)) q [.int c, .int d, .int b, .int o, .int g, .int s]:=fun fs=>by
   rcases hq with (h|⟨ob,h⟩)|h
   ·exact .inl (.inl (by rw[aB (bV h hp (by intro e;cases e))];exact h))
   ·exact .inl (.inr ⟨ob,by rw[aB (bV h hp (by intro e;cases e))];exact h⟩)
   ·exact .inr h
  refine ⟨_,rfl,q,_,_,_,rfl,rfl,hq,bP (j:=0) rfl,_,rfl,p,A.bI,dx, [],rfl,hp,T.bw,T.gA,(by show 0<1000;decide),?_⟩
  refine ⟨_,rfl,q,_,_,_,rfl,rfl,sq _,bP (j:=1) rfl,_,rfl,p,A.bI,dx,_,rfl,ao,T.bw,T.iB,(by show 1<1000;decide),?_⟩
  rw[b7]
  refine ⟨_,rfl,q,_,_,_,rfl,rfl,sq _,bP (j:=2) rfl,_,rfl,p,A.bI,dx,_,rfl,ao,T.bw,T.oG,(by show 2<1000;decide),?_⟩
  rw[b7]
  refine ⟨_,rfl,q,_,_,_,rfl,rfl,sq _,bP (j:=3) rfl,_,rfl,p,A.bI,dx,_,rfl,ao,T.bw,T.kn,(by show 3<1000;decide),?_⟩
  rw[b7]
  refine ⟨_,rfl,q,_,_,_,rfl,rfl,sq _,bP (j:=4) rfl,_,rfl,p,A.bI,dx,_,rfl,ao,T.bw,T.sZ,(by show 4<1000;decide),?_⟩
  rw[b7]
  refine ⟨_,rfl,q,_,_,_,rfl,rfl,sq _,bP (j:=5) rfl,_,rfl,p,A.bI,dx,_,rfl,ao,T.bw,T.wG,(by show 5<1000;decide),?_⟩
  rw[b7]
  exact k
theorem jZ {F:Sound.Form} (h:F.ok=true):(1≤F.channels∧F.channels≤4)∧(4≤F.depth∧F.depth≤24)∧(16≤F.block∧F.block≤256)∧F.order≤4∧(1≤F.group∧F.group≤8)∧F.spare≤4:=by
 unfold Sound.Form.ok at h
 simp only [Bool.and_eq_true,decide_eq_true_eq] at h
 omega
def eP (w n:Int):Bool:=decide (-(2^(w-1).toNat)≤n)&&decide (n<2^(w-1).toNat)
def T9:Sp:=fun vs H Q _=> ∃w n:Int,vs= [.int w, .int n]∧(1≤w∧w≤25)∧Q (.bl (eP w n)) H
theorem FU:aM ["width", "number", "half"] ["width", "number"] (aG CQ):=⟨rfl,rfl,rfl,by decide+kernel,rfl,by decide+kernel,by decide+kernel⟩
theorem Ad (T:Txt K mg A):aC P w K mg base aO 1 A.qJ A.oS ["width", "number"] T9:=by
 refine T.xO.ok FU (fun vs H Q E h=>?_) (fun cdv Ar outer s H vs Q E hr h=>?_)
 ·obtain ⟨w,n,rfl,_⟩:=h
  rfl
 ·obtain ⟨w,n,rfl,⟨h1,h2⟩,k⟩:=h
  refine ⟨_,ak (aI (i:=2) FU.nd rfl (Or.inl rfl) (aq pJ au (aq cc (pv 0) au)))
   (aw (aS (xt gI jt (dB dz (pv 2)) (pv 1) (pv 2)))),?_⟩
  walk_at "rd"
  refine ⟨⟨by lia,by lia,by decide⟩,?_⟩
  unfold eP at k
  rw[Int.one_mul]
  by_cases q: -(2^(w-1).toNat)≤n
  ·rw[decide_eq_true q,Bool.true_and] at k
   rw[decide_eq_true q]
   exact bx k
  ·rw[decide_eq_false q,Bool.false_and] at k
   rw[decide_eq_false q]
   exact bJ k
def JD (K:PySem.W.Frag):Sp:=fun vs H Q _=> ∃(w:Int) (a:Addr) (ns:List Int),vs= [.int w, .ref a]∧ae K H a (ns.map V.int)∧(1≤w∧w≤25)∧ns.length≤4096∧ ∀H',ah H H'→Q (.bl (ns.all (eP w))) H'
theorem yo:aM ["width", "numbers", "number"] ["width", "numbers"] (aG GB):=⟨rfl,rfl,rfl,by decide+kernel,rfl,by decide+kernel,by decide+kernel⟩
theorem Ll (T:Txt K mg A):aC P w K mg base aO 2 A.pM A.nu ["width", "numbers"] (JD K):=by
 refine T.Dx.ok yo (fun vs H Q E h=>?_) (fun cdv Ar outer s H vs Q E hr h=>?_)
 ·obtain ⟨w,a,ns,rfl,_⟩:=h
  rfl
 ·obtain ⟨w,a,ns,rfl,hS,hw,hl,k⟩:=h
  refine ⟨_,aw (aS (bf (o3 rfl) rfl T.ll (by decide+kernel:bootBuiltins "all" =some (.builtin "all"))
   (aa (cw (own:= [("number",2)]) rfl yo.nd (cg (pv 1)) (b5 (by kernel_rfl)) (fun _ _ _ _ _=>aT (i:=2) yo.nd rfl (Or.inl rfl)) (fun _ _ _ _ _=>bZ)
    (fun _ _ _ _ _=>aN (Ad T) hr rfl T.E9 T.xO.kp T.Ao .nil ay (aa (pv 0) (aa (pv 2) ag)))) ag))),?_⟩
  refine ⟨_,rfl,a,rfl,⟨_,hS⟩,fun D hD=>?_⟩
  refine cC (J:=dH K a) hD ns.length (by rw[sizeLine_eq];lia) (fun i=> .bl (eP w (ns.getD i 0))) (fun i Hh hi s1=>⟨_,_,s1.seq hS,cK hi⟩) (fun Hh s1=>⟨_,s1.seq hS,by simp⟩) ?_ ?_
  ·rintro i Hh x H' hi s1 ⟨rfl,hx⟩ C hC
   have hx:=(dU (hx _ (s1.seq hS))).1
   subst hx
   refine ⟨rfl,?_⟩
   exact ⟨_,rfl,_,rfl,af w _ ⟨rfl,hw,hC _ (ah.refl _)⟩⟩
  ·intro Hh s1 hx
   refine ⟨D,ns.map (eP w),rfl,ae.of (xs:=_) (hx.trans ?_),?_⟩
   ·congr 2
    refine List.ext_getElem (by simp) fun i h1 h2=>?_
    simp at h2
    simp [List.getD_eq_getElem?_getD,List.getElem?_eq_getElem h2]
   ·have e:(ns.map (eP w)).all id=ns.all (eP w):=by rw[List.all_map];rfl
    rw[e]
    exact k _ s1
def SR:Sp:=fun vs H Q _=> ∃e:Int,vs= [.int e]∧Q (.int (Sound.fold e)) H
theorem TZ:aM ["rest"] ["rest"] (aG ET):=⟨rfl,rfl,rfl,by decide+kernel,rfl,by decide+kernel,by decide+kernel⟩
theorem As (T:Txt K mg A):aC P w K mg base aO 1 A.oF A.nI ["rest"] SR:=by
 refine T.xX.ok TZ (fun vs H Q E h=>?_) (fun cdv Ar outer s H vs Q E hr h=>?_)
 ·obtain ⟨e,rfl,_⟩:=h
  rfl
 ·obtain ⟨e,rfl,k⟩:=h
  refine ⟨_,aw (aS (jx (bO pd (pv 0) au (bo _)) (aq eE au (pv 0)) (aq cc (aq eE (dB dz au) (pv 0)) au))),?_⟩
  walk_at "rd"
  unfold Sound.fold at k
  by_cases q:0≤e
  ·rw[decide_eq_true q]
   refine bx ⟨.inl ⟨by decide,by decide⟩,?_⟩
   rw[if_neg (by lia)] at k
   have e1:(((2*e).toNat:Nat):Int)=2*e:=by lia
   rw[←e1];exact k
  ·rw[decide_eq_false q]
   refine bJ ⟨.inl ⟨by decide,by decide⟩,?_⟩
   rw[if_pos (by lia)] at k
   have e1:(((-2*e-1).toNat:Nat):Int)= -2*e-1:=by lia
   rw[←e1];exact k
def QE:Sp:=fun vs H Q _=> ∃n p r:Nat,vs= [.int n, .int p, .int r]∧(n≤1024∧r≤7)∧Q (.bl (di n p r)) H
theorem zj:aM ["n", "order", "r", "size"] ["n", "order", "r"] (aG Cw):=⟨rfl,rfl,rfl,by decide+kernel,rfl,by decide+kernel,by decide+kernel⟩
theorem Tt (T:Txt K mg A):aC P w K mg base aO 1 A.oh A.qX ["n", "order", "r"] QE:=by
 refine T.EX.ok zj (fun vs H Q E h=>?_) (fun cdv Ar outer s H vs Q E hr h=>?_)
 ·obtain ⟨n,p,r,rfl,_⟩:=h
  rfl
 ·obtain ⟨n,p,r,rfl,⟨hn,hr7⟩,k⟩:=h
  refine ⟨_,ak (aI (i:=3) zj.nd rfl (Or.inl rfl) (aq fg (pv 0) (pv 2)))
   (aw (aS (xE (jd gI (pv 2) (aY rfl T.CP) (bo _)) (xE (jd fj (aq pJ (pv 3) (pv 2)) (pv 0) (bo _)) (yq (jd pd (pv 3) (pv 1) (bo _))))))),?_⟩
  walk_at "rd"
  simp only [BG,BL,V.bl.injEq,exists_eq_left',yn,true_and]
  walk_at "rd"
  have e1:((n:Int)/2^(r:Int).toNat)=((n/2^r:Nat):Int):=by
   rw[Int.toNat_natCast];simp
  rw[e1]
  have hdn:n/2^r≤n:=Nat.div_le_self _ _
  refine ⟨by lia,?_⟩
  unfold di at k
  by_cases q1:r≤6
  ·rw[decide_eq_true q1,Bool.true_and] at k
   rw[decide_eq_true (show (r:Int)≤6 by lia)]
   refine bx ⟨⟨by lia,by lia,by rw[Int.natAbs_natCast];exact Nat.lt_of_le_of_lt (Nat.le_trans hdn hn) (by decide)⟩,?_⟩
   have e2:((n/2^r:Nat):Int)*2^(r:Int).toNat=((n/2^r*2^r:Nat):Int):=by
    rw[Int.toNat_natCast];simp
   rw[e2]
   by_cases q2:n/2^r*2^r=n
   ·rw[decide_eq_true q2,Bool.true_and] at k
    rw[q2]
    refine ⟨rfl,_,rfl,?_⟩
    rw[decide_eq_true (show V.int (n:Int)=V.int (n:Int) from rfl)]
    refine bx ?_
    have:decide ((p:Int)≤((n/2^r:Nat):Int))=decide (p≤n/2^r):=by
     rw[Bool.eq_iff_iff,decide_eq_true_eq,decide_eq_true_eq];lia
    rw[this];exact k
   ·rw[decide_eq_false q2,Bool.false_and] at k
    refine ⟨rfl,_,rfl,?_⟩
    rw[decide_eq_false (show¬V.int ((n/2^r*2^r:Nat):Int)=V.int (n:Int) from fun e=>q2 (by have:=V.int.inj e;lia))]
    exact bJ k
  ·rw[decide_eq_false q1,Bool.false_and] at k
   rw[decide_eq_false (show¬(r:Int)≤6 by lia)]
   exact bJ k
def Kd:Sp:=fun vs H Q _=> ∃k:Nat,vs= [.int k]∧(2≤k∧k≤10)∧Q (.int ((if k≤6 then k-2 else k-6:Nat):Int)) H
theorem IL:aM ["kind"] ["kind"] (aG GA):=⟨rfl,rfl,rfl,by decide+kernel,rfl,by decide+kernel,by decide+kernel⟩
theorem Ey (T:Txt K mg A):aC P w K mg base aO 1 A.qd A.mw ["kind"] Kd:=by
 refine T.yE.ok IL (fun vs H Q E h=>?_) (fun cdv Ar outer s H vs Q E hr h=>?_)
 ·obtain ⟨e,rfl,_⟩:=h
  rfl
 ·obtain ⟨e,rfl,⟨h1,h2⟩,k⟩:=h
  refine ⟨_,aw (aS (jx (bO jt (pv 0) (aY rfl T.kW) (bo _)) (aq cc (pv 0) (aY rfl T.Az)) (aq bE (aq cc (pv 0) (aY rfl T.kW)) au))),?_⟩
  walk_at "rd"
  by_cases q:e≤6
  ·rw[decide_eq_true (show (e:Int)<7 by lia)]
   rw[if_pos q] at k
   have e1:((e:Int)-2)=((e-2:Nat):Int):=by lia
   refine bx ?_
   rw[e1];exact k
  ·rw[decide_eq_false (show¬(e:Int)<7 by lia)]
   rw[if_neg q] at k
   have e1:((e:Int)-7+1)=((e-6:Nat):Int):=by lia
   refine bJ ?_
   rw[e1];exact k
def R5:Sp:=fun vs H Q _=> ∃a b:Int,vs= [.int a, .int b]∧0<b∧b.natAbs<2^2000∧Q (.int (jA a b)) H
theorem Gm:aM ["number", "divisor", "whole"] ["number", "divisor"] (aG zK):=⟨rfl,rfl,rfl,by decide+kernel,rfl,by decide+kernel,by decide+kernel⟩
theorem Mf (T:Txt K mg A):aC P w K mg base aO 1 A.qj A.mR ["number", "divisor"] R5:=by
 refine T.BU.ok Gm (fun vs H Q E h=>?_) (fun cdv Ar outer s H vs Q E hr h=>?_)
 ·obtain ⟨a,b,rfl,_⟩:=h
  rfl
 ·obtain ⟨a,b,rfl,hb,hb2,k⟩:=h
  refine ⟨_,ak (aI (i:=2) Gm.nd rfl (Or.inl rfl) (aq Qo (aq bE (aq eE au (bf NW rfl T.Kf (by decide+kernel:bootBuiltins "abs" =some (.builtin "abs")) (aa (pv 0) ag))) (pv 1)) (aq eE au (pv 1))))
   (aw (aS (jx (bO pd (pv 0) au (bo _)) (pv 2) (dB dz (pv 2))))),?_⟩
  walk_at "rd"
  refine ⟨.inl ⟨by decide,by decide⟩, .inl ⟨by decide,by decide⟩,⟨by lia,?_⟩,?_⟩
  ·refine (Nat.log2_lt (by lia)).mpr ?_
   have:(2*b).natAbs=2*b.natAbs:=by lia
   rw[this]
   have h1:2*b.natAbs<2*2^2000:=by lia
   have h2:(2:Nat)*2^2000=2^2001:=by rw[←Nat.pow_succ']
   rw[h2] at h1
   exact Nat.lt_of_lt_of_le h1 (Nat.pow_le_pow_right (by decide) (by decide))
  ·unfold jA nv at k
   by_cases q:0≤a
   ·rw[decide_eq_true q]
    rw[if_pos q] at k
    exact bx k
   ·rw[decide_eq_false q]
    rw[if_neg q] at k
    exact bJ k
def gf (f h:V):List (Str×V):= [("factors",f),("shift",h)]
theorem Sn (f h:V):aJ "shift" h (aJ "factors" f [])=gf f h:=by
 show aJ "shift" h [(("factors" :Str),f)]=_
 unfold aJ
 rw[if_neg (by decide)]
 rfl
theorem ui (f h:V):(gf f h).lookup ("factors" :Str)=some f:=rfl
theorem ES (f h:V):(gf f h).lookup ("shift" :Str)=some h:=rfl
theorem ND (f h:V):(gf f h).lookup ("at" :Str)=none:=rfl
theorem Cb (f h:V):(gf f h).lookup ("all_rests" :Str)=none:=rfl
def dq (K:PySem.W.Frag) (C:Addr) (H:Hp) (x:Addr) (a:List Int) (h:Nat):Prop:= ∃dx p,H x=some (.ins C dx (gf (.ref p) (.int h)))∧ae K H p (a.map V.int)
theorem dq.same {K:PySem.W.Frag} {C:Addr} {H H':Hp} {x:Addr} {a:List Int} {h:Nat} (s:ah H H') (g:dq K C H x a h):dq K C H' x a h:=by
 obtain ⟨dx,p,h1,h2⟩:=g
 exact ⟨dx,p,s _ _ h1,s.seq h2⟩
def RZ (C:Addr):Sp:=fun vs H Q _=> ∃(p dx:Addr) (f h:V),vs= [.ref p,f,h]∧H p=some (.ins C dx [])∧Q .aD (upd H p (.ins C dx (gf f h)))
theorem Ts:aM ["self", "factors", "shift"] ["self", "factors", "shift"] (aG Gq):=⟨rfl,rfl,rfl,by decide+kernel,rfl,by decide+kernel,by decide+kernel⟩
theorem DO (T:Txt K mg A):aC P w K mg base aO 1 A.pE A.oy ["self", "factors", "shift"] (RZ A.cu):=by
 refine T.SQ.ok Ts (fun vs H Q E h=>?_) (fun cdv Ar outer s H vs Q E hr h=>?_)
 ·obtain ⟨p,dx,f,h,rfl,_⟩:=h
  rfl
 ·obtain ⟨p,dx,f,h,rfl,hp,k⟩:=h
  refine ⟨_,ak (bh (pv 0) (pv 1) rfl) (aw (bh (pv 0) (pv 2) rfl)),?_⟩
  refine ⟨_,rfl,_,rfl,p,A.cu,dx, [],rfl,hp,T.gJ,T.rE,(by show 0<1000;decide),?_⟩
  refine ⟨_,rfl,_,rfl,az p A.cu dx _ ⟨rfl,ao,T.gJ,T.wU,(by show 1<1000;decide),?_⟩⟩
  rw[Sn,b7]
  exact k
theorem DS: ∀(a y:List Int) (i t:Nat),i<a.length→eK (a.take (i+1)) y t=eK (a.take i) y t+a.getD i 0*y.getD (t-1-i) 0
 | [],y,i,t,h=>by simp at h
 |f::fs,y,0,t,h=>by simp [eK]
 |f::fs,y,i+1,t,h=>by
  rw[List.take_succ_cons,List.take_succ_cons]
  simp only [eK]
  rw[DS fs y i (t-1) (by simpa using h)]
  have e:t-1-1-i=t-1-(i+1):=by lia
  rw[e,List.getD_cons_succ]
  lia
def Qb (K:PySem.W.Frag) (C:Addr):Sp:=fun vs H Q _=> ∃(x q:Addr) (a y:List Int) (h t:Nat),vs= [.ref x, .ref q, .int t]∧dq K C H x a h∧ae K H q (y.map V.int)∧(a.length≤t∧t≤y.length)∧Bd 2048 a∧Q (.int (gz a h y t)) H
theorem kX:aM ["self", "numbers", "place", "total", "before", "factor"] ["self", "numbers", "place"] (aG EE):=⟨rfl,rfl,rfl,by decide+kernel,rfl,by decide+kernel,by decide+kernel⟩
theorem LX (T:Txt K mg A):aC P w K mg base aO 1 A.lV A.m9 ["self", "numbers", "place"] (Qb K A.cu):=by
 refine T.Sg.ok kX (fun vs H Q E h=>?_) (fun cdv Ar outer s H vs Q E hr h=>?_)
 ·obtain ⟨x,q,a,y,h,t,rfl,_⟩:=h
  rfl
 ·obtain ⟨x,q,a,y,h,t,rfl,⟨dx,p,hx,hp⟩,hq,⟨h1,h2⟩,hb,k⟩:=h
  refine ⟨_,ak (aI (i:=3) kX.nd rfl (Or.inl rfl) au) (ak (aI (i:=4) kX.nd rfl (Or.inl rfl) (pv 2))
   (ak (cv PassesOwn.never rfl (cg (aA (pv 0) rfl)) (aT (i:=5) kX.nd rfl (Or.inl rfl))
    (ak (ie (i:=4) kX.nd rfl (Or.inl rfl) au JS) (aw (ie (i:=3) kX.nd rfl (Or.inl rfl) (aq eE (pv 5) (bS eN (pv 1) (pv 4) (fun _ _=>rfl))) Cf))))
   (aw (aS (aq fg (pv 3) (aA (pv 0) rfl)))))),?_⟩
  refine ⟨_,rfl,_,rfl,x,A.cu,dx,_,_,rfl,hx,T.gJ,T.rE,ui _ _,p,rfl,⟨_,hp⟩,?_⟩
  refine eA (K:=K) (a:=p) (xs:=a.map V.int) (fun i σ H'=>H'=H∧ ∃v:Option V,σ= [some (.ref x),some (.ref q),some (.int t),some (.int (eK (a.take i) y t)),some (.int ((t:Int)-i)),v])
   ⟨rfl,none,by simp [L2.start,eK]⟩ (fun i σ H' _ ⟨e,_⟩=>by rw[e];exact hp) ?_ ?_
  ·rintro i y' σ H' hi ⟨rfl,v,rfl⟩
   obtain ⟨rfl,hl⟩:=dU hi
   have hm:=hb _ (show a.getD i 0∈a by rw[List.getD_eq_getElem?_getD,List.getElem?_eq_getElem hl];exact List.getElem_mem hl)
   have e1:(t:Int)-i-1=((t-1-i:Nat):Int):=by lia
   refine ⟨_,rfl,af _ _ ⟨rfl,rfl,_,rfl,_,rfl,_,rfl,_,rfl,az q _ _ _ ⟨rfl,rfl,hq,at_of e1 (cK (by lia)),af _ _ ⟨rfl,rfl, .inl ⟨by lia,by lia⟩,af _ _ ⟨rfl,rfl,rfl,some (.int (a.getD i 0)),?_⟩⟩⟩⟩⟩
   rw[DS a y i t hl]
   have e2:(t:Int)-i-1=(t:Int)-((i+1:Nat):Int):=by lia
   rw[←e2]
   rfl
  ·rintro σ H' ⟨rfl,v,rfl⟩
   refine ⟨_,rfl,_,rfl,x,A.cu,dx,_,_,rfl,hx,T.gJ,T.wU,ES _ _,af _ _ ⟨rfl,rfl,(by lia),?_⟩⟩
   rw[List.length_map,List.take_length]
   exact k
def Fh (K:PySem.W.Frag) (C:Addr):Sp:=fun vs H Q _=> ∃(x q:Addr) (a y:List Int) (h:Nat),vs= [.ref x, .ref q]∧dq K C H x a h∧ae K H q (y.map V.int)∧a.length≤y.length∧y.length≤1024∧Bd 2048 a∧
 ∀D H',H D=none→ah H H'→H' D=some (.lst ((cB a h y).map V.int))→Q (.ref D) H'
theorem vQ:aM ["self", "numbers", "t"] ["self", "numbers"] (aG Bu):=⟨rfl,rfl,rfl,by decide+kernel,rfl,by decide+kernel,by decide+kernel⟩
theorem Ca (T:Txt K mg A):aC P w K mg base aO 2 A.mO A.lY ["self", "numbers"] (Fh K A.cu):=by
 refine T.So.ok vQ (fun vs H Q E h=>?_) (fun cdv Ar outer s H vs Q E hr h=>?_)
 ·obtain ⟨x,q,a,y,h,rfl,_⟩:=h
  rfl
 ·obtain ⟨x,q,a,y,h,rfl,hg,hq,hl,hl2,hb,k⟩:=h
  obtain ⟨dx,p,hx,hp⟩:=id hg
  refine ⟨_,aw (aS (cw (own:= [("t",2)]) rfl vQ.nd
   (yI rfl T.dt (aa (bf bU (by rfl) T.bW PySem.boot_len (aa (aA (pv 0) rfl) ag)) (aa (bf bU (by rfl) T.bW PySem.boot_len (aa (pv 1) ag)) ag)))
   (b5 (by kernel_rfl)) (fun _ _ _ _ _=>aT (i:=2) vQ.nd rfl (Or.inl rfl)) (fun _ _ _ _ _=>bZ)
   (fun _ _ _ _ _=>aq cc (bS (fw (K:=K) rfl) (pv 1) (pv 2) (fun _ _=>rfl)) (bC (pv 0) T.gJ T.GX (LX T) hr T.R3 .nil ay (aa (pv 1) (aa (pv 2) ag)))))),?_⟩
  refine ⟨_,rfl,x,A.cu,dx,_,_,rfl,hx,T.gJ,T.rE,ui _ _,af p _ ⟨rfl, .inl hp,_,rfl,af q _ ⟨rfl, .inl hq,af _ _ ⟨rfl,?_,fun D hD=>?_⟩⟩⟩⟩
  ·rw[List.length_map,List.length_map]
   have e62:(2:Int)^62=4611686018427387904:=by decide
   lia
  have en:((((y.map V.int).length:Nat):Int)-(((a.map V.int).length:Nat):Int)).toNat=y.length-a.length:=by rw[List.length_map,List.length_map];lia
  rw[en]
  refine cC (J:=fX ((a.map V.int).length:Nat) (y.length-a.length)) hD (y.length-a.length) (by rw[sizeLine_eq];lia) (fun i=> .int (y.getD (a.length+i) 0-gz a h y (a.length+i))) (fun i Hh hi s1=>hi) (fun Hh s1=>Nat.le_refl _) ?_ ?_
  ·rintro i Hh z H' hi s1 ⟨rfl,rfl⟩ C hC
   have e1:(((a.map V.int).length:Nat):Int)+(i:Nat)=((a.length+i:Nat):Int):=by rw[List.length_map];lia
   rw[e1]
   refine ⟨rfl,?_⟩
   refine ⟨_,rfl,_,rfl,az q _ _ _ ⟨rfl,rfl,s1.seq hq,bP (cK (by lia)),_,rfl,b8 x dx _ ⟨rfl,s1 _ _ hx,ND _ _,_,rfl,_,rfl,uO x q a y h _ ⟨rfl,hg.same s1,s1.seq hq,⟨by lia,by lia⟩,hb,af _ _ ⟨rfl,rfl,?_⟩⟩⟩⟩⟩
   exact hC _ (ah.refl _)
  ·intro Hh s1 hx'
   refine k D Hh hD s1 (hx'.trans ?_)
   unfold cB
   rw[List.map_map]
   rfl
def TR (K:PySem.W.Frag) (C:Addr):Sp:=fun vs H Q _=> ∃p:Nat,vs= [.int p]∧p≤4∧ ∀x H',H x=none→ah H H'→dq K C H' x (Sound.FIXED.getD p []) 0→Q (.ref x) H'
theorem J6:aM ["order"] ["order"] (aG zF):=⟨rfl,rfl,rfl,by decide+kernel,rfl,by decide+kernel,by decide+kernel⟩
theorem Kl (T:Txt K mg A) {p:Nat} (h:p≤4) (H:Hp): ∃b,gq [V.ref A.qS,V.ref A.mM,V.ref A.k8,V.ref A.oM,V.ref A.p8] (p:Int)=some (V.ref b)∧aZ K H b ((Sound.FIXED.getD p []).map V.int):=by
 rcases (by lia:p=0∨p=1∨p=2∨p=3∨p=4) with rfl|rfl|rfl|rfl|rfl
 ·exact ⟨_,bP rfl,T.NQ H⟩
 ·exact ⟨_,bP rfl,T.NZ H⟩
 ·exact ⟨_,bP rfl,T.QI H⟩
 ·exact ⟨_,bP rfl,T.Ti H⟩
 ·exact ⟨_,bP rfl,T.Og H⟩
theorem JF (T:Txt K mg A):aC P w K mg base aO 3 A.mQ A.qc ["order"] (TR K A.cu):=by
 refine T.Dy.ok J6 (fun vs H Q E h=>?_) (fun cdv Ar outer s H vs Q E hr h=>?_)
 ·obtain ⟨p,rfl,_⟩:=h
  rfl
 ·obtain ⟨p,rfl,hp,k⟩:=h
  refine ⟨_,aw (aS (eJ T.AQ (DO T) hr rfl T.zt T.BW .nil ay
   (aa (wa Dd rfl T.yr (by decide+kernel:bootBuiltins "list" =some (.type "list")) (aa (bS ro (kh rfl T.JX) (pv 0) (fun _ _=>rfl)) ag)) (aa au ag)))),?_⟩
  obtain ⟨b,hb,hT⟩:=Kl T hp H
  refine ⟨_,rfl,az A.nQ _ _ _ ⟨rfl,rfl,T.Km H,hb,af b _ ⟨rfl, .inr hT,fun l hl=>?_⟩⟩⟩
  intro x dx hx hdx hne
  refine (az x dx _ _ ⟨rfl,ao,rfl,?_⟩)
  rw[gL]
  have hx0:H x=none:=by
   cases e:H x with
   |none=>rfl
   |some o=>rw[aQ hl _ _ e] at hx;cases hx
  refine k x _ hx0 ((aQ hl).trans (dG hx hdx)) ⟨dx,l,ao,ae.of ?_⟩
  exact dG hx hdx _ _ ao
theorem Nh (la lb:List Int) (h:la.length=lb.length):(List.range la.length).map (fun i=>V.int (la.getD i 0*lb.getD i 0))=(List.zipWith (fun (a b:Int)=>a*b) la lb).map V.int:=by
 refine List.ext_getElem (by simp;lia) fun i h1 h2=>?_
 have hi:i<la.length:=by simpa using h1
 have hi2:i<lb.length:=by lia
 simp [List.getD_eq_getElem?_getD,List.getElem?_eq_getElem hi,List.getElem?_eq_getElem hi2]
theorem AM {y:List Int} {p i:Nat} (hi:i≤p) (hp:p≤y.length):dv (y.map V.int) (some ((p:Int)-i)) (some ((((y.map V.int).length:Nat):Int)-i))=(bu y p i).map V.int:=by
 unfold dv bu HT.cX
 simp only [List.length_map]
 rw[if_neg (by lia),if_neg (by lia),List.map_take,List.map_drop]
 have e1:min ((p:Int)-i).toNat y.length=p-i:=by lia
 have e2:min (((y.length:Nat):Int)-i).toNat y.length=y.length-i:=by lia
 rw[e1,e2]
 congr 1;lia
theorem vv {B:Int} {y:List Int} {p i:Nat} (h:Bd B y):Bd B (bu y p i):=fun x hx=>h x (List.mem_of_mem_drop (List.mem_of_mem_take hx))
def S0 (K:PySem.W.Frag):Sp:=fun vs H Q _=> ∃(q:Addr) (y:List Int) (p lag other:Nat),vs= [.int p, .ref q, .int lag, .int other]∧ae K H q (y.map V.int)∧(p≤y.length∧y.length≤1024∧lag≤p∧other≤p)∧Bd 16777216 y∧ ∀H',ah H H'→Q (.int (Sound.moment y p lag other)) H'
theorem lD:aM ["order", "numbers", "lag", "other", "n", "x", "y"] ["order", "numbers", "lag", "other"] (aG BQ):=⟨rfl,rfl,rfl,by decide+kernel,rfl,by decide+kernel,by decide+kernel⟩
theorem QM (T:Txt K mg A):aC P w K mg base aO 1 A.oW A.lF ["order", "numbers", "lag", "other"] (S0 K):=by
 refine T.Eb.ok lD (fun vs H Q E h=>?_) (fun cdv Ar outer s H vs Q E hr h=>?_)
 ·obtain ⟨q,y,p,lag,other,rfl,_⟩:=h
  rfl
 ·obtain ⟨q,y,p,lag,other,rfl,hq,⟨h1,h2,h3,h4⟩,hb,k⟩:=h
  refine ⟨_,ak (aI (i:=4) lD.nd rfl (Or.inl rfl) (bf bU (by rfl) T.bW PySem.boot_len (aa (pv 1) ag)))
   (aw (aS (bf (xK rfl) rfl T.vj (by decide+kernel:bootBuiltins "sum" =some (.builtin "sum")) (aa (cw (own:= [("x",5),("y",6)]) rfl lD.nd
    (lI rfl T.kx (aa (j8 jF (pv 1) (fq (aq cc (pv 0) (pv 2))) (fq (aq cc (pv 4) (pv 2)))) (aa (j8 jF (pv 1) (fq (aq cc (pv 0) (pv 3))) (fq (aq cc (pv 4) (pv 3)))) ag)))
    (b5 (by kernel_rfl)) (fun _ _ _ _ _=>iL (K:=K) (n:=2) rfl rfl (dC (aT (i:=5) lD.nd rfl (Or.inl rfl)) (dC (aT (i:=6) lD.nd rfl (Or.inl rfl)) iQ))) (fun _ _ _ _ _=>bZ)
    (fun _ _ _ _ _=>aq eE (pv 5) (pv 6))) ag)))),?_⟩
  refine ⟨_,rfl,af q _ ⟨rfl, .inl hq,?_⟩⟩
  refine ⟨_,rfl,_,rfl,_,rfl,af _ _ ⟨rfl,rfl,_,rfl,_,rfl,_,rfl,af _ _ ⟨rfl,rfl,_,rfl,af q _ ⟨rfl,hq,fun pa ha=>?_⟩⟩⟩⟩
  rw[AM h3 h1]
  refine ⟨_,rfl,_,rfl,_,rfl,af _ _ ⟨rfl,rfl,_,rfl,_,rfl,_,rfl,af _ _ ⟨rfl,rfl,_,rfl,af q _ ⟨rfl,(aQ ha).seq hq,fun pb hb2=>?_⟩⟩⟩⟩
  rw[AM h4 h1]
  have sab:ah (upd H pa (.lst ((bu y p lag).map V.int))) (upd (upd H pa (.lst ((bu y p lag).map V.int))) pb (.lst ((bu y p other).map V.int))):=aQ hb2
  have sq1:ae K (upd (upd H pa (.lst ((bu y p lag).map V.int))) pb (.lst ((bu y p other).map V.int))) pa ((bu y p lag).map V.int):=sab.seq (ae.of ao)
  have sq2:ae K (upd (upd H pa (.lst ((bu y p lag).map V.int))) pb (.lst ((bu y p other).map V.int))) pb ((bu y p other).map V.int):=ae.of ao
  refine (az pa pb _ _ ⟨rfl,sq1,sq2,fun D hD=>?_⟩)
  have l1:(bu y p lag).length=y.length-p:=xU h3 h1
  have l2:(bu y p other).length=y.length-p:=xU h4 h1
  refine cC (J:=jV K pa pb) hD (bu y p lag).length (by rw[sizeLine_eq];lia) (fun i=> .int ((bu y p lag).getD i 0*(bu y p other).getD i 0))
   (fun i Hh hi s1=>⟨_,_,_,_,s1.seq sq1,s1.seq sq2,cK hi,cK (by lia)⟩) (fun Hh s1=>⟨_,_,s1.seq sq1,s1.seq sq2, .inl (by simp)⟩) ?_ ?_
  ·rintro i Hh z H' hi s1 ⟨t,x1,y1,rfl,ht,rfl,hx,hy⟩ C hC
   obtain ⟨rfl,_⟩:=dU (hx _ (s1.seq sq1))
   obtain ⟨rfl,_⟩:=dU (hy _ (s1.seq sq2))
   refine (af t _ ⟨rfl,aZ.of ao,rfl,af _ _ ⟨rfl,af _ _ ⟨rfl,rfl,rfl,?_⟩⟩⟩)
   have b1:=(vv (p:=p) (i:=lag) hb).getD (by decide) i
   refine ⟨_,rfl,_,rfl,af _ _ ⟨rfl,rfl, .inl ⟨by lia,by lia⟩,?_⟩⟩
   exact hC _ (aQ ht)
  ·intro Hh s1 hx
   rw[Nh _ _ (by lia)] at hx
   refine (af D _ ⟨rfl,ae.of hx,?_⟩)
   have e:(List.zipWith (fun (a b:Int)=>a*b) (bu y p lag) (bu y p other)).sum=Sound.moment y p lag other:=by rw[←Ga];rfl
   rw[e]
   exact k _ (((aQ ha).trans sab).trans s1)
def nO (y:List Int) (p lag:Nat):List Int:=((List.range p).map fun j=>Sound.moment y p lag (j+1))++ [Sound.moment y p lag 0]
def JV (K:PySem.W.Frag):Sp:=fun vs H Q _=> ∃(q:Addr) (y:List Int) (p lag:Nat),vs= [.int p, .ref q, .int lag]∧ae K H q (y.map V.int)∧(p≤y.length∧y.length≤1024∧lag≤p∧p≤4)∧Bd 16777216 y∧
 ∀D H',H D=none→ah H H'→H' D=some (.lst ((nO y p lag).map V.int))→Q (.ref D) H'
theorem uj:aM ["order", "numbers", "lag", "other"] ["order", "numbers", "lag"] (aG Ck):=⟨rfl,rfl,rfl,by decide+kernel,rfl,by decide+kernel,by decide+kernel⟩
theorem L0 (T:Txt K mg A):aC P w K mg base aO 2 A.qm A.mB ["order", "numbers", "lag"] (JV K):=by
 refine T.FY.ok uj (fun vs H Q E h=>?_) (fun cdv Ar outer s H vs Q E hr h=>?_)
 ·obtain ⟨q,y,p,lag,rfl,_⟩:=h
  rfl
 ·obtain ⟨q,y,p,lag,rfl,hq,⟨h1,h2,h3,h4⟩,hb,k⟩:=h
  refine ⟨_,aw (aS (cw (own:= [("other",3)]) rfl uj.nd
   (cg (aq i8 (wa (Lq rfl) rfl T.yr (by decide+kernel:bootBuiltins "list" =some (.type "list")) (aa (J8 rfl T.dt (aa au (aa (aq bE (pv 0) au) ag))) ag)) (b9 (aa au ag))))
   (b5 (by kernel_rfl)) (fun _ _ _ _ _=>aT (i:=3) uj.nd rfl (Or.inl rfl)) (fun _ _ _ _ _=>bZ)
   (fun _ _ _ _ _=>aN (QM T) hr rfl T.Nt T.Eb.kp T.To .nil ay (aa (pv 0) (aa (pv 1) (aa (pv 2) (aa (pv 3) ag))))))),?_⟩
  refine ⟨_,rfl,af _ _ ⟨rfl,rfl,af _ _ ⟨rfl,fun pr hpr=>?_⟩⟩⟩
  have e62:(2:Int)^62=4611686018427387904:=by decide
  have ep:((p:Int)+1-1).toNat=p:=by lia
  refine (b8 pr _ _ ⟨rfl,ao,by lia,by lia,fun l hl=>?_⟩)
  rw[ep]
  refine ⟨(by show 1≤sizeLine;decide),fun b hb2=>?_⟩
  have hlb:l≠b:=bD ao hb2
  refine (az l b _ _ ⟨rfl,rfl,by rw[aB hlb];exact ao,ao,by rw[List.length_map,List.length_range,sizeLine_eq];simp;lia,fun c hc=>?_⟩)
  have s0:ah H (upd (upd (upd (upd H pr (.gB 1 ((p:Int)+1))) l (.lst ((List.range p).map fun k=>V.int (1+(k:Nat))))) b (.lst [V.int 0])) c (.lst (((List.range p).map fun k=>V.int (1+(k:Nat)))++ [V.int 0]))):=
   (((aQ hpr).trans (aQ hl)).trans (aQ hb2)).trans (aQ hc)
  refine ⟨c,rfl,⟨_,ae.of ao⟩,fun D hD=>?_⟩
  have hc': ∀Hh,ah _ Hh→ae K Hh c (((List.range p).map fun k=>V.int (1+(k:Nat)))++ [V.int 0]):=fun Hh s1=>s1.seq (H:=upd (upd (upd (upd H pr (.gB 1 ((p:Int)+1))) l (.lst ((List.range p).map fun k=>V.int (1+(k:Nat))))) b (.lst [V.int 0])) c (.lst (((List.range p).map fun k=>V.int (1+(k:Nat)))++ [V.int 0]))) (ae.of ao)
  have hget: ∀i,i<p+1→(((List.range p).map fun k=>V.int (1+(k:Nat)))++ [V.int 0])[i]?=some (V.int ((if i<p then i+1 else 0:Nat):Int)):=fun i hi=>by
   by_cases q:i<p
   ·rw[List.getElem?_append_left (by simpa using q),List.getElem?_map,List.getElem?_range q,if_pos q]
    show some (V.int (1+(i:Int)))=_
    congr 2;lia
   ·rw[List.getElem?_append_right (by simp;lia),if_neg q]
    have:i-((List.range p).map fun k=>V.int (1+(k:Nat))).length=0:=by simp;lia
    rw[this];rfl
  refine cC (J:=dH K c) hD (p+1) (by rw[sizeLine_eq];lia) (fun i=> .int (Sound.moment y p lag (if i<p then i+1 else 0))) (fun i Hh hi s1=>⟨_,_,hc' Hh s1,hget i hi⟩) (fun Hh s1=>⟨_,hc' Hh s1,by simp⟩) ?_ ?_
  ·rintro i Hh x H' hi s1 ⟨rfl,hx⟩ C hC
   have hx:=hx _ (hc' _ s1)
   rw[hget i hi] at hx
   cases hx
   refine ⟨rfl,?_⟩
   refine ⟨_,rfl,_,rfl,_,rfl,_,rfl,fT q y p lag _ ⟨rfl,(s0.trans s1).seq hq,⟨h1,h2,h3,by split<;>lia⟩,hb,fun H5 s5=>?_⟩⟩
   exact hC _ s5
  ·intro Hh s1 hx
   have hD0:H D=none:=by
    cases e:H D with
    |none=>rfl
    |some o=>rw[s0 _ _ e] at hD;cases hD
   refine k D Hh hD0 (s0.trans s1) (hx.trans ?_)
   congr 2
   unfold nO
   rw[List.range_succ,List.map_append,List.map_append,List.map_map]
   congr 1
   ·refine List.map_congr_left fun i hi=>?_
    have:i<p:=by simpa using hi
    show V.int _=V.int _
    rw[if_pos this]
   ·show [V.int _]= [V.int _]
    rw[if_neg (Nat.lt_irrefl p)]
def fI (e:Nat) (l:List Int):Prop:= ∀x∈l,x.natAbs≤2^e
theorem lz {x:Int} {e:Nat} (h:x.natAbs≤2^e) (he:e≤2000):Builtin.Int.intBits x≤2^20:=by
 unfold Builtin.Int.intBits
 split
 ·exact Nat.zero_le _
 ·rename_i hx
  have hne:x.natAbs≠0:=by simpa using hx
  have hlt:x.natAbs<2^(e+1):=Nat.lt_of_le_of_lt h (Nat.pow_lt_pow_right (by decide) (Nat.lt_succ_self e))
  have:=(Nat.log2_lt hne).mpr hlt
  have e20:(2:Nat)^20=1048576:=by decide
  lia
theorem fI.getD {e:Nat} {l:List Int} (h:fI e l) (i:Nat):(l.getD i 0).natAbs≤2^e:=by
 rw[List.getD_eq_getElem?_getD]
 cases q:l[i]? with
 |none=>exact Nat.zero_le _
 |some x=>exact h x (List.mem_of_getElem? q)
theorem OC {e:Nat} {c d x y:Int} (hc:c.natAbs≤2^e) (hd:d.natAbs≤2^e) (hx:x.natAbs≤2^e) (hy:y.natAbs≤2^e):(c*x-d*y).natAbs≤2^(2*e+1):=by
 have h1:(c*x).natAbs≤2^e*2^e:=by rw[Int.natAbs_mul];exact Nat.mul_le_mul hc hx
 have h2:(d*y).natAbs≤2^e*2^e:=by rw[Int.natAbs_mul];exact Nat.mul_le_mul hd hy
 have h3:(2:Nat)^(2*e+1)=2^e*2^e+2^e*2^e:=by rw[Nat.pow_succ,Nat.two_mul,Nat.pow_add];lia
 rw[h3]
 generalize 2^e*2^e=m at h1 h2⊢
 lia
theorem xP (rw_ ch:List Int) (k:Nat) (h:rw_.length=ch.length):cleared rw_ ch k=(List.range rw_.length).map fun i=>ch.getD k 0*rw_.getD i 0-rw_.getD k 0*ch.getD i 0:=by
 unfold cleared
 refine List.ext_getElem (by simp;lia) fun i h1 h2=>?_
 have hi:i<rw_.length:=by simpa using h2
 have hi2:i<ch.length:=by lia
 simp [List.getD_eq_getElem?_getD,List.getElem?_eq_getElem hi,List.getElem?_eq_getElem hi2]
theorem Ii (rw_ ch:List Int) (k:Nat) (h:rw_.length=ch.length):(cleared rw_ ch k).length=rw_.length:=by rw[xP _ _ _ h];simp
theorem Nc {e:Nat} {rw_ ch:List Int} (hl:rw_.length=ch.length) (h1:fI e rw_) (h2:fI e ch) (k:Nat):fI (2*e+1) (cleared rw_ ch k):=by
 intro x hx
 rw[xP _ _ _ hl] at hx
 obtain ⟨i,_,rfl⟩:=List.mem_map.mp hx
 exact OC (h2.getD k) (h1.getD k) (h1.getD i) (h2.getD i)
theorem fI.mono {e f:Nat} {l:List Int} (h:fI e l) (hf:e≤f):fI f l:=fun x hx=>Nat.le_trans (h x hx) (Nat.pow_le_pow_right (by decide) hf)
def G9 (K:PySem.W.Frag):Sp:=fun vs H Q _=> ∃(a b:Addr) (r c:List Int) (k e:Nat),vs= [.ref a, .ref b, .int k]∧ae K H a (r.map V.int)∧ae K H b (c.map V.int)∧(r.length=c.length∧k<r.length∧r.length≤100∧e≤900)∧fI e r∧fI e c∧
 ∀D H',H D=none→ah H H'→H' D=some (.lst ((cleared r c k).map V.int))→Q (.ref D) H'
theorem sC:aM ["row", "chosen", "step", "x", "y"] ["row", "chosen", "step"] (aG DF):=⟨rfl,rfl,rfl,by decide+kernel,rfl,by decide+kernel,by decide+kernel⟩
theorem M5 (T:Txt K mg A):aC P w K mg base aO 1 A.lZ A.ou ["row", "chosen", "step"] (G9 K):=by
 refine T.CF.ok sC (fun vs H Q E h=>?_) (fun cdv Ar outer s H vs Q E hr h=>?_)
 ·obtain ⟨a,b,r,c,k,e,rfl,_⟩:=h
  rfl
 ·obtain ⟨a,b,r,c,k,e,rfl,ha,hb,⟨h1,h2,h3,h4⟩,b1,b2,kk⟩:=h
  refine ⟨_,aw (aS (cw (own:= [("x",3),("y",4)]) rfl sC.nd (lI rfl T.kx (aa (pv 0) (aa (pv 1) ag)))
   (b5 (by kernel_rfl)) (fun _ _ _ _ _=>iL (K:=K) (n:=2) rfl rfl (dC (aT (i:=3) sC.nd rfl (Or.inl rfl)) (dC (aT (i:=4) sC.nd rfl (Or.inl rfl)) iQ))) (fun _ _ _ _ _=>bZ)
   (fun _ _ _ _ _=>aq cc (aq CJ (bS (fw (K:=K) rfl) (pv 1) (pv 2) (fun _ _=>rfl)) (pv 3)) (aq CJ (bS (fw (K:=K) rfl) (pv 0) (pv 2) (fun _ _=>rfl)) (pv 4))))),?_⟩
  refine ⟨_,rfl,_,rfl,az a b _ _ ⟨rfl,ha,hb,fun D hD=>?_⟩⟩
  refine cC (J:=jV K a b) hD r.length (by rw[sizeLine_eq];lia) (fun i=> .int (c.getD k 0*r.getD i 0-r.getD k 0*c.getD i 0))
   (fun i Hh hi s1=>⟨_,_,_,_,s1.seq ha,s1.seq hb,cK hi,cK (by lia)⟩) (fun Hh s1=>⟨_,_,s1.seq ha,s1.seq hb, .inl (by simp)⟩) ?_ ?_
  ·rintro i Hh z H' hi s1 ⟨t,x1,y1,rfl,ht,rfl,hx,hy⟩ C hC
   obtain ⟨rfl,_⟩:=dU (hx _ (s1.seq ha))
   obtain ⟨rfl,_⟩:=dU (hy _ (s1.seq hb))
   have st:ah Hh (upd Hh t (.tup [V.int (r.getD i 0),V.int (c.getD i 0)])):=aQ ht
   refine (af t _ ⟨rfl,aZ.of ao,rfl,af _ _ ⟨rfl,af _ _ ⟨rfl,rfl,rfl,?_⟩⟩⟩)
   refine ⟨_,rfl,_,rfl,b,_,_,_,rfl,rfl,(s1.trans st).seq hb,bP (cK (by lia)),_,rfl,_,_,rfl,rfl,⟨lz (b2.getD k) (by lia),lz (b1.getD i) (by lia)⟩,
    _,rfl,_,rfl,a,_,_,_,rfl,rfl,(s1.trans st).seq ha,bP (cK h2),_,rfl,_,_,rfl,rfl,⟨lz (b1.getD k) (by lia),lz (b2.getD i) (by lia)⟩,_,_,rfl,rfl,?_⟩
   exact hC _ st
  ·intro Hh s1 hx
   refine kk D Hh hD s1 (hx.trans ?_)
   rw[xP _ _ _ h1,List.map_map]
   rfl
def jX (K:PySem.W.Frag) (H:Hp) (r:Addr) (M:List (List Int)):Prop:= ∃as:List Addr,ae K H r (as.map V.ref)∧as.length=M.length∧ ∀(k:Nat) (a:Addr),as[k]?=some a→ae K H a ((M.getD k []).map V.int)
theorem jX.same {H H':Hp} {r:Addr} {M:List (List Int)} (s:ah H H') (h:jX K H r M):jX K H' r M:=by
 obtain ⟨as,h1,h2,h3⟩:=h
 exact ⟨as,s.seq h1,h2,fun k a e=>s.seq (h3 k a e)⟩
theorem Pw {H1 Hh:Hp} {D:Addr} (s:ah H1 Hh) (h:H1 D=none):ah H1 (hide D Hh):=fun b o e=>by
 rw[hide_ne (bD e h)];exact s b o e
theorem pU {as:List Addr} {i:Nat} {x:V} (h:(as.map V.ref)[i]?=some x): ∃a,as[i]?=some a∧x= .ref a:=by
 rw[List.getElem?_map] at h
 cases e:as[i]? with
 |none=>rw[e] at h;cases h
 |some a=>rw[e] at h;exact ⟨a,rfl,(Option.some.inj h).symm⟩
def i5 (e p:Nat) (M:List (List Int)):Prop:= ∀r∈M,fI e r∧r.length=p+1
theorem i5.getD {e p:Nat} {M:List (List Int)} (h:i5 e p M) {k:Nat} (hk:k<M.length):fI e (M.getD k [])∧(M.getD k []).length=p+1:=by
 rw[List.getD_eq_getElem?_getD,List.getElem?_eq_getElem hk];exact h _ (List.getElem_mem hk)
theorem yb {M:List (List Int)} {i k:Nat} (hk:k<M.length):(cM M i).getD k []=if k=i then M.getD k [] else cleared (M.getD k []) (M.getD i []) i:=by
 have ek:M.getD k []=M[k]:=by rw[List.getD_eq_getElem?_getD,List.getElem?_eq_getElem hk];rfl
 rw[ek]
 unfold cM
 show ((M.zipIdx.map fun x=>if x.2=i then x.1 else cleared x.1 (M.getD i []) i)[k]?).getD []=_
 rw[List.getElem?_map,List.getElem?_zipIdx,List.getElem?_eq_getElem hk]
 simp
theorem Pg {e p:Nat} {M:List (List Int)} {i:Nat} (h:i5 e p M) (hi:i<M.length):i5 (2*e+1) p (cM M i):=by
 intro r hr
 obtain ⟨k,hk,rfl⟩:=List.getElem_of_mem hr
 have hk':k<M.length:=by rw[rk] at hk;exact hk
 have e1:=yb (i:=i) hk'
 rw[List.getD_eq_getElem?_getD,List.getElem?_eq_getElem hk] at e1
 have e1:(cM M i)[k]=_:=e1
 rw[e1]
 obtain ⟨a1,a2⟩:=h.getD hk'
 obtain ⟨c1,c2⟩:=h.getD hi
 split
 ·exact ⟨a1.mono (by lia),a2⟩
 ·exact ⟨Nc (by lia) a1 c1 i,by rw[Ii _ _ _ (by lia)];exact a2⟩
def J9 (K:PySem.W.Frag):Sp:=fun vs H Q _=> ∃(a:Addr) (M:List (List Int)),vs= [.ref a]∧jX K H a M∧M.length≤4∧i5 60 M.length M∧(solved M=none→ ∀H',ah H H'→Q .aD H')∧
 (∀R,solved M=some R→ ∀r H',ah H H'→jX K H' r R→i5 1000 M.length R→R.length=M.length→Q (.ref r) H')
structure After (M:List (List Int)) (i:Nat) (N:List (List Int)) (e:Nat):Prop where
 eq:solved M=bT (M.length-i) i N
 len:N.length=M.length
 bd:i5 e M.length N
def nk:Nat→Nat
 |0=>60
 |i+1=>2*nk i+1
theorem jB:aM ["equations", "rows", "step", "place", "row"] ["equations"] (aG BP):=⟨rfl,rfl,rfl,by decide+kernel,rfl,by decide+kernel,by decide+kernel⟩
theorem Lu (T:Txt K mg A):aC P w K mg base aO 2 A.lh A.qh ["equations"] (J9 K):=by
 refine T.AY.ok jB (fun vs H Q E h=>?_) (fun cdv Ar outer s H vs Q E hr h=>?_)
 ·obtain ⟨a,M,rfl,_⟩:=h
  rfl
 ·obtain ⟨a,M,rfl,hM,h4,hB,k0,k1⟩:=h
  refine ⟨_,ak (aI (i:=1) jB.nd rfl (Or.inr rfl) (pv 0))
   (ak (cv PassesOwn.never rfl (jh rfl T.dt (aa (bf bU (by rfl) T.bW PySem.boot_len (aa (pv 0) ag)) ag)) (aT (i:=2) jB.nd rfl (Or.inr rfl))
    (ak (bN (bO fj (bS eN (bS eN (pv 1) (pv 2) (fun _ _=>rfl)) (pv 2) (fun _ _=>rfl)) au (bo _)) (aw (aS gQ)) bX)
    (aw (aI (i:=1) jB.nd rfl (Or.inr rfl) (cw (own:= [("place",3),("row",4)]) rfl jB.nd (wL rfl T.uL (aa (pv 1) ag))
     (b5 (by kernel_rfl)) (fun _ _ _ _ _=>iL (K:=K) (n:=2) rfl rfl (dC (aT (i:=3) jB.nd rfl (Or.inl rfl)) (dC (aT (i:=4) jB.nd rfl (Or.inl rfl)) iQ))) (fun _ _ _ _ _=>bZ)
     (fun _ _ _ _ _=>jx (bO fj (pv 3) (pv 2) (bo _)) (pv 4) (aN (M5 T) hr rfl T.JN T.CF.kp T.Tq .nil ay (aa (pv 4) (aa (bS (fw (K:=K) rfl) (pv 1) (pv 2) (fun _ _=>rfl)) (aa (pv 2) ag))))))))))
   (aw (aS (pv 1)))),?_⟩
  obtain ⟨as0,q1,q2,q3⟩:=id hM
  have e62:(2:Int)^62=4611686018427387904:=by decide
  refine ⟨_,rfl,_,rfl,af a _ ⟨rfl, .inl q1,_,rfl,by lia,by rw[List.length_map];lia,?_⟩⟩
  have en:((((as0.map V.ref).length:Nat):Int)).toNat=M.length:=by rw[List.length_map,q2];rfl
  rw[en]
  refine jE (lo:=0) (n:=M.length) (fun i σ H'=> ∃(r:Addr) (N:List (List Int)) (v2 v3 v4:Option V),σ= [some (.ref a),some (.ref r),v2,v3,v4]∧ah H H'∧jX K H' r N∧After M i N (nk i)∧i≤M.length)
   ⟨a,M,none,none,none,rfl,ah.refl _,hM,⟨rfl,rfl,hB⟩,Nat.zero_le _⟩ ?_ ?_
  ·rintro i σ H' hi ⟨r,N,v2,v3,v4,rfl,s1,hR,hA,_⟩
   obtain ⟨as,r1,r2,r3⟩:=id hR
   have aU:i<N.length:=by rw[hA.len];exact hi
   obtain ⟨ai,hai⟩: ∃ai,as[i]?=some ai:=⟨_,List.getElem?_eq_getElem (by lia)⟩
   have hRi:=r3 i ai hai
   obtain ⟨bi,li⟩:=hA.bd.getD aU
   rw[Int.zero_add]
   refine ⟨_,rfl,_,rfl,az r _ _ _ ⟨rfl,rfl,r1,bP (v:=V.ref ai) (by rw[List.getElem?_map,hai];rfl),_,rfl,az ai _ _ _ ⟨rfl,rfl,hRi,bP (cK (by lia)),rfl,_,rfl,?_⟩⟩⟩
   have hs:M.length-i=(M.length-(i+1))+1:=by lia
   refine cP (fun hz=>?_) fun hz=>?_
   ·--a pivot of 0
    have hz:(N.getD i []).getD i 0=0:=V.int.inj (of_decide_eq_true hz)
    refine k0 ?_ H' s1
    rw[hA.eq,hs,bT,if_pos hz]
   ·have hz:(N.getD i []).getD i 0≠0:=fun q=>hz (decide_eq_true (by rw[q]))
    refine ⟨_,rfl,af r _ ⟨rfl,r1,fun D hD=>?_⟩⟩
    have he:nk i≤900:=by
     have:i≤3:=by lia
     rcases (by lia:i=0∨i=1∨i=2∨i=3) with rfl|rfl|rfl|rfl<;>decide
    refine kz (J:=l6 K r) hD N.length (by rw[sizeLine_eq,hA.len];lia) (fun k v Hq=> ∃b,v= .ref b∧ae K Hq b (((cM N i).getD k []).map V.int))
     (fun k v H1 H2 _ ss ⟨b,h1,h2⟩=>⟨b,h1,ss.seq h2⟩)
     (fun j Hh hj s2=>⟨_,_,s2.seq r1,List.getElem?_eq_getElem (by rw[List.length_map];lia)⟩) (fun Hh s2=>⟨_,s2.seq r1,by rw[List.length_map];lia⟩) ?_ ?_
    ·rintro j Hh z H5 hj s2 ⟨acc,hacc⟩ ⟨t,x,rfl,ht,rfl,hx⟩ C hC
     obtain ⟨aj,haj,rfl⟩:=pU (hx _ (s2.seq r1))
     have st:ah Hh (upd Hh t (.tup [V.int (j:Nat),V.ref aj])):=aQ ht
     have hRj:=r3 j aj haj
     obtain ⟨bj,lj⟩:=hA.bd.getD (show j<N.length by lia)
     refine (af t _ ⟨rfl,aZ.of ao,rfl,af _ _ ⟨rfl,af _ _ ⟨rfl,rfl,rfl,?_⟩⟩⟩)
     refine ⟨_,rfl,_,rfl,rfl,_,rfl,?_⟩
     refine cP (fun hz2=>?_) fun hz2=>?_
     ·have hji:j=i:=by have:=V.int.inj (of_decide_eq_true hz2);lia
      refine ⟨_,rfl,hC _ _ st ⟨aj,rfl,?_⟩⟩
      rw[yb hj,if_pos hji]
      exact (Pw (s2.trans st) hD).seq hRj
     ·have hji:j≠i:=fun q=>hz2 (decide_eq_true (by rw[q]))
      refine ⟨_,rfl,_,rfl,_,rfl,az r _ _ _ ⟨rfl,rfl,(s2.trans st).seq r1,bP (v:=V.ref ai) (by rw[List.getElem?_map,hai];rfl),_,rfl,aj,ai,_,_,i,nk i,rfl,(s2.trans st).seq hRj,(s2.trans st).seq hRi,⟨by lia,by lia,by lia,he⟩,bj,bi,fun D2 H6 hD2 s6 hx6=>?_⟩⟩
      refine hC _ _ (st.trans s6) ⟨D2,rfl,?_⟩
      rw[yb hj,if_neg hji]
      refine ae.of ?_
      rw[hide_ne]
      ·exact hx6
      ·intro q
       rw[q,st _ _ hacc] at hD2
       cases hD2
    ·intro Hh xs s2 hl hp hx
     have hstep:After M (i+1) (cM N i) (nk (i+1)):=⟨by rw[hA.eq,hs,bT,if_neg hz],by rw[rk,hA.len],Pg hA.bd aU⟩
     have hxs: ∃bs:List Addr,xs=bs.map V.ref∧ ∀(k:Nat) (b:Addr),bs[k]?=some b→ae K Hh b (((cM N i).getD k []).map V.int):=by
      refine ⟨xs.map fun v=>match v with| .ref b=>b|_=>0,?_,fun k b e=>?_⟩
      ·refine List.ext_getElem? fun k=>?_
       rw[List.getElem?_map,List.getElem?_map]
       cases e:xs[k]? with
       |none=>rfl
       |some v=>
        obtain ⟨b,rfl,_⟩:=hp k v e
        rfl
      ·rw[List.getElem?_map] at e
       cases e2:xs[k]? with
       |none=>rw[e2] at e;cases e
       |some v=>
        obtain ⟨b',rfl,h2⟩:=hp k v e2
        rw[e2] at e
        cases e
        exact h2
     obtain ⟨bs,rfl,hbs⟩:=hxs
     exact ⟨D,cM N i,b8 _ _ _ ⟨rfl,s1.trans s2,⟨bs,ae.of hx,by rw[List.length_map] at hl;rw[hl,rk],hbs⟩,hstep,hi⟩⟩
  ·rintro σ H' ⟨r,N,v2,v3,v4,rfl,s1,hR,hA,_⟩
   refine ⟨_,rfl,k1 N ?_ r H' s1 hR ?_ hA.len⟩
   ·rw[hA.eq,Nat.sub_self];rfl
   ·intro row hrow
    obtain ⟨b1,b2⟩:=hA.bd row hrow
    refine ⟨b1.mono ?_,b2⟩
    rcases (by lia:M.length=0∨M.length=1∨M.length=2∨M.length=3∨M.length=4) with e|e|e|e|e<;>rw[e]<;>decide
theorem Br {B:Int} (hB:0≤B): ∀l m:List Int,Bd B l→Bd B m→ -(l.length*(B*B))≤ip l m∧ip l m≤l.length*(B*B)
 | [],_,_,_=>by simp [ip]
 |x::l, [],_,_=>by
  have:0≤((x::l).length:Int)*(B*B):=Int.mul_nonneg (by lia) (Int.mul_nonneg hB hB)
  simp only [ip];lia
 |x::l,y::m,h1,h2=>by
  have a:=DL hB (h1 x (by simp)) (h2 y (by simp))
  have b:=Br hB l m (fun z hz=>h1 z (List.mem_cons_of_mem _ hz)) (fun z hz=>h2 z (List.mem_cons_of_mem _ hz))
  simp only [ip,List.length_cons]
  have e:((l.length+1:Nat):Int)*(B*B)=l.length*(B*B)+B*B:=by rw[Int.natCast_add,Int.add_mul];simp
  rw[e];lia
theorem Cd {y:List Int} {p i j:Nat} (hy:Bd 16777216 y) (hl:y.length≤1024):(Sound.moment y p i j).natAbs≤2^60:=by
 rw[bF]
 have b:=Br (by decide) _ _ (vv (p:=p) (i:=i) hy) (vv (p:=p) (i:=j) hy)
 have hlen:(bu y p i).length≤1024:=by unfold bu;rw[List.length_take];lia
 have e60:(2:Nat)^60=1152921504606846976:=by decide
 rw[e60]
 have:((bu y p i).length:Int)*(16777216*16777216)≤1024*(16777216*16777216):=by lia
 lia
theorem PR {y:List Int} {p:Nat} (hy:Bd 16777216 y) (hl:y.length≤1024):i5 60 (eF y p).length (eF y p):=by
 intro r hr
 obtain ⟨i,_,rfl⟩:=List.mem_map.mp hr
 refine ⟨fun x hx=>?_,by simp [eF]⟩
 rcases List.mem_append.mp hx with h|h
 ·obtain ⟨j,_,rfl⟩:=List.mem_map.mp h
  exact Cd hy hl
 ·rw[List.mem_singleton.mp h]
  exact Cd hy hl
theorem Ph {y:List Int} {p k:Nat} (hk:k<p):(eF y p).getD k []=nO y p (k+1):=by
 unfold eF
 rw[List.getD_eq_getElem?_getD,List.getElem?_map,List.getElem?_range hk];rfl
theorem RV:(List.range 16).reverse=(List.range 16).map (fun i=>15-i):=by decide
theorem M3 {q:Nat→Bool} {i:Nat} (hi:i<16) (h1:q (15-i)=true) (h2: ∀j,j<i→q (15-j)=false):(List.range 16).reverse.find? q=some (15-i):=by
 rw[RV,List.find?_map]
 have:(List.range 16).find? (q∘fun i=>15-i)=some i:=by
  rw[List.find?_range_eq_some]
  exact ⟨h1,by simpa using hi,fun j hj=>by simp [h2 j hj]⟩
 rw[this];rfl
theorem QX {q:Nat→Bool} (h2: ∀j,j<16→q (15-j)=false):(List.range 16).reverse.find? q=none:=by
 rw[List.find?_eq_none]
 intro x hx
 have hx:x<16:=by simpa using hx
 have:=h2 (15-x) (by lia)
 rw[show 15-(15-x)=x by lia] at this
 rw[this];decide
def mL (l:List Int):Bool:=l.all fun f=>decide (-2048≤f)&&decide (f≤2047)
theorem LW (l:List Int):l.all (eP 12)=mL l:=by
 unfold mL
 congr 1
 funext f
 have e:(2:Int)^((12:Int)-1).toNat=2048:=by decide
 unfold eP
 rw[e]
 congr 1
 rw[Bool.eq_iff_iff,decide_eq_true_eq,decide_eq_true_eq];lia
theorem Ih (R:List (List Int)) (p h:Nat):(cN R p h).length=R.length:=by simp [cN]
theorem Jf (R:List (List Int)) (p h:Nat):(List.range R.length).map (fun k=>V.int (jA ((R.getD k []).getD p 0*2^h) ((R.getD k []).getD k 0)))=(cN R p h).map V.int:=by
 refine List.ext_getElem (by simp [cN]) fun i h1 h2=>?_
 have hi:i<R.length:=by simpa using h1
 have e:R.getD i []=R[i]:=by rw[List.getD_eq_getElem?_getD,List.getElem?_eq_getElem hi];rfl
 simp [cN,e]
 congr 2
 rw[List.getElem?_eq_getElem hi];rfl
def S9 (K:PySem.W.Frag) (C:Addr):Sp:=fun vs H Q _=> ∃(q:Addr) (y:List Int) (p:Nat),vs= [.int p, .ref q]∧ae K H q (y.map V.int)∧(1≤p∧p≤4∧p≤y.length∧y.length≤1024)∧Bd 16777216 y∧
 (fN y p=none→ ∀H',ah H H'→Q .aD H')∧(∀h a,fN y p=some (h,a)→ ∀x H',H x=none→ah H H'→dq K C H' x a h→Q (.ref x) H')
theorem gO:aM ["order", "numbers", "rows", "shift", "factors", "lag", "place", "row", "factor"] ["order", "numbers"] (aG AS):=⟨rfl,rfl,rfl,by decide+kernel,rfl,by decide+kernel,by decide+kernel⟩
theorem K2 (T:Txt K mg A):aC P w K mg base aO 3 A.lS A.nz ["order", "numbers"] (S9 K A.cu):=by
 refine T.Fe.ok gO (fun vs H Q E h=>?_) (fun cdv Ar outer s H vs Q E hr h=>?_)
 ·obtain ⟨q,y,p,rfl,_⟩:=h
  rfl
 ·obtain ⟨q,y,p,rfl,hq,⟨h1,h4,hn,hl⟩,hb,k0,k1⟩:=h
  have hr1:aR 1 _:=hr.mono (by decide)
  refine ⟨_,ak (aI (i:=2) gO.nd rfl (Or.inr rfl) (aN (Lu T) hr rfl T.LA T.AY.kp T.L7 .nil ay (aa (cw (own:= [("lag",5)]) rfl gO.nd
    (yI rfl T.dt (aa au (aa (aq bE (pv 0) au) ag))) (b5 (by kernel_rfl)) (fun _ _ _ _ _=>aT (i:=5) gO.nd rfl (Or.inl rfl)) (fun _ _ _ _ _=>bZ)
    (fun _ _ _ _ _=>aN (L0 T) hr rfl T.NH T.FY.kp T.Qi .nil ay (aa (pv 0) (aa (pv 1) (aa (pv 5) ag))))) ag)))
   (ak (bN (rV (vA (pv 2))) (aw (aS gQ)) bX)
   (ak (cv PassesOwn.never rfl (jM rfl T.dt (aa (aY rfl T.Pe) (aa (dB dz au) (aa (dB dz au) ag)))) (aT (i:=3) gO.nd rfl (Or.inr rfl))
    (ak (xu (i:=4) (own:= [("place",6),("row",7)]) rfl gO.nd rfl rfl rfl (wL rfl T.uL (aa (pv 2) ag)) (b5 (by kernel_rfl))
     (fun _ _ _ _ _=>iL (K:=K) (n:=2) rfl rfl (dC (aT (i:=6) gO.nd rfl (Or.inl rfl)) (dC (aT (i:=7) gO.nd rfl (Or.inl rfl)) iQ))) (fun _ _ _ _ _=>bZ)
     (fun _ _ _ _ _=>aN (Mf T) hr1 rfl T.Q4 T.BU.kp T.Mt .nil ay (aa (aq tX (bS (fw (K:=K) rfl) (pv 7) (pv 0) (fun _ _=>rfl)) (pv 3)) (aa (bS (fw (K:=K) rfl) (bS (fw (K:=K) rfl) (pv 2) (pv 6) (fun _ _=>rfl)) (pv 6) (fun _ _=>rfl)) ag))))
    (aw (bN (jl (bf (o3 rfl) rfl T.ll (by decide+kernel:bootBuiltins "all" =some (.builtin "all")) (aa (cw (own:= [("factor",8)]) rfl gO.nd (cg (pv 4)) (b5 (by kernel_rfl)) (fun _ _ _ _ _=>aT (i:=8) gO.nd rfl (Or.inl rfl)) (fun _ _ _ _ _=>bZ)
      (fun _ _ _ _ _=>aN (Ad T) hr1 rfl T.E9 T.xO.kp T.Ao .nil ay (aa (aY rfl T.xW) (aa (pv 8) ag)))) ag)))
     (aw (aS (eJ T.AQ (DO T) hr rfl T.zt T.BW .nil ay (aa (pv 4) (aa (pv 3) ag))))) bX))))
   (aw (aS gQ)))),?_⟩
  have e62:(2:Int)^62=4611686018427387904:=by decide
  refine ⟨_,rfl,af _ _ ⟨rfl,rfl,af _ _ ⟨rfl,⟨by lia,by lia,by lia,by lia⟩,fun D hD=>?_⟩⟩⟩
  have ep:((p:Int)+1-1).toNat=p:=by lia
  rw[ep]
  refine kz (J:=fX 1 p) hD p (by rw[sizeLine_eq];lia) (fun k v Hq=> ∃b,v= .ref b∧ae K Hq b ((nO y p (k+1)).map V.int)) (fun k v H1 H2 _ ss ⟨b,a1,a2⟩=>⟨b,a1,ss.seq a2⟩)
   (fun i Hh hi s1=>hi) (fun Hh s1=>Nat.le_refl _) ?_ ?_
  ·rintro i Hh z H' hi s1 ⟨acc,hacc⟩ ⟨rfl,rfl⟩ C hC
   have e1:(1:Int)+(i:Nat)=((i+1:Nat):Int):=by lia
   rw[e1]
   refine ⟨rfl,_,rfl,_,rfl,_,rfl,az q y p (i+1) ⟨rfl,s1.seq hq,⟨hn,hl,by lia,h4⟩,hb,fun D2 H6 hD2 s6 hx6=>?_⟩⟩
   refine hC _ _ s6 ⟨D2,rfl,ae.of ?_⟩
   rw[hide_ne]
   ·exact hx6
   ·intro e
    rw[e,hacc] at hD2
    cases hD2
  intro Hh xs s1 hlen hp hx
  have hxs: ∃bs:List Addr,xs=bs.map V.ref∧ ∀(k:Nat) (b:Addr),bs[k]?=some b→ae K Hh b ((nO y p (k+1)).map V.int):=by
   refine ⟨xs.map fun v=>match v with| .ref b=>b|_=>0,?_,fun k b e=>?_⟩
   ·refine List.ext_getElem? fun k=>?_
    rw[List.getElem?_map,List.getElem?_map]
    cases e:xs[k]? with
    |none=>rfl
    |some v=>
     obtain ⟨b,rfl,_⟩:=hp k v e
     rfl
   ·rw[List.getElem?_map] at e
    cases e2:xs[k]? with
    |none=>rw[e2] at e;cases e
    |some v=>
     obtain ⟨b',rfl,a2⟩:=hp k v e2
     rw[e2] at e
     cases e
     exact a2
  obtain ⟨bs,rfl,hbs⟩:=hxs
  rw[List.length_map] at hlen
  have hNl:(eF y p).length=p:=by simp [eF]
  refine ⟨D,eF y p,rfl,⟨bs,ae.of hx,by rw[hNl,hlen],fun k b e=>?_⟩,by rw[hNl];exact h4,PR hb hl,?_,?_⟩
  ·have hk:k<p:=by have:=(List.getElem?_eq_some_iff.mp e).1;lia
   rw[Ph hk]
   exact hbs k b e
  ·--no only answer
   intro hz H2 s2
   refine ⟨_,rfl,_,rfl,bx ?_⟩
   refine k0 ?_ H2 (s1.trans s2)
   unfold fN
   rw[hz]
  ·intro R hR r H2 s2 hRA hRB hRl
   rw[hNl] at hRB hRl
   refine ⟨_,rfl,_,rfl,bJ ?_⟩
   have hG: ∃d ns,Good p R d ns:=by
    rcases x9 h1 h4 hn with ⟨_,e2⟩|⟨d,ns,rows,_,e2,g⟩
    ·rw[hR] at e2;cases e2
    ·rw[hR] at e2;cases e2;exact ⟨d,ns,g⟩
   obtain ⟨d,ns,g⟩:=hG
   have hlin:fN y p=((List.range 16).reverse.find? fun h=>mL (cN R p h)).map fun h=>(h,cN R p h):=by
    unfold fN
    rw[hR]
    rfl
   refine ⟨_,rfl,_,rfl,15,-1,-1,16,rfl,gG.neg (i:=15) (j:= -1) (by lia) (by lia) (by lia) (by lia),?_⟩
   refine yw (lo:=15) (c:= -1) (n:=16) (fun i σ H'=> ∃v3 v4 v5 v6 v7 v8:Option V,σ= [some (.int p),some (.ref q),some (.ref r),v3,v4,v5,v6,v7,v8]∧ah H H'∧jX K H' r R∧ ∀j,j<i→mL (cN R p (15-j))=false)
    ⟨none,none,none,none,none,none,rfl,s1.trans s2,hRA,fun j hj=>by lia⟩ ?_ ?_
   ·rintro i σ H3 hi ⟨v3,v4,v5,v6,v7,v8,rfl,s3,hR3,hno⟩
    have e15:(15:Int)+(i:Nat)*(-1)=((15-i:Nat):Int):=by lia
    rw[e15]
    obtain ⟨as,r1,r2,r3⟩:=id hR3
    refine ⟨_,rfl,af r _ ⟨rfl,r1,fun D2 hD2=>?_⟩⟩
    refine cC (J:=l6 K r) hD2 R.length (by rw[sizeLine_eq];lia) (fun k=> .int (jA ((R.getD k []).getD p 0*2^(15-i)) ((R.getD k []).getD k 0)))
     (fun j H4 hj s4=>⟨_,_,s4.seq r1,List.getElem?_eq_getElem (by rw[List.length_map];lia)⟩) (fun H4 s4=>⟨_,s4.seq r1,by rw[List.length_map];lia⟩) ?_ ?_
    ·rintro j H4 z H5 hj s4 ⟨t,x,rfl,ht,rfl,hx4⟩ C hC
     obtain ⟨aj,haj,rfl⟩:=pU (hx4 _ (s4.seq r1))
     have st:ah H4 (upd H4 t (.tup [V.int (j:Nat),V.ref aj])):=aQ ht
     have hRj:=r3 j aj haj
     obtain ⟨bj,lj⟩:=hRB.getD hj
     refine (af t _ ⟨rfl,aZ.of ao,rfl,af _ _ ⟨rfl,af _ _ ⟨rfl,rfl,rfl,?_⟩⟩⟩)
     refine ⟨_,rfl,_,rfl,az aj _ _ _ ⟨rfl,rfl,(s4.trans st).seq hRj,bP (cK (by lia)),_,rfl,af _ _ ⟨rfl,rfl,⟨by lia,?_⟩,_,rfl,_,rfl,az r _ _ _ ⟨rfl,rfl,(s4.trans st).seq r1,bP (v:=V.ref aj) (by rw[List.getElem?_map,haj];rfl),_,rfl,az aj _ _ _ ⟨rfl,rfl,(s4.trans st).seq hRj,bP (cK (by lia)),af _ _ ⟨rfl,g.pos j (by lia),?_,?_⟩⟩⟩⟩⟩⟩
     ·have:=lz (bj.getD p) (by decide)
      have e20:(2:Nat)^20=1048576:=by decide
      have e27:(2:Int)^27=134217728:=by decide
      lia
     ·exact Nat.lt_of_le_of_lt (bj.getD j) (Nat.pow_lt_pow_right (by decide) (by decide))
     ·exact hC _ st
    ·intro H4 s4 hx4
     rw[Jf] at hx4
     have s34:ah H H4:=s3.trans s4
     refine ⟨_,rfl,D2,rfl,⟨_,ae.of hx4⟩,fun D3 hD3=>?_⟩
     have sqF:ae K H4 D2 ((cN R p (15-i)).map V.int):=ae.of hx4
     refine cC (J:=dH K D2) hD3 (cN R p (15-i)).length (by rw[Ih,sizeLine_eq];lia) (fun k=> .bl (eP 12 ((cN R p (15-i)).getD k 0))) (fun j H5 hj s5=>⟨_,_,s5.seq sqF,cK hj⟩) (fun H5 s5=>⟨_,s5.seq sqF,by simp⟩) ?_ ?_
     ·rintro j H5 x H6 hj s5 ⟨rfl,hx5⟩ C hC
      obtain ⟨rfl,_⟩:=dU (hx5 _ (s5.seq sqF))
      refine ⟨rfl,_,rfl,af 12 _ ⟨rfl,⟨by decide,by decide⟩,hC _ (ah.refl _)⟩⟩
     ·intro H5 s5 hx5
      refine ⟨D3,(cN R p (15-i)).map (eP 12),rfl,ae.of (xs:=_) (hx5.trans ?_),_,rfl,?_⟩
      ·congr 2
       refine List.ext_getElem (by simp) fun k a1 a2=>?_
       have hk:k<(cN R p (15-i)).length:=by simpa using a2
       simp [List.getD_eq_getElem?_getD,List.getElem?_eq_getElem hk]
      ·have e:((cN R p (15-i)).map (eP 12)).all id=mL (cN R p (15-i)):=by rw[List.all_map,←LW];rfl
       rw[e]
       refine cP (fun ax=>?_) fun ax=>?_
       ·refine ⟨_,rfl,_,rfl,?_⟩
        intro x dx hx6 hdx hne
        refine (az x dx _ _ ⟨rfl,ao,rfl,?_⟩)
        rw[gL]
        have s45:ah H H5:=s34.trans s5
        refine k1 (15-i) (cN R p (15-i)) ?_ x _ (s45.free hx6) (s45.trans (dG hx6 hdx)) ⟨dx,D2,ao,ae.of ?_⟩
        ·rw[hlin,M3 hi ax hno];rfl
        ·exact dG hx6 hdx _ _ (s5 _ _ hx4)
       ·refine (uO _ _ _ _ _ _ ⟨rfl,s34.trans s5,hR3.same (s4.trans s5),fun j hj=>?_⟩)
        by_cases hji:j=i
        ·subst hji;simpa using ax
        ·exact hno j (by lia)
   ·rintro σ H3 ⟨v3,v4,v5,v6,v7,v8,rfl,s3,hR3,hno⟩
    refine k0 ?_ H3 s3
    rw[hlin,QX hno];rfl
def sA (a b c d e:Int):List (Str×V):= [("first", .int a),("last", .int b),("g", .int c),("v", .int d),("bits", .int e)]
def dk (C:Addr) (H:Hp) (x:Addr) (g:GW):Prop:= ∃dx,H x=some (.ins C dx (sA g.first g.last g.g g.v g.bits))
theorem dk.same {C:Addr} {H H':Hp} {x:Addr} {g:GW} (s:ah H H') (h:dk C H x g):dk C H' x g:=by
 obtain ⟨dx,h⟩:=h
 exact ⟨dx,s _ _ h⟩
def IB (C:Addr):Sp:=fun vs H Q _=> ∃(p dx:Addr) (a b c d e:Int),vs= [.ref p, .int a, .int b, .int c, .int d, .int e]∧H p=some (.ins C dx [])∧Q .aD (upd H p (.ins C dx (sA a b c d e)))
theorem tY (f g:Str) (x y:V) (h:f≠g):aJ g y [(f,x)]= [(f,x),(g,y)]:=by
 unfold aJ;rw[if_neg h];rfl
theorem LN (a b c d e:Int):aJ "bits" (.int e) (aJ "v" (.int d) (aJ "g" (.int c) (aJ "last" (.int b) (aJ "first" (.int a) []))))=sA a b c d e:=by
 have e1:aJ "first" (.int a) []= [(("first" :Str),V.int a)]:=rfl
 rw[e1]
 have n1: ¬("first" :Str)= "last" :=by decide
 have n2: ¬("first" :Str)= "g" :=by decide
 have n3: ¬("last" :Str)= "g" :=by decide
 have n4: ¬("first" :Str)= "v" :=by decide
 have n5: ¬("last" :Str)= "v" :=by decide
 have n6: ¬("g" :Str)= "v" :=by decide
 have n7: ¬("first" :Str)= "bits" :=by decide
 have n8: ¬("last" :Str)= "bits" :=by decide
 have n9: ¬("g" :Str)= "bits" :=by decide
 have n0: ¬("v" :Str)= "bits" :=by decide
 simp only [aJ,if_neg n1,if_neg n2,if_neg n3,if_neg n4,if_neg n5,if_neg n6,if_neg n7,if_neg n8,if_neg n9,if_neg n0]
 rfl
theorem Nz:aM ["self", "first", "last", "g", "v", "bits"] ["self", "first", "last", "g", "v", "bits"] (aG B9):=⟨rfl,rfl,rfl,by decide+kernel,rfl,by decide+kernel,by decide+kernel⟩
theorem Ma (T:Txt K mg A):aC P w K mg base aO 1 A.kT A.lX ["self", "first", "last", "g", "v", "bits"] (IB A.bK):=by
 refine T.Et.ok Nz (fun vs H Q E h=>?_) (fun cdv Ar outer s H vs Q E hr h=>?_)
 ·obtain ⟨p,dx,a,b,c,d,e,rfl,_⟩:=h
  rfl
 ·obtain ⟨p,dx,a,b,c,d,e,rfl,hp,k⟩:=h
  refine ⟨_,ak (bh (pv 0) (pv 1) rfl) (ak (bh (pv 0) (pv 2) rfl) (ak (bh (pv 0) (pv 3) rfl) (ak (bh (pv 0) (pv 4) rfl) (aw (bh (pv 0) (pv 5) rfl))))),?_⟩
  have few: ∀{f:Str} {v:V} {l:List (Str×V)} {m:Nat},l.length≤m→(aJ f v l).length≤m+1:=fun {f v l m} h=>Nat.le_trans (jj f v l) (by lia)
  have f0:([]:List (Str×V)).length≤0:=Nat.le_refl _
  have f1:=few (f:= "first") (v:= .int a) f0
  have f2:=few (f:= "last") (v:= .int b) f1
  have f3:=few (f:= "g") (v:= .int c) f2
  have f4:=few (f:= "v") (v:= .int d) f3
  refine ⟨_,rfl,_,rfl,az p A.bK dx _ ⟨rfl,hp,T.dY,T.AL,(by show 0<1000;decide),?_⟩⟩
  refine ⟨_,rfl,_,rfl,az p A.bK dx _ ⟨rfl,ao,T.dY,T.A5,by lia,?_⟩⟩
  refine ⟨_,rfl,_,rfl,az p A.bK dx _ ⟨rfl,ao,T.dY,T.jG,by lia,?_⟩⟩
  refine ⟨_,rfl,_,rfl,az p A.bK dx _ ⟨rfl,ao,T.dY,T.wc,by lia,?_⟩⟩
  refine ⟨_,rfl,_,rfl,az p A.bK dx _ ⟨rfl,ao,T.dY,T.Gf,by lia,?_⟩⟩
  rw[LN,b7,b7,b7,b7]
  exact k
def b6 (F:List Nat) (g t:Nat):Nat:=((F.take t).map fun n=>n/2^g).sum
def iz (F:List Nat) (g:Nat):List Nat:=(List.range (F.length+1)).map (b6 F g)
theorem FL {F:List Nat} {g t:Nat} (h:t<F.length):b6 F g (t+1)=b6 F g t+F.getD t 0/2^g:=by
 unfold b6
 rw[List.take_succ,List.getElem?_eq_getElem h,List.getD_eq_getElem?_getD,List.getElem?_eq_getElem h,List.map_append,List.sum_append]
 simp only [Option.toList_some,List.map_cons,List.map_nil,List.sum_cons,List.sum_nil,Nat.add_zero,Option.getD_some]
def Rb (K:PySem.W.Frag):Sp:=fun vs H Q _=> ∃(q:Addr) (F:List Nat) (g:Nat),vs= [.ref q, .int g]∧ae K H q (vN F)∧F.length≤1024∧ ∀D H',H D=none→ah H H'→H' D=some (.lst (vN (iz F g)))→Q (.ref D) H'
theorem mv:aM ["folded", "g", "total", "sums", "number"] ["folded", "g"] (aG BH):=⟨rfl,rfl,rfl,by decide+kernel,rfl,by decide+kernel,by decide+kernel⟩
theorem Pf (T:Txt K mg A):aC P w K mg base aO 1 A.mq A.nP ["folded", "g"] (Rb K):=by
 refine T.En.ok mv (fun vs H Q E h=>?_) (fun cdv Ar outer s H vs Q E hr h=>?_)
 ·obtain ⟨q,F,g,rfl,_⟩:=h
  rfl
 ·obtain ⟨q,F,g,rfl,hq,hl,k⟩:=h
  refine ⟨_,ak (aI (i:=2) mv.nd rfl (Or.inl rfl) au) (ak (aI (i:=3) mv.nd rfl (Or.inl rfl) (b9 (aa au ag)))
   (ak (cv PassesOwn.never rfl (cg (pv 0)) (aT (i:=4) mv.nd rfl (Or.inl rfl))
    (ak (ie (i:=2) mv.nd rfl (Or.inl rfl) (aq fg (pv 4) (pv 1)) Cf)
    (aw (ba (ig PySem.F.plainAttrs_list PySem.F.slot_list_append PySem.F.type_list_append lL (pv 3) (aa (pv 2) ag))))))
   (aw (aS (pv 3))))),?_⟩
  refine ⟨(by show 1≤sizeLine;decide),fun D hD=>?_⟩
  have sq0:ah H (upd H D (.lst [V.int 0])):=aQ hD
  refine ⟨_,rfl,q,rfl,⟨_,sq0.seq hq⟩,?_⟩
  refine eA (K:=K) (a:=q) (xs:=vN F) (fun i σ H'=> ∃v:Option V,σ= [some (.ref q),some (.int g),some (.int (b6 F g i:Nat)),some (.ref D),v]∧ah H H'∧H' D=some (.lst (vN ((List.range (i+1)).map (b6 F g)))))
   ⟨none,rfl,sq0,ao.trans rfl⟩ (fun i σ H' _ ⟨_,_,s1,_⟩=>s1.seq hq) ?_ ?_
  ·rintro i x σ H' hi ⟨v,rfl,s1,hx⟩
   obtain ⟨rfl,hil⟩:=fE hi
   refine ⟨_,rfl,_,rfl,_,rfl,af _ _ ⟨rfl,rfl,(by lia),af _ _ ⟨rfl,rfl,_,rfl, .inl ⟨rfl,_,ae.of hx⟩,_,rfl,b8 D _ _ ⟨rfl,rfl,hx,(by rw[aK,List.length_map,List.length_range,sizeLine_eq];lia),some (.int ((F.getD i 0:Nat):Int)),?_,eO s1 hD,?_⟩⟩⟩⟩
   ·have e:((b6 F g i:Nat):Int)+((F.getD i 0:Nat):Int)/2^(g:Int).toNat=((b6 F g (i+1):Nat):Int):=by
     rw[FL hil,Int.toNat_natCast];simp
    show [some (V.ref q),some (V.int g),some (V.int (((b6 F g i:Nat):Int)+((F.getD i 0:Nat):Int)/2^(g:Int).toNat)),some (V.ref D),some (V.int ((F.getD i 0:Nat):Int))]=_
    rw[e]
   ·have e:((b6 F g i:Nat):Int)+((F.getD i 0:Nat):Int)/2^(g:Int).toNat=((b6 F g (i+1):Nat):Int):=by
     rw[FL hil,Int.toNat_natCast];simp
    rw[ao]
    show some (HO.lst (vN ((List.range (i+1)).map (b6 F g))++ [V.int (((b6 F g i:Nat):Int)+((F.getD i 0:Nat):Int)/2^(g:Int).toNat)]))=_
    rw[e,List.range_succ (n:=i+1),List.map_append]
    unfold vN
    rw[List.map_append]
    rfl
  ·rintro σ H' ⟨v,rfl,s1,hx⟩
   rw[aK] at hx
   exact ⟨_,rfl,k D H' hD s1 hx⟩
theorem Ql {F:List Nat} {a b:Nat} (h1:a≤b) (h2:b≤F.length):dv (vN F) (some (a:Int)) (some (b:Int))=vN (slice F a b):=by
 unfold dv HT.cX slice vN
 simp only [List.length_map]
 rw[if_neg (by lia),if_neg (by lia),List.map_take,List.map_drop]
 have e1:min ((a:Int)).toNat F.length=a:=by lia
 have e2:min ((b:Int)).toNat F.length=b:=by lia
 rw[e1,e2]
theorem Iz {F:List Nat} {a b:Nat} (h2:b≤F.length):(slice F a b).length=b-a:=by unfold slice;rw[List.length_take,List.length_drop];lia
theorem Lv {F:List Nat} {g a b:Nat} (h1:a≤b) (h2:b≤F.length):b6 F g b=b6 F g a+((slice F a b).map fun n=>n/2^g).sum:=by
 unfold b6 slice
 have:F.take b=F.take a++(F.drop a).take (b-a):=by
  rw[←List.take_append_drop a (F.take b),List.take_take,List.drop_take]
  congr 2;lia
 rw[this,List.map_append,List.sum_append]
def NK (K:PySem.W.Frag) (te:TE):TE:=fun σ H Q=>te σ H fun x H1=> ∃(a:Addr) (F:List Nat),x= .ref a∧ae K H1 a (vN F)∧Q (.int (bG F:Nat)) H1
theorem zC {X:Cx} {e:Expr} {te:TE} {p pos kpos cpos:Pos} {ck:Nat} (hc:X.calm=true) (hg:Gl X "max") (hm:X.mg "max" =none) (he:PE X e te)
  (hs:starEach [e] X.env= [(false,eval e X.env)]:=by rfl):PE X (.Call (.Name "max" p) [e] [⟨some (Str.ofString "default"), .Constant (.int 0) ck cpos,kpos⟩] pos) (NK X.K te):=by
 intro pins s σ H Q I h
 refine wpAny_Call_Name_kw (ia I hg hm (by decide+kernel:bootBuiltins "max" =some (.builtin "max")) ?_)
 refine PyProof.Rows.callWith_kw ?_ (by rw[hs];rfl) (by rw[hs];rfl)
 rw[hs]
 refine Calls.spliced_cons (aH (he pins s σ H _ I h) fun u s1 ⟨x,H1,I1,r1,a,F,ex,hq,q⟩=>?_)
 refine Calls.spliced_nil ?_
 have hk:=(Of (nm:=some (Str.ofString "default")) (kpos:=kpos) (au (X:=X) (i:=0) (j:=ck) (pos:=cpos)) (Kc (X:=X))) pos pins s1 σ H1 (fun vs H2=>vs= [V.int 0]∧H2=H1) I1 ⟨rfl,rfl⟩
 refine aH hk fun us s2 ⟨vs,H2,I2,r2,ev,eH⟩=>?_
 subst ev eH ex
 cases r1
 obtain ⟨u,rfl,t,rfl⟩:=vals1 r2
 rw[rP] at hq
 obtain ⟨its,rv,hl,_⟩:=I2.list hq
 refine KP (I2.ok.hd hc) hl.isList rv.ints (fun e h2 tk2 kk=>⟨.int 0,H2,I2.kept kk,⟨_,rfl⟩,?_⟩) (fun h2 tk2 M t2 kk m1 m2=>⟨.int M,H2,I2.kept kk,⟨_,rfl⟩,?_⟩)
 ·have:F= []:=by simpa using e
  subst this;exact q
 ·obtain ⟨n,hn,rfl⟩:=List.mem_map.mp m1
  have:bG F=n:=TN hn fun y hy=>by
   have:=m2 (y:Int) (List.mem_map_of_mem hy)
   lia
  rw[←this];exact q
def kb (F:List Nat):List (List Nat):=(List.range (aF F)).map (iz F)
theorem Ap (F:List Nat):(kb F).length=aF F:=by simp [kb]
theorem y8 {F:List Nat} {k:Nat} (h:k<aF F):(kb F).getD k []=iz F k:=by
 unfold kb
 rw[List.getD_eq_getElem?_getD,List.getElem?_map,List.getElem?_range h];rfl
theorem uW {xs:List V} {R:Nat→Addr→Prop} (h: ∀(k:Nat) (v:V),xs[k]?=some v→ ∃b,v= .ref b∧R k b): ∃bs:List Addr,xs=bs.map V.ref∧bs.length=xs.length∧ ∀(k:Nat) (b:Addr),bs[k]?=some b→R k b:=by
 refine ⟨xs.map fun v=>match v with| .ref b=>b|_=>0,?_,by simp,fun k b e=>?_⟩
 ·refine List.ext_getElem? fun k=>?_
  rw[List.getElem?_map,List.getElem?_map]
  cases e:xs[k]? with
  |none=>rfl
  |some v=>
   obtain ⟨b,rfl,_⟩:=h k v e
   rfl
 ·rw[List.getElem?_map] at e
  cases e2:xs[k]? with
  |none=>rw[e2] at e;cases e
  |some v=>
   obtain ⟨b',rfl,a2⟩:=h k v e2
   rw[e2] at e
   cases e
   exact a2
def N3 (K:PySem.W.Frag):Sp:=fun vs H Q _=> ∃(q:Addr) (F:List Nat),vs= [.ref q]∧ae K H q (vN F)∧F.length≤1024∧ ∀D H',H D=none→ah H H'→gK K H' D (kb F)→Q (.ref D) H'
theorem sO:aM ["folded", "greatest", "g"] ["folded"] (aG Gp):=⟨rfl,rfl,rfl,by decide+kernel,rfl,by decide+kernel,by decide+kernel⟩
theorem LS (T:Txt K mg A):aC P w K mg base aO 2 A.mU A.mz ["folded"] (N3 K):=by
 refine T.F0.ok sO (fun vs H Q E h=>?_) (fun cdv Ar outer s H vs Q E hr h=>?_)
 ·obtain ⟨q,F,rfl,_⟩:=h
  rfl
 ·obtain ⟨q,F,rfl,hq,hl,k⟩:=h
  refine ⟨_,ak (aI (i:=1) sO.nd rfl (Or.inl rfl) (xA PySem.F.plainAttrs_int PyProof.Rows.slot_int_bit_length PyProof.Rows.type_int_bit_length xT (zC rfl rfl T.r8 (pv 0))))
   (aw (aS (cw (own:= [("g",2)]) rfl sO.nd (jh rfl T.dt (aa (bf (Qg rfl) rfl T.K0 (by decide+kernel:bootBuiltins "min" =some (.builtin "min")) (aa (aY rfl T.tV) (aa (aq bE (pv 1) au) ag))) ag))
    (b5 (by kernel_rfl)) (fun _ _ _ _ _=>aT (i:=2) sO.nd rfl (Or.inl rfl)) (fun _ _ _ _ _=>bZ)
    (fun _ _ _ _ _=>aN (Pf T) hr rfl T.QH T.En.kp T.Q0 .nil ay (aa (pv 0) (aa (pv 2) ag)))))),?_⟩
  refine ⟨_,rfl,af q F ⟨rfl,hq,rfl,_,rfl,rfl,?_⟩⟩
  rw[tW]
  have e62:(2:Int)^62=4611686018427387904:=by decide
  have hG:(if ((bl (bG F):Nat):Int)+1<31 then ((bl (bG F):Nat):Int)+1 else 31)=((aF F:Nat):Int):=by unfold aF;split<;>lia
  have hg31:=(rf (F:=F)).2
  refine ⟨_,rfl,af _ _ ⟨rfl,rfl,af _ _ ⟨rfl,_,rfl,?_,?_,fun D hD=>?_⟩⟩⟩
  ·rw[hG];lia
  ·rw[hG];lia
  rw[hG,Int.toNat_natCast]
  refine kz (J:=fX 0 (aF F)) hD (aF F) (by rw[sizeLine_eq];lia) (fun j v Hq=> ∃b,v= .ref b∧ae K Hq b (vN (iz F j))) (fun j v H1 H2 _ ss ⟨b,a1,a2⟩=>⟨b,a1,ss.seq a2⟩)
   (fun i Hh hi s1=>hi) (fun Hh s1=>Nat.le_refl _) ?_ ?_
  ·rintro i Hh z H' hi s1 ⟨acc,hacc⟩ ⟨rfl,rfl⟩ C hC
   rw[Int.zero_add]
   refine ⟨rfl,_,rfl,_,rfl,b8 q F i ⟨rfl,s1.seq hq,hl,fun D2 H6 hD2 s6 hx6=>?_⟩⟩
   refine hC _ _ s6 ⟨D2,rfl,ae.of ?_⟩
   rw[hide_ne]
   ·exact hx6
   ·intro e
    rw[e,hacc] at hD2
    cases hD2
  ·intro Hh xs s1 hlen hp hx
   obtain ⟨bs,rfl,hb1,hb2⟩:=uW (R:=fun j b=>ae K Hh b (vN (iz F j))) hp
   refine k D Hh hD s1 ⟨bs,ae.of hx,by rw[Ap,hb1,hlen],fun j b e=>?_⟩
   have hj:j<aF F:=by have:=(List.getElem?_eq_some_iff.mp e).1;lia
   rw[y8 hj]
   exact hb2 j b e
def fP (X:List Nat) (G i:Nat):Nat×Nat:=((List.range G).reverse.take i).foldl (jK X) (31,11+X.length*bl (bG X))
theorem JW {G i:Nat} (h:i<G):(List.range G).reverse[i]?=some (G-1-i):=by
 rw[List.getElem?_reverse (by simpa using h),List.length_range,List.getElem?_range (by lia)]
theorem S3 {X:List Nat} {G i:Nat} (h:i<G):fP X G (i+1)=jK X (fP X G i) (G-1-i):=by
 unfold fP
 rw[List.take_succ,JW h,List.foldl_append];rfl
theorem K9 (X:List Nat) (G:Nat):fP X G G=dE X G:=by
 unfold fP dE
 rw[List.take_of_length_le (by simp)]
def QJ (K:PySem.W.Frag) (C:Addr):Sp:=fun vs H Q _=> ∃(q r:Addr) (F:List Nat) (a b:Nat),vs= [.int a, .int b, .ref q, .ref r]∧ae K H q (vN F)∧gK K H r (kb F)∧(a≤b∧b≤F.length∧F.length≤1024)∧
 ∀x H',H x=none→ah H H'→dk C H' x (iy F (aF F) a b)→Q (.ref x) H'
theorem iA:aM ["first", "last", "folded", "sums", "count", "v", "g", "bits", "lower", "lower_bits"] ["first", "last", "folded", "sums"] (aG AE):=⟨rfl,rfl,rfl,by decide+kernel,rfl,by decide+kernel,by decide+kernel⟩
theorem DE {F:List Nat} {g t:Nat} (h:t≤F.length):(vN (iz F g))[t]?=some (.int (b6 F g t:Nat)):=by
 have hl:t<(iz F g).length:=by simp [iz];lia
 rw[gg hl]
 congr 3
 unfold iz
 rw[List.getD_eq_getElem?_getD,List.getElem?_map,List.getElem?_range (by lia)];rfl
theorem N5 (T:Txt K mg A):aC P w K mg base aO 3 A.lJ A.oV ["first", "last", "folded", "sums"] (QJ K A.bK):=by
 refine T.C3.ok iA (fun vs H Q E h=>?_) (fun cdv Ar outer s H vs Q E hr h=>?_)
 ·obtain ⟨q,r,F,a,b,rfl,_⟩:=h
  rfl
 ·obtain ⟨q,r,F,a,b,rfl,hq,hR,⟨h1,h2,h3⟩,k⟩:=h
  refine ⟨_,ak (aI (i:=4) iA.nd rfl (Or.inl rfl) (aq cc (pv 1) (pv 0)))
   (ak (aI (i:=5) iA.nd rfl (Or.inl rfl) (xA PySem.F.plainAttrs_int PyProof.Rows.slot_int_bit_length PyProof.Rows.type_int_bit_length xT (zC rfl rfl T.r8 (j8 jF (pv 2) (fq (pv 0)) (fq (pv 1))))))
   (ak (aI (i:=6) iA.nd rfl (Or.inl rfl) (aY rfl T.tV))
   (ak (aI (i:=7) iA.nd rfl (Or.inl rfl) (aq bE au (aq eE (pv 4) (pv 5))))
   (ak (cv PassesOwn.never rfl (jM rfl T.dt (aa (aq cc (bf bU (by rfl) T.bW PySem.boot_len (aa (pv 3) ag)) au) (aa (dB dz au) (aa (dB dz au) ag)))) (aT (i:=8) iA.nd rfl (Or.inl rfl))
    (ak (aI (i:=9) iA.nd rfl (Or.inl rfl) (aq cc (aq bE (aq bE au (aq eE (pv 4) (aq bE (pv 8) au))) (bS eN (bS eN (pv 3) (pv 8) (fun _ _=>rfl)) (pv 1) (fun _ _=>rfl))) (bS eN (bS eN (pv 3) (pv 8) (fun _ _=>rfl)) (pv 0) (fun _ _=>rfl))))
    (aw (bN (bO gI (pv 9) (pv 7) (bo _)) (ak (aI (i:=6) iA.nd rfl (Or.inl rfl) (pv 8)) (aw (aI (i:=7) iA.nd rfl (Or.inl rfl) (pv 9)))) bX))))
   (aw (aS (eJ T.AO (Ma T) hr rfl T.Us T.Uh .nil ay (aa (pv 0) (aa (pv 1) (aa (pv 6) (aa (pv 5) (aa (pv 7) ag))))))))))))
   ,?_⟩
  have e62:(2:Int)^62=4611686018427387904:=by decide
  refine ⟨_,rfl,_,rfl,af _ _ ⟨rfl,rfl,?_⟩⟩
  refine ⟨_,rfl,_,rfl,_,rfl,_,rfl,_,rfl,af q _ ⟨rfl,hq,fun ps hps=>?_⟩⟩
  rw[Ql h1 h2]
  have s1:ah H (upd H ps (.lst (vN (slice F a b)))):=aQ hps
  refine ⟨ps,slice F a b,rfl,ae.of ao,rfl,_,rfl,rfl,?_⟩
  rw[tW]
  have hX:(slice F a b).length=b-a:=Iz h2
  have eba:(b:Int)-(a:Int)=(((slice F a b).length:Nat):Int):=by lia
  refine ⟨_,rfl,_,rfl,af _ _ ⟨rfl,rfl, .inl ⟨by lia,by lia⟩,af _ _ ⟨rfl,rfl,?_⟩⟩⟩
  obtain ⟨as,r1,r2,r3⟩:=id (hR.same s1)
  rw[Ap] at r2
  have hg31:=rf (F:=F)
  refine ⟨_,rfl,af r _ ⟨rfl, .inl r1,af _ _ ⟨rfl,rfl,_,rfl,_,rfl,az _ _ _ _ ⟨rfl,gG.neg (by rw[List.length_map];lia) (by rw[List.length_map];lia) (by lia) (by lia),?_⟩⟩⟩⟩
  have en:((((as.map V.ref).length:Nat):Int)-1- -1).toNat=aF F:=by rw[List.length_map,r2];lia
  rw[en]
  refine yw (lo:=(((as.map V.ref).length:Nat):Int)-1) (c:= -1) (n:=aF F) (fun i σ H'=>H'=upd H ps (.lst (vN (slice F a b)))∧ ∃v8 v9:Option V,σ= [some (.int a),some (.int b),some (.ref q),some (.ref r),some (.int ((b:Int)-a)),some (.int (bl (bG (slice F a b)):Nat)),some (.int ((fP (slice F a b) (aF F) i).1:Nat)),some (.int ((fP (slice F a b) (aF F) i).2:Nat)),v8,v9])
   ⟨rfl,none,none,?_⟩ ?_ ?_
  ·show [some (V.int a),some (V.int b),some (V.ref q),some (V.ref r),some (V.int ((b:Int)-a)),some (V.int (bl (bG (slice F a b)):Nat)),some (V.int 31),some (V.int (11+((b:Int)-a)*(bl (bG (slice F a b)):Nat))),none,none]=_
   have:(11+((b:Int)-a)*(bl (bG (slice F a b)):Nat))=((fP (slice F a b) (aF F) 0).2:Nat):=by
    rw[eba]
    show _=((11+(slice F a b).length*bl (bG (slice F a b)):Nat):Int)
    rw[Int.natCast_add,Int.natCast_mul];rfl
   rw[this]
   rfl
  ·rintro i σ H' hi ⟨rfl,v8,v9,rfl⟩
   have elo:(((as.map V.ref).length:Nat):Int)-1+(i:Nat)*(-1)=((aF F-1-i:Nat):Int):=by rw[List.length_map,r2];lia
   rw[elo]
   have hlo:aF F-1-i<aF F:=by lia
   obtain ⟨al,hal⟩: ∃al,as[aF F-1-i]?=some al:=⟨_,List.getElem?_eq_getElem (by lia)⟩
   have hsl:=r3 _ _ hal
   rw[y8 hlo] at hsl
   have at1:gq (as.map V.ref) ((aF F-1-i:Nat):Int)=some (V.ref al):=bP (by rw[List.getElem?_map,hal];rfl)
   refine ⟨_,rfl,_,rfl,_,_,rfl,rfl,_,_,rfl,rfl, .inl ⟨by lia,by lia⟩,_,_,rfl,rfl,_,rfl,_,rfl,r,_,_,_,rfl,rfl,r1,at1,_,rfl,al,_,_,_,rfl,rfl,hsl,bP (DE h2),_,_,rfl,rfl,
    _,rfl,_,rfl,r,_,_,_,rfl,rfl,r1,at1,_,rfl,al,_,_,_,rfl,rfl,hsl,bP (DE (by lia)),_,_,rfl,rfl,?_⟩
   have ecost:5+((b:Int)-a)*(((aF F-1-i:Nat):Int)+1)+((b6 F (aF F-1-i) b:Nat):Int)-((b6 F (aF F-1-i) a:Nat):Int)=((cost (slice F a b) (aF F-1-i):Nat):Int):=by
    rw[eba,Lv h1 h2]
    unfold cost
    generalize aF F-1-i=lw
    push_cast
    lia
   refine ⟨_,rfl,_,rfl,af _ _ ⟨rfl,rfl,_,rfl,?_⟩⟩
   have hst:=S3 (X:=slice F a b) hi
   refine cP (fun hc=>?_) (fun hc=>?_)
   ·have hc:5+((b:Int)-a)*(((aF F-1-i:Nat):Int)+1)+((b6 F (aF F-1-i) b:Nat):Int)-((b6 F (aF F-1-i) a:Nat):Int)≤((fP (slice F a b) (aF F) i).2:Nat):=of_decide_eq_true hc
    rw[ecost] at hc
    refine ⟨_,rfl,_,rfl,rfl,some (.int ((aF F-1-i:Nat):Int)),some (.int ((cost (slice F a b) (aF F-1-i):Nat):Int)),?_⟩
    show [some (V.int a),some (V.int b),some (V.ref q),some (V.ref r),some (V.int ((b:Int)-a)),some (V.int (bl (bG (slice F a b)):Nat)),some (V.int ((aF F-1-i:Nat):Int)),some (V.int (5+((b:Int)-a)*(((aF F-1-i:Nat):Int)+1)+((b6 F (aF F-1-i) b:Nat):Int)-((b6 F (aF F-1-i) a:Nat):Int))),some (V.int ((aF F-1-i:Nat):Int)),some (V.int (5+((b:Int)-a)*(((aF F-1-i:Nat):Int)+1)+((b6 F (aF F-1-i) b:Nat):Int)-((b6 F (aF F-1-i) a:Nat):Int)))]=_
    rw[ecost,hst]
    unfold jK
    rw[if_pos (by lia)]
   ·have hc: ¬(5+((b:Int)-a)*(((aF F-1-i:Nat):Int)+1)+((b6 F (aF F-1-i) b:Nat):Int)-((b6 F (aF F-1-i) a:Nat):Int)≤((fP (slice F a b) (aF F) i).2:Nat)):=fun z=>hc (decide_eq_true z)
    rw[ecost] at hc
    refine ⟨rfl,some (.int ((aF F-1-i:Nat):Int)),some (.int ((cost (slice F a b) (aF F-1-i):Nat):Int)),?_⟩
    show [some (V.int a),some (V.int b),some (V.ref q),some (V.ref r),some (V.int ((b:Int)-a)),some (V.int (bl (bG (slice F a b)):Nat)),some (V.int ((fP (slice F a b) (aF F) i).1:Nat)),some (V.int ((fP (slice F a b) (aF F) i).2:Nat)),some (V.int ((aF F-1-i:Nat):Int)),some (V.int (5+((b:Int)-a)*(((aF F-1-i:Nat):Int)+1)+((b6 F (aF F-1-i) b:Nat):Int)-((b6 F (aF F-1-i) a:Nat):Int)))]=_
    rw[ecost,hst]
    unfold jK
    rw[if_neg (by lia)]
  ·rintro σ H' ⟨rfl,v8,v9,rfl⟩
   rw[K9]
   refine ⟨_,rfl,_,rfl,_,rfl,_,rfl,_,rfl,?_⟩
   intro x dx hx hdx hne
   refine (qi x dx _ _ _ _ _ ⟨rfl,ao,rfl,?_⟩)
   rw[gL]
   exact k x _ (s1.free hx) (s1.trans (dG hx hdx)) ⟨dx,ao⟩
def kG (K:PySem.W.Frag) (C:Addr) (H:Hp) (D:Addr) (gs:List GW):Prop:= ∃as:List Addr,H D=some (.lst (as.map V.ref))∧as.length=gs.length∧ ∀(k:Nat) (a:Addr) (g:GW),as[k]?=some a→gs[k]?=some g→dk C H a g
theorem kG.same {C:Addr} {H H':Hp} {D:Addr} {gs:List GW} (s:ah H H') (h:kG K C H D gs):kG K C H' D gs:=by
 obtain ⟨as,h1,h2,h3⟩:=h
 exact ⟨as,s _ _ h1,h2,fun k a g e1 e2=>(h3 k a g e1 e2).same s⟩
def my (r g b:V):List (Str×V):= [("r",r),("groups",g),("bits",b)]
theorem Rv (r g b:V):aJ "bits" b (aJ "groups" g (aJ "r" r []))=my r g b:=by
 have e1:aJ "r" r []= [(("r" :Str),r)]:=rfl
 rw[e1]
 have n1: ¬("r" :Str)= "groups" :=by decide
 have n2: ¬("r" :Str)= "bits" :=by decide
 have n3: ¬("groups" :Str)= "bits" :=by decide
 simp only [aJ,if_neg n1,if_neg n2,if_neg n3]
 rfl
theorem vi (r g b:V):(my r g b).lookup ("bits" :Str)=some b:=rfl
def cY (K:PySem.W.Frag) (Cr Cg:Addr) (H:Hp) (x:Addr) (q:RW):Prop:= ∃dx p,H x=some (.ins Cr dx (my (.int q.r) (.ref p) (.int q.bits)))∧kG K Cg H p q.groups
theorem cY.same {Cr Cg:Addr} {H H':Hp} {x:Addr} {q:RW} (s:ah H H') (h:cY K Cr Cg H x q):cY K Cr Cg H' x q:=by
 obtain ⟨dx,p,h1,h2⟩:=h
 exact ⟨dx,p,s _ _ h1,h2.same s⟩
def G7 (K:PySem.W.Frag) (Cr Cg:Addr):Sp:=fun vs H Q _=> ∃(p dx ga:Addr) (r:Nat) (gs:List GW),vs= [.ref p, .int r, .ref ga]∧H p=some (.ins Cr dx [])∧kG K Cg H ga gs∧ga≠p∧Cg≠Cr∧gs.length≤1024∧
 ∀H',(∀b o,H b=some o→b≠p→H' b=some o)→H' p=some (.ins Cr dx (my (.int r) (.ref ga) (.int ((3+(gs.map GW.bits).sum:Nat):Int))))→Q .aD H'
theorem P6 (g:GW):(sA g.first g.last g.g g.v g.bits).lookup ("bits" :Str)=some (.int g.bits):=rfl
theorem L9 {H:Hp} {p:Addr} {o:HO} {xs:List V} {ga:Addr} (hne:ga≠p) (h:ae K H ga xs):ae K (upd H p o) ga xs:=by
 rcases h with (h|⟨ob,h⟩)|h
 ·exact .inl (.inl (by rw[aB hne];exact h))
 ·exact .inl (.inr ⟨ob,by rw[aB hne];exact h⟩)
 ·exact .inr h
theorem uK:aM ["self", "r", "groups", "group"] ["self", "r", "groups"] (aG CO):=⟨rfl,rfl,rfl,by decide+kernel,rfl,by decide+kernel,by decide+kernel⟩
theorem Qn (T:Txt K mg A):aC P w K mg base aO 1 A.ky A.oq ["self", "r", "groups"] (G7 K A.cq A.bK):=by
 refine T.DD.ok uK (fun vs H Q E h=>?_) (fun cdv Ar outer s H vs Q E hr h=>?_)
 ·obtain ⟨p,dx,ga,r,gs,rfl,_⟩:=h
  rfl
 ·obtain ⟨p,dx,ga,r,gs,rfl,hp,⟨as,g1,g2,g3⟩,hne,hCC,hl,k⟩:=h
  refine ⟨_,ak (bh (pv 0) (pv 1) rfl) (ak (bh (pv 0) (pv 2) rfl) (aw (bh (pv 0) (aq bE au (bf (xK rfl) rfl T.vj (by decide+kernel:bootBuiltins "sum" =some (.builtin "sum"))
   (aa (cw (own:= [("group",3)]) rfl uK.nd (cg (pv 2)) (b5 (by kernel_rfl)) (fun _ _ _ _ _=>aT (i:=3) uK.nd rfl (Or.inl rfl)) (fun _ _ _ _ _=>bZ) (fun _ _ _ _ _=>qV (K:=K) rfl (pv 3) rfl)) ag))) rfl))),?_⟩
  have f1:(aJ "r" (.int r) []).length≤1:=jj _ _ _
  have f2:(aJ "groups" (.ref ga) (aJ "r" (.int r) [])).length≤2:=Nat.le_trans (jj _ _ _) (by lia)
  refine ⟨_,rfl,_,rfl,az p A.cq dx _ ⟨rfl,hp,T.i4,T.C1,(by show 0<1000;decide),?_⟩⟩
  refine ⟨_,rfl,_,rfl,az p A.cq dx _ ⟨rfl,ao,T.i4,T.GJ,by lia,?_⟩⟩
  rw[b7]
  have g1':=L9 (p:=p) (o:= .ins A.cq dx (aJ "groups" (.ref ga) (aJ "r" (.int r) []))) hne (ae.of (K:=K) g1)
  refine ⟨_,rfl,ga,rfl,⟨_,g1'⟩,fun D hD=>?_⟩
  have hlen:(as.map V.ref).length=gs.length:=by rw[List.length_map,g2]
  have hget: ∀i,i<gs.length→ ∃a g,as[i]?=some a∧gs[i]?=some g∧dk A.bK H a g:=fun i hi=>
   ⟨as[i]'(by lia),gs[i],List.getElem?_eq_getElem (by lia),List.getElem?_eq_getElem hi,g3 i _ _ (List.getElem?_eq_getElem (by lia)) (List.getElem?_eq_getElem hi)⟩
  refine cC (J:=dH K ga) hD gs.length (by rw[sizeLine_eq];lia) (fun i=> .int ((((gs.map GW.bits).getD i 0:Nat):Int))) (fun i Hh hi s1=>⟨_,_,s1.seq g1',List.getElem?_eq_getElem (by lia)⟩) (fun Hh s1=>⟨_,s1.seq g1',by lia⟩) ?_ ?_
  ·rintro i Hh x H' hi s1 ⟨rfl,hx⟩ C hC
   obtain ⟨a,g,e1,e2,dg,hg⟩:=hget i hi
   have hx:=hx _ (s1.seq g1')
   rw[List.getElem?_map,e1] at hx
   cases hx
   have hap:a≠p:=by
    intro e
    rw[e,hp] at hg
    injection hg with hg
    injection hg with hg
    exact hCC hg.symm
   refine ⟨rfl,_,rfl,a,A.bK,dg,_,_,rfl,s1 _ _ (by rw[aB hap];exact hg),T.dY,T.Gf,P6 g,?_⟩
   have:(gs.map GW.bits).getD i 0=g.bits:=by rw[List.getD_eq_getElem?_getD,List.getElem?_map,e2];rfl
   have q:=hC H' (ah.refl _)
   rw[this] at q
   exact q
  ·intro Hh s1 hx
   have ev:(List.range gs.length).map (fun i=>V.int ((((gs.map GW.bits).getD i 0:Nat):Int)))=((gs.map GW.bits).map fun (n:Nat)=>(n:Int)).map V.int:=by
    refine List.ext_getElem (by simp) fun i h1 h2=>?_
    have hi:i<(gs.map GW.bits).length:=by simpa using h2
    simp [List.getD_eq_getElem?_getD,List.getElem?_eq_getElem (show i<gs.length by simpa using hi)]
   rw[ev] at hx
   have hps:Hh p=some (.ins A.cq dx (aJ "groups" (.ref ga) (aJ "r" (.int r) []))):=s1 _ _ ao
   have esum: ∀l:List Nat,(l.map fun (n:Nat)=>(n:Int)).sum=((l.sum:Nat):Int):=fun l=>by
    induction l with
    |nil=>rfl
    |cons x l ih=>rw[List.map_cons,List.sum_cons,List.sum_cons,ih];lia
   refine (af D _ ⟨rfl,ae.of hx,af _ _ ⟨rfl,rfl,_,rfl,az p A.cq dx _ ⟨rfl,hps,T.i4,T.rF,by lia,?_⟩⟩⟩)
   rw[Rv,esum]
   refine k _ (fun b o e hb=>?_) ?_
   ·rw[aB hb]
    exact s1 _ _ (by rw[aB hb];exact e)
   ·rw[ao]
    congr 3
theorem Kw {i j c:Int} {m:Nat} (hi:0≤i) (hi2:i<4096) (hj:0≤j) (hj2:j<4096) (hc:0<c) (hc2:c<4096) (hm:Builtin.Range.rangeSize i j c=m) (hm2:m≤4096):gG i j c m:=by
 refine ⟨by lia,by lia,?_,hm⟩
 unfold Builtin.Range.small
 rw[hm]
 simp only [Builtin.Range.rangeFitsLong,Bool.and_eq_true,Bool.or_eq_true,decide_eq_true_eq,beq_iff_eq,show c>0 from hc,if_true]
 lia
theorem dk.upd {C:Addr} {H:Hp} {x D:Addr} {g:GW} {xs:List V} {o:HO} (h:dk C H x g) (hD:H D=some (.lst xs)):dk C (upd H D o) x g:=by
 obtain ⟨dx,h⟩:=h
 have:x≠D:=bV h hD (by intro e;cases e)
 exact ⟨dx,by rw[aB this];exact h⟩
def RE (K:PySem.W.Frag) (C:Addr):Sp:=fun vs H Q _=> ∃(q sm:Addr) (F:List Nat) (n p r:Nat),vs= [.int n, .int p, .int r, .ref q, .ref sm]∧ae K H q (vN F)∧gK K H sm (kb F)∧di n p r=true∧F.length+p=n∧(1≤n∧n≤1024)∧
 ∀D H',H D=none→ah H H'→kG K C H' D (ft n p r F (aF F))→Q (.ref D) H'
theorem kY:aM ["n", "order", "r", "folded", "sums", "size", "groups", "first", "last"] ["n", "order", "r", "folded", "sums"] (aG BC):=⟨rfl,rfl,rfl,by decide+kernel,rfl,by decide+kernel,by decide+kernel⟩
theorem MY (T:Txt K mg A):aC P w K mg base aO 4 A.qW A.oQ ["n", "order", "r", "folded", "sums"] (RE K A.bK):=by
 refine T.A8.ok kY (fun vs H Q E h=>?_) (fun cdv Ar outer s H vs Q E hr h=>?_)
 ·obtain ⟨q,sm,F,n,p,r,rfl,_⟩:=h
  rfl
 ·obtain ⟨q,sm,F,n,p,r,rfl,hq,hR,hcs,hF,⟨hn1,hn2⟩,k⟩:=h
  refine ⟨_,ak (aI (i:=5) kY.nd rfl (Or.inl rfl) (aq fg (pv 0) (pv 2))) (ak (aI (i:=6) kY.nd rfl (Or.inl rfl) (b9 ag)) (ak (aI (i:=7) kY.nd rfl (Or.inl rfl) au)
   (ak (cv PassesOwn.never rfl (jM rfl T.dt (aa (aq cc (pv 5) (pv 1)) (aa (aq bE (aq cc (pv 0) (pv 1)) au) (aa (pv 5) ag)))) (aT (i:=8) kY.nd rfl (Or.inl rfl))
    (ak (ba (ig PySem.F.plainAttrs_list PySem.F.slot_list_append PySem.F.type_list_append lL (pv 6) (aa (aN (N5 T) hr rfl T.QT T.C3.kp T.MM .nil ay (aa (pv 7) (aa (pv 8) (aa (pv 3) (aa (pv 4) ag))))) ag)))
    (aw (aI (i:=7) kY.nd rfl (Or.inl rfl) (pv 8)))))
   (aw (aS (pv 6)))))),?_⟩
  unfold di at hcs
  simp only [Bool.and_eq_true,decide_eq_true_eq] at hcs
  obtain ⟨hr6,hsz,hpz⟩:=hcs
  have esz:((n:Int)/2^(r:Int).toNat)=((n/2^r:Nat):Int):=by rw[Int.toNat_natCast];simp
  generalize hz:n/2^r=sz at*
  have hm0:0<2^r:=Nat.two_pow_pos r
  have hm64:2^r≤64:=Nat.le_trans (Nat.pow_le_pow_right (by decide) hr6) (by decide)
  have hfl: ∀i,firstOf n p r i=if i=0 then 0 else i*sz-p:=fun i=>by unfold firstOf;rw[hz]
  have hll: ∀i,lastOf n p r i=(i+1)*sz-p:=fun i=>by unfold lastOf;rw[hz]
  unfold ft at k
  generalize hm:2^r=m at*
  have hszp:0<sz:=by
   rcases Nat.eq_zero_or_pos sz with e|e
   ·rw[e,Nat.zero_mul] at hsz;lia
   ·exact e
  have hszn:sz≤n:=by
   have:sz*1≤sz*m:=Nat.mul_le_mul_left sz hm0
   lia
  refine ⟨_,rfl,_,rfl,af _ _ ⟨rfl,rfl,(by lia),?_⟩⟩
  dsimp only
  rw[esz]
  refine ⟨Nat.zero_le _,fun D hD=>?_⟩
  have s0:ah H (upd H D (.lst [])):=aQ hD
  have hrs:Builtin.Range.rangeSize ((sz:Int)-p) ((n:Int)-p+1) (sz:Int)=(m:Nat):=by
   unfold Builtin.Range.rangeSize
   rw[if_pos (by lia),if_pos (by lia)]
   have e1:(n:Int)-p+1-((sz:Int)-p)-1=(sz:Int)*((m:Int)-1):=by
    rw[Int.mul_sub,Int.mul_one,←Int.natCast_mul,hsz];lia
   rw[e1,Int.mul_ediv_cancel_left _ (by lia)]
   lia
  refine ⟨_,rfl,_,rfl,af _ _ ⟨rfl,rfl,_,rfl,_,rfl,af _ _ ⟨rfl,rfl,af _ _ ⟨rfl,rfl,_,rfl,az _ _ _ m ⟨rfl,Kw (by lia) (by lia) (by lia) (by lia) (by lia) (by lia) hrs (by lia),?_⟩⟩⟩⟩⟩
  refine yw (lo:=(sz:Int)-p) (c:=(sz:Int)) (n:=m) (fun i σ H'=> ∃(v8:Option V) (as:List Addr),σ= [some (.int n),some (.int p),some (.int r),some (.ref q),some (.ref sm),some (.int (sz:Nat)),some (.ref D),some (.int (firstOf n p r i:Nat)),v8]∧ah H H'∧H' D=some (.lst (as.map V.ref))∧as.length=i∧ ∀(j:Nat) (a:Addr),as[j]?=some a→dk A.bK H' a (iy F (aF F) (firstOf n p r j) (lastOf n p r j)))
   ⟨none, [],rfl,s0,ao,rfl,fun j a e=>by simp at e⟩ ?_ ?_
  ·rintro i σ H' hi ⟨v8,as,rfl,s1,hx,hl,hg⟩
   have hi1:(i+1)*sz≤m*sz:=Nat.mul_le_mul_right sz hi
   have e1:(i+1)*sz=i*sz+sz:=by rw[Nat.add_mul,Nat.one_mul]
   have hms:m*sz=n:=by rw[Nat.mul_comm];exact hsz
   have elast:(sz:Int)-p+(i:Nat)*(sz:Int)=((lastOf n p r i:Nat):Int):=by
    rw[hll,←Int.natCast_mul];lia
   rw[elast]
   have hfle:firstOf n p r i≤lastOf n p r i:=by
    rw[hfl,hll]
    split
    ·exact Nat.zero_le _
    ·lia
   have hlF:lastOf n p r i≤F.length:=by rw[hll];lia
   refine ⟨_,rfl, .inl ⟨rfl,_,ae.of hx⟩,_,rfl,_,rfl,_,rfl,_,rfl,q,sm,F,firstOf n p r i,lastOf n p r i,rfl,s1.seq hq,hR.same s1,⟨hfle,hlF,by lia⟩,fun x H5 hx5 s5 hg5=>?_⟩
   have hD5:=s5 _ _ hx
   refine (b8 D _ _ ⟨rfl,rfl,hD5,(by rw[List.length_map,sizeLine_eq];lia),_,rfl,some (.int (lastOf n p r i:Nat)),as++ [x],?_,eO (s1.trans s5) hD,?_,by rw[List.length_append,hl];rfl,fun j a e=>?_⟩)
   ·have:firstOf n p r (i+1)=lastOf n p r i:=by rw[hfl,hll,if_neg (by lia)]
    rw[this];rfl
   ·rw[ao,List.map_append];rfl
   ·by_cases hj:j<as.length
    ·rw[List.getElem?_append_left hj] at e
     exact ((hg j a e).same s5).upd hD5
    ·rw[List.getElem?_append_right (by lia)] at e
     have hj0:j-as.length=0:=by
      have:=(List.getElem?_eq_some_iff.mp e).1
      simp at this;lia
     rw[hj0] at e
     have e:=Option.some.inj e
     subst e
     have:j=i:=by lia
     subst this
     exact hg5.upd hD5
  ·rintro σ H' ⟨v8,as,rfl,s1,hx,hl,hg⟩
   refine ⟨_,rfl,k D H' hD s1 ⟨as,hx,by rw[List.length_map,List.length_range,hl],fun j a g e1 e2=>?_⟩⟩
   rw[List.getElem?_map] at e2
   have hj:j<m:=by have:=(List.getElem?_eq_some_iff.mp e1).1;lia
   rw[List.getElem?_range hj] at e2
   cases e2
   exact hg j a e1
theorem KG (T:Txt K mg A):A.bK≠A.cq:=by
 intro e
 have h1:=T.AO.init
 have h2:=T.DA.init
 rw[e,h2] at h1
 have hf:A.ky=A.kT:=by
  injection h1 with h1
  injection h1 with h1
  injection h1
 obtain ⟨oc,od,kV,doc,pm,an,cdv,ct,osl,e1,l1,_⟩:=T.DD.ex
 obtain ⟨oc',od',kV',doc',pm',an',cdv',ct',osl',e2,l2,_⟩:=T.Et.ex
 rw[hf,l2] at l1
 injection l1 with l1
 injection l1 with _ _ l1 _
 injection l1 with l1
 rw[e1,e2] at l1
 have z:(Str.ofString "GroupWay.__init__")=Str.ofString "RestsWay.__init__" :=congrArg FuncData.qualname l1
 exact absurd z (by decide)
def iK (n p:Nat) (F:List Nat) (i:Nat):Option RW:=((List.range 7).take i).foldl (eG n p F) none
theorem R7 {n p:Nat} {F:List Nat} {i:Nat} (h:i<7):iK n p F (i+1)=eG n p F (iK n p F i) i:=by
 unfold iK
 rw[List.take_succ,List.getElem?_range h,List.foldl_append];rfl
theorem S4 (n p:Nat) (F:List Nat):iK n p F 7=fA n p F:=rfl
def tq (K:PySem.W.Frag) (Cr Cg:Addr) (H:Hp):Option RW→V→Prop
 |none,v=>v= .aD
 |some q,v=> ∃x,v= .ref x∧cY K Cr Cg H x q
theorem tq.same {Cr Cg:Addr} {H H':Hp} {o:Option RW} {v:V} (s:ah H H') (h:tq K Cr Cg H o v):tq K Cr Cg H' o v:=by
 cases o with
 |none=>exact h
 |some q=>
  obtain ⟨x,e,h⟩:=h
  exact ⟨x,e,h.same s⟩
def Kh (K:PySem.W.Frag) (Cr Cg:Addr):Sp:=fun vs H Q _=> ∃(q:Addr) (es:List Int) (n p:Nat),vs= [.int n, .int p, .ref q]∧ae K H q (es.map V.int)∧es.length+p=n∧(1≤n∧n≤1024)∧
 ∀rw_ x H',fA n p (es.map Sound.fold)=some rw_→ah H H'→cY K Cr Cg H' x rw_→Q (.ref x) H'
theorem jg:aM ["n", "order", "rests", "folded", "sums", "least", "r", "way", "rest"] ["n", "order", "rests"] (aG Bt):=⟨rfl,rfl,rfl,by decide+kernel,rfl,by decide+kernel,by decide+kernel⟩
theorem Ny (T:Txt K mg A):aC P w K mg base aO 5 A.lG A.nr ["n", "order", "rests"] (Kh K A.cq A.bK):=by
 refine T.Fx.ok jg (fun vs H Q E h=>?_) (fun cdv Ar outer s H vs Q E hr h=>?_)
 ·obtain ⟨q,es,n,p,rfl,_⟩:=h
  rfl
 ·obtain ⟨q,es,n,p,rfl,hq,hes,⟨hn1,hn2⟩,k⟩:=h
  have hr1:aR 1 _:=hr.mono (by decide)
  have hr2:aR 2 _:=hr.mono (by decide)
  refine ⟨_,ak (xu (i:=3) (own:= [("rest",8)]) rfl jg.nd rfl rfl rfl (cg (pv 2)) (b5 (by kernel_rfl)) (fun _ _ _ _ _=>aT (i:=8) jg.nd rfl (Or.inl rfl)) (fun _ _ _ _ _=>bZ)
    (fun _ _ _ _ _=>aN (As T) hr1 rfl T.GD T.xX.kp T.FC .nil ay (aa (pv 8) ag)))
   (ak (aI (i:=4) jg.nd rfl (Or.inl rfl) (aN (LS T) hr2 rfl T.P7 T.F0.kp T.SI .nil ay (aa (pv 3) ag)))
   (ak (aI (i:=5) jg.nd rfl (Or.inl rfl) gQ)
   (ak (cv PassesOwn.never rfl (jh rfl T.dt (aa (aq bE (aY rfl T.CP) au) ag)) (aT (i:=6) jg.nd rfl (Or.inl rfl))
    (aw (bN (jl (aN (Tt T) hr1 rfl T.TK T.EX.kp T.K5 .nil ay (aa (pv 0) (aa (pv 1) (aa (pv 6) ag)))))
     (ak (aI (i:=7) jg.nd rfl (Or.inl rfl) (eJ T.DA (Qn T) hr2 rfl T.M6 T.SF .nil ay (aa (pv 6) (aa (aN (MY T) hr rfl T.MV T.A8.kp T.Od .nil ay (aa (pv 0) (aa (pv 1) (aa (pv 6) (aa (pv 3) (aa (pv 4) ag)))))) ag))))
     (aw (bN (tE (rV (vA (pv 5))) (sW (bO jt (aA (pv 7) rfl) (aA (pv 5) rfl) (bo _)))).pt (aw (aI (i:=5) jg.nd rfl (Or.inl rfl) (pv 7))) bX))) bX)))
   (aw (aS (pv 5)))))),?_⟩
  have e62:(2:Int)^62=4611686018427387904:=by decide
  refine ⟨_,rfl,q,rfl,⟨_,hq⟩,fun D hD=>?_⟩
  refine cC (J:=dH K q) hD es.length (by rw[sizeLine_eq];lia) (fun i=> .int ((Sound.fold (es.getD i 0):Nat):Int)) (fun i Hh hi s1=>⟨_,_,s1.seq hq,cK hi⟩) (fun Hh s1=>⟨_,s1.seq hq,by simp⟩) ?_ ?_
  ·rintro i Hh x H' hi s1 ⟨rfl,hx⟩ C hC
   obtain ⟨rfl,_⟩:=dU (hx _ (s1.seq hq))
   exact ⟨rfl,_,rfl,_,rfl,hC _ (ah.refl _)⟩
  intro H1 s1 hx1
  have ev:(List.range es.length).map (fun i=>V.int ((Sound.fold (es.getD i 0):Nat):Int))=vN (es.map Sound.fold):=by
   unfold vN
   rw[List.map_map]
   refine List.ext_getElem (by simp) fun i h1 h2=>?_
   have hi:i<es.length:=by simpa using h2
   simp [List.getD_eq_getElem?_getD,List.getElem?_eq_getElem hi]
  rw[ev] at hx1
  have hFl:(es.map Sound.fold).length+p=n:=by rw[List.length_map];exact hes
  generalize es.map Sound.fold=F at hx1 hFl k
  refine ⟨_,rfl,af D F ⟨rfl,ae.of hx1,by lia,fun S H2 hS s2 hR2=>?_⟩⟩
  have hq2:ae K H2 D (vN F):=s2.seq (ae.of hx1)
  refine (af _ _ ⟨rfl,rfl,_,rfl,by lia,by lia,?_⟩)
  refine jE (lo:=0) (n:=7) (fun i σ H'=> ∃(v5:V) (v6 v7 v8:Option V),σ= [some (.int n),some (.int p),some (.ref q),some (.ref D),some (.ref S),some v5,v6,v7,v8]∧ah H2 H'∧tq K A.cq A.bK H' (iK n p F i) v5)
   ⟨.aD,none,none,none,rfl,ah.refl _,rfl⟩ ?_ ?_
  ·rintro i σ H3 hi ⟨v5,v6,v7,v8,rfl,s3,hL⟩
   rw[Int.zero_add]
   have hacc:=R7 (n:=n) (p:=p) (F:=F) hi
   refine ⟨_,rfl,_,rfl,_,rfl,b8 n p i ⟨rfl,⟨hn2,by lia⟩,_,rfl,?_⟩⟩
   refine cP (fun hc=>?_) fun hc=>?_
   ·refine ⟨_,rfl,_,rfl,_,rfl,_,rfl,_,rfl,_,rfl,uO D S F n p i ⟨rfl,s3.seq hq2,hR2.same s3,hc,hFl,⟨hn1,hn2⟩,fun gD H4 hgD s4 hG=>?_⟩⟩
    intro x dx hx hdx hne
    have sm:ah H4 (upd (upd H4 dx (.own x)) x (.ins A.cq dx [])):=dG hx hdx
    have hgx:gD≠x:=by
     obtain ⟨as,g1,_⟩:=hG
     exact bD g1 hx
    have hgl:(ft n p i F (aF F)).length≤1024:=by
     unfold ft
     rw[List.length_map,List.length_range]
     exact Nat.le_trans (Nat.pow_le_pow_right (by decide) (show i≤6 by lia)) (by decide)
    refine (fT x dx gD i _ ⟨rfl,ao,hG.same sm,hgx,KG T,hgl,fun H5 kp hx5=>⟨rfl,?_⟩⟩)
    have s45:ah H4 H5:=ah.made hx hdx kp
    have s35:ah H3 H5:=s4.trans s45
    have hnew:cY K A.cq A.bK H5 x (dO n p i F (aF F)):=⟨dx,gD,hx5,hG.same s45⟩
    have hL5:=hL.same s35
    have hlr:eG n p F (iK n p F i) i=match iK n p F i with
     |none=>some (dO n p i F (aF F))
     |some l=>if (dO n p i F (aF F)).bits<l.bits then some (dO n p i F (aF F)) else some l:=by
     unfold eG
     rw[if_pos hc]
     all_goals (cases iK n p F i<;>rfl)
    cases hA:iK n p F i with
    |none=>
     rw[hA] at hL5 hlr
     cases (show v5=V.aD from hL5)
     refine ⟨_,rfl,_,rfl,bx (bx ?_)⟩
     refine ⟨_,rfl,az (.ref x) _ _ _ ⟨rfl,s3.trans s35,?_⟩⟩
     rw[hacc,hA,hlr]
     exact ⟨x,rfl,hnew⟩
    |some q0=>
     rw[hA] at hL5 hlr
     obtain ⟨x0,rfl,h0⟩:=hL5
     obtain ⟨dx0,p0,h01,h02⟩:=id h0
     refine ⟨_,rfl,_,rfl,bJ ?_⟩
     refine ⟨_,rfl,x,A.cq,dx,_,_,rfl,hx5,T.i4,T.rF,vi _ _ _,_,rfl,x0,A.cq,dx0,_,_,rfl,h01,T.i4,T.rF,vi _ _ _,af _ _ ⟨rfl,rfl,_,rfl,?_⟩⟩
     refine cP (fun hlt=>?_) fun hlt=>?_
     ·have hlt:(((3+((ft n p i F (aF F)).map GW.bits).sum:Nat)):Int)<(q0.bits:Nat):=of_decide_eq_true hlt
      refine ⟨_,rfl,az (.ref x) _ _ _ ⟨rfl,s3.trans s35,?_⟩⟩
      rw[hacc,hA,hlr]
      have:(dO n p i F (aF F)).bits<q0.bits:=by
       show 3+((ft n p i F (aF F)).map GW.bits).sum<q0.bits
       lia
      simp only
      rw[if_pos this]
      exact ⟨x,rfl,hnew⟩
     ·have hlt: ¬((((3+((ft n p i F (aF F)).map GW.bits).sum:Nat)):Int)<(q0.bits:Nat)):=fun z=>hlt (decide_eq_true z)
      refine (az (.ref x0) _ _ _ ⟨rfl,s3.trans s35,?_⟩)
      rw[hacc,hA,hlr]
      have: ¬(dO n p i F (aF F)).bits<q0.bits:=by
       show¬(3+((ft n p i F (aF F)).map GW.bits).sum<q0.bits)
       lia
      simp only
      rw[if_neg this]
      exact ⟨x0,rfl,h0⟩
   ·refine (az v5 _ _ _ ⟨rfl,s3,?_⟩)
    rw[hacc]
    unfold eG
    rw[if_neg hc]
    exact hL
  ·rintro σ H3 ⟨v5,v6,v7,v8,rfl,s3,hL⟩
   rw[S4] at hL
   obtain ⟨w',hw,_⟩:=RH (n:=n) (p:=p) (by lia) F
   rw[hw] at hL
   obtain ⟨x,rfl,hI⟩:=hL
   exact ⟨_,rfl,k w' x H3 hw ((s1.trans s2).trans s3) hI⟩
def NB (K:PySem.W.Frag):Sp:=fun vs H Q _=> ∃(q:Addr) (ns:List Int),vs= [.ref q]∧ae K H q (ns.map V.int)∧Q (.int (tI ns)) H
theorem sj:aM ["numbers", "together", "number"] ["numbers"] (aG Fl):=⟨rfl,rfl,rfl,by decide+kernel,rfl,by decide+kernel,by decide+kernel⟩
theorem Qp (T:Txt K mg A):aC P w K mg base aO 1 A.qU A.l9 ["numbers"] (NB K):=by
 refine T.Gw.ok sj (fun vs H Q E h=>?_) (fun cdv Ar outer s H vs Q E hr h=>?_)
 ·obtain ⟨q,ns,rfl,_⟩:=h
  rfl
 ·obtain ⟨q,ns,rfl,hq,k⟩:=h
  refine ⟨_,ak (aI (i:=1) sj.nd rfl (Or.inl rfl) au)
   (ak (cv PassesOwn.never rfl (cg (pv 0)) (aT (i:=2) sj.nd rfl (Or.inl rfl)) (aw (ie (i:=1) sj.nd rfl (Or.inl rfl) (pv 2) JT)))
   (aw (aS (bf (Je rfl) rfl T.r8 (by decide+kernel:bootBuiltins "max" =some (.builtin "max")) (aa (aq cc (xA PySem.F.plainAttrs_int PyProof.Rows.slot_int_bit_length PyProof.Rows.type_int_bit_length xT (aq jo (pv 1) (dB dz (pv 1)))) au) (aa au ag)))))),?_⟩
  refine ⟨_,rfl,q,rfl,⟨_,hq⟩,?_⟩
  refine eA (K:=K) (a:=q) (xs:=ns.map V.int) (fun i σ H'=>H'=H∧ ∃v2:Option V,σ= [some (.ref q),some (.int (together (ns.take i))),v2]) ⟨rfl,none,rfl⟩ (fun i σ H' _ ⟨e,_⟩=>by rw[e];exact hq) ?_ ?_
  ·rintro i x σ H' hi ⟨rfl,v2,rfl⟩
   obtain ⟨rfl,hl⟩:=dU hi
   refine ⟨_,rfl,_,rfl,af _ _ ⟨rfl,rfl,rfl,some (.int (ns.getD i 0)),?_⟩⟩
   have e:together (ns.take (i+1))=Builtin.bitOr (together (ns.take i)) (ns.getD i 0):=by
    unfold together
    rw[List.take_succ,List.getElem?_eq_getElem hl,List.foldl_append,List.getD_eq_getElem?_getD,List.getElem?_eq_getElem hl];rfl
   rw[e];rfl
  ·rintro σ H' ⟨rfl,v2,rfl⟩
   rw[List.length_map,List.take_length]
   refine ⟨_,rfl,_,rfl,_,rfl,af _ _ ⟨rfl,rfl,rfl,_,rfl,rfl,af _ _ ⟨rfl,rfl,af _ _ ⟨rfl,?_⟩⟩⟩⟩
   exact k
def EA (z wd l:V):List (Str×V):= [("z",z),("width",wd),("numbers",l)]
theorem Sr (z:V):aJ "z" z []= [(("z" :Str),z)]:=rfl
theorem MN (z wd:V):aJ "width" wd [(("z" :Str),z)]= [(("z" :Str),z),("width",wd)]:=tY _ _ _ _ (by decide)
theorem Qv (z wd l:V):aJ "numbers" l [(("z" :Str),z),("width",wd)]=EA z wd l:=by
 have n1: ¬("z" :Str)= "numbers" :=by decide
 have n2: ¬("width" :Str)= "numbers" :=by decide
 simp only [aJ,if_neg n1,if_neg n2]
 rfl
theorem CZ {H:Hp} {p q C dx:Addr} {fs:List (Str×V)} {o:HO} {xs:List V} (h:ae K H q xs) (hp:H p=some (.ins C dx fs)):ae K (upd H p o) q xs:=by
 rcases h with (h|⟨ob,h⟩)|h
 ·exact .inl (.inl (by rw[aB (bV h hp (by intro e;cases e))];exact h))
 ·exact .inl (.inr ⟨ob,by rw[aB (bV h hp (by intro e;cases e))];exact h⟩)
 ·exact .inr h
def dM (K:PySem.W.Frag) (C:Addr) (H:Hp) (x:Addr) (wd z:Nat) (y:List Int):Prop:= ∃dx l,H x=some (.ins C dx (EA (.int z) (.int wd) (.ref l)))∧ae K H l (y.map V.int)
theorem dM.same {C:Addr} {H H':Hp} {x:Addr} {wd z:Nat} {y:List Int} (s:ah H H') (h:dM K C H x wd z y):dM K C H' x wd z y:=by
 obtain ⟨dx,l,h1,h2⟩:=h
 exact ⟨dx,l,s _ _ h1,s.seq h2⟩
def bM (w:Nat) (ns:List Int):Prop:= ∀x∈ns,-(2^(w-1):Int)≤x∧x<2^(w-1)
def IP (K:PySem.W.Frag) (C:Addr):Sp:=fun vs H Q _=> ∃(p dx q:Addr) (wd:Nat) (ns:List Int),vs= [.ref p, .int wd, .ref q]∧H p=some (.ins C dx [])∧ae K H q (ns.map V.int)∧(1≤wd∧wd≤25)∧bM wd ns∧ns.length≤1024∧
 ∀H',(∀b o,H b=some o→b≠p→H' b=some o)→dM K C H' p (wd-Sound.zeros wd ns) (Sound.zeros wd ns) (Sound.shrunk wd ns)→Q .aD H'
theorem xj:aM ["self", "width", "numbers", "number"] ["self", "width", "numbers"] (aG Aq):=⟨rfl,rfl,rfl,by decide+kernel,rfl,by decide+kernel,by decide+kernel⟩
theorem K4 (T:Txt K mg A):aC P w K mg base aO 2 A.pf A.qo ["self", "width", "numbers"] (IP K A.cG):=by
 refine T.MQ.ok xj (fun vs H Q E h=>?_) (fun cdv Ar outer s H vs Q E hr h=>?_)
 ·obtain ⟨p,dx,q,wd,ns,rfl,_⟩:=h
  rfl
 ·obtain ⟨p,dx,q,wd,ns,rfl,hp,hq,⟨hw1,hw2⟩,hf,hl,k⟩:=h
  refine ⟨_,ak (bh (pv 0) (aN (Qp T) hr rfl T.P0 T.Gw.kp T.Qd .nil ay (aa (pv 2) ag)) rfl)
   (ak (bh (pv 0) (aq cc (pv 1) (aA (pv 0) rfl)) rfl)
   (aw (bh (pv 0) (cw (own:= [("number",3)]) rfl xj.nd (cg (pv 2)) (b5 (by kernel_rfl)) (fun _ _ _ _ _=>aT (i:=3) xj.nd rfl (Or.inl rfl)) (fun _ _ _ _ _=>bZ)
    (fun _ _ _ _ _=>aq fg (pv 3) (qV (K:=K) rfl (pv 0) rfl))) rfl))),?_⟩
  obtain ⟨hz,hzl⟩:=Q8 hw1 hf
  refine ⟨_,rfl,af q ns ⟨rfl,hq,_,rfl,az p A.cG dx _ ⟨rfl,hp,T.cV,T.qx,(by show 0<1000;decide),?_⟩⟩⟩
  rw[hz,Sr]
  generalize hzz:Sound.zeros wd ns=z at*
  refine ⟨_,rfl,aE rfl ao T.cV T.qx rfl (af _ _ ⟨rfl,rfl,_,rfl,az p A.cG dx _ ⟨rfl,ao,T.cV,T.j9,(by show 1<1000;decide),?_⟩⟩)⟩
  rw[MN,b7]
  have ew:(wd:Int)-(z:Int)=((wd-z:Nat):Int):=by lia
  have hq1:=CZ (o:= .ins A.cG dx [(("z" :Str),V.int (z:Nat)),("width",V.int ((wd-z:Nat):Int))]) hq hp
  dsimp only
  rw[ew]
  refine ⟨_,rfl,q,rfl,⟨_,hq1⟩,fun D hD=>?_⟩
  refine cC (J:=dH K q) hD ns.length (by rw[sizeLine_eq];lia) (fun i=> .int (ns.getD i 0/2^z)) (fun i Hh hi s1=>⟨_,_,s1.seq hq1,cK hi⟩) (fun Hh s1=>⟨_,s1.seq hq1,by simp⟩) ?_ ?_
  ·rintro i Hh x H' hi s1 ⟨rfl,hx⟩ C hC
   obtain ⟨rfl,_⟩:=dU (hx _ (s1.seq hq1))
   refine ⟨rfl,_,rfl,aE rfl (s1 _ _ ao) T.cV T.qx rfl (af _ _ ⟨rfl,rfl,(by lia),?_⟩)⟩
   exact hC _ (ah.refl _)
  ·intro Hh s1 hx
   have hps:=s1 _ _ (ao (H:=H) (a:=p) (o:= .ins A.cG dx [(("z" :Str),V.int (z:Nat)),("width",V.int ((wd-z:Nat):Int))]))
   have hpD:D≠p:=bV hx hps (by intro e;cases e)
   refine ⟨_,rfl,az p A.cG dx _ ⟨rfl,hps,T.cV,T.iT,(by show 2<1000;decide),?_⟩⟩
   rw[Qv]
   refine k _ (fun b o e hb=>?_) ⟨dx,D,ao,ae.of ?_⟩
   ·rw[aB hb]
    exact s1 _ _ (by rw[aB hb];exact e)
   ·rw[aB hpD,hx]
    congr 2
    unfold Sound.shrunk
    rw[List.map_map,hzz]
    refine List.ext_getElem (by simp) fun i h1 h2=>?_
    have hi:i<ns.length:=by simpa using h2
    simp [List.getD_eq_getElem?_getD,List.getElem?_eq_getElem hi]
def cQ (kd sh g rw_ b:V):List (Str×V):= [("kind",kd),("shrunk",sh),("guess",g),("rests_way",rw_),("bits",b)]
theorem Jv (kd sh g rw_ b:V):aJ "bits" b (aJ "rests_way" rw_ (aJ "guess" g (aJ "shrunk" sh (aJ "kind" kd []))))=cQ kd sh g rw_ b:=by
 have e1:aJ "kind" kd []= [(("kind" :Str),kd)]:=rfl
 rw[e1]
 have n1: ¬("kind" :Str)= "shrunk" :=by decide
 have n2: ¬("kind" :Str)= "guess" :=by decide
 have n3: ¬("shrunk" :Str)= "guess" :=by decide
 have n4: ¬("kind" :Str)= "rests_way" :=by decide
 have n5: ¬("shrunk" :Str)= "rests_way" :=by decide
 have n6: ¬("guess" :Str)= "rests_way" :=by decide
 have n7: ¬("kind" :Str)= "bits" :=by decide
 have n8: ¬("shrunk" :Str)= "bits" :=by decide
 have n9: ¬("guess" :Str)= "bits" :=by decide
 have n0: ¬("rests_way" :Str)= "bits" :=by decide
 simp only [aJ,if_neg n1,if_neg n2,if_neg n3,if_neg n4,if_neg n5,if_neg n6,if_neg n7,if_neg n8,if_neg n9,if_neg n0]
 rfl
theorem rn (kd sh g rw_ b c:V):aJ "bits" c (cQ kd sh g rw_ b)=cQ kd sh g rw_ c:=by
 have n7: ¬("kind" :Str)= "bits" :=by decide
 have n8: ¬("shrunk" :Str)= "bits" :=by decide
 have n9: ¬("guess" :Str)= "bits" :=by decide
 have n0: ¬("rests_way" :Str)= "bits" :=by decide
 simp only [cQ,aJ,if_neg n7,if_neg n8,if_neg n9,if_neg n0]
 rfl
theorem Ug (kd sh g rw_ b c:V):aJ "rests_way" c (cQ kd sh g rw_ b)=cQ kd sh g c b:=by
 have n7: ¬("kind" :Str)= "rests_way" :=by decide
 have n8: ¬("shrunk" :Str)= "rests_way" :=by decide
 have n9: ¬("guess" :Str)= "rests_way" :=by decide
 simp only [cQ,aJ,if_neg n7,if_neg n8,if_neg n9]
 rfl
theorem iZ (kd sh g rw_ b:V):(cQ kd sh g rw_ b).lookup ("bits" :Str)=some b:=rfl
theorem Sx (kd sh g rw_ b:V):(cQ kd sh g rw_ b).lookup ("rests_way" :Str)=some rw_:=rfl
def O9 (K:PySem.W.Frag) (C Cs:Addr):Sp:=fun vs H Q _=> ∃(p dx sx:Addr) (kd g:V) (wd z:Nat) (y:List Int),vs= [.ref p,kd, .ref sx,g]∧H p=some (.ins C dx [])∧dM K Cs H sx wd z y∧Q .aD (upd H p (.ins C dx (cQ kd (.ref sx) g .aD (.int ((1+z+4:Nat):Int)))))
theorem Lj:aM ["self", "kind", "shrunk", "guess"] ["self", "kind", "shrunk", "guess"] (aG Bf):=⟨rfl,rfl,rfl,by decide+kernel,rfl,by decide+kernel,by decide+kernel⟩
theorem vK (T:Txt K mg A):aC P w K mg base aO 1 A.nJ A.pC ["self", "kind", "shrunk", "guess"] (O9 K A.bL A.cG):=by
 refine T.O0.ok Lj (fun vs H Q E h=>?_) (fun cdv Ar outer s H vs Q E hr h=>?_)
 ·obtain ⟨p,dx,sx,kd,g,wd,z,y,rfl,_⟩:=h
  rfl
 ·obtain ⟨p,dx,sx,kd,g,wd,z,y,rfl,hp,⟨ds,l,hs,_⟩,k⟩:=h
  refine ⟨_,ak (bh (pv 0) (pv 1) rfl) (ak (bh (pv 0) (pv 2) rfl) (ak (bh (pv 0) (pv 3) rfl) (ak (bh (pv 0) gQ rfl) (aw (bh (pv 0) (aq bE (aq bE au (aA (pv 2) rfl)) au) rfl))))),?_⟩
  have few: ∀{f:Str} {v:V} {l:List (Str×V)} {m:Nat},l.length≤m→(aJ f v l).length≤m+1:=fun {f v l m} h=>Nat.le_trans (jj f v l) (by lia)
  have f0:([]:List (Str×V)).length≤0:=Nat.le_refl _
  have f1:=few (f:= "kind") (v:=kd) f0
  have f2:=few (f:= "shrunk") (v:= .ref sx) f1
  have f3:=few (f:= "guess") (v:=g) f2
  have f4:=few (f:= "rests_way") (v:= .aD) f3
  have hsp:sx≠p:=bV hs hp (by intro e;injection e with _ _ e;cases e)
  refine ⟨_,rfl,_,rfl,az p A.bL dx _ ⟨rfl,hp,T.cx,T.kD,(by show 0<1000;decide),?_⟩⟩
  refine ⟨_,rfl,_,rfl,az p A.bL dx _ ⟨rfl,ao,T.cx,T.AG,by lia,?_⟩⟩
  rw[b7]
  refine ⟨_,rfl,_,rfl,az p A.bL dx _ ⟨rfl,ao,T.cx,T.sU,by lia,?_⟩⟩
  rw[b7]
  refine ⟨_,rfl,az p A.bL dx _ ⟨rfl,ao,T.cx,T.rg,by lia,?_⟩⟩
  rw[b7]
  refine (aE rfl (by rw[aB hsp];exact hs) T.cV T.qx rfl (af _ _ ⟨rfl,rfl,af _ _ ⟨rfl,rfl,_,rfl,az p A.bL dx _ ⟨rfl,ao,T.cx,T.iC,by lia,?_⟩⟩⟩))
  rw[Jv,b7]
  have e:(1:Int)+(z:Nat)+4=((1+z+4:Nat):Int):=by lia
  dsimp only
  rw[e]
  exact k
def dI (k:Nat) (y:List Int):Option (Nat×List Int):=if k≤6 then (if k-2≤y.length then some (0,Sound.FIXED.getD (k-2) []) else none) else if k-6<y.length then fN y (k-6) else none
def aV (k:Nat):Nat:=if k≤6 then k-2 else k-6
theorem OR {wd z k:Nat} {y:List Int} (h2:2≤k):rK wd z y k=match dI k y with
  |none=>none
  |some (h,a)=>jy wd z (aV k) a h y (if k≤6 then 0 else 4+(k-6)*12):=by
 unfold rK dI aV
 rw[if_neg (by lia)]
 by_cases h6:k≤6
 ·simp only [if_pos h6]
  by_cases hp:k-2≤y.length
  ·simp only [if_pos hp]
  ·simp only [if_neg hp]
 ·simp only [if_neg h6]
  by_cases hp:k-6<y.length
  ·simp only [if_pos hp]
   all_goals (cases fN y (k-6)<;>rfl)
  ·simp only [if_neg hp]
theorem Fd {k:Nat} {y:List Int} {h:Nat} {a:List Int} (h2:2≤k) (h10:k≤10) (e:dI k y=some (h,a)):a.length=aV k∧Bd 2048 a∧aV k≤y.length:=by
 unfold dI at e
 unfold aV
 by_cases h6:k≤6
 ·rw[if_pos h6] at e⊢
  by_cases hp:k-2≤y.length
  ·rw[if_pos hp] at e
   cases e
   obtain ⟨f1,f2⟩:=DI (p:=k-2) (by lia)
   exact ⟨f1,f2,hp⟩
  ·rw[if_neg hp] at e;cases e
 ·rw[if_neg h6] at e⊢
  by_cases hp:k-6<y.length
  ·rw[if_pos hp,sP (by lia) (by lia) (by lia)] at e
   obtain ⟨f1,f2,_⟩:=yc e (by lia) (by lia) (by lia)
   exact ⟨f1,f2,by lia⟩
  ·rw[if_neg hp] at e;cases e
def IA (K:PySem.W.Frag) (C:Addr):Sp:=fun vs H Q _=> ∃(k:Nat) (q:Addr) (y:List Int),vs= [.int k, .int (aV k:Nat), .ref q]∧ae K H q (y.map V.int)∧(2≤k∧k≤10∧y.length≤1024)∧Bd 16777216 y∧
 (dI k y=none→ ∀H',ah H H'→Q .aD H')∧(∀h a,dI k y=some (h,a)→ ∀x H',H x=none→ah H H'→dq K C H' x a h→Q (.ref x) H')
theorem Kz:aM ["kind", "order", "numbers"] ["kind", "order", "numbers"] (aG Dm):=⟨rfl,rfl,rfl,by decide+kernel,rfl,by decide+kernel,by decide+kernel⟩
theorem Mq (T:Txt K mg A):aC P w K mg base aO 4 A.oz A.oA ["kind", "order", "numbers"] (IA K A.cu):=by
 refine T.Co.ok Kz (fun vs H Q E h=>?_) (fun cdv Ar outer s H vs Q E hr h=>?_)
 ·obtain ⟨k,q,y,rfl,_⟩:=h
  rfl
 ·obtain ⟨k,q,y,rfl,hq,⟨h2,h10,hl⟩,hb,k0,k1⟩:=h
  refine ⟨_,ak (bN (bO jt (pv 0) (aY rfl T.kW) (bo _))
    (aw (aS (jx (bO gI (pv 1) (bf bU (by rfl) T.bW PySem.boot_len (aa (pv 2) ag)) (bo _)) (aN (JF T) hr rfl T.UA T.Dy.kp T.Lo .nil ay (aa (pv 1) ag)) gQ))) bX)
   (aw (aS (jx (bO jt (pv 1) (bf bU (by rfl) T.bW PySem.boot_len (aa (pv 2) ag)) (bo _)) (aN (K2 T) hr rfl T.Up T.Fe.kp T.TC .nil ay (aa (pv 1) (aa (pv 2) ag))) gQ))),?_⟩
  refine ⟨_,rfl,af _ _ ⟨rfl,rfl,_,rfl,?_⟩⟩
  by_cases h6:k≤6
  ·have e1:aV k=k-2:=by unfold aV;rw[if_pos h6]
   rw[decide_eq_true (show (k:Int)<7 by lia)]
   refine bx ?_
   refine ⟨_,rfl,_,rfl,af q _ ⟨rfl, .inl hq,af _ _ ⟨rfl,rfl,_,rfl,?_⟩⟩⟩
   rw[List.length_map]
   refine cP (fun hc=>?_) fun hc=>?_
   ·have hc:((aV k:Nat):Int)≤(y.length:Nat):=of_decide_eq_true hc
    refine ⟨_,rfl,aV k,rfl,by lia,fun x H' hx s1 hg=>?_⟩
    refine k1 0 (Sound.FIXED.getD (k-2) []) ?_ x H' hx s1 (by rw[←e1];exact hg)
    unfold dI
    rw[if_pos h6,if_pos (by lia)]
   ·have hc: ¬((aV k:Nat):Int)≤(y.length:Nat):=fun z=>hc (decide_eq_true z)
    refine k0 ?_ H (ah.refl _)
    unfold dI
    rw[if_pos h6,if_neg (by lia)]
  ·have e1:aV k=k-6:=by unfold aV;rw[if_neg h6]
   rw[decide_eq_false (show¬(k:Int)<7 by lia)]
   refine bJ ?_
   refine ⟨_,rfl,_,rfl,af q _ ⟨rfl, .inl hq,af _ _ ⟨rfl,rfl,_,rfl,?_⟩⟩⟩
   rw[List.length_map]
   refine cP (fun hc=>?_) fun hc=>?_
   ·have hc:((aV k:Nat):Int)<(y.length:Nat):=of_decide_eq_true hc
    have eg:dI k y=fN y (aV k):=by unfold dI;rw[if_neg h6,if_pos (by lia),e1]
    refine ⟨_,rfl,_,rfl,q,y,aV k,rfl,hq,⟨by lia,by lia,by lia,hl⟩,hb,fun hz H' s1=>k0 (by rw[eg];exact hz) H' s1,fun h a hz x H' hx s1 hg=>k1 h a (by rw[eg];exact hz) x H' hx s1 hg⟩
   ·have hc: ¬((aV k:Nat):Int)<(y.length:Nat):=fun z=>hc (decide_eq_true z)
    refine k0 ?_ H (ah.refl _)
    unfold dI
    rw[if_neg h6,if_neg (by lia)]
def aP (x:Addr) (H H':Hp):Prop:= ∀b o,H b=some o→b≠x→H' b=some o
theorem aP.refl (x:Addr) (H:Hp):aP x H H:=fun _ _ h _=>h
theorem aP.trans {x:Addr} {H H1 H2:Hp} (a:aP x H H1) (b:aP x H1 H2):aP x H H2:=fun c o h hc=>b c o (a c o h hc) hc
theorem aP.of {x:Addr} {H H':Hp} (s:ah H H'):aP x H H':=fun b o h _=>s b o h
theorem aP.upd {x:Addr} {H:Hp} {o:HO}:aP x H (upd H x o):=fun b u h hb=>by rw[aB hb];exact h
theorem aP.sq {x C dx:Addr} {fs:List (Str×V)} {H H':Hp} {q:Addr} {xs:List V} (b:aP x H H') (hx:H x=some (.ins C dx fs)) (h:ae K H q xs):ae K H' q xs:=by
 rcases h with (h|⟨ob,h⟩)|h
 ·exact .inl (.inl (b _ _ h (bV h hx (by intro e;cases e))))
 ·exact .inl (.inr ⟨ob,b _ _ h (bV h hx (by intro e;cases e))⟩)
 ·exact .inr h
def eB (n s:V):List (Str×V):= [("written",n),("size",s)]
theorem Sv (n s:V):aJ "size" s (aJ "written" n [])=eB n s:=tY _ _ _ _ (by decide)
theorem Ic (n s m:V):aJ "written" m (eB n s)=eB m s:=by
 unfold eB aJ;rw[if_pos rfl]
theorem IG (n s m:V):aJ "size" m (eB n s)=eB n m:=by
 have n1: ¬("written" :Str)= "size" :=by decide
 simp only [eB,aJ,if_neg n1];rfl
def bc (C:Addr) (H:Hp) (x:Addr) (b:Sound.Bits):Prop:= ∃dx,H x=some (.ins C dx (eB (.int (Sound.value b:Nat)) (.int (b.length:Nat))))
def K8 (C:Addr):Sp:=fun vs H Q _=> ∃(p dx:Addr),vs= [.ref p]∧H p=some (.ins C dx [])∧Q .aD (upd H p (.ins C dx (eB (.int 0) (.int 0))))
theorem R6:aM ["self"] ["self"] (aG zO):=⟨rfl,rfl,rfl,by decide+kernel,rfl,by decide+kernel,by decide+kernel⟩
theorem TQ (T:Txt K mg A):aC P w K mg base aO 1 A.oN A.lR ["self"] (K8 A.aX):=by
 refine T.Tx.ok R6 (fun vs H Q E h=>?_) (fun cdv Ar outer s H vs Q E hr h=>?_)
 ·obtain ⟨p,dx,rfl,_⟩:=h
  rfl
 ·obtain ⟨p,dx,rfl,hp,k⟩:=h
  refine ⟨_,ak (bh (pv 0) au rfl) (aw (bh (pv 0) au rfl)),?_⟩
  refine ⟨_,rfl,az p A.aX dx _ ⟨rfl,hp,T.cf,T.rO,(by show 0<1000;decide),?_⟩⟩
  refine ⟨_,rfl,az p A.aX dx _ ⟨rfl,ao,T.cf,T.sM,(by show 1<1000;decide),?_⟩⟩
  rw[Sv,b7]
  exact k
theorem Cj (b:Sound.Bits):Builtin.Int.intBits ((Sound.value b:Nat):Int)≤b.length:=by rw[tW];exact jJ (rT b)
def cR:Nat:=67108864
def RN (C:Addr):Sp:=fun vs H Q _=> ∃(x:Addr) (wd n:Nat) (b:Sound.Bits),vs= [.ref x, .int wd, .int n]∧bc C H x b∧n<2^wd∧b.length+wd≤cR∧ ∀H',aP x H H'→bc C H' x (b++Sound.u wd n)→Q .aD H'
theorem Tz:aM ["self", "width", "number"] ["self", "width", "number"] (aG Ep):=⟨rfl,rfl,rfl,by decide+kernel,rfl,by decide+kernel,by decide+kernel⟩
theorem eZ (T:Txt K mg A):aC P w K mg base aO 1 A.lO A.oE ["self", "width", "number"] (RN A.aX):=by
 refine T.R9.ok Tz (fun vs H Q E h=>?_) (fun cdv Ar outer s H vs Q E hr h=>?_)
 ·obtain ⟨x,wd,n,b,rfl,_⟩:=h
  rfl
 ·obtain ⟨x,wd,n,b,rfl,⟨dx,hx⟩,hn,hl,k⟩:=h
  refine ⟨_,ak (bh (pv 0) (aq Ex (aq tX (aA (pv 0) rfl) (pv 1)) (pv 2)) rfl) (aw (lu (pv 0) (pv 1) oK)),?_⟩
  have hbv:=Cj b
  have e27:(2:Int)^27=134217728:=by decide
  unfold cR at hl
  refine (aE rfl hx T.cf T.rO rfl ⟨_,rfl,af _ _ ⟨rfl,rfl,⟨by lia,by lia⟩,_,rfl,af _ _ ⟨rfl,rfl,_,rfl,az x A.aX dx _ ⟨rfl,hx,T.cf,T.rO,(by show 2<1000;decide),?_⟩⟩⟩⟩)
  rw[Ic]
  refine ⟨_,rfl,x,A.aX,dx,_,_,rfl,ao,T.cf,T.sM,rfl,_,rfl,_,_,rfl,rfl,dx,_,ao,(by show 2<1000;decide),?_⟩
  rw[IG,b7]
  have e1:Builtin.bitOr ((Sound.value b:Nat)*2^((wd:Nat):Int).toNat) ((n:Nat):Int)=((Sound.value (b++Sound.u wd n):Nat):Int):=by
   rw[Int.toNat_natCast,Sk hn,rM,BY,bt,Nat.mod_eq_of_lt hn]
  have e2:((b.length:Nat):Int)+(wd:Nat)=(((b++Sound.u wd n).length:Nat):Int):=by rw[List.length_append,bt];lia
  dsimp only
  rw[e1,e2]
  exact k _ aP.upd ⟨dx,ao⟩
def spS (C:Addr):Sp:=fun vs H Q _=> ∃(x:Addr) (wd:Nat) (n:Int) (b:Sound.Bits),vs= [.ref x, .int wd, .int n]∧bc C H x b∧b.length+wd≤cR∧wd≤1000∧ ∀H',aP x H H'→bc C H' x (b++Sound.sb wd n)→Q .aD H'
theorem Ml:aM ["self", "width", "number"] ["self", "width", "number"] (aG C5):=⟨rfl,rfl,rfl,by decide+kernel,rfl,by decide+kernel,by decide+kernel⟩
theorem yR (T:Txt K mg A):aC P w K mg base aO 2 A.pH A.o7 ["self", "width", "number"] (spS A.aX):=by
 refine T.S7.ok Ml (fun vs H Q E h=>?_) (fun cdv Ar outer s H vs Q E hr h=>?_)
 ·obtain ⟨x,wd,n,b,rfl,_⟩:=h
  rfl
 ·obtain ⟨x,wd,n,b,rfl,⟨dx,hx⟩,hl,hw,k⟩:=h
  refine ⟨_,aw (ba (bC (pv 0) T.cf T.fb (eZ T) hr T.fc .nil ay (aa (pv 1) (aa (aq jo (pv 2) (aq cc (aq pJ au (pv 1)) au)) ag)))),?_⟩
  have hp:(0:Int)<2^wd:=Int.pow_pos (by decide)
  have hm:=Int.emod_nonneg n (show (2:Int)^wd≠0 by lia)
  have hlt:=Int.emod_lt_of_pos n hp
  have e2:((2:Int)^wd)=((2^wd:Nat):Int):=by simp
  have en:Builtin.bitAnd n (1*2^((wd:Nat):Int).toNat-1)=(((n%2^wd).toNat:Nat):Int):=by
   rw[Int.one_mul,Int.toNat_natCast,mask];lia
  refine (bA rfl hx rfl ⟨_,rfl,_,rfl,_,rfl,af _ _ ⟨rfl,rfl,⟨by lia,by lia,by decide⟩,af _ _ ⟨rfl,rfl,af _ _ ⟨rfl,rfl,?_⟩⟩⟩⟩)
  dsimp only
  rw[en]
  exact ⟨x,wd,(n%2^wd).toNat,b,rfl,⟨dx,hx⟩,by lia,hl,fun H' hb hw'=>k H' hb hw'⟩
theorem zm: ∀q:Nat,Sound.u (q+1) 1=Sound.run q
 |0=>rfl
 |q+1=>by
  rw[DP,zm q]
  have:(1:Nat).testBit (q+1)=false:=by rw[Nat.testBit_succ];simp
  rw[this];rfl
def Lh (C:Addr):Sp:=fun vs H Q _=> ∃(x:Addr) (q:Nat) (b:Sound.Bits),vs= [.ref x, .int q]∧bc C H x b∧b.length+(q+1)≤cR∧ ∀H',aP x H H'→bc C H' x (b++Sound.run q)→Q .aD H'
theorem IE:aM ["self", "zeros"] ["self", "zeros"] (aG Dh):=⟨rfl,rfl,rfl,by decide+kernel,rfl,by decide+kernel,by decide+kernel⟩
theorem Cn (T:Txt K mg A):aC P w K mg base aO 2 A.ow A.nj ["self", "zeros"] (Lh A.aX):=by
 refine T.QN.ok IE (fun vs H Q E h=>?_) (fun cdv Ar outer s H vs Q E hr h=>?_)
 ·obtain ⟨x,q,b,rfl,_⟩:=h
  rfl
 ·obtain ⟨x,q,b,rfl,⟨dx,hx⟩,hl,k⟩:=h
  refine ⟨_,aw (ba (bC (pv 0) T.cf T.fb (eZ T) hr T.fc .nil ay (aa (aq bE (pv 1) au) (aa au ag)))),?_⟩
  refine (bA rfl hx rfl ⟨_,rfl,af _ _ ⟨rfl,rfl,?_⟩⟩)
  have e:(q:Int)+1=((q+1:Nat):Int):=by lia
  dsimp only
  rw[e]
  exact (az x (q+1) 1 b ⟨rfl,⟨dx,hx⟩,Nat.one_lt_two_pow (by lia),hl,fun H' hb hw'=>k H' hb (by rw[←zm];exact hw')⟩)
theorem LY (n:Nat):(-(n:Int))%8=(Sound.padBits n:Nat):=by unfold Sound.padBits;lia
theorem AA (n:Nat):(n+Sound.padBits n)%8=0∧Sound.padBits n<8:=by unfold Sound.padBits;lia
def gu (b:Sound.Bits):Sound.Bytes:=Sound.bytesOf (b.length+1) (b++List.replicate (Sound.padBits b.length) false)
def Bc (C:Addr):Sp:=fun vs H Q _=> ∃(x:Addr) (b:Sound.Bits),vs= [.ref x]∧bc C H x b∧b.length≤1000000∧ ∀D H',H D=none→ah H H'→H' D=some (.lst (vN ((gu b).map UInt8.toNat)))→Q (.ref D) H'
theorem qu:aM ["self", "padding", "padded", "place"] ["self"] (aG Cv):=⟨rfl,rfl,rfl,by decide+kernel,rfl,by decide+kernel,by decide+kernel⟩
theorem QR (T:Txt K mg A):aC P w K mg base aO 1 A.lC A.pj ["self"] (Bc A.aX):=by
 refine T.JL.ok qu (fun vs H Q E h=>?_) (fun cdv Ar outer s H vs Q E hr h=>?_)
 ·obtain ⟨x,b,rfl,_⟩:=h
  rfl
 ·obtain ⟨x,b,rfl,⟨dx,hx⟩,hl,k⟩:=h
  refine ⟨_,ak (aI (i:=1) qu.nd rfl (Or.inl rfl) (aq tZ (dB dz (aA (pv 0) rfl)) au))
   (ak (aI (i:=2) qu.nd rfl (Or.inr rfl) (aq tX (aA (pv 0) rfl) (pv 1)))
   (aw (aS (cw (own:= [("place",3)]) rfl qu.nd (jM rfl T.dt (aa (aq cc (aq bE (aA (pv 0) rfl) (pv 1)) au) (aa (dB dz au) (aa (dB dz au) ag))))
    (b5 (by kernel_rfl)) (fun _ _ _ _ _=>aT (i:=3) qu.nd rfl (Or.inl rfl)) (fun _ _ _ _ _=>bZ) (fun _ _ _ _ _=>aq jo (aq fg (pv 2) (pv 3)) au))))),?_⟩
  have hbv:=Cj b
  have e27:(2:Int)^27=134217728:=by decide
  obtain ⟨hp8,hp7⟩:=AA b.length
  refine (aE rfl hx T.cf T.sM rfl ⟨_,rfl,af _ _ ⟨rfl,rfl,(by show (0:Int)<8;decide),?_⟩⟩)
  dsimp only
  rw[LY]
  refine (aE rfl hx T.cf T.rO rfl ⟨_,rfl,af _ _ ⟨rfl,rfl,⟨by lia,by lia⟩,?_⟩⟩)
  have eL:((Sound.value b:Nat):Int)*2^((Sound.padBits b.length:Nat):Int).toNat=((Sound.value (b++List.replicate (Sound.padBits b.length) false):Nat):Int):=by
   rw[rM,M4,List.length_replicate,Int.toNat_natCast];simp
  dsimp only
  rw[eL]
  have hLl:(b++List.replicate (Sound.padBits b.length) false).length=b.length+Sound.padBits b.length:=by rw[List.length_append,List.length_replicate]
  generalize hnb:(b.length+Sound.padBits b.length)/8=nb
  have h8:b.length+Sound.padBits b.length=8*nb:=by lia
  have hbv2:=uq nb b.length (b++List.replicate (Sound.padBits b.length) false) (by lia) (by lia)
  unfold gu at k
  rw[hbv2] at k
  generalize Sound.value (b++List.replicate (Sound.padBits b.length) false)=vl at*
  have eI:((b.length:Nat):Int)+((Sound.padBits b.length:Nat):Int)-8=8*(nb:Int)-8:=by lia
  refine (aE rfl hx T.cf T.sM rfl ⟨_,rfl,af _ _ ⟨rfl,rfl,af _ _ ⟨rfl,rfl,_,rfl,_,rfl,8*(nb:Int)-8,-1,-8,nb,(by rw[←eI]),Ai (by lia),fun D hD=>?_⟩⟩⟩)
  refine cC (J:=iI (8*(nb:Int)-8) (-8) nb) hD nb (by rw[sizeLine_eq];lia) (fun i=> .int ((vl/2^(8*(nb-1-i))%256:Nat):Int)) (fun i Hh hi s1=>hi) (fun Hh s1=>Nat.le_refl _) ?_ ?_
  ·rintro i Hh z H' hi s1 ⟨rfl,rfl⟩ C hC
   have e1:8*(nb:Int)-8+(i:Nat)*(-8)=((8*(nb-1-i):Nat):Int):=by lia
   rw[e1]
   refine ⟨rfl,_,rfl,_,rfl,af _ _ ⟨rfl,rfl,(by lia),af _ _ ⟨rfl,rfl,?_⟩⟩⟩
   have e2:((vl:Nat):Int)/2^((8*(nb-1-i):Nat):Int).toNat=((vl/2^(8*(nb-1-i)):Nat):Int):=by rw[Int.toNat_natCast];simp
   dsimp only
   rw[e2,vq]
   exact hC _ (ah.refl _)
  ·intro Hh s1 hx'
   refine k D Hh hD s1 (hx'.trans ?_)
   unfold vN
   rw[List.map_map]
   rfl
def C8 (K:PySem.W.Frag):Sp:=fun vs H Q _=> ∃(q:Addr) (l:List Nat),vs= [.ref q]∧ae K H q (vN l)∧(∀x∈l,x<256)∧Q (.int (kL l:Nat)) H
theorem jT:aM ["data", "check", "byte", "step"] ["data"] (aG FE):=⟨rfl,rfl,rfl,by decide+kernel,rfl,by decide+kernel,by decide+kernel⟩
def je:Nat→Nat→Nat
 |0,c=>c
 |j+1,c=>iM (je j c)
theorem KA {p:Nat} (h:p<65536):iM p<65536:=by
 unfold iM
 split
 ·rename_i hc
  rw[show (69665:Nat)=65536^^^4129 by decide,←Nat.xor_assoc,B4 (by lia) (by lia)]
  exact sR (Nat.mod_lt _ (by decide)) (by decide)
 ·lia
theorem GI {c:Nat} (h:c<65536): ∀j,je j c<65536
 |0=>h
 |j+1=>KA (GI h j)
theorem Uj (c b:Nat):je 8 (c^^^(b*256))=eu c b:=by
 unfold eu
 rw[show List.range 8= [0,1,2,3,4,5,6,7] from rfl]
 simp only [List.foldl_cons,List.foldl_nil,je]
theorem OM (T:Txt K mg A):aC P w K mg base aO 1 A.nD A.ml ["data"] (C8 K):=by
 refine T.EF.ok jT (fun vs H Q E h=>?_) (fun cdv Ar outer s H vs Q E hr h=>?_)
 ·obtain ⟨q,l,rfl,_⟩:=h
  rfl
 ·obtain ⟨q,l,rfl,hq,hb,k⟩:=h
  refine ⟨_,ak (aI (i:=1) jT.nd rfl (Or.inl rfl) au)
   (ak (cv PassesOwn.never rfl (cg (pv 0)) (aT (i:=2) jT.nd rfl (Or.inl rfl))
    (ak (ie (i:=1) jT.nd rfl (Or.inl rfl) (aq pJ (pv 2) au) si)
    (aw (cv PassesOwn.never rfl (jh rfl T.dt (aa au ag)) (aT (i:=3) jT.nd rfl (Or.inl rfl))
     (ak (ie (i:=1) jT.nd rfl (Or.inl rfl) au Bj)
     (aw (bN (bO iv (pv 1) au (bo _)) (aw (ie (i:=1) jT.nd rfl (Or.inl rfl) au si)) bX)))))))
   (aw (aS (pv 1)))),?_⟩
  refine ⟨_,rfl,q,rfl,⟨_,hq⟩,?_⟩
  refine eA (K:=K) (a:=q) (xs:=vN l) (fun i σ H'=>H'=H∧(l.take i).foldl eu 65535<65536∧ ∃v2 v3:Option V,σ= [some (.ref q),some (.int ((l.take i).foldl eu 65535:Nat)),v2,v3]) ⟨rfl,(by rw[List.take_zero,List.foldl_nil];decide),none,none,(by rw[List.take_zero,List.foldl_nil];rfl)⟩ (fun i σ H' _ ⟨e,_⟩=>by rw[e];exact hq) ?_ ?_
  ·rintro i x σ H' hi ⟨rfl,hlt,v2,v3,rfl⟩
   obtain ⟨rfl,hil⟩:=fE hi
   generalize hc:(l.take i).foldl eu 65535=c at*
   have hbl:l.getD i 0<256:=hb _ (by rw[List.getD_eq_getElem?_getD,List.getElem?_eq_getElem hil];exact List.getElem_mem hil)
   have enext:(l.take (i+1)).foldl eu 65535=eu c (l.getD i 0):=by
    rw[List.take_succ,List.getElem?_eq_getElem hil,List.foldl_append,hc,List.getD_eq_getElem?_getD,List.getElem?_eq_getElem hil]
    simp only [Option.toList_some,List.foldl_cons,List.foldl_nil,Option.getD_some]
   have hnlt:eu c (l.getD i 0)<65536:=(vC hlt hbl).2
   refine ⟨_,rfl,_,rfl,af _ _ ⟨rfl,rfl,⟨by decide,by decide,by rw[Int.natAbs_natCast];lia⟩,af _ _ ⟨rfl,rfl,?_⟩⟩⟩
   have ex:Builtin.bitXor ((c:Nat):Int) (((l.getD i 0:Nat):Int)*2^(8:Int).toNat)=((c^^^(l.getD i 0*256):Nat):Int):=by
    rw[←ir]
    congr 1
   dsimp only
   rw[ex]
   have hstart:c^^^(l.getD i 0*256)<65536:=sR hlt (by lia)
   refine ⟨_,rfl,by decide,by decide,?_⟩
   refine jE (lo:=0) (n:=8) (fun j σ Hj=>Hj=H'∧ ∃v3:Option V,σ= [some (.ref q),some (.int (je j (c^^^(l.getD i 0*256)):Nat)),some (.int (l.getD i 0:Nat)),v3]) ⟨rfl,v3,rfl⟩ ?_ ?_
   ·rintro j σ H' hj ⟨rfl,v3,rfl⟩
    have hjl:=GI hstart j
    generalize hp:je j (c^^^(l.getD i 0*256))=p at*
    have hnx:je (j+1) (c^^^(l.getD i 0*256))=iM p:=by rw[je,hp]
    rw[Int.zero_add]
    refine ⟨_,rfl,af _ _ ⟨rfl,rfl,⟨by decide,by decide,by rw[Int.natAbs_natCast];lia⟩,?_⟩⟩
    have e2:((p:Nat):Int)*2^(1:Int).toNat=((2*p:Nat):Int):=by
     rw[show (2:Int)^(1:Int).toNat=2 by decide];lia
    dsimp only
    rw[e2]
    refine ⟨_,rfl,af _ _ ⟨rfl,rfl,_,rfl,?_⟩⟩
    refine cP (fun hc2=>?_) fun hc2=>?_
    ·have hc2:(65535:Int)<((2*p:Nat):Int):=of_decide_eq_true hc2
     refine ⟨_,rfl,af _ _ ⟨rfl,rfl,rfl,some (.int (j:Nat)),?_⟩⟩
     rw[hnx]
     unfold iM
     rw[if_pos (by lia)]
     have:=ir (2*p) 69665
     show [some (V.ref q),some (V.int (Builtin.bitXor ((2*p:Nat):Int) 69665)),some (V.int (l.getD i 0:Nat)),some (V.int (j:Nat))]=_
     rw[show (69665:Int)=((69665:Nat):Int) from rfl,this]
    ·have hc2: ¬(65535:Int)<((2*p:Nat):Int):=fun z=>hc2 (decide_eq_true z)
     refine ⟨rfl,some (.int (j:Nat)),?_⟩
     rw[hnx]
     unfold iM
     rw[if_neg (by lia)]
     rfl
   ·rintro σ H' ⟨rfl,v3,rfl⟩
    refine ⟨rfl,?_,some (.int (l.getD i 0:Nat)),v3,?_⟩
    ·rw[enext];exact hnlt
    ·rw[enext,Uj]
  ·rintro σ H' ⟨rfl,_,v2,v3,rfl⟩
   rw[aK,List.take_length]
   exact ⟨_,rfl,k⟩
def fW (g v:Nat) (e:Int):Sound.Bits:=if g=31 then Sound.sb v e else Sound.run (Sound.fold e/2^g)++Sound.u g (Sound.fold e%2^g)
def fU (g:GW) (es:List Int):Sound.Bits:=Sound.u 5 g.g++((if g.g=31 then Sound.u 6 g.v else [])++es.flatMap (fW g.g g.v))
theorem P8 (g:GW) (es:List Int):fU g es=Sound.groupBits es ⟨g.g,if g.g=31 then g.v else 0⟩:=by
 unfold fU Sound.groupBits
 congr 1
 by_cases h:g.g=31
 ·rw[if_pos h,if_pos h]
  simp only [if_pos h]
  congr 2
  funext e
  unfold fW
  rw[if_pos h]
 ·rw[if_neg h,if_neg h,List.nil_append]
  congr 1
  funext e
  unfold fW
  rw[if_neg h]
theorem bc.ne {C Cg:Addr} {H:Hp} {x gx dx:Addr} {b:Sound.Bits} {fs:List (Str×V)} (h:bc C H x b) (hg:H gx=some (.ins Cg dx fs)) (hf:fs.lookup ("written" :Str)=none):gx≠x:=by
 obtain ⟨d,h⟩:=h
 refine bV hg h fun e=>?_
 injection e with _ _ e
 rw[e] at hf
 cases hf
theorem dk.but {C Cg:Addr} {H H':Hp} {x gx:Addr} {b:Sound.Bits} {g:GW} (hw:bc C H x b) (hb:aP x H H') (hg:dk Cg H gx g):dk Cg H' gx g:=by
 obtain ⟨dx,h⟩:=hg
 exact ⟨dx,hb _ _ h (hw.ne h rfl)⟩
def E7 (C Cg:Addr):Sp:=fun vs H Q _=> ∃(x gx:Addr) (g:GW) (e:Int) (b:Sound.Bits),vs= [.ref x, .ref gx, .int e]∧bc C H x b∧dk Cg H gx g∧g.g≤31∧g.v≤1000∧b.length+(fW g.g g.v e).length≤cR∧Sound.fold e<2^40∧
 ∀H',aP x H H'→bc C H' x (b++fW g.g g.v e)→Q .aD H'
theorem uB:aM ["writer", "group", "rest", "folded", "run"] ["writer", "group", "rest"] (aG FW):=⟨rfl,rfl,rfl,by decide+kernel,rfl,by decide+kernel,by decide+kernel⟩
theorem IY (T:Txt K mg A):aC P w K mg base aO 3 A.qC A.qG ["writer", "group", "rest"] (E7 A.aX A.bK):=by
 refine T.CN.ok uB (fun vs H Q E h=>?_) (fun cdv Ar outer s H vs Q E hr h=>?_)
 ·obtain ⟨x,gx,g,e,b,rfl,_⟩:=h
  rfl
 ·obtain ⟨x,gx,g,e,b,rfl,hw,hg,hg31,hv,hl,hf,k⟩:=h
  have hr1:aR 1 _:=hr.mono (by decide)
  refine ⟨_,ak (bN (bO fj (aA (pv 1) rfl) (aY rfl T.tV) (bo _))
    (ak (ba (bC (pv 0) T.cf T.ur (yR T) hr T.yC .nil ay (aa (aA (pv 1) rfl) (aa (pv 2) ag)))) (aw Ta)) bX)
   (ak (aI (i:=3) uB.nd rfl (Or.inl rfl) (aN (As T) hr1 rfl T.GD T.xX.kp T.FC .nil ay (aa (pv 2) ag)))
   (ak (aI (i:=4) uB.nd rfl (Or.inl rfl) (aq fg (pv 3) (aA (pv 1) rfl)))
   (ak (ba (bC (pv 0) T.cf T.GK (Cn T) hr T.Ew .nil ay (aa (pv 4) ag)))
   (aw (ba (bC (pv 0) T.cf T.fb (eZ T) hr1 T.fc .nil ay (aa (aA (pv 1) rfl) (aa (aq cc (pv 3) (aq pJ (pv 4) (aA (pv 1) rfl))) ag)))))))),?_⟩
  obtain ⟨dx,hx⟩:=id hw
  obtain ⟨dg,hgx⟩:=id hg
  refine (aE rfl hgx T.dY T.jG rfl ⟨rfl,_,rfl,?_⟩)
  by_cases h31:g.g=31
  ·rw[decide_eq_true (show V.int (g.g:Nat)=V.int 31 by rw[h31];rfl)]
   refine bx ?_
   unfold fW at k hl
   rw[if_pos h31,ly] at hl
   rw[if_pos h31] at k
   refine (bA rfl hx rfl (aE rfl hgx T.dY T.wc rfl ⟨_,rfl,x,g.v,af e b ⟨rfl,hw,hl,hv,fun H' hb hw'=>k H' hb hw'⟩⟩))
  ·rw[decide_eq_false (show¬V.int (g.g:Nat)=V.int 31 from fun z=>h31 (by have:=V.int.inj z;lia))]
   refine bJ ?_
   unfold fW at k hl
   rw[if_neg h31,List.length_append,sv,bt] at hl
   rw[if_neg h31] at k
   refine ⟨_,rfl,e,rfl,?_⟩
   have ed:((Sound.fold e:Nat):Int)/2^((g.g:Nat):Int).toNat=((Sound.fold e/2^g.g:Nat):Int):=by rw[Int.toNat_natCast];simp
   refine ⟨_,rfl,aE rfl hgx T.dY T.jG rfl (af _ _ ⟨rfl,rfl,(by lia),?_⟩)⟩
   dsimp only
   rw[ed]
   refine (bA rfl hx rfl ⟨_,rfl,b8 x (Sound.fold e/2^g.g) b ⟨rfl,hw,by lia,fun H1 hb1 hw1=>?_⟩⟩)
   obtain ⟨dx1,hx1⟩:=id hw1
   obtain ⟨dg1,hgx1⟩:=hg.but hw hb1
   have hq:Sound.fold e/2^g.g<2^64:=Nat.lt_of_le_of_lt (Nat.div_le_self _ _) (Nat.lt_trans hf (by decide))
   refine (bA rfl hx1 rfl (aE rfl hgx1 T.dY T.jG rfl ⟨_,rfl,_,rfl,aE rfl hgx1 T.dY T.jG rfl (af _ _ ⟨rfl,rfl,⟨by lia,by lia,by rw[Int.natAbs_natCast];exact hq⟩,af _ _ ⟨rfl,rfl,?_⟩⟩)⟩))
   have em:((Sound.fold e:Nat):Int)-((Sound.fold e/2^g.g:Nat):Int)*2^((g.g:Nat):Int).toNat=((Sound.fold e%2^g.g:Nat):Int):=by
    rw[Int.toNat_natCast,show ((2:Int)^g.g)=((2^g.g:Nat):Int) by simp,←Int.natCast_mul]
    have:=Nat.div_add_mod (Sound.fold e) (2^g.g)
    rw[Nat.mul_comm] at this
    lia
   dsimp only
   rw[em]
   refine (az x g.g (Sound.fold e%2^g.g) _ ⟨rfl,hw1,Nat.mod_lt _ (Nat.two_pow_pos _),by rw[List.length_append,sv];lia,fun H2 hb2 hw2=>k H2 (hb1.trans hb2) ?_⟩)
   rw[←List.append_assoc]
   exact hw2
def LC (K:PySem.W.Frag) (C:Addr):Sp:=fun vs H Q _=> ∃(x q:Addr) (wd:Nat) (ns:List Int) (b:Sound.Bits),vs= [.ref x, .int wd, .ref q]∧bc C H x b∧ae K H q (ns.map V.int)∧wd≤1000∧b.length+ns.length*wd≤cR∧
 ∀H',aP x H H'→bc C H' x (b++Sound.numbers wd ns)→Q .aD H'
theorem AN:aM ["writer", "width", "numbers", "number"] ["writer", "width", "numbers"] (aG Bg):=⟨rfl,rfl,rfl,by decide+kernel,rfl,by decide+kernel,by decide+kernel⟩
theorem yK (T:Txt K mg A):aC P w K mg base aO 3 A.qb A.nY ["writer", "width", "numbers"] (LC K A.aX):=by
 refine T.rB.ok AN (fun vs H Q E h=>?_) (fun cdv Ar outer s H vs Q E hr h=>?_)
 ·obtain ⟨x,q,wd,ns,b,rfl,_⟩:=h
  rfl
 ·obtain ⟨x,q,wd,ns,b,rfl,hw,hq,hwd,hl,k⟩:=h
  refine ⟨_,aw (cv PassesOwn.never rfl (cg (pv 2)) (aT (i:=3) AN.nd rfl (Or.inl rfl))
   (aw (ba (bC (pv 0) T.cf T.ur (yR T) hr T.yC .nil ay (aa (pv 1) (aa (pv 3) ag)))))),?_⟩
  obtain ⟨dx,hx⟩:=id hw
  refine ⟨_,rfl,q,rfl,⟨_,hq⟩,?_⟩
  refine eA (K:=K) (a:=q) (xs:=ns.map V.int) (fun i σ H'=> ∃v3:Option V,σ= [some (.ref x),some (.int wd),some (.ref q),v3]∧aP x H H'∧bc A.aX H' x (b++Sound.numbers wd (ns.take i)))
   ⟨none,rfl,aP.refl _ _,by rw[List.take_zero];simpa [Sound.numbers] using hw⟩ (fun i σ H' _ ⟨_,_,hb,_⟩=>hb.sq hx hq) ?_ ?_
  ·rintro i y σ H' hi ⟨v3,rfl,hb,hwi⟩
   obtain ⟨rfl,hil⟩:=dU hi
   obtain ⟨d1,h1⟩:=id hwi
   have e:Sound.numbers wd (ns.take (i+1))=Sound.numbers wd (ns.take i)++Sound.sb wd (ns.getD i 0):=by
    unfold Sound.numbers
    rw[List.take_succ,List.getElem?_eq_getElem hil,List.flatMap_append,List.getD_eq_getElem?_getD,List.getElem?_eq_getElem hil]
    simp
   have hlen:(b++Sound.numbers wd (ns.take i)).length+wd≤cR:=by
    rw[List.length_append,eh,List.length_take,Nat.min_eq_left (by lia)]
    have:(i+1)*wd≤ns.length*wd:=Nat.mul_le_mul_right wd hil
    rw[Nat.add_mul,Nat.one_mul] at this
    lia
   refine (bA rfl h1 rfl ⟨_,rfl,_,rfl,az x wd _ _ ⟨rfl,hwi,hlen,hwd,fun H2 hb2 hw2=>⟨_,rfl,hb.trans hb2,?_⟩⟩⟩)
   rw[e,←List.append_assoc]
   exact hw2
  ·rintro σ H' ⟨v3,rfl,hb,hwi⟩
   rw[List.length_map,List.take_length] at hwi
   exact k H' hb hwi
def Ot (C:Addr):Sp:=fun vs H Q _=> ∃(x:Addr) (z:Nat) (b:Sound.Bits),vs= [.ref x, .int z]∧bc C H x b∧b.length+(1+z)≤cR∧ ∀H',aP x H H'→bc C H' x (b++Sound.flag z)→Q .aD H'
theorem LO:aM ["writer", "z"] ["writer", "z"] (aG CV):=⟨rfl,rfl,rfl,by decide+kernel,rfl,by decide+kernel,by decide+kernel⟩
theorem Lr (T:Txt K mg A):aC P w K mg base aO 3 A.ph A.mW ["writer", "z"] (Ot A.aX):=by
 refine T.Bq.ok LO (fun vs H Q E h=>?_) (fun cdv Ar outer s H vs Q E hr h=>?_)
 ·obtain ⟨x,z,b,rfl,_⟩:=h
  rfl
 ·obtain ⟨x,z,b,rfl,hw,hl,k⟩:=h
  have hr1:aR 1 _:=hr.mono (by decide)
  refine ⟨_,aw (bN (bO fj (pv 1) au (bo _)) (aw (ba (bC (pv 0) T.cf T.fb (eZ T) hr1 T.fc .nil ay (aa au (aa au ag)))))
   (ak (ba (bC (pv 0) T.cf T.fb (eZ T) hr1 T.fc .nil ay (aa au (aa au ag))))
   (aw (ba (bC (pv 0) T.cf T.GK (Cn T) hr T.Ew .nil ay (aa (aq cc (pv 1) au) ag)))))),?_⟩
  obtain ⟨dx,hx⟩:=id hw
  refine ⟨_,rfl,rfl,_,rfl,?_⟩
  by_cases hz:z=0
  ·subst hz
   refine bx ?_
   exact (bA rfl hx rfl (az x 1 0 b ⟨rfl,hw,by decide,by lia,fun H' hb hw'=>k H' hb hw'⟩))
  ·rw[decide_eq_false (show¬V.int (z:Nat)=V.int 0 from fun e=>hz (by have:=V.int.inj e;lia))]
   refine bJ ?_
   refine (bA rfl hx rfl (az x 1 1 b ⟨rfl,hw,by decide,by lia,fun H1 hb1 hw1=>?_⟩))
   obtain ⟨d1,h1⟩:=id hw1
   refine (bA rfl h1 rfl ⟨_,rfl,af _ _ ⟨rfl,rfl,?_⟩⟩)
   have e:(z:Int)-1=((z-1:Nat):Int):=by lia
   dsimp only
   rw[e]
   refine (b8 x (z-1) _ ⟨rfl,hw1,by rw[List.length_append,bt];lia,fun H2 hb2 hw2=>k H2 (hb1.trans hb2) ?_⟩)
   unfold Sound.flag
   rw[if_neg hz]
   have:b++(true::Sound.run (z-1))=b++Sound.u 1 1++Sound.run (z-1):=by rw[List.append_assoc];rfl
   rw[this]
   exact hw2
theorem E6 {es:List Int} {a b:Nat} (h1:a≤b) (h2:b≤es.length):dv (es.map V.int) (some (a:Int)) (some (b:Int))=(slice es a b).map V.int:=by
 unfold dv HT.cX slice
 simp only [List.length_map]
 rw[if_neg (by lia),if_neg (by lia),List.map_take,List.map_drop]
 have e1:min ((a:Int)).toNat es.length=a:=by lia
 have e2:min ((b:Int)).toNat es.length=b:=by lia
 rw[e1,e2]
def gY (q:RW) (es:List Int):Sound.Bits:=Sound.u 3 q.r++q.groups.flatMap fun g=>fU g (slice es g.first g.last)
structure xH (g:GW) (n:Nat):Prop where
 le:g.first≤g.last
 last:g.last≤n
 UI:g.g≤31
 UJ:g.v≤63
def zx (K:PySem.W.Frag) (C Cr Cg:Addr):Sp:=fun vs H Q _=> ∃(x rx q:Addr) (r:RW) (es:List Int) (b:Sound.Bits),vs= [.ref x, .ref rx, .ref q]∧bc C H x b∧cY K Cr Cg H rx r∧ae K H q (es.map V.int)∧(∀g∈r.groups,xH g es.length)∧r.r≤7∧(∀e∈es,Sound.fold e<2^40)∧es.length≤1024∧b.length+(gY r es).length≤cR∧
 ∀H',aP x H H'→bc C H' x (b++gY r es)→Q .aD H'
theorem cY.fld {Cr Cg:Addr} {H:Hp} {rx:Addr} {r:RW} (h:cY K Cr Cg H rx r): ∃(dx p:Addr) (as:List Addr),H rx=some (.ins Cr dx (my (.int r.r) (.ref p) (.int r.bits)))∧H p=some (.lst (as.map V.ref))∧as.length=r.groups.length∧ ∀(k:Nat) (a:Addr) (g:GW),as[k]?=some a→r.groups[k]?=some g→dk Cg H a g:=by
 obtain ⟨dx,p,h1,as,h2,h3,h4⟩:=h
 exact ⟨dx,p,as,h1,h2,h3,h4⟩
theorem yx:aM ["writer", "way", "rests", "group", "rest"] ["writer", "way", "rests"] (aG Ce):=⟨rfl,rfl,rfl,by decide+kernel,rfl,by decide+kernel,by decide+kernel⟩
theorem tG {α:Type} (f:α→Sound.Bits) (l:List α) (i:Nat):((l.take i).flatMap f).length≤(l.flatMap f).length:=by
 conv=>rhs;rw[←List.take_append_drop i l,List.flatMap_append,List.length_append]
 lia
theorem tJ {α:Type} (f:α→Sound.Bits) {l:List α} {i:Nat} {x:α} (h:l[i]?=some x):(l.take (i+1)).flatMap f=(l.take i).flatMap f++f x:=by
 rw[List.take_succ,h,List.flatMap_append];simp
theorem JB (T:Txt K mg A):aC P w K mg base aO 4 A.mY A.mF ["writer", "way", "rests"] (zx K A.aX A.cq A.bK):=by
 refine T.E3.ok yx (fun vs H Q E h=>?_) (fun cdv Ar outer s H vs Q E hr h=>?_)
 ·obtain ⟨x,rx,q,r,es,b,rfl,_⟩:=h
  rfl
 ·obtain ⟨x,rx,q,r,es,b,rfl,hw,hI,hq,hgs,hr7,hf,hel,hl,k⟩:=h
  have hr1:aR 1 _:=hr.mono (by decide)
  refine ⟨_,ak (ba (bC (pv 0) T.cf T.fb (eZ T) hr1 T.fc .nil ay (aa au (aa (aA (pv 1) rfl) ag))))
   (aw (cv PassesOwn.never rfl (cg (aA (pv 1) rfl)) (aT (i:=3) yx.nd rfl (Or.inl rfl))
    (ak (ba (bC (pv 0) T.cf T.fb (eZ T) hr1 T.fc .nil ay (aa au (aa (aA (pv 3) rfl) ag))))
    (ak (bN (bO fj (aA (pv 3) rfl) (aY rfl T.tV) (bo _)) (aw (ba (bC (pv 0) T.cf T.fb (eZ T) hr1 T.fc .nil ay (aa au (aa (aA (pv 3) rfl) ag))))) bX)
    (aw (cv PassesOwn.never rfl (cg (j8 jF (pv 2) (fq (aA (pv 3) rfl)) (fq (aA (pv 3) rfl)))) (aT (i:=4) yx.nd rfl (Or.inl rfl))
     (aw (ba (aN (IY T) hr rfl T.Jo T.CN.kp T.M7 .nil ay (aa (pv 0) (aa (pv 3) (aa (pv 4) ag))))))))))))
   ,?_⟩
  obtain ⟨dx,hx⟩:=id hw
  obtain ⟨dr,p,as,hrx,hp,hal,hag⟩:=hI.fld
  unfold gY at hl k
  rw[List.length_append,bt] at hl
  refine (bA rfl hx rfl (aE rfl hrx T.i4 T.C1 rfl (az x 3 r.r b ⟨rfl,hw,(by show r.r<8;lia),(by lia),fun H1 hb1 hw1=>?_⟩)))
  have hrx1:=hb1 _ _ hrx (hw.ne hrx rfl)
  have hp1:ae K H1 p (as.map V.ref):=hb1.sq hx (ae.of hp)
  refine (aE rfl hrx1 T.i4 T.GJ rfl ⟨p,rfl,⟨_,hp1⟩,?_⟩)
  refine eA (K:=K) (a:=p) (xs:=as.map V.ref) (fun i σ H'=> ∃v3 v4:Option V,σ= [some (.ref x),some (.ref rx),some (.ref q),v3,v4]∧aP x H H'∧bc A.aX H' x (b++Sound.u 3 r.r++(r.groups.take i).flatMap fun g=>fU g (slice es g.first g.last)))
   ⟨none,none,rfl,hb1,by rw[List.take_zero];simpa using hw1⟩ (fun i σ H' _ ⟨_,_,_,hb,_⟩=>hb.sq hx (ae.of hp)) ?_ ?_
  ·rintro i y σ H2 hi ⟨v3,v4,rfl,hb2,hw2⟩
   obtain ⟨ai,hai,rfl⟩:=pU hi
   have hil:i<r.groups.length:=by have:=(List.getElem?_eq_some_iff.mp hai).1;lia
   have hgi:=List.getElem?_eq_getElem hil
   generalize r.groups[i]=g at hgi
   obtain ⟨ok1,ok2,ok3,ok4⟩:=hgs g (List.mem_of_getElem? hgi)
   have hG:=(hag i ai g hai hgi).but hw hb2
   obtain ⟨dg,hgx⟩:=id hG
   obtain ⟨d2,hx2⟩:=id hw2
   have hfs:=tJ (fun g=>fU g (slice es g.first g.last)) hgi
   have htl:=tG (fun g=>fU g (slice es g.first g.last)) r.groups (i+1)
   rw[hfs,List.length_append] at htl
   generalize hpre:b++Sound.u 3 r.r++(r.groups.take i).flatMap (fun g=>fU g (slice es g.first g.last))=pre at hw2 hx2
   have hprel:pre.length+(fU g (slice es g.first g.last)).length≤cR:=by
    rw[←hpre,List.length_append,List.length_append,bt]
    lia
   have hfin: ∀H',aP x H2 H'→bc A.aX H' x (pre++fU g (slice es g.first g.last))→aP x H H'∧bc A.aX H' x (b++Sound.u 3 r.r++(r.groups.take (i+1)).flatMap fun g=>fU g (slice es g.first g.last)):=fun H' hb hw'=>⟨hb2.trans hb,by
    rw[hfs,←List.append_assoc,hpre];exact hw'⟩
   unfold fU at hprel hfin
   rw[List.length_append,bt,List.length_append] at hprel
   refine (bA rfl hx2 rfl (aE rfl hgx T.dY T.jG rfl (az x 5 g.g pre ⟨rfl,hw2,(by show g.g<32;lia),by lia,fun H3 hb3 hw3=>?_⟩)))
   have hG3:=hG.but hw2 hb3
   obtain ⟨dg3,hgx3⟩:=id hG3
   obtain ⟨d3,hx3⟩:=id hw3
   have loop: ∀(D:Ends) (H4:Hp) (pre4:Sound.Bits) (v4:Option V),aP x H3 H4→bc A.aX H4 x pre4→pre4.length+((slice es g.first g.last).flatMap (fW g.g g.v)).length≤cR→
     (∀v4 H',aP x H4 H'→bc A.aX H' x (pre4++(slice es g.first g.last).flatMap (fW g.g g.v))→D.nx [some (V.ref x),some (V.ref rx),some (V.ref q),some (V.ref ai),v4] H')→
     Dq (uS K (yf (xf K) (cZ 2) (tD (i7 K (cZ 3) "first")) (tD (i7 K (cZ 3) "last")))) (i9 4) (rW (qD (E7 A.aX A.bK) [] E0 (fh (cZ 0) (fh (cZ 3) (fh (cZ 4) fY))))) D [some (V.ref x),some (V.ref rx),some (V.ref q),some (V.ref ai),v4] H4:=by
    intro D H4 pre4 v4 hb4 hw4 hl4 fin4
    have hG4:=hG3.but hw3 hb4
    obtain ⟨dg4,hgx4⟩:=id hG4
    obtain ⟨d4,hx4⟩:=id hw4
    have hq4:ae K H4 q (es.map V.int):=(hb2.trans (hb3.trans hb4)).sq hx hq
    refine ⟨_,rfl,aE rfl hgx4 T.dY T.AL rfl ⟨_,rfl,aE rfl hgx4 T.dY T.A5 rfl ⟨_,rfl,af q _ ⟨rfl,hq4,fun ps hps=>?_⟩⟩⟩⟩
    rw[E6 ok1 ok2]
    have s5:ah H4 (upd H4 ps (.lst ((slice es g.first g.last).map V.int))):=aQ hps
    refine ⟨ps,rfl,⟨_,ae.of ao⟩,?_⟩
    refine eA (K:=K) (a:=ps) (xs:=(slice es g.first g.last).map V.int) (fun j σ H'=> ∃v4:Option V,σ= [some (V.ref x),some (V.ref rx),some (V.ref q),some (V.ref ai),v4]∧aP x (upd H4 ps (.lst ((slice es g.first g.last).map V.int))) H'∧bc A.aX H' x (pre4++((slice es g.first g.last).take j).flatMap (fW g.g g.v)))
     ⟨v4,rfl,aP.refl _ _,by rw[List.take_zero];exact ⟨d4,by simpa using s5 _ _ hx4⟩⟩ (fun j σ H' _ ⟨_,_,hb,_⟩=>hb.sq (s5 _ _ hx4) (ae.of ao)) ?_ ?_
    ·rintro j y σ H6 hj ⟨v4',rfl,hb6,hw6⟩
     obtain ⟨rfl,hjl⟩:=dU hj
     have hje:(slice es g.first g.last)[j]?=some ((slice es g.first g.last).getD j 0):=by rw[List.getD_eq_getElem?_getD,List.getElem?_eq_getElem hjl];rfl
     have hfj:=tJ (fW g.g g.v) hje
     have htj:=tG (fW g.g g.v) (slice es g.first g.last) (j+1)
     rw[hfj,List.length_append] at htj
     have hG6:dk A.bK H6 ai g:=(hG4.same s5).but ⟨d4,s5 _ _ hx4⟩ hb6
     refine ⟨_,rfl,_,rfl,_,rfl,fT x ai g _ _ ⟨rfl,hw6,hG6,ok3,by lia,by rw[List.length_append];lia,hf _ (tj (List.mem_of_getElem? hje)),fun H7 hb7 hw7=>⟨_,rfl,hb6.trans hb7,?_⟩⟩⟩
     rw[hfj,←List.append_assoc]
     exact hw7
    ·rintro σ H6 ⟨v4',rfl,hb6,hw6⟩
     rw[List.length_map,List.take_length] at hw6
     exact fin4 _ _ ((aP.of s5).trans hb6) hw6
   refine (aE rfl hgx3 T.dY T.jG rfl ⟨rfl,_,rfl,?_⟩)
   by_cases h31:g.g=31
   ·rw[decide_eq_true (show V.int (g.g:Nat)=V.int 31 by rw[h31];rfl)]
    refine bx ?_
    rw[if_pos h31,bt] at hprel
    rw[if_pos h31] at hfin
    refine (bA rfl hx3 rfl (aE rfl hgx3 T.dY T.wc rfl ⟨x,6,g.v,_,rfl,hw3,(by show g.v<64;lia),by rw[List.length_append,bt];lia,fun H4 hb4 hw4=>?_⟩))
    refine loop _ H4 _ _ hb4 hw4 (by rw[List.length_append,List.length_append,bt,bt];lia) fun v4' H' hb' hw'=>?_
    have z:=hfin H' (hb3.trans (hb4.trans hb')) (by rw[←List.append_assoc,←List.append_assoc];exact hw')
    exact (af _ _ ⟨rfl,z.1,z.2⟩)
   ·rw[decide_eq_false (show¬V.int (g.g:Nat)=V.int 31 from fun z=>h31 (by have:=V.int.inj z;lia))]
    refine bJ ?_
    rw[if_neg h31,List.length_nil] at hprel
    rw[if_neg h31,List.nil_append] at hfin
    refine loop _ H3 _ _ (aP.refl _ _) hw3 (by rw[List.length_append,bt];lia) fun v4' H' hb' hw'=>?_
    have z:=hfin H' (hb3.trans hb') (by rw[←List.append_assoc];exact hw')
    exact (af _ _ ⟨rfl,z.1,z.2⟩)
  ·rintro σ H2 ⟨v3,v4,rfl,hb2,hw2⟩
   rw[List.length_map,hal,List.take_length,List.append_assoc] at hw2
   exact k H2 hb2 hw2
structure bH where
 kind:Nat
 z:Nat
 wd:Nat
 y:List Int
 a:List Int
 h:Nat
 q:RW
 bits:Nat
def IsPart (K:PySem.W.Frag) (A:cF) (H:Hp) (x:Addr) (d:bH):Prop:= ∃dx sx gv rv,H x=some (.ins A.bL dx (cQ (.int d.kind) (.ref sx) gv rv (.int d.bits)))∧dM K A.cG H sx d.wd d.z d.y∧
 (2≤d.kind→ ∃gx rx,gv= .ref gx∧rv= .ref rx∧dq K A.cu H gx d.a d.h∧cY K A.cq A.bK H rx d.q)
theorem IsPart.same {H H':Hp} {x:Addr} {d:bH} (s:ah H H') (h:IsPart K A H x d):IsPart K A H' x d:=by
 obtain ⟨dx,sx,gv,rv,h1,h2,h3⟩:=h
 refine ⟨dx,sx,gv,rv,s _ _ h1,h2.same s,fun hk=>?_⟩
 obtain ⟨gx,rx,e1,e2,h4,h5⟩:=h3 hk
 exact ⟨gx,rx,e1,e2,h4.same s,h5.same s⟩
def Fv:RW:=⟨0, [],0⟩
def fD (wd z:Nat) (y:List Int):bH:=⟨1,z,wd,y, [],0,Fv,1+z+4+y.length*wd⟩
def sH (wd z:Nat) (y:List Int):bH:=⟨0,z,wd,y, [],0,Fv,1+z+4+wd⟩
def eR (wd z:Nat) (y:List Int) (k:Nat):Option bH:=match dI k y with
 |none=>none
 |some (h,a)=>(fA y.length (aV k) ((cB a h y).map Sound.fold)).map fun q=>⟨k,z,wd,y,a,h,q,1+z+4+(aV k*wd+q.bits)+(if k≤6 then 0 else 4+(k-6)*12)⟩
theorem rb {H:Hp} {x g C C' dx d:Addr} {kd sh gv rv b:V} {fs:List (Str×V)} (hx:H x=some (.ins C dx (cQ kd sh gv rv b))) (hg:H g=some (.ins C' d fs)) (hf:fs.lookup ("rests_way" :Str)=none):g≠x:=by
 refine bV hg hx fun e=>?_
 injection e with _ _ e
 rw[e] at hf
 cases hf
theorem yY {H:Hp} {x q C dx:Addr} {fs:List (Str×V)} {o:HO} {xs:List V} (hx:H x=some (.ins C dx fs)) (h:ae K H q xs):ae K (upd H x o) q xs:=CZ h hx
theorem dM.pw {H:Hp} {x C dx sx:Addr} {kd sh gv rv b:V} {o:HO} {wd z:Nat} {y:List Int} (hx:H x=some (.ins C dx (cQ kd sh gv rv b))) (h:dM K A.cG H sx wd z y):dM K A.cG (upd H x o) sx wd z y:=by
 obtain ⟨d,l,h1,h2⟩:=h
 exact ⟨d,l,by rw[aB (rb hx h1 rfl)];exact h1,yY hx h2⟩
theorem dq.pw {H:Hp} {x C dx gx:Addr} {kd sh gv rv b:V} {o:HO} {a:List Int} {hh:Nat} (hx:H x=some (.ins C dx (cQ kd sh gv rv b))) (h:dq K A.cu H gx a hh):dq K A.cu (upd H x o) gx a hh:=by
 obtain ⟨d,l,h1,h2⟩:=h
 exact ⟨d,l,by rw[aB (rb hx h1 rfl)];exact h1,yY hx h2⟩
theorem cY.pw {H:Hp} {x C dx rx:Addr} {kd sh gv rv b:V} {o:HO} {q:RW} (hx:H x=some (.ins C dx (cQ kd sh gv rv b))) (h:cY K A.cq A.bK H rx q):cY K A.cq A.bK (upd H x o) rx q:=by
 obtain ⟨d,p,h1,as,h2,h3,h4⟩:=h
 refine ⟨d,p,by rw[aB (rb hx h1 rfl)];exact h1,as,by rw[aB (bV h2 hx (by intro e;cases e))];exact h2,h3,fun k a g e1 e2=>?_⟩
 obtain ⟨dg,hg⟩:=h4 k a g e1 e2
 exact ⟨dg,by rw[aB (rb hx hg rfl)];exact hg⟩
def R8 (K:PySem.W.Frag) (A:cF):Sp:=fun vs H Q _=> ∃(sx:Addr) (wd z:Nat) (y:List Int),vs= [.ref sx]∧dM K A.cG H sx wd z y∧y.length≤1024∧ ∀x H',ah H H'→IsPart K A H' x (fD wd z y)→Q (.ref x) H'
theorem GP:aM ["shrunk", "way"] ["shrunk"] (aG AH):=⟨rfl,rfl,rfl,by decide+kernel,rfl,by decide+kernel,by decide+kernel⟩
theorem PL (T:Txt K mg A):aC P w K mg base aO 3 A.qQ A.pW ["shrunk"] (R8 K A):=by
 refine T.Di.ok GP (fun vs H Q E h=>?_) (fun cdv Ar outer s H vs Q E hr h=>?_)
 ·obtain ⟨sx,wd,z,y,rfl,_⟩:=h
  rfl
 ·obtain ⟨sx,wd,z,y,rfl,hS,hl,k⟩:=h
  refine ⟨_,ak (aI (i:=1) GP.nd rfl (Or.inl rfl) (eJ T.xZ (vK T) hr rfl T.wV T.xG .nil ay (aa (aY rfl T.B3) (aa (pv 0) (aa gQ ag)))))
   (ak (lu (pv 1) (aq eE (bf bU (by rfl) T.bW PySem.boot_len (aa (aA (pv 0) rfl) ag)) (aA (pv 0) rfl)) oK)
   (aw (aS (pv 1)))),?_⟩
  refine ⟨_,rfl,?_⟩
  intro x dx hx hdx hne
  have sm2: ∀o,ah H (upd (upd H dx (.own x)) x o):=fun o=>dG hx hdx
  refine (gi x dx sx _ _ wd z y ⟨rfl,ao,hS.same (sm2 _),rfl,?_⟩)
  rw[gL]
  obtain ⟨ds,l,hs,hls⟩:=hS.same (sm2 (.ins A.bL dx (cQ (V.int 1) (V.ref sx) V.aD V.aD (V.int ((1+z+4:Nat):Int)))))
  refine ⟨_,rfl,x,A.bL,dx,_,_,rfl,ao,T.cx,T.iC,iZ _ _ _ _ _,aE rfl hs T.cV T.iT rfl (af l _ ⟨rfl, .inl hls,aE rfl hs T.cV T.j9 rfl (af _ _ ⟨rfl,rfl, .inl ?_,af _ _ ⟨rfl,rfl,dx,_,ao,(by show 5<1000;decide),?_⟩⟩)⟩)⟩
  ·rw[List.length_map]
   have e64:(2:Int)^64=18446744073709551616:=by decide
   lia
  ·rw[rn,b7]
   have eb:((1+z+4:Nat):Int)+(((y.map V.int).length:Nat):Int)*(wd:Nat)=((1+z+4+y.length*wd:Nat):Int):=by
    rw[List.length_map];push_cast;rfl
   dsimp only
   rw[eb]
   exact ⟨_,rfl,k x _ (sm2 _) ⟨dx,sx,_,_,ao,hS.same (sm2 _),fun hk=>absurd hk (by show¬2≤1;decide)⟩⟩
def Jy (K:PySem.W.Frag) (A:cF):Sp:=fun vs H Q _=> ∃(k:Nat) (sx:Addr) (wd z:Nat) (y:List Int),vs= [.int k, .ref sx]∧dM K A.cG H sx wd z y∧(2≤k∧k≤10∧1≤y.length∧y.length≤1024)∧Bd 16777216 y∧
 (eR wd z y k=none→ ∀H',ah H H'→Q .aD H')∧(∀d,eR wd z y k=some d→ ∀x H',ah H H'→IsPart K A H' x d→Q (.ref x) H')
theorem md:aM ["kind", "shrunk", "n", "order", "guess", "way"] ["kind", "shrunk"] (aG zR):=⟨rfl,rfl,rfl,by decide+kernel,rfl,by decide+kernel,by decide+kernel⟩
theorem TB (T:Txt K mg A):aC P w K mg base aO 6 A.nM A.nU ["kind", "shrunk"] (Jy K A):=by
 refine T.Cm.ok md (fun vs H Q E h=>?_) (fun cdv Ar outer s H vs Q E hr h=>?_)
 ·obtain ⟨k,sx,wd,z,y,rfl,_⟩:=h
  rfl
 ·obtain ⟨k,sx,wd,z,y,rfl,hS,⟨h2,h10,hn1,hn2⟩,hb,k0,k1⟩:=h
  have hr1:aR 1 _:=hr.mono (by decide)
  have hr2:aR 2 _:=hr.mono (by decide)
  have hr4:aR 4 _:=hr.mono (by decide)
  refine ⟨_,ak (aI (i:=2) md.nd rfl (Or.inl rfl) (bf bU (by rfl) T.bW PySem.boot_len (aa (aA (pv 1) rfl) ag)))
   (ak (aI (i:=3) md.nd rfl (Or.inl rfl) (aN (Ey T) hr1 rfl T.y6 T.yE.kp T.EI .nil ay (aa (pv 0) ag)))
   (ak (aI (i:=4) md.nd rfl (Or.inl rfl) (aN (Mq T) hr4 rfl T.Ur T.Co.kp T.RS .nil ay (aa (pv 0) (aa (pv 3) (aa (aA (pv 1) rfl) ag)))))
   (ak (bN (rV (vA (pv 4))) (aw (aS gQ)) bX)
   (ak (aI (i:=5) md.nd rfl (Or.inl rfl) (eJ T.xZ (vK T) hr2 rfl T.wV T.xG .nil ay (aa (pv 0) (aa (pv 1) (aa (pv 4) ag)))))
   (ak (bh (pv 5) (aN (Ny T) hr rfl T.NI T.Fx.kp T.QQ .nil ay (aa (pv 2) (aa (pv 3) (aa (bC (pv 4) T.gJ T.F8 (Ca T) hr2 T.zw .nil ay (aa (aA (pv 1) rfl) ag)) ag)))) rfl)
   (ak (lu (pv 5) (aq bE (aq eE (pv 3) (aA (pv 1) rfl)) (aA (aA (pv 5) rfl) rfl)) oK)
   (ak (bN (bO pd (pv 0) (aY rfl T.kW) (bo _)) (aw (lu (pv 5) (aq bE au (aq eE (pv 3) (aY rfl T.xW))) oK)) bX)
   (aw (aS (pv 5)))))))))),?_⟩
  obtain ⟨ds,l,hs,hls⟩:=id hS
  refine (aE rfl hs T.cV T.iT rfl (af l _ ⟨rfl, .inl hls,?_⟩))
  refine ⟨_,rfl,k,rfl,⟨h2,h10⟩,?_⟩
  refine ⟨_,rfl,_,rfl,aE rfl hs T.cV T.iT rfl (b8 k l y ⟨rfl,hls,⟨h2,h10,hn2⟩,hb,fun e H1 s1=>?_,fun h a e x H1 hx s1 hg=>?_⟩)⟩
  ·refine ⟨_,rfl,_,rfl,bx ?_⟩
   exact k0 (by unfold eR;rw[e]) H1 s1
  ·refine ⟨_,rfl,_,rfl,bJ ?_⟩
   obtain ⟨g1,g2,g3⟩:=Fd h2 h10 e
   refine ⟨_,rfl,_,rfl,_,rfl,?_⟩
   intro x2 dx2 hx2 hdx2 hne
   have sm: ∀o,ah H1 (upd (upd H1 dx2 (.own x2)) x2 o):=fun o=>dG hx2 hdx2
   refine (gi x2 dx2 sx _ _ wd z y ⟨rfl,ao,(hS.same s1).same (sm _),rfl,?_⟩)
   rw[gL]
   generalize hH2:upd (upd H1 dx2 (.own x2)) x2 (.ins A.bL dx2 (cQ (V.int (k:Nat)) (V.ref sx) (V.ref x) V.aD (V.int ((1+z+4:Nat):Int))))=H2
   have s12:ah H1 H2:=by rw[←hH2];exact sm _
   have hw2:H2 x2=some (.ins A.bL dx2 (cQ (V.int (k:Nat)) (V.ref sx) (V.ref x) V.aD (V.int ((1+z+4:Nat):Int)))):=by rw[←hH2];exact ao
   have hg2:=hg.same s12
   obtain ⟨dg,pg,hgx,hgp⟩:=id hg2
   have hs2:=s12 _ _ (s1 _ _ hs)
   have hls2:=(s1.trans s12).seq hls
   refine ⟨_,rfl,_,rfl,_,rfl,b8 x dg _ ⟨rfl,hgx,Cb _ _,aE rfl hs2 T.cV T.iT rfl (fT x l a y h ⟨rfl,hg2,hls2,by lia,hn2,g2,fun D3 H3 hD3 s3 hx3=>?_⟩)⟩⟩
   have hrl:(cB a h y).length+aV k=y.length:=by
    unfold cB
    rw[List.length_map,List.length_range];lia
   have eln:(((y.map V.int).length:Nat):Int)=(y.length:Nat):=by rw[List.length_map]
   refine ⟨D3,cB a h y,y.length,aV k,by rw[eln];rfl,ae.of hx3,hrl,⟨hn1,hn2⟩,fun rw_ xr H4 hrw s4 hI=>?_⟩
   have hw4:=s4 _ _ (s3 _ _ hw2)
   refine ⟨_,rfl,az x2 A.bL dx2 _ ⟨rfl,hw4,T.cx,T.rg,(by show 5<1000;decide),?_⟩⟩
   rw[Ug]
   obtain ⟨dr,pr,hxr,_⟩:=id hI
   have hne1:xr≠x2:=bV hxr hw4 (by intro e;injection e with _ _ e;injection e with e1 _;injection e1 with e1 _;exact absurd e1 (by decide))
   have hs4:=s4 _ _ (s3 _ _ hs2)
   have hne2:sx≠x2:=bV hs4 hw4 (by intro e;injection e with _ _ e;injection e with e1 _;injection e1 with e1 _;exact absurd e1 (by decide))
   have sall:ah H H4:=((s1.trans s12).trans s3).trans s4
   have hx2H:H x2=none:=s1.free hx2
   have okS: ∀o,ah H (upd H4 x2 o):=fun o=>eO sall hx2H
   refine ⟨_,rfl,x2,A.bL,dx2,_,_,rfl,ao,T.cx,T.iC,iZ _ _ _ _ _,_,rfl,_,rfl,sx,A.cG,ds,_,_,rfl,(by rw[aB hne2];exact hs4),T.cV,T.j9,rfl,_,_,rfl,rfl, .inl ?_,
    _,rfl,x2,A.bL,dx2,_,_,rfl,ao,T.cx,T.rg,Sx _ _ _ _ _,xr,A.cq,dr,_,_,rfl,(by rw[aB hne1];exact hxr),T.i4,T.rF,vi _ _ _,_,_,rfl,rfl,_,_,rfl,rfl,dx2,_,ao,(by show 5<1000;decide),?_⟩
   ·have e64:(2:Int)^64=18446744073709551616:=by decide
    have:aV k≤10:=by unfold aV;split<;>lia
    show-(2^64)<((aV k:Nat):Int)∧((aV k:Nat):Int)<2^64
    lia
   ·rw[rn,b7]
    have eb:((1+z+4:Nat):Int)+(((aV k:Nat):Int)*(wd:Nat)+(rw_.bits:Nat))=((1+z+4+(aV k*wd+rw_.bits):Nat):Int):=by push_cast;rfl
    have hk2:eR wd z y k=some ⟨k,z,wd,y,a,h,rw_,1+z+4+(aV k*wd+rw_.bits)+(if k≤6 then 0 else 4+(k-6)*12)⟩:=by
     unfold eR
     rw[e]
     simp only
     rw[hrw];rfl
    have hend: ∀o b,o=HO.ins A.bL dx2 (cQ (V.int (k:Nat)) (V.ref sx) (V.ref x) (V.ref xr) (V.int (b:Nat)))→IsPart K A (upd H4 x2 o) x2 ⟨k,z,wd,y,a,h,rw_,b⟩:=fun o b eo=>by
     subst eo
     exact ⟨dx2,sx,_,_,ao,dM.pw hw4 (hS.same sall),fun _=>(af x xr ⟨rfl,rfl,dq.pw hw4 ((hg2.same s3).same s4),cY.pw hw4 hI⟩)⟩
    show (fun G:Int→Prop=>G (((1+z+4:Nat):Int)+(((aV k:Nat):Int)*(wd:Nat)+(rw_.bits:Nat)))) (fun b1=>kv _ _ _ _ (upd H4 x2 (.ins A.bL dx2 (cQ (V.int (k:Nat)) (V.ref sx) (V.ref x) (V.ref xr) (V.int b1)))))
    rw[eb]
    show kv _ _ _ _ _
    refine ⟨_,rfl,af _ _ ⟨rfl,rfl,_,rfl,?_⟩⟩
    by_cases h6:k≤6
    ·rw[decide_eq_false (show¬(7:Int)≤(k:Nat) by lia)]
     refine bJ ?_
     rw[if_pos h6,Nat.add_zero] at hk2
     exact ⟨_,rfl,k1 _ hk2 x2 _ (okS _) (hend _ _ rfl)⟩
    ·rw[decide_eq_true (show (7:Int)≤(k:Nat) by lia)]
     refine bx ?_
     have ax:aV k=k-6:=by unfold aV;rw[if_neg h6]
     refine ⟨_,rfl,x2,A.bL,dx2,_,_,rfl,ao,T.cx,T.iC,iZ _ _ _ _ _,_,rfl,af _ _ ⟨rfl,rfl, .inr ⟨by decide,by decide⟩,af _ _ ⟨rfl,rfl,af _ _ ⟨rfl,rfl,dx2,_,ao,(by show 5<1000;decide),?_⟩⟩⟩⟩
     rw[rn,b7]
     have ec:((1+z+4+(aV k*wd+rw_.bits):Nat):Int)+(4+((aV k:Nat):Int)*12)=((1+z+4+(aV k*wd+rw_.bits)+(4+(k-6)*12):Nat):Int):=by rw[←ax];push_cast;rfl
     rw[if_neg h6] at hk2
     refine ⟨_,rfl,k1 _ hk2 x2 _ (okS _) (hend _ _ ?_)⟩
     rw[←ec]
     rfl
def iO (wd z:Nat) (y:List Int) (l:bH) (k:Nat):bH:=match eR wd z y k with
 |none=>l
 |some d=>if d.bits<l.bits then d else l
def iw (wd z:Nat) (y:List Int) (i:Nat):bH:=((List.range i).map (· +2)).foldl (iO wd z y) (fD wd z y)
theorem ME (wd z:Nat) (y:List Int) (i:Nat):iw wd z y (i+1)=iO wd z y (iw wd z y i) (i+2):=by
 unfold iw
 rw[List.range_succ,List.map_append,List.foldl_append];rfl
def cp (w o:Nat) (ns:List Int):bH:=if Sound.same ns=true then sH (w-Sound.zeros w ns) (Sound.zeros w ns) (Sound.shrunk w ns) else iw (w-Sound.zeros w ns) (Sound.zeros w ns) (Sound.shrunk w ns) (5+o)
def Ri (K:PySem.W.Frag) (A:cF):Sp:=fun vs H Q _=> ∃(wd o:Nat) (q:Addr) (ns:List Int),vs= [.int wd, .int o, .ref q]∧ae K H q (ns.map V.int)∧(1≤wd∧wd≤25∧o≤4)∧bM wd ns∧(1≤ns.length∧ns.length≤1024)∧
 ∀x H',ah H H'→IsPart K A H' x (cp wd o ns)→Q (.ref x) H'
theorem iE:aM ["width", "order", "numbers", "shrunk", "way", "least", "kind", "number"] ["width", "order", "numbers"] (aG C6):=⟨rfl,rfl,rfl,by decide+kernel,rfl,by decide+kernel,by decide+kernel⟩
theorem mV (T:Txt K mg A):aC P w K mg base aO 7 A.pq A.qA ["width", "order", "numbers"] (Ri K A):=by
 refine T.kP.ok iE (fun vs H Q E h=>?_) (fun cdv Ar outer s H vs Q E hr h=>?_)
 ·obtain ⟨wd,o,q,ns,rfl,_⟩:=h
  rfl
 ·obtain ⟨wd,o,q,ns,rfl,hq,⟨hw1,hw2,ho⟩,hf,⟨hn1,hn2⟩,k⟩:=h
  have hr2:aR 2 _:=hr.mono (by decide)
  have hr3:aR 3 _:=hr.mono (by decide)
  refine ⟨_,ak (aI (i:=3) iE.nd rfl (Or.inl rfl) (eJ T.Lm (K4 T) hr3 rfl T.R0 T.Mg .nil ay (aa (pv 0) (aa (pv 2) ag))))
   (ak (bN (jl (bf (o3 rfl) rfl T.ll (by decide+kernel:bootBuiltins "all" =some (.builtin "all")) (aa (cw (own:= [("number",7)]) rfl iE.nd (cg (pv 2)) (b5 (by kernel_rfl)) (fun _ _ _ _ _=>aT (i:=7) iE.nd rfl (Or.inl rfl)) (fun _ _ _ _ _=>bZ)
      (fun _ _ _ _ _=>jd fj (pv 7) (bS (fw (K:=K) rfl) (pv 2) au (fun _ _=>rfl)) (bo _))) ag)))
     (ak (aI (i:=4) iE.nd rfl (Or.inl rfl) (eJ T.xZ (vK T) hr2 rfl T.wV T.xG .nil ay (aa (aY rfl T.zo) (aa (pv 3) (aa gQ ag)))))
     (ak (lu (pv 4) (aA (pv 3) rfl) oK) (aw (aS (pv 4))))) bX)
   (ak (aI (i:=5) iE.nd rfl (Or.inl rfl) (aN (PL T) hr3 rfl T.Kb T.Di.kp T.Tf .nil ay (aa (pv 3) ag)))
   (ak (cv PassesOwn.never rfl (yI rfl T.dt (aa (aY rfl T.Az) (aa (aq bE (aY rfl T.kW) (pv 1)) ag))) (aT (i:=6) iE.nd rfl (Or.inl rfl))
    (ak (aI (i:=4) iE.nd rfl (Or.inl rfl) (aN (TB T) hr rfl T.Oe T.Cm.kp T.MA .nil ay (aa (pv 6) (aa (pv 3) ag))))
    (aw (bN (PW.pt (MF (rV (Jl (pv 4))) (Jr (bO jt (aA (pv 4) rfl) (aA (pv 5) rfl) (bo _))))) (aw (aI (i:=5) iE.nd rfl (Or.inl rfl) (pv 4))) bX))))
   (aw (aS (pv 5)))))),?_⟩
  have e62:(2:Int)^62=4611686018427387904:=by decide
  have hbd:=CM hw2 hf
  have hyl:(Sound.shrunk wd ns).length=ns.length:=by unfold Sound.shrunk;rw[List.length_map]
  refine ⟨_,rfl,_,rfl,?_⟩
  intro x dx hx hdx hne
  have sm:ah H (upd (upd H dx (.own x)) x (.ins A.cG dx [])):=dG hx hdx
  refine (fT x dx q wd ns ⟨rfl,ao,sm.seq hq,⟨hw1,hw2⟩,hf,hn2,fun H1 kp hS=>⟨rfl,?_⟩⟩)
  have s1:ah H H1:=ah.made hx hdx kp
  have hq1:=s1.seq hq
  unfold cp at k
  generalize Sound.shrunk wd ns=y at*
  generalize Sound.zeros wd ns=z at*
  generalize wd-z=wz at*
  refine ⟨_,rfl,q,rfl,⟨_,hq1⟩,fun D hD=>?_⟩
  refine cC (J:=dH K q) hD ns.length (by rw[sizeLine_eq];lia) (fun i=> .bl (decide (V.int (ns.getD i 0)=V.int (ns.getD 0 0)))) (fun i Hh hi s2=>⟨_,_,s2.seq hq1,cK hi⟩) (fun Hh s2=>⟨_,s2.seq hq1,by simp⟩) ?_ ?_
  ·rintro i Hh v H' hi s2 ⟨rfl,hx2⟩ C hC
   obtain ⟨rfl,_⟩:=dU (hx2 _ (s2.seq hq1))
   exact ⟨rfl,_,rfl,_,rfl,az q _ _ _ ⟨rfl,rfl,s2.seq hq1,bP (j:=0) (cK hn1),rfl,hC _ (ah.refl _)⟩⟩
  intro H2 s2 hx2
  have s12:ah H H2:=s1.trans s2
  have hS2:=hS.same s2
  have ebs:(List.range ns.length).map (fun i=>V.bl (decide (V.int (ns.getD i 0)=V.int (ns.getD 0 0))))=(ns.map fun v=>v==ns.headD 0).map V.bl:=by
   refine List.ext_getElem (by simp) fun i h1 h2=>?_
   have hi:i<ns.length:=by simpa using h2
   have hh:ns.getD 0 0=ns.headD 0:=by cases ns<;>rfl
   simp [List.getD_eq_getElem?_getD,List.getElem?_eq_getElem hi]
   have h0:ns[0]?.getD 0=ns.head?.getD 0:=by cases ns<;>rfl
   rw[h0]
   rw[Bool.eq_iff_iff];simp
  rw[ebs] at hx2
  refine (af D _ ⟨rfl,ae.of hx2,_,rfl,?_⟩)
  have esame:(ns.map fun v=>v==ns.headD 0).all id=Sound.same ns:=by unfold Sound.same;rw[List.all_map];rfl
  rw[esame]
  refine cP (fun hsm=>?_) fun hsm=>?_
  ·rw[if_pos hsm] at k
   refine ⟨_,rfl,?_⟩
   intro x3 dx3 hx3 hdx3 hne3
   have sm3: ∀o,ah H2 (upd (upd H2 dx3 (.own x3)) x3 o):=fun o=>dG hx3 hdx3
   refine (gi x3 dx3 x _ _ wz z y ⟨rfl,ao,hS2.same (sm3 _),rfl,?_⟩)
   rw[gL]
   obtain ⟨ds,l,hs,hls⟩:=hS2.same (sm3 (.ins A.bL dx3 (cQ (V.int 0) (V.ref x) V.aD V.aD (V.int ((1+z+4:Nat):Int)))))
   refine ⟨_,rfl,x3,A.bL,dx3,_,_,rfl,ao,T.cx,T.iC,iZ _ _ _ _ _,aE rfl hs T.cV T.j9 rfl (af _ _ ⟨rfl,rfl,dx3,_,ao,(by show 5<1000;decide),?_⟩)⟩
   rw[rn,b7]
   have eb:((1+z+4:Nat):Int)+(wz:Nat)=((1+z+4+wz:Nat):Int):=by lia
   dsimp only
   rw[eb]
   exact ⟨_,rfl,k x3 _ (s12.trans (sm3 _)) ⟨dx3,x,_,_,ao,hS2.same (sm3 _),fun hk=>absurd hk (by show¬2≤0;decide)⟩⟩
  ·rw[if_neg hsm] at k
   refine ⟨_,rfl,az x wz z y ⟨rfl,hS2,by lia,fun x4 H3 s3 hP=>?_⟩⟩
   refine ⟨_,rfl,af _ _ ⟨rfl,rfl,af _ _ ⟨rfl,⟨by lia,by lia,by lia,by lia⟩,?_⟩⟩⟩
   have en:((7:Int)+(o:Nat)-2).toNat=5+o:=by lia
   rw[en]
   refine jE (lo:=2) (n:=5+o) (fun i σ H'=> ∃(xl:Addr) (v4 v6 v7:Option V),σ= [some (.int wd),some (.int o),some (.ref q),some (.ref x),v4,some (.ref xl),v6,v7]∧ah H2 H'∧IsPart K A H' xl (iw wz z y i))
    ⟨x4,none,none,none,rfl,s3,hP⟩ ?_ ?_
   ·rintro i σ H4 hi ⟨xl,v4,v6,v7,rfl,s4,hPl⟩
    have e1:(2:Int)+(i:Nat)=((i+2:Nat):Int):=by lia
    rw[e1]
    have hst:=ME wz z y i
    refine ⟨_,rfl,_,rfl,fT (i+2) x wz z y ⟨rfl,hS2.same s4,⟨by lia,by lia,by lia,by lia⟩,hbd,fun eg H5 s5=>?_,fun d eg xd H5 s5 hPd=>?_⟩⟩
    ·refine ⟨_,rfl,_,rfl,bJ ?_⟩
     refine bJ (az xl _ _ _ ⟨rfl,s4.trans s5,?_⟩)
     rw[hst]
     unfold iO
     rw[eg]
     exact hPl.same s5
    ·obtain ⟨d1,a1,a2,a3,h1,_⟩:=id hPd
     obtain ⟨d2,b1,b2,b3,h2,_⟩:=id (hPl.same s5)
     refine ⟨_,rfl,_,rfl,bx ?_⟩
     refine ⟨_,rfl,xd,A.bL,d1,_,_,rfl,h1,T.cx,T.iC,iZ _ _ _ _ _,_,rfl,xl,A.bL,d2,_,_,rfl,h2,T.cx,T.iC,iZ _ _ _ _ _,af _ _ ⟨rfl,rfl,_,rfl,?_⟩⟩
     refine cP (fun hlt=>?_) fun hlt=>?_
     ·have hlt:((d.bits:Nat):Int)<((iw wz z y i).bits:Nat):=of_decide_eq_true hlt
      refine ⟨_,rfl,az xd _ _ _ ⟨rfl,s4.trans s5,?_⟩⟩
      rw[hst]
      unfold iO
      rw[eg]
      simp only
      rw[if_pos (by lia)]
      exact hPd
     ·have hlt: ¬((d.bits:Nat):Int)<((iw wz z y i).bits:Nat):=fun zz=>hlt (decide_eq_true zz)
      refine (az xl _ _ _ ⟨rfl,s4.trans s5,?_⟩)
      rw[hst]
      unfold iO
      rw[eg]
      simp only
      rw[if_neg (by lia)]
      exact hPl.same s5
   ·rintro σ H4 ⟨xl,v4,v6,v7,rfl,s4,hPl⟩
    exact ⟨_,rfl,k xl H4 (s12.trans s4) hPl⟩
def iX (d:bH):Sound.Bits:=if d.kind=0 then Sound.sb d.wd (d.y.headD 0) else if d.kind=1 then Sound.numbers d.wd d.y else
 Sound.numbers d.wd (d.y.take (aV d.kind))++((if d.kind≤6 then [] else Sound.u 4 d.h++Sound.numbers 12 d.a)++gY d.q (cB d.a d.h d.y))
def aW (d:bH):Sound.Bits:=Sound.flag d.z++(Sound.u 4 d.kind++iX d)
structure iY (d:bH):Prop where
 zD:d.kind≤10
 vd:d.wd≤25
 n1:1≤d.y.length
 n2:d.y.length≤1024
 Nj:2≤d.kind→d.a.length=aV d.kind∧aV d.kind≤d.y.length
 Tp:2≤d.kind→Bd 2048 d.a
 wQ:d.h≤15
 gs:2≤d.kind→ ∀g∈d.q.groups,xH g (cB d.a d.h d.y).length
 r7:d.q.r≤7
 fo:2≤d.kind→ ∀e∈cB d.a d.h d.y,Sound.fold e<2^40
theorem dM.but {C Cs:Addr} {H H':Hp} {x sx:Addr} {b:Sound.Bits} {wd z:Nat} {y:List Int} (hw:bc C H x b) (hb:aP x H H') (h:dM K Cs H sx wd z y):dM K Cs H' sx wd z y:=by
 obtain ⟨d,l,h1,h2⟩:=h
 obtain ⟨dx,hx⟩:=id hw
 exact ⟨d,l,hb _ _ h1 (hw.ne h1 rfl),hb.sq hx h2⟩
theorem dq.but {C Cs:Addr} {H H':Hp} {x gx:Addr} {b:Sound.Bits} {a:List Int} {h:Nat} (hw:bc C H x b) (hb:aP x H H') (hg:dq K Cs H gx a h):dq K Cs H' gx a h:=by
 obtain ⟨d,l,h1,h2⟩:=hg
 obtain ⟨dx,hx⟩:=id hw
 exact ⟨d,l,hb _ _ h1 (hw.ne h1 rfl),hb.sq hx h2⟩
theorem cY.but {C Cr Cg:Addr} {H H':Hp} {x rx:Addr} {b:Sound.Bits} {q:RW} (hw:bc C H x b) (hb:aP x H H') (h:cY K Cr Cg H rx q):cY K Cr Cg H' rx q:=by
 obtain ⟨d,p,h1,as,h2,h3,h4⟩:=h
 obtain ⟨dx,hx⟩:=id hw
 exact ⟨d,p,hb _ _ h1 (hw.ne h1 rfl),as,hb _ _ h2 (bV h2 hx (by intro e;cases e)),h3,fun k a g e1 e2=>(h4 k a g e1 e2).but hw hb⟩
theorem IsPart.but {C:Addr} {H H':Hp} {x px:Addr} {b:Sound.Bits} {d:bH} (hw:bc C H x b) (hb:aP x H H') (h:IsPart K A H px d):IsPart K A H' px d:=by
 obtain ⟨dx,sx,gv,rv,h1,h2,h3⟩:=h
 refine ⟨dx,sx,gv,rv,hb _ _ h1 (hw.ne h1 rfl),h2.but hw hb,fun hk=>?_⟩
 obtain ⟨gx,rx,e1,e2,h4,h5⟩:=h3 hk
 exact ⟨gx,rx,e1,e2,h4.but hw hb,h5.but hw hb⟩
def Nl (K:PySem.W.Frag) (A:cF):Sp:=fun vs H Q _=> ∃(x px:Addr) (d:bH) (b:Sound.Bits),vs= [.ref x, .ref px]∧bc A.aX H x b∧IsPart K A H px d∧iY d∧b.length+(aW d).length≤cR∧ ∀H',aP x H H'→bc A.aX H' x (b++aW d)→Q .aD H'
theorem zH:aM ["writer", "way", "shrunk"] ["writer", "way"] (aG za):=⟨rfl,rfl,rfl,by decide+kernel,rfl,by decide+kernel,by decide+kernel⟩
theorem EB (T:Txt K mg A):aC P w K mg base aO 5 A.mf A.lx ["writer", "way"] (Nl K A):=by
 refine T.xY.ok zH (fun vs H Q E h=>?_) (fun cdv Ar outer s H vs Q E hr h=>?_)
 ·obtain ⟨x,px,d,b,rfl,_⟩:=h
  rfl
 ·obtain ⟨x,px,d,b,rfl,hw,hP,ok,hl,k⟩:=h
  have hr1:aR 1 _:=hr.mono (by decide)
  have hr2:aR 2 _:=hr.mono (by decide)
  have hr3:aR 3 _:=hr.mono (by decide)
  refine ⟨_,ak (aI (i:=2) zH.nd rfl (Or.inl rfl) (aA (pv 1) rfl))
   (ak (ba (aN (Lr T) hr3 rfl T.Sm T.Bq.kp T.LZ .nil ay (aa (pv 0) (aa (aA (pv 2) rfl) ag))))
   (ak (ba (bC (pv 0) T.cf T.fb (eZ T) hr1 T.fc .nil ay (aa au (aa (aA (pv 1) rfl) ag))))
   (aw (bN (bO fj (aA (pv 1) rfl) (aY rfl T.zo) (bo _))
    (aw (ba (bC (pv 0) T.cf T.ur (yR T) hr2 T.yC .nil ay (aa (aA (pv 2) rfl) (aa (bS eN (aA (pv 2) rfl) au (fun _ _=>rfl)) ag)))))
    (aw (bN (bO fj (aA (pv 1) rfl) (aY rfl T.B3) (bo _))
     (aw (ba (aN (yK T) hr3 rfl T.xo T.rB.kp T.uf .nil ay (aa (pv 0) (aa (aA (pv 2) rfl) (aa (aA (pv 2) rfl) ag))))))
     (ak (ba (aN (yK T) hr3 rfl T.xo T.rB.kp T.uf .nil ay (aa (pv 0) (aa (aA (pv 2) rfl) (aa (j8 jF (aA (pv 2) rfl) SW (fq (aN (Ey T) hr1 rfl T.y6 T.yE.kp T.EI .nil ay (aa (aA (pv 1) rfl) ag)))) ag)))))
     (ak (bN (bO pd (aA (pv 1) rfl) (aY rfl T.kW) (bo _))
      (ak (ba (bC (pv 0) T.cf T.fb (eZ T) hr1 T.fc .nil ay (aa au (aa (aA (aA (pv 1) rfl) rfl) ag))))
      (aw (ba (aN (yK T) hr3 rfl T.xo T.rB.kp T.uf .nil ay (aa (pv 0) (aa (aY rfl T.xW) (aa (aA (aA (pv 1) rfl) rfl) ag))))))) bX)
     (aw (ba (aN (JB T) hr rfl T.Rp T.E3.kp T.Jx .nil ay (aa (pv 0) (aa (aA (pv 1) rfl) (aa (bC (aA (pv 1) rfl) T.gJ T.F8 (Ca T) hr2 T.zw .nil ay (aa (aA (pv 2) rfl) ag)) ag)))))))))))))),?_⟩
  obtain ⟨dx,sx,gv,rv,hpx,hS,hG⟩:=id hP
  obtain ⟨dw,hx⟩:=id hw
  obtain ⟨ds,l,hs,hls⟩:=id hS
  unfold aW at hl k
  rw[List.length_append,List.length_append,iq,bt] at hl
  refine (aE rfl hpx T.cx T.AG rfl ?_)
  refine ⟨_,rfl,aE rfl hs T.cV T.qx rfl ⟨x,d.z,b,rfl,hw,by lia,fun H1 hb1 hw1=>?_⟩⟩
  obtain ⟨d1,hx1⟩:=id hw1
  have hk16:d.kind<2^4:=by have:=ok.zD;show d.kind<16;lia
  refine (bA rfl hx1 rfl (aE rfl (hb1 _ _ hpx (hw.ne hpx rfl)) T.cx T.kD rfl ⟨x,4,d.kind,_,rfl,hw1,hk16,by rw[List.length_append,iq];lia,fun H2 hb12 hw2=>?_⟩))
  have hb2:aP x H H2:=hb1.trans hb12
  obtain ⟨d2,hx2⟩:=id hw2
  have hpx2:=hb2 _ _ hpx (hw.ne hpx rfl)
  have hs2:=hb2 _ _ hs (hw.ne hs rfl)
  have hls2:=hb2.sq hx hls
  generalize hpre:b++Sound.flag d.z++Sound.u 4 d.kind=pre at hw2 hx2
  have hprel:pre.length+(iX d).length≤cR:=by rw[←hpre,List.length_append,List.length_append,iq,bt];lia
  have k2: ∀H',aP x H2 H'→bc A.aX H' x (pre++iX d)→Q .aD H':=fun H' hb hw'=>k H' (hb2.trans hb) (by rw[←List.append_assoc,←List.append_assoc,hpre];exact hw')
  unfold iX at hprel k2
  refine (aE rfl hpx2 T.cx T.kD rfl ⟨rfl,_,rfl,?_⟩)
  by_cases h0:d.kind=0
  ·rw[decide_eq_true (show V.int (d.kind:Nat)=V.int 0 by rw[h0];rfl)]
   rw[if_pos h0,ly] at hprel
   rw[if_pos h0] at k2
   refine bx ?_
   have hhd:d.y.getD 0 0=d.y.headD 0:=by cases d.y<;>rfl
   refine (bA rfl hx2 rfl (aE rfl hs2 T.cV T.j9 rfl (aE rfl hs2 T.cV T.iT rfl (az l _ _ _ ⟨rfl,rfl,hls2,bP (j:=0) (cK ok.n1),x,d.wd,af _ _ ⟨rfl,hw2,hprel,(by have:=ok.vd;lia),fun H3 hb3 hw3=>?_⟩⟩))))
   rw[hhd] at hw3
   exact k2 H3 hb3 hw3
  ·rw[decide_eq_false (show¬V.int (d.kind:Nat)=V.int 0 from fun e=>h0 (by have:=V.int.inj e;lia))]
   rw[if_neg h0] at hprel k2
   refine bJ ?_
   refine (aE rfl hpx2 T.cx T.kD rfl ⟨rfl,_,rfl,?_⟩)
   by_cases h1:d.kind=1
   ·rw[decide_eq_true (show V.int (d.kind:Nat)=V.int 1 by rw[h1];rfl)]
    rw[if_pos h1,eh] at hprel
    rw[if_pos h1] at k2
    refine bx ?_
    exact ⟨_,rfl,aE rfl hs2 T.cV T.j9 rfl (aE rfl hs2 T.cV T.iT rfl ⟨x,l,d.wd,d.y,pre,rfl,hw2,hls2,(by have:=ok.vd;lia),hprel,fun H3 hb3 hw3=>k2 H3 hb3 hw3⟩)⟩
   ·rw[decide_eq_false (show¬V.int (d.kind:Nat)=V.int 1 from fun e=>h1 (by have:=V.int.inj e;lia))]
    rw[if_neg h1] at hprel k2
    refine bJ ?_
    have hk2:2≤d.kind:=by lia
    obtain ⟨gx,rx,eg,er,hGs,hRW⟩:=hG hk2
    obtain ⟨al1,al2⟩:=ok.Nj hk2
    subst eg er
    have htl:(d.y.take (aV d.kind)).length=aV d.kind:=by rw[List.length_take];lia
    rw[List.length_append,eh,htl,List.length_append] at hprel
    refine ⟨_,rfl,aE rfl hs2 T.cV T.j9 rfl (aE rfl hs2 T.cV T.iT rfl (aE rfl hpx2 T.cx T.kD rfl ⟨d.kind,rfl,⟨hk2,ok.zD⟩,_,rfl,af l _ ⟨rfl,hls2,fun ps hps=>?_⟩⟩))⟩
    have ecut:dv (d.y.map V.int) none (some ((if d.kind≤6 then d.kind-2 else d.kind-6:Nat):Int))=(d.y.take (aV d.kind)).map V.int:=by
     have:=E6 (es:=d.y) (a:=0) (b:=aV d.kind) (Nat.zero_le _) al2
     unfold slice at this
     rw[List.drop_zero,Nat.sub_zero] at this
     exact this
    rw[ecut]
    have s3:ah H2 (upd H2 ps (.lst ((d.y.take (aV d.kind)).map V.int))):=aQ hps
    have hw3:bc A.aX (upd H2 ps (.lst ((d.y.take (aV d.kind)).map V.int))) x pre:=⟨d2,s3 _ _ hx2⟩
    refine ⟨x,ps,d.wd,d.y.take (aV d.kind),pre,rfl,hw3,ae.of ao,(by have:=ok.vd;lia),by rw[htl];lia,fun H4 hb34 hw4=>?_⟩
    have hb4:aP x H2 H4:=(aP.of s3).trans hb34
    have hb04:aP x H H4:=hb2.trans hb4
    obtain ⟨d4,hx4⟩:=id hw4
    have hpx4:=hb04 _ _ hpx (hw.ne hpx rfl)
    have hs4:=hb04 _ _ hs (hw.ne hs rfl)
    have hG4:=hGs.but hw hb04
    obtain ⟨dg,pg,hgx4,hgp4⟩:=id hG4
    have last: ∀(D:Ends) (H5:Hp) (pre5:Sound.Bits),aP x H4 H5→bc A.aX H5 x pre5→pre5.length+(gY d.q (cB d.a d.h d.y)).length≤cR→(∀H',aP x H5 H'→bc A.aX H' x (pre5++gY d.q (cB d.a d.h d.y))→D.nx [some (V.ref x),some (V.ref px),some (V.ref sx)] H')→
      rW (qD (zx K A.aX A.cq A.bK) [] E0 (fh (cZ 0) (fh (i7 K (cZ 1) "rests_way") (fh (mC A.cu "all_rests" (Fh K A.cu) [] E0 (i7 K (cZ 1) "guess") (fh (i7 K (cZ 2) "numbers") fY)) fY)))) D [some (V.ref x),some (V.ref px),some (V.ref sx)] H5:=by
     intro D H5 pre5 hb5 hw5 hl5 fin5
     have hb05:aP x H H5:=hb04.trans hb5
     have hpx5:=hb05 _ _ hpx (hw.ne hpx rfl)
     have hs5:=hb05 _ _ hs (hw.ne hs rfl)
     have hls5:=hb05.sq hx hls
     have hG5:=hGs.but hw hb05
     obtain ⟨dg5,pg5,hgx5,_⟩:=id hG5
     obtain ⟨d5,hx5⟩:=id hw5
     refine ⟨_,rfl,aE rfl hpx5 T.cx T.rg rfl (aE rfl hpx5 T.cx T.sU rfl (b8 gx dg5 _ ⟨rfl,hgx5,Cb _ _,aE rfl hs5 T.cV T.iT rfl ⟨gx,l,d.a,d.y,d.h,rfl,hG5,hls5,by lia,ok.n2,ok.Tp hk2,fun D6 H6 hD6 s6 hx6=>?_⟩⟩))⟩
     have hRW6:=(hRW.but hw hb05).same s6
     have hrl:(cB d.a d.h d.y).length≤1024:=by
      unfold cB
      rw[List.length_map,List.length_range]
      have:=ok.n2
      lia
     exact ⟨x,rx,D6,d.q,cB d.a d.h d.y,pre5,rfl,⟨d5,s6 _ _ hx5⟩,hRW6,ae.of hx6,ok.gs hk2,ok.r7,ok.fo hk2,hrl,hl5,fun H7 hb7 hw7=>fin5 H7 ((aP.of s6).trans hb7) hw7⟩
    refine (aE rfl hpx4 T.cx T.kD rfl (af _ _ ⟨rfl,rfl,_,rfl,?_⟩))
    by_cases h6:d.kind≤6
    ·rw[decide_eq_false (show¬(7:Int)≤(d.kind:Nat) by lia)]
     rw[if_pos h6,List.length_nil] at hprel
     rw[if_pos h6,List.nil_append] at k2
     refine bJ ?_
     refine last _ H4 _ (aP.refl _ _) hw4 (by rw[List.length_append,eh,htl];lia) fun H' hb' hw'=>?_
     exact k2 H' (hb4.trans hb') (by rw[←List.append_assoc];exact hw')
    ·rw[decide_eq_true (show (7:Int)≤(d.kind:Nat) by lia)]
     rw[if_neg h6,List.length_append,bt,eh] at hprel
     rw[if_neg h6] at k2
     refine bx ?_
     refine (bA rfl hx4 rfl (aE rfl hpx4 T.cx T.sU rfl ⟨gx,A.cu,dg,_,_,rfl,hgx4,T.gJ,T.wU,ES _ _,x,4,d.h,_,rfl,hw4,(by have:=ok.wQ;show d.h<16;lia),by rw[List.length_append,eh,htl];lia,fun H5 hb5 hw5=>?_⟩))
     have hb05:aP x H H5:=hb04.trans hb5
     have hpx5:=hb05 _ _ hpx (hw.ne hpx rfl)
     obtain ⟨dg5,pg5,hgx5,hgp5⟩:=hGs.but hw hb05
     refine ⟨_,rfl,aE rfl hpx5 T.cx T.sU rfl ⟨gx,A.cu,dg5,_,_,rfl,hgx5,T.gJ,T.rE,ui _ _,x,pg5,12,d.a,_,rfl,hw5,hgp5,by decide,by rw[List.length_append,List.length_append,eh,htl,bt];lia,fun H6 hb6 hw6=>?_⟩⟩
     refine last _ H6 _ (hb5.trans hb6) hw6 (by rw[List.length_append,List.length_append,List.length_append,eh,htl,bt,eh];lia) fun H' hb' hw'=>?_
     refine k2 H' (hb4.trans (hb5.trans (hb6.trans hb'))) ?_
     have ea:pre++(Sound.numbers d.wd (d.y.take (aV d.kind))++((Sound.u 4 d.h++Sound.numbers 12 d.a)++gY d.q (cB d.a d.h d.y)))=pre++Sound.numbers d.wd (d.y.take (aV d.kind))++Sound.u 4 d.h++Sound.numbers 12 d.a++gY d.q (cB d.a d.h d.y):=by simp only [List.append_assoc]
     rw[ea]
     exact hw'
theorem Gu {n p:Nat} {F:List Nat} (P:RW→Prop) (hP: ∀r,r≤6→di n p r=true→P (dO n p r F (aF F))): ∀(l:List Nat) (acc:Option RW),(∀r∈l,r≤6)→(∀q,acc=some q→P q)→ ∀q,l.foldl (eG n p F) acc=some q→P q
 | [],acc,_,h,q,e=>h q e
 |r::l,acc,hl,h,q,e=>by
  rw[List.foldl_cons] at e
  refine Gu P hP l _ (fun x hx=>hl x (List.mem_cons_of_mem _ hx)) (fun q' e'=>?_) q e
  unfold eG at e'
  by_cases hc:di n p r=true
  ·rw[if_pos hc] at e'
   have hr:=hP r (hl r (by simp)) hc
   cases acc with
   |none=>cases e';exact hr
   |some a=>
    simp only at e'
    split at e'
    ·cases e';exact hr
    ·cases e';exact h _ rfl
  ·rw[if_neg hc] at e'
   exact h q' e'
theorem xR {n p:Nat} {F:List Nat} {q:RW} (e:fA n p F=some q):q=dO n p q.r F (aF F)∧q.r≤6∧di n p q.r=true:=
 Gu (fun q=>q=dO n p q.r F (aF F)∧q.r≤6∧di n p q.r=true) (fun r hr hc=>⟨rfl,hr,hc⟩) (List.range 7) none (fun r hr=>by simp at hr;lia) (fun q e=>by cases e) q e
theorem GR {n p:Nat} {es:List Int} {q:RW} (e:fA n p (es.map Sound.fold)=some q):gY q es=Sound.restBits (q.r,mI n p q.r es (aF (es.map Sound.fold))):=by
 obtain ⟨e1,_,_⟩:=xR e
 unfold gY Sound.restBits
 congr 1
 have eg:q.groups=ft n p q.r (es.map Sound.fold) (aF (es.map Sound.fold)):=congrArg RW.groups e1
 rw[eg]
 unfold ft mI
 rw[List.flatMap_map,List.flatMap_map]
 congr 1
 funext i
 show fU (iy _ _ _ _) (slice es (iy _ _ _ _).first (iy _ _ _ _).last)=Sound.groupBits _ _
 rw[P8]
 unfold iy sX
 simp only
 rw[DY]
theorem SH (X:List Nat) (G:Nat) (hG:G≤31):(dE X G).1≤31:=by
 unfold dE
 have: ∀(l:List Nat) (s:Nat×Nat),(∀g∈l,g≤31)→s.1≤31→(l.foldl (jK X) s).1≤31:=by
  intro l
  induction l with
  |nil=>intro s _ h;exact h
  |cons g l ih=>
   intro s hl hs
   rw[List.foldl_cons]
   refine ih _ (fun x hx=>hl x (List.mem_cons_of_mem _ hx)) ?_
   unfold jK
   split
   ·exact hl g (by simp)
   ·exact hs
 exact this _ _ (fun g hg=>by simp at hg;lia) (by show 31≤31;decide)
theorem SY {n p:Nat} {es:List Int} {q:RW} (e:fA n p (es.map Sound.fold)=some q) (hn:1≤n) (hes:es.length+p=n) (hf: ∀e∈es,Sound.fold e<2^40): ∀g∈q.groups,xH g es.length:=by
 obtain ⟨e1,h6,hc⟩:=xR e
 intro g hg
 rw[e1] at hg
 obtain ⟨i,hi,rfl⟩:=List.mem_map.mp hg
 have hi:i<2^q.r:=by simpa using hi
 unfold di at hc
 simp only [Bool.and_eq_true,decide_eq_true_eq] at hc
 obtain ⟨_,hsz,hpz⟩:=hc
 have h1:(i+1)*(n/2^q.r)≤2^q.r*(n/2^q.r):=Nat.mul_le_mul_right _ hi
 rw[Nat.mul_comm (2^q.r),hsz] at h1
 have e2:(i+1)*(n/2^q.r)=i*(n/2^q.r)+n/2^q.r:=by rw[Nat.add_mul,Nat.one_mul]
 refine ⟨?_,?_,SH _ _ (rf).2,?_⟩
 ·show firstOf n p q.r i≤lastOf n p q.r i
  unfold firstOf lastOf
  split
  ·exact Nat.zero_le _
  ·lia
 ·show lastOf n p q.r i≤es.length
  unfold lastOf
  lia
 ·show bl (bG _)≤63
  refine Nat.le_trans (jJ (v:=40) (mj (by decide) fun x hx=>?_)) (by decide)
  obtain ⟨e',he',rfl⟩:=List.mem_map.mp (tj hx)
  exact hf e' he'
theorem Qk {k:Nat} {y:List Int} {h:Nat} {a:List Int} (h2:2≤k) (h10:k≤10) (e:dI k y=some (h,a)):h≤15:=by
 unfold dI at e
 by_cases h6:k≤6
 ·rw[if_pos h6] at e
  split at e
  ·cases e;decide
  ·cases e
 ·rw[if_neg h6] at e
  split at e
  ·rename_i hp
   rw[sP (by lia) (by lia) (by lia)] at e
   exact (yc e (by lia) (by lia) (by lia)).2.2
  ·cases e
theorem DV {wd z k:Nat} {y:List Int} (h2:2≤k) (h10:k≤10) (hw:wd≤25) (hb:Bd 16777216 y) (hn1:1≤y.length) (hn2:y.length≤1024) {d:bH} (e:eR wd z y k=some d):
  iY d∧(aW d).length=d.bits∧d.z=z∧d.kind=k∧Sound.kindBits wd y k=some (Sound.u 4 k++iX d):=by
 unfold eR at e
 cases eg:dI k y with
 |none=>rw[eg] at e;cases e
 |some ha=>
  obtain ⟨h,a⟩:=ha
  rw[eg] at e
  simp only at e
  obtain ⟨q,eq,rfl⟩:=Option.map_eq_some_iff.mp e
  obtain ⟨g1,g2,g3⟩:=Fd h2 h10 eg
  have hh:=Qk h2 h10 eg
  have ho4:aV k≤4:=by unfold aV;split<;>lia
  have hfo:=uJ (h:=h) g2 (by lia) hb
  have hrl:(cB a h y).length+aV k=y.length:=by
   unfold cB
   rw[List.length_map,List.length_range];lia
  have hgs:=SY eq hn1 hrl hfo
  have hr6:=(xR eq).2.1
  have hrb:=GR eq
  have hcut:=ng (n:=y.length) (p:=aV k) hfo
  rw[eq] at hcut
  have hlen:=yl hcut
  simp only [Option.map_some] at hlen
  rw[←hrb] at hlen
  have htl:(y.take (aV k)).length=aV k:=by rw[List.length_take];lia
  refine ⟨⟨h10,hw,hn1,hn2,fun _=>⟨g1,g3⟩,fun _=>g2,hh,fun _=>hgs,(show q.r≤7 by lia),fun _=>hfo⟩,?_,rfl,rfl,?_⟩
  ·unfold aW iX
   simp only
   rw[if_neg (by lia),if_neg (by lia),List.length_append,List.length_append,List.length_append,List.length_append,iq,bt,eh,htl,hlen]
   by_cases h6:k≤6
   ·rw[if_pos h6,if_pos h6];simp;lia
   ·rw[if_neg h6,if_neg h6,List.length_append,bt,eh,g1]
    have:aV k=k-6:=by unfold aV;rw[if_neg h6]
    rw[this];lia
  ·unfold Sound.kindBits iX
   simp only [if_neg (show¬k=0 by lia),if_neg (show¬k=1 by lia)]
   unfold dI at eg
   by_cases h6:k≤6
   ·rw[if_pos h6] at eg
    have ek:aV k=k-2:=by unfold aV;rw[if_pos h6]
    rw[ek] at g1 g3 hcut hrb⊢
    rw[if_pos (by lia)] at eg
    cases eg
    rw[if_pos h6,if_neg (by lia),tH (by lia),hcut,if_pos h6]
    show some _=some _
    rw[hrb,List.nil_append]
   ·rw[if_neg h6] at eg
    have ek:aV k=k-6:=by unfold aV;rw[if_neg h6]
    rw[ek] at g1 g3 hcut hrb⊢
    by_cases hp:k-6<y.length
    ·rw[if_pos hp,sP (by lia) (by lia) (by lia)] at eg
     rw[if_neg h6,if_neg (by lia),eg]
     simp only
     rw[tH (by lia),hcut,if_neg h6]
     show some _=some _
     rw[hrb,List.append_assoc]
    ·rw[if_neg hp] at eg;cases eg
theorem QY {wd z k:Nat} {y:List Int} (h2:2≤k) (h10:k≤10) (hb:Bd 16777216 y) (e:eR wd z y k=none):Sound.kindBits wd y k=none:=by
 have hk:=kind_len (w:=wd) (z:=z) (y:=y) (kind:=k) (by lia) h10 hb
 rw[OR h2] at hk
 have:(match dI k y with
  |none=>none
  |some (h,a)=>jy wd z (aV k) a h y (if k≤6 then 0 else 4+(k-6)*12):Option Nat)=none:=by
  unfold eR at e
  cases eg:dI k y with
  |none=>rfl
  |some ha=>
   obtain ⟨h,a⟩:=ha
   rw[eg] at e
   simp only at e⊢
   unfold jy
   rw[Option.map_eq_none_iff] at e⊢
   exact e
 exact Option.map_eq_none_iff.mp (hk.trans this)
theorem JZ {wd z:Nat} {y:List Int} (hw:wd≤25) (hn1:1≤y.length) (hn2:y.length≤1024):iY (fD wd z y)∧(aW (fD wd z y)).length=(fD wd z y).bits:=by
 refine ⟨⟨by show 1≤10;decide,hw,hn1,hn2,fun h=>absurd h (by show¬2≤1;decide),fun h=>absurd h (by show¬2≤1;decide),by show 0≤15;decide,fun h=>absurd h (by show¬2≤1;decide),by show 0≤7;decide,fun h=>absurd h (by show¬2≤1;decide)⟩,?_⟩
 show (Sound.flag z++(Sound.u 4 1++Sound.numbers wd y)).length=1+z+4+y.length*wd
 rw[List.length_append,List.length_append,iq,bt,eh];lia
theorem O6 {wd z:Nat} {y:List Int} (hw:wd≤25) (hn1:1≤y.length) (hn2:y.length≤1024):iY (sH wd z y)∧(aW (sH wd z y)).length=(sH wd z y).bits:=by
 refine ⟨⟨by show 0≤10;decide,hw,hn1,hn2,fun h=>absurd h (by show¬2≤0;decide),fun h=>absurd h (by show¬2≤0;decide),by show 0≤15;decide,fun h=>absurd h (by show¬2≤0;decide),by show 0≤7;decide,fun h=>absurd h (by show¬2≤0;decide)⟩,?_⟩
 show (Sound.flag z++(Sound.u 4 0++Sound.sb wd (y.headD 0))).length=1+z+4+wd
 rw[List.length_append,List.length_append,iq,bt,ly];lia
def keep (l d:bH):bH:=if d.bits<l.bits then d else l
theorem ze (wd z:Nat) (y:List Int): ∀(ks:List Nat) (l:bH),ks.foldl (iO wd z y) l=(ks.filterMap (eR wd z y)).foldl keep l
 | [],l=>rfl
 |k::ks,l=>by
  rw[List.foldl_cons,ze wd z y ks,List.filterMap_cons]
  unfold iO
  cases eR wd z y k<;>rfl
theorem Ay: ∀(gs:List bH) (l:bH),(gs.map fun d=>(aW d,d.bits)).foldl comb (some (aW l,l.bits))=some (aW (gs.foldl keep l),(gs.foldl keep l).bits)
 | [],l=>rfl
 |d::gs,l=>by
  rw[List.map_cons,List.foldl_cons,List.foldl_cons,←Ay gs]
  congr 1
  unfold keep
  show (if d.bits<l.bits then _ else _)=_
  split<;>rfl
theorem Ct {Pd:bH→Prop}: ∀(gs:List bH) (l:bH),Pd l→(∀d∈gs,Pd d)→Pd (gs.foldl keep l)
 | [],l,h,_=>h
 |d::gs,l,h,hg=>by
  rw[List.foldl_cons]
  refine Ct gs _ ?_ fun x hx=>hg x (List.mem_cons_of_mem _ hx)
  unfold keep
  split
  ·exact hg d (by simp)
  ·exact h
theorem jS {wd o:Nat} {ns:List Int} (hw1:1≤wd) (hw2:wd≤25) (ho:o≤4) (hf:bM wd ns) (hn1:1≤ns.length) (hn2:ns.length≤1024):
  Sound.part wd o ns=aW (cp wd o ns)∧iY (cp wd o ns)∧(aW (cp wd o ns)).length=(cp wd o ns).bits:=by
 have hbd:=CM hw2 hf
 have hyl:(Sound.shrunk wd ns).length=ns.length:=by unfold Sound.shrunk;rw[List.length_map]
 unfold Sound.part cp
 by_cases hs:Sound.same ns=true
 ·rw[if_pos hs,if_pos hs]
  obtain ⟨p1,p2⟩:=O6 (wd:=wd-Sound.zeros wd ns) (z:=Sound.zeros wd ns) (y:=Sound.shrunk wd ns) (by lia) (by lia) (by lia)
  refine ⟨?_,p1,p2⟩
  unfold Sound.partOf Sound.kindBits
  rfl
 ·rw[if_neg hs,if_neg hs]
  unfold Sound.partOf
  generalize Sound.shrunk wd ns=y at*
  generalize Sound.zeros wd ns=z at*
  have hwz:wd-z≤25:=by lia
  generalize wd-z=wz at*
  obtain ⟨p1,p2⟩:=JZ (wd:=wz) (z:=z) (y:=y) hwz (by lia) (by lia)
  have hk:Sound.kinds o=1::(List.range (5+o)).map (· +2):=by
   unfold Sound.kinds
   rw[show 6+o=(5+o)+1 by lia,List.range_succ_eq_map,List.map_cons,List.map_map]
   rfl
  have hg: ∀k∈(List.range (5+o)).map (· +2),2≤k∧k≤10:=fun k hk=>by
   obtain ⟨i,hi,rfl⟩:=List.mem_map.mp hk
   have:i<5+o:=by simpa using hi
   lia
  have hfm: ∀ks:List Nat,(∀k∈ks,2≤k∧k≤10)→(ks.filterMap fun (k:Nat)=>((Sound.kindBits wz y k).map fun (b:Sound.Bits)=>Sound.flag z++b).map fun (b:Sound.Bits)=>(b,b.length))=(ks.filterMap (eR wz z y)).map fun d=>(aW d,d.bits):=by
   intro ks
   induction ks with
   |nil=>intro _;rfl
   |cons k ks ih=>
    intro h
    have ih:=ih fun x hx=>h x (List.mem_cons_of_mem _ hx)
    obtain ⟨a1,a2⟩:=h k (by simp)
    rw[List.filterMap_cons,List.filterMap_cons]
    cases e:eR wz z y k with
    |none=>
     rw[QY a1 a2 hbd e]
     exact ih
    |some d=>
     obtain ⟨_,g2,g3,g4,g5⟩:=DV a1 a2 hwz hbd (by lia) (by lia) e
     rw[g5]
     simp only [Option.map_some,List.map_cons]
     have eb:Sound.flag z++(Sound.u 4 k++iX d)=aW d:=by unfold aW;rw[g3,g4]
     rw[eb,g2,ih]
  have hall: ∀d∈((List.range (5+o)).map (· +2)).filterMap (eR wz z y),iY d∧(aW d).length=d.bits:=fun d hd=>by
   obtain ⟨k,hkm,e⟩:=List.mem_filterMap.mp hd
   obtain ⟨a1,a2⟩:=hg k hkm
   obtain ⟨g1,g2,_⟩:=DV a1 a2 hwz hbd (by lia) (by lia) e
   exact ⟨g1,g2⟩
  have hfin:=Ct (Pd:=fun d=>iY d∧(aW d).length=d.bits) _ (fD wz z y) ⟨p1,p2⟩ hall
  unfold iw
  rw[ze]
  refine ⟨?_,hfin.1,hfin.2⟩
  rw[hk,List.filterMap_cons]
  have e1:((Sound.kindBits wz y 1).map fun (b:Sound.Bits)=>Sound.flag z++b).map (fun (b:Sound.Bits)=>(b,b.length))=some (aW (fD wz z y),(fD wz z y).bits):=by
   rw[←p2];rfl
  rw[e1,hfm _ hg]
  simp only
  rw[←wR,List.foldl_cons]
  have e2:comb none (aW (fD wz z y),(fD wz z y).bits)=some (aW (fD wz z y),(fD wz z y).bits):=rfl
  rw[e2,Ay]
  rfl
def ug (m p b:V):List (Str×V):= [("mode",m),("parts",p),("bits",b)]
theorem RK (m p b:V):aJ "bits" b (aJ "parts" p (aJ "mode" m []))=ug m p b:=by
 have e1:aJ "mode" m []= [(("mode" :Str),m)]:=rfl
 rw[e1]
 have n1: ¬("mode" :Str)= "parts" :=by decide
 have n2: ¬("mode" :Str)= "bits" :=by decide
 have n3: ¬("parts" :Str)= "bits" :=by decide
 simp only [aJ,if_neg n1,if_neg n2,if_neg n3]
 rfl
def IsPair (K:PySem.W.Frag) (A:cF) (H:Hp) (x:Addr) (m:Nat) (d1 d2:bH):Prop:= ∃dx p a1 a2,H x=some (.ins A.dN dx (ug (.int m) (.ref p) (.int ((d1.bits+d2.bits:Nat):Int))))∧H p=some (.lst [.ref a1, .ref a2])∧IsPart K A H a1 d1∧IsPart K A H a2 d2
theorem IsPair.same {H H':Hp} {x:Addr} {m:Nat} {d1 d2:bH} (s:ah H H') (h:IsPair K A H x m d1 d2):IsPair K A H' x m d1 d2:=by
 obtain ⟨dx,p,a1,a2,h1,h2,h3,h4⟩:=h
 exact ⟨dx,p,a1,a2,s _ _ h1,s _ _ h2,h3.same s,h4.same s⟩
def A3 (K:PySem.W.Frag) (A:cF):Sp:=fun vs H Q _=> ∃(p dx l a1 a2:Addr) (m:Nat) (d1 d2:bH),vs= [.ref p, .int m, .ref l]∧H p=some (.ins A.dN dx [])∧H l=some (.lst [.ref a1, .ref a2])∧IsPart K A H a1 d1∧IsPart K A H a2 d2∧
 ∀H',aP p H H'→H' p=some (.ins A.dN dx (ug (.int m) (.ref l) (.int ((d1.bits+d2.bits:Nat):Int))))→Q .aD H'
theorem xx:aM ["self", "mode", "parts", "part"] ["self", "mode", "parts"] (aG FF):=⟨rfl,rfl,rfl,by decide+kernel,rfl,by decide+kernel,by decide+kernel⟩
theorem r9 (T:Txt K mg A):aC P w K mg base aO 1 A.mH A.nH ["self", "mode", "parts"] (A3 K A):=by
 refine T.RM.ok xx (fun vs H Q E h=>?_) (fun cdv Ar outer s H vs Q E hr h=>?_)
 ·obtain ⟨p,dx,l,a1,a2,m,d1,d2,rfl,_⟩:=h
  rfl
 ·obtain ⟨p,dx,l,a1,a2,m,d1,d2,rfl,hp,hl,h1,h2,k⟩:=h
  refine ⟨_,ak (bh (pv 0) (pv 1) rfl) (ak (bh (pv 0) (pv 2) rfl) (aw (bh (pv 0) (bf (xK rfl) rfl T.vj (by decide+kernel:bootBuiltins "sum" =some (.builtin "sum"))
   (aa (cw (own:= [("part",3)]) rfl xx.nd (cg (pv 2)) (b5 (by kernel_rfl)) (fun _ _ _ _ _=>aT (i:=3) xx.nd rfl (Or.inl rfl)) (fun _ _ _ _ _=>bZ) (fun _ _ _ _ _=>qV (K:=K) rfl (pv 3) rfl)) ag)) rfl))),?_⟩
  have f1:(aJ "mode" (.int m) []).length≤1:=jj _ _ _
  have f2:(aJ "parts" (.ref l) (aJ "mode" (.int m) [])).length≤2:=Nat.le_trans (jj _ _ _) (by lia)
  have hlp:l≠p:=bV hl hp (by intro e;cases e)
  obtain ⟨e1,b1,c1,g1,hx1,_⟩:=h1
  obtain ⟨e2,b2,c2,g2,hx2,_⟩:=h2
  have hn1:a1≠p:=bV hx1 hp (by intro e;injection e with _ _ e;cases e)
  have hn2:a2≠p:=bV hx2 hp (by intro e;injection e with _ _ e;cases e)
  refine ⟨_,rfl,_,rfl,az p A.dN dx _ ⟨rfl,hp,T.jR,T.Gr,(by show 0<1000;decide),?_⟩⟩
  refine ⟨_,rfl,_,rfl,az p A.dN dx _ ⟨rfl,ao,T.jR,T.Ac,by lia,?_⟩⟩
  rw[b7]
  generalize hH1:upd H p (.ins A.dN dx (aJ "parts" (.ref l) (aJ "mode" (.int m) [])))=H1
  have b01:aP p H H1:=by rw[←hH1];exact aP.upd
  have hl1:=b01 _ _ hl hlp
  have hp1:H1 p=some (.ins A.dN dx (aJ "parts" (.ref l) (aJ "mode" (.int m) []))):=by rw[←hH1];exact ao
  refine ⟨_,rfl,l,rfl,⟨_,ae.of hl1⟩,fun D hD=>?_⟩
  refine cC (J:=dH K l) hD 2 (by rw[sizeLine_eq];lia) (fun i=> .int (([d1.bits,d2.bits].getD i 0:Nat):Int)) (fun i Hh hi s1=>⟨_,_,s1.seq (ae.of hl1),List.getElem?_eq_getElem (by simpa using hi)⟩) (fun Hh s1=>⟨_,s1.seq (ae.of hl1),by simp⟩) ?_ ?_
  ·rintro i Hh v H' hi s1 ⟨rfl,hv⟩ C hC
   have hv:=hv _ (s1.seq (ae.of hl1))
   rcases (by lia:i=0∨i=1) with rfl|rfl
   ·cases hv
    exact ⟨rfl,_,rfl,a1,A.bL,e1,_,_,rfl,s1 _ _ (b01 _ _ hx1 hn1),T.cx,T.iC,iZ _ _ _ _ _,hC _ (ah.refl _)⟩
   ·cases hv
    exact ⟨rfl,_,rfl,a2,A.bL,e2,_,_,rfl,s1 _ _ (b01 _ _ hx2 hn2),T.cx,T.iC,iZ _ _ _ _ _,hC _ (ah.refl _)⟩
  ·intro H2 s2 hx
   have hsum:([((d1.bits:Nat):Int),((d2.bits:Nat):Int)]:List Int).sum=((d1.bits+d2.bits:Nat):Int):=by simp
   refine ⟨D, [((d1.bits:Nat):Int),((d2.bits:Nat):Int)],rfl,ae.of hx,_,rfl,az p A.dN dx _ ⟨rfl,s2 _ _ hp1,T.jR,T.uH,by lia,?_⟩⟩
   rw[RK,hsum]
   exact k _ ((b01.trans (aP.of s2)).trans aP.upd) ao
def GS (c d b o g s:V):List (Str×V):= [("channels",c),("depth",d),("block",b),("order",o),("group",g),("spare",s)]
def jN (C:Addr) (H:Hp) (x:Addr) (c d b o:Nat):Prop:= ∃dx g s,H x=some (.ins C dx (GS (.int c) (.int d) (.int b) (.int o) g s))
theorem jN.same {C:Addr} {H H':Hp} {x:Addr} {c d b o:Nat} (s:ah H H') (h:jN C H x c d b o):jN C H' x c d b o:=by
 obtain ⟨dx,g1,s1,h⟩:=h
 exact ⟨dx,g1,s1,s _ _ h⟩
theorem zip_get {f:Int→Int→Int} (l r:List Int) (h:l.length=r.length):(List.range l.length).map (fun i=>V.int (f (l.getD i 0) (r.getD i 0)))=(List.zipWith f l r).map V.int:=by
 refine List.ext_getElem (by simp;lia) fun i h1 h2=>?_
 have hi:i<l.length:=by simpa using h1
 have hi2:i<r.length:=by lia
 simp [List.getD_eq_getElem?_getD,List.getElem?_eq_getElem hi,List.getElem?_eq_getElem hi2]
theorem EG {d e:Nat} {f:Int→Int→Int} {l r:List Int} (hl:bM d l) (hr:bM d r) (hf: ∀x y:Int,-(2^(d-1))≤x→x<2^(d-1)→ -(2^(d-1))≤y→y<2^(d-1)→ -(2^(e-1))≤f x y∧f x y<2^(e-1)):bM e (List.zipWith f l r):=by
 intro z hz
 obtain ⟨i,hi,rfl⟩:=List.getElem_of_mem hz
 rw[List.length_zipWith] at hi
 rw[List.getElem_zipWith]
 obtain ⟨a1,a2⟩:=hl _ (List.getElem_mem (show i<l.length by lia))
 obtain ⟨b1,b2⟩:=hr _ (List.getElem_mem (show i<r.length by lia))
 exact hf _ _ a1 a2 b1 b2
theorem ue {d:Nat} {l r:List Int} (hd:1≤d) (hl:bM d l) (hr:bM d r):bM (d+1) (Sound.side l r):=EG hl hr fun x y a1 a2 b1 b2=>by
 have e:(2:Int)^(d+1-1)=2*2^(d-1):=by rw[←Int.pow_succ'];congr 1;lia
 rw[e];lia
theorem uZ {d:Nat} {l r:List Int} (hl:bM d l) (hr:bM d r):bM d (Sound.middle l r):=EG hl hr fun x y a1 a2 b1 b2=>by
 rw[Int.fdiv_eq_ediv_of_nonneg _ (by decide)];lia
theorem rZ {H:Hp} {Qf:Hp→Prop} {p x dx a1 a2:Addr} {d1 d2:bH} (m:Nat) (hp:H p=none) (hx:upd H p (.lst [.ref a1, .ref a2]) x=none) (hdx:upd H p (.lst [.ref a1, .ref a2]) dx=none) (h1:IsPart K A H a1 d1) (h2:IsPart K A H a2 d2)
  (k: ∀H',ah H H'→IsPair K A H' x m d1 d2→Qf H'):A3 K A [.ref x, .int m, .ref p] (upd (upd (upd H p (.lst [.ref a1, .ref a2])) dx (.own x)) x (.ins A.dN dx [])) (fun v H2=>v= .aD∧Qf H2) E0:=by
 have s1:ah H (upd H p (.lst [.ref a1, .ref a2])):=aQ hp
 have s2:ah (upd H p (.lst [.ref a1, .ref a2])) (upd (upd (upd H p (.lst [.ref a1, .ref a2])) dx (.own x)) x (.ins A.dN dx [])):=dG hx hdx
 refine (gi x dx p a1 a2 m d1 d2 ⟨rfl,ao,s2 _ _ ao,(h1.same s1).same s2,(h2.same s1).same s2,fun H' hb hx'=>⟨rfl,?_⟩⟩)
 have s3:ah (upd H p (.lst [.ref a1, .ref a2])) H':=ah.made hx hdx hb
 exact k H' (s1.trans s3) ⟨dx,p,a1,a2,hx',s3 _ _ ao,(h1.same s1).same s3,(h2.same s1).same s3⟩
abbrev cE:=Nat×bH×bH
def gC (q:cE):Nat:=q.2.1.bits+q.2.2.bits
def f6 (l q:cE):cE:=if gC q<gC l then q else l
def others (d o:Nat) (L R:List Int):List cE:= [(1,cp d o L,cp (d+1) o (Sound.side L R)),(2,cp (d+1) o (Sound.side L R),cp d o R),(3,cp d o (Sound.middle L R),cp (d+1) o (Sound.side L R))]
def pairD (d o:Nat) (L R:List Int):cE:=(others d o L R).foldl f6 (0,cp d o L,cp d o R)
def Oj (K:PySem.W.Frag) (A:cF):Sp:=fun vs H Q _=> ∃(f l r:Addr) (c d b o:Nat) (L R:List Int),vs= [.ref f, .ref l, .ref r]∧jN A.bI H f c d b o∧ae K H l (L.map V.int)∧ae K H r (R.map V.int)∧(L.length=R.length∧1≤L.length∧L.length≤1024)∧(4≤d∧d≤24∧o≤4)∧bM d L∧bM d R∧
 ∀x H',ah H H'→IsPair K A H' x (pairD d o L R).1 (pairD d o L R).2.1 (pairD d o L R).2.2→Q (.ref x) H'
theorem eT:aM ["form", "left", "right", "a", "b", "s", "m", "least", "way", "x", "y"] ["form", "left", "right"] (aG zQ):=⟨rfl,rfl,rfl,by decide+kernel,rfl,by decide+kernel,by decide+kernel⟩
theorem MU (T:Txt K mg A):aC P w K mg base aO 8 A.pB A.oR ["form", "left", "right"] (Oj K A):=by
 refine T.Aa.ok eT (fun vs H Q E h=>?_) (fun cdv Ar outer s H vs Q E hr h=>?_)
 ·obtain ⟨f,l,r,c,d,b,o,L,R,rfl,_⟩:=h
  rfl
 ·obtain ⟨f,l,r,c,d,b,o,L,R,rfl,hF,hl,hr',⟨hlr,hl1,hl2⟩,⟨hd1,hd2,ho⟩,fL,fR,k⟩:=h
  have hr2:aR 2 _:=hr.mono (by decide)
  refine ⟨_,ak (aI (i:=3) eT.nd rfl (Or.inl rfl) (aN (mV T) hr rfl T.qf T.kP.kp T.lp .nil ay (aa (aA (pv 0) rfl) (aa (aA (pv 0) rfl) (aa (pv 1) ag)))))
   (ak (aI (i:=4) eT.nd rfl (Or.inl rfl) (aN (mV T) hr rfl T.qf T.kP.kp T.lp .nil ay (aa (aA (pv 0) rfl) (aa (aA (pv 0) rfl) (aa (pv 2) ag)))))
   (ak (aI (i:=5) eT.nd rfl (Or.inl rfl) (aN (mV T) hr rfl T.qf T.kP.kp T.lp .nil ay (aa (aq bE (aA (pv 0) rfl) au) (aa (aA (pv 0) rfl) (aa (cw (own:= [("x",9),("y",10)]) rfl eT.nd (lI rfl T.kx (aa (pv 1) (aa (pv 2) ag))) (b5 (by kernel_rfl))
    (fun _ _ _ _ _=>iL (K:=K) (n:=2) rfl rfl (dC (aT (i:=9) eT.nd rfl (Or.inl rfl)) (dC (aT (i:=10) eT.nd rfl (Or.inl rfl)) iQ))) (fun _ _ _ _ _=>bZ) (fun _ _ _ _ _=>aq cc (pv 9) (pv 10))) ag)))))
   (ak (aI (i:=6) eT.nd rfl (Or.inl rfl) (aN (mV T) hr rfl T.qf T.kP.kp T.lp .nil ay (aa (aA (pv 0) rfl) (aa (aA (pv 0) rfl) (aa (cw (own:= [("x",9),("y",10)]) rfl eT.nd (lI rfl T.kx (aa (pv 1) (aa (pv 2) ag))) (b5 (by kernel_rfl))
    (fun _ _ _ _ _=>iL (K:=K) (n:=2) rfl rfl (dC (aT (i:=9) eT.nd rfl (Or.inl rfl)) (dC (aT (i:=10) eT.nd rfl (Or.inl rfl)) iQ))) (fun _ _ _ _ _=>bZ) (fun _ _ _ _ _=>aq fg (aq bE (pv 9) (pv 10)) au)) ag)))))
   (ak (aI (i:=7) eT.nd rfl (Or.inl rfl) (eJ T.tU (r9 T) hr2 rfl T.tF T.rS .nil ay (aa au (aa (b9 (aa (pv 3) (aa (pv 4) ag))) ag))))
   (ak (cv PassesOwn.never rfl (cg (b9 (aa (eJ T.tU (r9 T) hr2 rfl T.tF T.rS .nil ay (aa au (aa (b9 (aa (pv 3) (aa (pv 5) ag))) ag)))
     (aa (eJ T.tU (r9 T) hr2 rfl T.tF T.rS .nil ay (aa au (aa (b9 (aa (pv 5) (aa (pv 4) ag))) ag)))
     (aa (eJ T.tU (r9 T) hr2 rfl T.tF T.rS .nil ay (aa au (aa (b9 (aa (pv 6) (aa (pv 5) ag))) ag))) ag))))) (aT (i:=8) eT.nd rfl (Or.inl rfl))
    (aw (bN (bO jt (aA (pv 8) rfl) (aA (pv 7) rfl) (bo _)) (aw (aI (i:=7) eT.nd rfl (Or.inl rfl) (pv 8))) bX)))
   (aw (aS (pv 7)))))))),?_⟩
  obtain ⟨dF,gF,sF,hf⟩:=id hF
  refine (aE rfl hf T.bw T.iB rfl (aE rfl hf T.bw T.kn rfl ⟨_,rfl,az d o l L ⟨rfl,hl,⟨by lia,by lia,ho⟩,fL,⟨hl1,hl2⟩,fun xa H1 s1 hPa=>?_⟩⟩))
  have hf1:=s1 _ _ hf
  refine (aE rfl hf1 T.bw T.iB rfl (aE rfl hf1 T.bw T.kn rfl ⟨_,rfl,az d o r R ⟨rfl,s1.seq hr',⟨by lia,by lia,ho⟩,fR,⟨by lia,by lia⟩,fun xb H2 s2 hPb=>?_⟩⟩))
  have hf2:=s2 _ _ hf1
  have s12:=s1.trans s2
  have hlB:=s12.seq hl
  have hrB:=s12.seq hr'
  have hsl:(Sound.side L R).length=L.length:=by unfold Sound.side;rw[List.length_zipWith];lia
  have hml:(Sound.middle L R).length=L.length:=by unfold Sound.middle;rw[List.length_zipWith];lia
  refine (aE rfl hf2 T.bw T.iB rfl (af _ _ ⟨rfl,rfl,aE rfl hf2 T.bw T.kn rfl ⟨_,rfl,_,rfl,az l r _ _ ⟨rfl,hlB,hrB,fun D hD=>?_⟩⟩⟩))
  refine cC (J:=jV K l r) hD L.length (by rw[sizeLine_eq];lia) (fun i=> .int (L.getD i 0-R.getD i 0))
   (fun i Hh hi t1=>⟨_,_,_,_,t1.seq hlB,t1.seq hrB,cK hi,cK (by lia)⟩) (fun Hh t1=>⟨_,_,t1.seq hlB,t1.seq hrB, .inl (by simp)⟩) ?_ ?_
  ·rintro i Hh z H' hi t1 ⟨t,x1,y1,rfl,ht,rfl,hx,hy⟩ C hC
   obtain ⟨rfl,_⟩:=dU (hx _ (t1.seq hlB))
   obtain ⟨rfl,_⟩:=dU (hy _ (t1.seq hrB))
   have st:ah Hh (upd Hh t (.tup [V.int (L.getD i 0),V.int (R.getD i 0)])):=aQ ht
   refine (af t _ ⟨rfl,aZ.of ao,rfl,af _ _ ⟨rfl,af _ _ ⟨rfl,rfl,rfl,?_⟩⟩⟩)
   exact ⟨_,rfl,_,rfl,af _ _ ⟨rfl,rfl,hC _ st⟩⟩
  intro H3 s3 hx3
  rw[zip_get (f:=fun x y=>x-y) L R hlr] at hx3
  have hx3:H3 D=some (.lst ((Sound.side L R).map V.int)):=hx3
  refine (az (d+1) o D (Sound.side L R) ⟨rfl,ae.of hx3,⟨by lia,by lia,ho⟩,ue (by lia) fL fR,⟨by lia,by lia⟩,fun xs H4 s4 hPs=>?_⟩)
  have s34:=s3.trans s4
  have hf4:=s34 _ _ hf2
  have hlD:=s34.seq hlB
  have hrD:=s34.seq hrB
  refine (aE rfl hf4 T.bw T.iB rfl (aE rfl hf4 T.bw T.kn rfl ⟨_,rfl,_,rfl,az l r _ _ ⟨rfl,hlD,hrD,fun D2 hD2=>?_⟩⟩))
  refine cC (J:=jV K l r) hD2 L.length (by rw[sizeLine_eq];lia) (fun i=> .int ((L.getD i 0+R.getD i 0).fdiv 2))
   (fun i Hh hi t1=>⟨_,_,_,_,t1.seq hlD,t1.seq hrD,cK hi,cK (by lia)⟩) (fun Hh t1=>⟨_,_,t1.seq hlD,t1.seq hrD, .inl (by simp)⟩) ?_ ?_
  ·rintro i Hh z H' hi t1 ⟨t,x1,y1,rfl,ht,rfl,hx,hy⟩ C hC
   obtain ⟨rfl,_⟩:=dU (hx _ (t1.seq hlD))
   obtain ⟨rfl,_⟩:=dU (hy _ (t1.seq hrD))
   have st:ah Hh (upd Hh t (.tup [V.int (L.getD i 0),V.int (R.getD i 0)])):=aQ ht
   refine (af t _ ⟨rfl,aZ.of ao,rfl,af _ _ ⟨rfl,af _ _ ⟨rfl,rfl,rfl,?_⟩⟩⟩)
   refine ⟨_,rfl,_,rfl,af _ _ ⟨rfl,rfl,af _ _ ⟨rfl,rfl,(by lia),?_⟩⟩⟩
   have e:=hC _ st
   rw[Int.fdiv_eq_ediv_of_nonneg _ (by decide)] at e
   exact e
  intro H5 s5 hx5
  rw[zip_get (f:=fun x y=>(x+y).fdiv 2) L R hlr] at hx5
  have hx5:H5 D2=some (.lst ((Sound.middle L R).map V.int)):=hx5
  refine (az d o D2 (Sound.middle L R) ⟨rfl,ae.of hx5,⟨by lia,by lia,ho⟩,uZ fL fR,⟨by lia,by lia⟩,fun xm H6 s6 hPm=>?_⟩)
  have s56:=s5.trans s6
  have s26:=s34.trans s56
  have hPa6:=(hPa.same s2).same s26
  have hPb6:=hPb.same s26
  have hPs6:=hPs.same s56
  have s06:=s12.trans s26
  unfold pairD others at k
  generalize cp d o L=pa at*
  generalize cp d o R=pb at*
  generalize cp (d+1) o (Sound.side L R)=ps at*
  generalize cp d o (Sound.middle L R)=pm at*
  refine ⟨_,rfl,_,rfl,(by show 2≤sizeLine;decide),fun p0 hp0 x0 dx0 hx0 hdx0 _=>rZ 0 hp0 hx0 hdx0 hPa6 hPb6 fun H7 s7 hP0=>?_⟩
  refine ⟨_,rfl,_,rfl,(by show 2≤sizeLine;decide),fun p1 hp1 x1 dx1 hx1 hdx1 _=>rZ 1 hp1 hx1 hdx1 (hPa6.same s7) (hPs6.same s7) fun H8 s8 hP1=>?_⟩
  have s78:=s7.trans s8
  refine ⟨_,rfl,_,rfl,(by show 2≤sizeLine;decide),fun p2 hp2 x2 dx2 hx2 hdx2 _=>rZ 2 hp2 hx2 hdx2 (hPs6.same s78) (hPb6.same s78) fun H9 s9 hP2=>?_⟩
  have s79:=s78.trans s9
  refine ⟨_,rfl,_,rfl,(by show 2≤sizeLine;decide),fun p3 hp3 x3 dx3 hx3 hdx3 _=>rZ 3 hp3 hx3 hdx3 (hPm.same s79) (hPs6.same s79) fun H10 s10 hP3=>?_⟩
  refine ⟨by rw[sizeLine_eq];show 3≤_;lia,fun pl hpl=>?_⟩
  have s11:ah H10 (upd H10 pl (.lst [.ref x1, .ref x2, .ref x3])):=aQ hpl
  have hP0':=((hP0.same s8).same s9).same (s10.trans s11)
  have hP1':=(hP1.same s9).same (s10.trans s11)
  have hP2':=hP2.same (s10.trans s11)
  have hP3':=hP3.same s11
  have s611:=(s79.trans s10).trans s11
  have hpl':upd H10 pl (.lst [.ref x1, .ref x2, .ref x3]) pl=some (.lst [.ref x1, .ref x2, .ref x3]):=ao
  generalize upd H10 pl (.lst [.ref x1, .ref x2, .ref x3])=H11 at*
  refine ⟨pl,rfl,⟨_,ae.of hpl'⟩,?_⟩
  refine eA (K:=K) (a:=pl) (xs:= [.ref x1, .ref x2, .ref x3]) (fun i σ H'=>H'=H11∧ ∃(xl:Addr) (v8 v9 v10:Option V),σ= [some (.ref f),some (.ref l),some (.ref r),some (.ref xa),some (.ref xb),some (.ref xs),some (.ref xm),some (.ref xl),v8,v9,v10]∧
    ∃q:cE,q=(([(1,pa,ps),(2,ps,pb),(3,pm,ps)]:List cE).take i).foldl f6 (0,pa,pb)∧IsPair K A H11 xl q.1 q.2.1 q.2.2)
   ⟨rfl,x0,none,none,none,rfl,_,rfl,hP0'⟩ (fun i σ H' _ ⟨e,_⟩=>by rw[e];exact ae.of hpl') ?_ ?_
  ·rintro i x σ H' hi ⟨rfl,xl,v8,v9,v10,rfl,q,hq,hPq⟩
   have hi3:i<3:=(List.getElem?_eq_some_iff.mp hi).1
   have key: ∃(xw:Addr) (q':cE),x= .ref xw∧IsPair K A H' xw q'.1 q'.2.1 q'.2.2∧(([(1,pa,ps),(2,ps,pb),(3,pm,ps)]:List cE).take (i+1)).foldl f6 (0,pa,pb)=f6 q q':=by
    rcases (by lia:i=0∨i=1∨i=2) with rfl|rfl|rfl
    ·exact ⟨x1,(1,pa,ps),(Option.some.inj hi).symm,hP1',by rw[hq];rfl⟩
    ·exact ⟨x2,(2,ps,pb),(Option.some.inj hi).symm,hP2',by rw[hq];rfl⟩
    ·exact ⟨x3,(3,pm,ps),(Option.some.inj hi).symm,hP3',by rw[hq];rfl⟩
   obtain ⟨xw,q',rfl,hPw,hnx⟩:=key
   obtain ⟨e1,p1,a1,b1,hw1,_⟩:=id hPw
   obtain ⟨e2,p2,a2,b2,hw2,_⟩:=id hPq
   refine (aE rfl hw1 T.jR T.uH rfl (aE rfl hw2 T.jR T.uH rfl (af _ _ ⟨rfl,rfl,_,rfl,?_⟩)))
   refine cP (fun hlt=>?_) fun hlt=>?_
   ·have hlt:((gC q':Nat):Int)<(gC q:Nat):=of_decide_eq_true hlt
    refine ⟨_,rfl,rfl,az xw _ _ _ ⟨rfl,q',?_,hPw⟩⟩
    rw[hnx]
    unfold f6
    rw[if_pos (by lia)]
   ·have hlt: ¬((gC q':Nat):Int)<(gC q:Nat):=fun zz=>hlt (decide_eq_true zz)
    refine ⟨rfl,az xl _ _ _ ⟨rfl,q,?_,hPq⟩⟩
    rw[hnx]
    unfold f6
    rw[if_neg (by lia)]
  ·rintro σ H' ⟨rfl,xl,v8,v9,v10,rfl,q,hq,hPq⟩
   refine ⟨_,rfl,k xl _ (s06.trans s611) ?_⟩
   have e:([(1,pa,ps),(2,ps,pb),(3,pm,ps)]:List cE).foldl f6 (0,pa,pb)=q:=by rw[hq];rfl
   rw[e]
   exact hPq
theorem dk.ext {Cg:Addr} {H H':Hp} {D gx:Addr} {φ:Heap→Prop} {g:GW} (hD:H D=some (.ext φ)) (hb:aP D H H') (hg:dk Cg H gx g):dk Cg H' gx g:=by
 obtain ⟨dx,h⟩:=hg
 exact ⟨dx,hb _ _ h (bV h hD (by intro e;cases e))⟩
theorem F6 {H H':Hp} {D q:Addr} {φ:Heap→Prop} {xs:List V} (hD:H D=some (.ext φ)) (hb:aP D H H') (h:ae K H q xs):ae K H' q xs:=by
 rcases h with (h|⟨ob,h⟩)|h
 ·exact .inl (.inl (hb _ _ h (bV h hD (by intro e;cases e))))
 ·exact .inl (.inr ⟨ob,hb _ _ h (bV h hD (by intro e;cases e))⟩)
 ·exact .inr h
theorem dM.ext {Cs:Addr} {H H':Hp} {D sx:Addr} {φ:Heap→Prop} {wd z:Nat} {y:List Int} (hD:H D=some (.ext φ)) (hb:aP D H H') (h:dM K Cs H sx wd z y):dM K Cs H' sx wd z y:=by
 obtain ⟨d,l,h1,h2⟩:=h
 exact ⟨d,l,hb _ _ h1 (bV h1 hD (by intro e;cases e)),F6 hD hb h2⟩
theorem dq.ext {Cs:Addr} {H H':Hp} {D gx:Addr} {φ:Heap→Prop} {a:List Int} {h:Nat} (hD:H D=some (.ext φ)) (hb:aP D H H') (hg:dq K Cs H gx a h):dq K Cs H' gx a h:=by
 obtain ⟨d,l,h1,h2⟩:=hg
 exact ⟨d,l,hb _ _ h1 (bV h1 hD (by intro e;cases e)),F6 hD hb h2⟩
theorem cY.ext {Cr Cg:Addr} {H H':Hp} {D rx:Addr} {φ:Heap→Prop} {q:RW} (hD:H D=some (.ext φ)) (hb:aP D H H') (h:cY K Cr Cg H rx q):cY K Cr Cg H' rx q:=by
 obtain ⟨d,p,h1,as,h2,h3,h4⟩:=h
 exact ⟨d,p,hb _ _ h1 (bV h1 hD (by intro e;cases e)),as,hb _ _ h2 (bV h2 hD (by intro e;cases e)),h3,fun k a g e1 e2=>(h4 k a g e1 e2).ext hD hb⟩
theorem IsPart.ext {H H':Hp} {D px:Addr} {φ:Heap→Prop} {d:bH} (hD:H D=some (.ext φ)) (hb:aP D H H') (h:IsPart K A H px d):IsPart K A H' px d:=by
 obtain ⟨dx,sx,gv,rv,h1,h2,h3⟩:=h
 refine ⟨dx,sx,gv,rv,hb _ _ h1 (bV h1 hD (by intro e;cases e)),h2.ext hD hb,fun hk=>?_⟩
 obtain ⟨gx,rx,e1,e2,h4,h5⟩:=h3 hk
 exact ⟨gx,rx,e1,e2,h4.ext hD hb,h5.ext hD hb⟩
theorem IsPair.ext {H H':Hp} {D x:Addr} {φ:Heap→Prop} {m:Nat} {d1 d2:bH} (hD:H D=some (.ext φ)) (hb:aP D H H') (h:IsPair K A H x m d1 d2):IsPair K A H' x m d1 d2:=by
 obtain ⟨dx,p,a1,a2,h1,h2,h3,h4⟩:=h
 exact ⟨dx,p,a1,a2,hb _ _ h1 (bV h1 hD (by intro e;cases e)),hb _ _ h2 (bV h2 hD (by intro e;cases e)),h3.ext hD hb,h4.ext hD hb⟩
theorem IsPair.but {C:Addr} {H H':Hp} {x px:Addr} {b:Sound.Bits} {m:Nat} {d1 d2:bH} (hw:bc C H x b) (hb:aP x H H') (h:IsPair K A H px m d1 d2):IsPair K A H' px m d1 d2:=by
 obtain ⟨dx,p,a1,a2,h1,h2,h3,h4⟩:=h
 obtain ⟨dw,hx⟩:=id hw
 exact ⟨dx,p,a1,a2,hb _ _ h1 (hw.ne h1 rfl),hb _ _ h2 (bV h2 hx (by intro e;cases e)),h3.but hw hb,h4.but hw hb⟩
theorem TX (D:Addr) (H:Hp):aP D H (hide D H):=fun b o h hb=>by rw[hide_ne hb];exact h
theorem KN {H H':Hp} {D:Addr} {xs:List V} {φ:Heap→Prop} (h:H D=some (.lst xs)) (s:ah (upd H D (.ext φ)) H'):ah H (upd H' D (.lst xs)):=fun b o e=>by
 by_cases hb:b=D
 ·subst hb
  rw[h] at e
  rw[ao];exact e
 ·rw[aB hb]
  exact s b o (by rw[aB hb];exact e)
theorem KW {c:Nat} (h1:1≤c) (h4:c≤4):gG 0 ((c:Int)-1) 2 (c/2):=by
 rcases (by lia:c=1∨c=2∨c=3∨c=4) with rfl|rfl|rfl|rfl
 ·exact ⟨by decide,by decide,by decide,by decide⟩
 ·exact ⟨by decide,by decide,by decide,by decide⟩
 ·exact ⟨by decide,by decide,by decide,by decide⟩
 ·exact ⟨by decide,by decide,by decide,by decide⟩
def pairAt (d o:Nat) (chs:List (List Int)) (i:Nat):cE:=pairD d o (chs.getD (2*i) []) (chs.getD (2*i+1) [])
def j7 (K:PySem.W.Frag) (H:Hp) (q:Addr) (d n:Nat) (chs:List (List Int)):Prop:= ∃as:List Addr,ae K H q (as.map V.ref)∧as.length=chs.length∧ ∀(i:Nat) (a:Addr) (ch:List Int),as[i]?=some a→chs[i]?=some ch→ae K H a (ch.map V.int)∧ch.length=n∧bM d ch
theorem j7.same {H H':Hp} {q:Addr} {d n:Nat} {chs:List (List Int)} (s:ah H H') (h:j7 K H q d n chs):j7 K H' q d n chs:=by
 obtain ⟨as,h1,h2,h3⟩:=h
 exact ⟨as,s.seq h1,h2,fun i a ch e1 e2=>⟨s.seq (h3 i a ch e1 e2).1,(h3 i a ch e1 e2).2⟩⟩
theorem j7.at {H:Hp} {q:Addr} {d n:Nat} {chs:List (List Int)} (h:j7 K H q d n chs) {i:Nat} (hi:i<chs.length): ∃(as:List Addr) (a:Addr),ae K H q (as.map V.ref)∧(as.map V.ref)[i]?=some (.ref a)∧ae K H a ((chs.getD i []).map V.int)∧(chs.getD i []).length=n∧bM d (chs.getD i [])∧as.length=chs.length:=by
 obtain ⟨as,h1,h2,h3⟩:=h
 have hi2:i<as.length:=by lia
 refine ⟨as,as[i],h1,by rw[List.getElem?_map,List.getElem?_eq_getElem hi2];rfl,?_⟩
 rw[List.getD_eq_getElem?_getD,List.getElem?_eq_getElem hi]
 obtain ⟨x1,x2,x3⟩:=h3 i _ _ (List.getElem?_eq_getElem hi2) (List.getElem?_eq_getElem hi)
 exact ⟨x1,x2,x3,h2⟩
def Ua (K:PySem.W.Frag) (A:cF):Sp:=fun vs H Q _=> ∃(f q:Addr) (c d b o n:Nat) (chs:List (List Int)),vs= [.ref f, .ref q]∧jN A.bI H f c d b o∧j7 K H q d n chs∧(chs.length=c∧1≤n∧n≤1024)∧(1≤c∧c≤4)∧(4≤d∧d≤24∧o≤4)∧
 ∀(D:Addr) (bs:List Addr) (H':Hp),ah H H'→H' D=some (.lst (bs.map V.ref))→bs.length=c/2→(∀(i:Nat) (x:Addr),bs[i]?=some x→IsPair K A H' x (pairAt d o chs i).1 (pairAt d o chs i).2.1 (pairAt d o chs i).2.2)→Q (.ref D) H'
theorem xS:aM ["form", "channels", "c"] ["form", "channels"] (aG Gk):=⟨rfl,rfl,rfl,by decide+kernel,rfl,by decide+kernel,by decide+kernel⟩
theorem Rt (T:Txt K mg A):aC P w K mg base aO 9 A.qM A.mT ["form", "channels"] (Ua K A):=by
 refine T.Ab.ok xS (fun vs H Q E h=>?_) (fun cdv Ar outer s H vs Q E hr h=>?_)
 ·obtain ⟨f,q,c,d,b,o,n,chs,rfl,_⟩:=h
  rfl
 ·obtain ⟨f,q,c,d,b,o,n,chs,rfl,hF,hC,⟨hcl,hn1,hn2⟩,⟨hc1,hc4⟩,⟨hd1,hd2,ho⟩,k⟩:=h
  refine ⟨_,aw (aS (cw (own:= [("c",2)]) rfl xS.nd (jM rfl T.dt (aa au (aa (aq cc (aA (pv 0) rfl) au) (aa au ag)))) (b5 (by kernel_rfl))
   (fun _ _ _ _ _=>aT (i:=2) xS.nd rfl (Or.inl rfl)) (fun _ _ _ _ _=>bZ)
   (fun _ _ _ _ _=>JJ (aN (MU T) hr rfl T.R4 T.Aa.kp T.RJ .nil ay (aa (pv 0) (aa (bS (fw (K:=K) rfl) (pv 1) (pv 2) (fun _ _=>rfl)) (aa (bS (fw (K:=K) rfl) (pv 1) (aq bE (pv 2) au) (fun _ _=>rfl)) ag))))))),?_⟩
  obtain ⟨dF,gF,sF,hf⟩:=id hF
  refine (aE rfl hf T.bw T.gA rfl (af _ _ ⟨rfl,rfl,0,(c:Int)-1,af 2 (c/2) ⟨rfl,KW hc1 hc4,fun D hD=>?_⟩⟩))
  refine kz (J:=iI 0 2 (c/2)) hD (c/2) (by rw[sizeLine_eq];lia) (fun i v Hq=> ∃x,v= .ref x∧IsPair K A Hq x (pairAt d o chs i).1 (pairAt d o chs i).2.1 (pairAt d o chs i).2.2) (fun i v H1 H2 _ ss ⟨x,a1,a2⟩=>⟨x,a1,a2.same ss⟩)
   (fun i Hh hi s1=>hi) (fun Hh s1=>Nat.le_refl _) ?_ ?_
  ·rintro i Hh z H' hi s1 ⟨acc,hacc⟩ ⟨rfl,rfl⟩ C hC'
   have e1:(0:Int)+(i:Nat)*2=((2*i:Nat):Int):=by lia
   rw[e1]
   refine ⟨rfl,D,acc,hacc,fun φ=>?_⟩
   have s2:ah H (upd H' D (.ext φ)):=eO s1 hD
   obtain ⟨as,a,g1,g2,g3,g4,g5,_⟩:=(hC.same s2).at (i:=2*i) (by lia)
   obtain ⟨bs,b2,f1,f2,f3,f4,f5,_⟩:=(hC.same s2).at (i:=2*i+1) (by lia)
   refine ⟨_,rfl,_,rfl,_,rfl,az q _ _ _ ⟨rfl,rfl,g1,bP (j:=2*i) g2,_,rfl,_,rfl,af _ _ ⟨rfl,rfl,az q _ _ _ ⟨rfl,rfl,f1,bP (j:=2*i+1) f2,Cp f a b2 c d b o _ _ ⟨rfl,hF.same s2,g3,f3,⟨by lia,by lia,by lia⟩,⟨hd1,hd2,ho⟩,g5,f5,fun x H6 s6 hP=>?_⟩⟩⟩⟩⟩
   have hDx:H6 D=some (.ext φ):=s6 _ _ ao
   refine ⟨hDx,hC' _ _ (KN hacc s6) ⟨x,rfl,?_⟩⟩
   rw[AB]
   exact hP.ext hDx (TX D H6)
  ·intro Hh xs s1 hlen hp hx
   obtain ⟨bs,rfl,_,hbs⟩:=uW hp
   exact k D bs Hh s1 hx (by rw[List.length_map] at hlen;exact hlen) hbs
theorem jq {c i off:Nat} (hi:i<c) (ho:off%c=0): ∀(t:List Int) (j:Nat),j+t.length≤c→((t.zipIdx (off+j)).filter fun (x:Int×Nat)=>x.2%c==i).map (fun (x:Int×Nat)=>x.1)=if j≤i∧i<j+t.length then [t.getD (i-j) 0] else []
 | [],j,_=>by
  rw[if_neg (by rintro ⟨h1,h2⟩;rw[List.length_nil] at h2;lia)];rfl
 |x::t,j,hl=>by
  rw[List.length_cons] at hl
  have ih:=jq hi ho t (j+1) (by lia)
  have em:(off+j)%c=j:=by
   rw[Nat.add_mod,ho,Nat.zero_add,Nat.mod_mod,Nat.mod_eq_of_lt (by lia)]
  rw[List.zipIdx_cons,List.filter_cons]
  simp only [em]
  rw[Nat.add_assoc]
  by_cases e:j=i
  ·subst e
   rw[if_pos (by simp),List.map_cons,ih,if_neg (by lia),if_pos (by rw[List.length_cons];lia),Nat.sub_self]
   rfl
  ·rw[if_neg (by simpa using e),ih]
   by_cases h:j+1≤i∧i<j+1+t.length
   ·rw[if_pos h,if_pos (by rw[List.length_cons];lia)]
    rw[show i-j=(i-(j+1))+1 by lia,List.getD_cons_succ]
   ·rw[if_neg h,if_neg (by rw[List.length_cons];lia)]
theorem BA {c i:Nat} (hi:i<c): ∀(n:Nat) (s:List Int) (off:Nat),s.length=c*n→off%c=0→((s.zipIdx off).filter fun (x:Int×Nat)=>x.2%c==i).map (fun (x:Int×Nat)=>x.1)=(List.range n).map fun j=>s.getD (i+c*j) 0
 |0,s,off,hl,_=>by
  have:s= []:=List.eq_nil_of_length_eq_zero (by rw[hl,Nat.mul_zero])
  subst this;rfl
 |n+1,s,off,hl,ho=>by
  have hcn:c*(n+1)=c*n+c:=by rw[Nat.mul_add,Nat.mul_one]
  have hs:s=s.take c++s.drop c:=(List.take_append_drop c s).symm
  have l1:(s.take c).length=c:=by rw[List.length_take];lia
  have l2:(s.drop c).length=c*n:=by rw[List.length_drop];lia
  have h1:=jq (c:=c) (i:=i) (off:=off) hi ho (s.take c) 0 (by lia)
  rw[if_pos (by lia),Nat.add_zero,Nat.sub_zero] at h1
  have h2:=BA hi n (s.drop c) (off+c) l2 (by rw[Nat.add_mod,ho,Nat.mod_self];simp)
  conv=>lhs;rw[hs]
  rw[List.zipIdx_append,List.filter_append,List.map_append,h1,l1,h2,List.range_succ_eq_map,List.map_cons,List.map_map,List.singleton_append]
  congr 1
  ·rw[Nat.mul_zero,Nat.add_zero,List.getD_eq_getElem?_getD,List.getD_eq_getElem?_getD,List.getElem?_take_of_lt hi]
  ·refine List.map_congr_left fun j _=>?_
   show (s.drop c).getD (i+c*j) 0=s.getD (i+c*(j+1)) 0
   rw[List.getD_eq_getElem?_getD,List.getD_eq_getElem?_getD,List.getElem?_drop]
   congr 2
   rw[Nat.mul_add];lia
theorem FJ {c i n:Nat} {s:List Int} (hi:i<c) (hl:s.length=c*n):Sound.channel c i s=(List.range n).map fun j=>s.getD (i+c*j) 0:=BA hi n s 0 hl (Nat.zero_mod c)
theorem Ub {α:Type} (f:Int→α) {c i n:Nat} {s:List Int} (hi:i<c) (hl:s.length=c*n):gr (s.map f) i c=(Sound.channel c i s).map f:=by
 rw[FJ hi hl]
 unfold gr
 rw[List.length_map,hl]
 have hn:(c*n-i+c-1)/c=n:=by
  rcases Nat.eq_zero_or_pos n with rfl|hp
  ·rw[Nat.mul_zero,Nat.zero_sub,Nat.zero_add,Nat.div_eq_of_lt (by lia)]
  ·have:c*1≤c*n:=Nat.mul_le_mul_left c hp
   rw[show c*n-i+c-1=(c-1-i)+c*n by lia,Nat.add_mul_div_left _ _ (by lia),Nat.div_eq_of_lt (by lia),Nat.zero_add]
 rw[hn,List.map_map]
 have key: ∀l:List Nat,(∀j∈l,j<n)→(l.filterMap fun j=>(s.map f)[i+c*j]?)=l.map (f∘fun j=>s.getD (i+c*j) 0):=by
  intro l
  induction l with
  |nil=>intro _;rfl
  |cons j l ih=>
   intro h
   have hj:=h j (by simp)
   have hb:i+c*j<s.length:=by
    have:c*(j+1)≤c*n:=Nat.mul_le_mul_left c hj
    rw[Nat.mul_add] at this;lia
   rw[List.filterMap_cons,List.getElem?_map,List.getElem?_eq_getElem hb,List.map_cons,ih fun x hx=>h x (List.mem_cons_of_mem _ hx)]
   show _::_=_::_
   congr 1
   show f _=f (s.getD (i+c*j) 0)
   rw[List.getD_eq_getElem?_getD,List.getElem?_eq_getElem hb];rfl
 exact key _ fun j hj=>by simpa using hj
theorem oo {c i n:Nat} {s:List Int} (hi:i<c) (hl:s.length=c*n):(Sound.channel c i s).length=n:=by
 rw[FJ hi hl,List.length_map,List.length_range]
theorem mP {c i:Nat} {s:List Int} {x:Int} (h:x∈Sound.channel c i s):x∈s:=by
 unfold Sound.channel at h
 obtain ⟨⟨y,k⟩,hy,rfl⟩:=List.mem_map.mp h
 have:=List.mem_zipIdx (List.mem_filter.mp hy).1
 rw[this.2.2]
 exact List.getElem_mem _
theorem Ko (w:Nat) (y:List Int):Sound.zeros w y≤w:=by
 unfold Sound.zeros
 split
 ·exact Nat.zero_le _
 ·cases e:(List.range w).reverse.find? fun (z:Nat)=>y.all fun (x:Int)=>x%(2^z:Int)==0 with
  |none=>exact Nat.zero_le _
  |some z=>
   have:=List.mem_of_find?_eq_some e
   simp at this
   exact Nat.le_of_lt this
theorem PV {v:Nat} (h:v<65536):(Sound.high 2 v).map UInt8.toNat= [v/256,v%256]:=by
 show [(UInt8.ofNat (v/256^1%256)).toNat,(UInt8.ofNat (v/256^0%256)).toNat]=_
 rw[UInt8.toNat_ofNat',UInt8.toNat_ofNat']
 simp
 lia
def pw (q:cE):(Nat×Sound.Bits)×Nat:=((q.1,aW q.2.1++aW q.2.2),gC q)
theorem zq: ∀(qs:List cE) (l:cE),(qs.map pw).foldl comb (some (pw l))=some (pw (qs.foldl f6 l))
 | [],l=>rfl
 |q::qs,l=>by
  rw[List.map_cons,List.foldl_cons,List.foldl_cons,←zq qs]
  congr 1
  unfold f6
  show (if gC q<gC l then _ else _)=_
  split<;>rfl
theorem D0 {Pd:cE→Prop}: ∀(qs:List cE) (l:cE),Pd l→(∀q∈qs,Pd q)→Pd (qs.foldl f6 l)
 | [],l,h,_=>h
 |q::qs,l,h,hg=>by
  rw[List.foldl_cons]
  refine D0 qs _ ?_ fun x hx=>hg x (List.mem_cons_of_mem _ hx)
  unfold f6
  split
  ·exact hg q (by simp)
  ·exact h
theorem A0 (wd z:Nat) (y:List Int): ∀(ks:List Nat) (l:bH),(ks.foldl (iO wd z y) l).bits≤l.bits
 | [],l=>Nat.le_refl _
 |k::ks,l=>by
  rw[List.foldl_cons]
  refine Nat.le_trans (A0 wd z y ks _) ?_
  unfold iO
  split
  ·exact Nat.le_refl _
  ·split
   ·lia
   ·exact Nat.le_refl _
theorem LI {wd o:Nat} {ns:List Int} (hw2:wd≤25) (hn2:ns.length≤1024):(cp wd o ns).bits≤30000:=by
 have hz:=Ko wd ns
 have hyl:(Sound.shrunk wd ns).length=ns.length:=by unfold Sound.shrunk;rw[List.length_map]
 unfold cp
 generalize Sound.shrunk wd ns=y at*
 generalize Sound.zeros wd ns=z at*
 split
 ·show 1+z+4+(wd-z)≤30000
  lia
 ·unfold iw
  refine Nat.le_trans (A0 _ _ _ _ _) ?_
  show 1+z+4+y.length*(wd-z)≤30000
  have:=Nat.mul_le_mul (show y.length≤1024 by lia) (show wd-z≤25 by lia)
  lia
def iF (d:bH):Prop:=iY d∧(aW d).length=d.bits∧d.bits≤30000
theorem kg {wd o:Nat} {ns:List Int} (hw1:1≤wd) (hw2:wd≤25) (ho:o≤4) (hf:bM wd ns) (hn1:1≤ns.length) (hn2:ns.length≤1024):iF (cp wd o ns):=
 ⟨(jS hw1 hw2 ho hf hn1 hn2).2.1,(jS hw1 hw2 ho hf hn1 hn2).2.2,LI hw2 hn2⟩
theorem Q5 {f:Sound.Form} {L R:List Int} (hd1:4≤f.depth) (hd2:f.depth≤24) (ho:f.order≤4) (hl:L.length=R.length) (hn1:1≤L.length) (hn2:L.length≤1024) (fL:bM f.depth L) (fR:bM f.depth R):
  Sound.pairBest f L R=((pairD f.depth f.order L R).1,aW (pairD f.depth f.order L R).2.1++aW (pairD f.depth f.order L R).2.2)∧iF (pairD f.depth f.order L R).2.1∧iF (pairD f.depth f.order L R).2.2∧(pairD f.depth f.order L R).1<4:=by
 have hsl:(Sound.side L R).length=L.length:=by unfold Sound.side;rw[List.length_zipWith];lia
 have hml:(Sound.middle L R).length=L.length:=by unfold Sound.middle;rw[List.length_zipWith];lia
 have ga:=kg (o:=f.order) (by lia) (by lia) ho fL hn1 hn2
 have gb:=kg (o:=f.order) (by lia) (by lia) ho fR (by lia) (by lia)
 have gs:=kg (o:=f.order) (show 1≤f.depth+1 by lia) (by lia) ho (ue (by lia) fL fR) (by lia) (by lia)
 have gm:=kg (o:=f.order) (by lia) (by lia) ho (uZ fL fR) (by lia) (by lia)
 have ea:=(jS (o:=f.order) (by lia) (by lia) ho fL hn1 hn2).1
 have eb:=(jS (o:=f.order) (by lia) (by lia) ho fR (by lia) (by lia)).1
 have es:=(jS (o:=f.order) (show 1≤f.depth+1 by lia) (by lia) ho (ue (by lia) fL fR) (by lia) (by lia)).1
 have em:=(jS (o:=f.order) (by lia) (by lia) ho (uZ fL fR) (by lia) (by lia)).1
 unfold Sound.pairBest pairD others
 simp only
 rw[ea,eb,es,em]
 generalize cp f.depth f.order L=pa at*
 generalize cp f.depth f.order R=pb at*
 generalize cp (f.depth+1) f.order (Sound.side L R)=ps at*
 generalize cp f.depth f.order (Sound.middle L R)=pm at*
 have len: ∀x y:bH,iF x→iF y→(aW x++aW y).length=x.bits+y.bits:=fun x y hx hy=>by rw[List.length_append,hx.2.1,hy.2.1]
 refine ⟨?_,?_⟩
 ·have e:([(0,aW pa++aW pb),(1,aW pa++aW ps),(2,aW ps++aW pb),(3,aW pm++aW ps)]:List (Nat×Sound.Bits)).map (fun (x:Nat×Sound.Bits)=>(x,x.2.length))=pw (0,pa,pb)::([(1,pa,ps),(2,ps,pb),(3,pm,ps)]:List cE).map pw:=by
   simp only [List.map_cons,List.map_nil,pw,gC,len pa pb ga gb,len pa ps ga gs,len ps pb gs gb,len pm ps gm gs]
  rw[e,←wR,List.foldl_cons,show comb none (pw (0,pa,pb))=some (pw (0,pa,pb)) from rfl,zq]
  rfl
 ·exact D0 (Pd:=fun q=>iF q.2.1∧iF q.2.2∧q.1<4) _ _ ⟨ga,gb,by show 0<4;decide⟩ fun q hq=>by
   simp only [List.mem_cons,List.not_mem_nil,or_false] at hq
   rcases hq with rfl|rfl|rfl
   ·exact ⟨ga,gs,by show 1<4;decide⟩
   ·exact ⟨gs,gb,by show 2<4;decide⟩
   ·exact ⟨gm,gs,by show 3<4;decide⟩
def dn (c:Nat) (s:List Int):List (List Int):=(List.range c).map fun i=>Sound.channel c i s
theorem mZ (c:Nat) (s:List Int):(dn c s).length=c:=by unfold dn;rw[List.length_map,List.length_range]
theorem vI {c i:Nat} {s:List Int} (h:i<c):(dn c s).getD i []=Sound.channel c i s:=by
 unfold dn
 rw[List.getD_eq_getElem?_getD,List.getElem?_map,List.getElem?_range h];rfl
def eM (c d o:Nat) (s:List Int):List cE:=(List.range (c/2)).map (pairAt d o (dn c s))
def jn (c d o:Nat) (s:List Int):Sound.Bits:=if c%2=1 then aW (cp d o (Sound.channel c (c-1) s)) else []
def il (k n:Nat):Sound.Bits:=Sound.u 16 19287++Sound.u 20 k++Sound.u 8 (n-1)
def dJ (c d o k n:Nat) (s:List Int):Sound.Bits:=il k n++(eM c d o s).flatMap (fun q=>Sound.u 2 q.1)++(eM c d o s).flatMap (fun q=>aW q.2.1++aW q.2.2)++jn c d o s
theorem bM.sub {d:Nat} {s t:List Int} (h:bM d s) (hs: ∀x∈t,x∈s):bM d t:=fun x hx=>h x (hs x hx)
theorem wm {f:Sound.Form} {n i:Nat} {s:List Int} (hc1:1≤f.channels) (hd1:4≤f.depth) (hd2:f.depth≤24) (ho:f.order≤4) (hl:s.length=f.channels*n) (hn1:1≤n) (hn2:n≤1024) (hf:bM f.depth s) (hi:i<f.channels/2):
  Sound.pairBest f (Sound.channel f.channels (2*i) s) (Sound.channel f.channels (2*i+1) s)=((pairAt f.depth f.order (dn f.channels s) i).1,aW (pairAt f.depth f.order (dn f.channels s) i).2.1++aW (pairAt f.depth f.order (dn f.channels s) i).2.2)∧
   iF (pairAt f.depth f.order (dn f.channels s) i).2.1∧iF (pairAt f.depth f.order (dn f.channels s) i).2.2∧(pairAt f.depth f.order (dn f.channels s) i).1<4:=by
 unfold pairAt
 rw[vI (by lia),vI (by lia)]
 have l1:=oo (c:=f.channels) (i:=2*i) (by lia) hl
 have l2:=oo (c:=f.channels) (i:=2*i+1) (by lia) hl
 exact Q5 hd1 hd2 ho (by lia) (by lia) (by lia) (hf.sub fun x=>mP) (hf.sub fun x=>mP)
theorem Fp {f:Sound.Form} {k n:Nat} {s:List Int} (hc1:1≤f.channels) (hd1:4≤f.depth) (hd2:f.depth≤24) (ho:f.order≤4) (hl:s.length=f.channels*n) (hn1:1≤n) (hn2:n≤1024) (hf:bM f.depth s):
  Sound.frame f k s=gu (dJ f.channels f.depth f.order k n s)++Sound.high 2 (Sound.crc16 (gu (dJ f.channels f.depth f.order k n s))):=by
 unfold Sound.frame
 have e1:(List.range (Sound.pairs f)).map (fun (i:Nat)=>Sound.pairBest f (Sound.channel f.channels (2*i) s) (Sound.channel f.channels (2*i+1) s))=(eM f.channels f.depth f.order s).map fun q=>(q.1,aW q.2.1++aW q.2.2):=by
  unfold eM
  rw[List.map_map]
  refine List.map_congr_left fun i hi=>?_
  exact (wm hc1 hd1 hd2 ho hl hn1 hn2 hf (by simpa [Sound.pairs] using hi)).1
 have e2:s.length/f.channels=n:=by rw[hl,Nat.mul_div_cancel_left _ (by lia)]
 have e3:(if f.channels%2=1 then Sound.part f.depth f.order (Sound.channel f.channels (f.channels-1) s) else [])=jn f.channels f.depth f.order s:=by
  unfold jn
  split
  ·have l1:=oo (c:=f.channels) (i:=f.channels-1) (by lia) hl
   exact (jS (by lia) (by lia) ho (hf.sub fun x=>mP) (by lia) (by lia)).1
  ·rfl
 simp only [e1,e2,e3,List.flatMap_map]
 have e4:Sound.u 16 0x4B57++(Sound.u 20 k++(Sound.u 8 (n-1)++((eM f.channels f.depth f.order s).flatMap (fun q=>Sound.u 2 q.1)++((eM f.channels f.depth f.order s).flatMap (fun q=>aW q.2.1++aW q.2.2)++jn f.channels f.depth f.order s))))=dJ f.channels f.depth f.order k n s:=by
  unfold dJ il
  simp only [List.append_assoc]
 rw[e4]
 rfl
theorem vc (c d o:Nat) (s:List Int):(eM c d o s).length=c/2:=by unfold eM;rw[List.length_map,List.length_range]
theorem Lx {c d o i:Nat} {s:List Int} (h:i<c/2):(eM c d o s)[i]?=some (pairAt d o (dn c s) i):=by
 unfold eM
 rw[List.getElem?_map,List.getElem?_range h];rfl
theorem vn {α:Type} {g:α→Sound.Bits} {m:Nat}: ∀(l:List α),(∀x∈l,(g x).length≤m)→(l.flatMap g).length≤l.length*m
 | [],_=>by simp
 |x::l,h=>by
  have ih:=vn l fun y hy=>h y (List.mem_cons_of_mem _ hy)
  have:=h x (by simp)
  rw[List.flatMap_cons,List.length_append,List.length_cons,Nat.add_mul]
  lia
def Jh (K:PySem.W.Frag) (A:cF):Sp:=fun vs H Q _=> ∃(f q:Addr) (F:Sound.Form) (k n:Nat) (s:List Int),vs= [.ref f, .int k, .ref q]∧jN A.bI H f F.channels F.depth F.block F.order∧ae K H q (s.map V.int)∧(1≤F.channels∧F.channels≤4)∧(4≤F.depth∧F.depth≤24∧F.order≤4)∧(s.length=F.channels*n∧1≤n∧n≤256)∧bM F.depth s∧k<2^20∧
 ∀(D:Addr) (H':Hp),H D=none→ah H H'→H' D=some (.lst (vN ((Sound.frame F k s).map UInt8.toNat)))→Q (.ref D) H'
theorem ic:aM ["form", "k", "numbers", "channels", "writer", "pairs", "pair", "part", "written", "check", "c"] ["form", "k", "numbers"] (aG C4):=⟨rfl,rfl,rfl,by decide+kernel,rfl,by decide+kernel,by decide+kernel⟩
theorem aP.same {x:Addr} {H H1 H':Hp} (hx:H x=none) (s:ah H H1) (b:aP x H1 H'):ah H H':=fun a o e=>b a o (s a o e) (bD e hx)
theorem Fg (b:Sound.Bits):8*((gu b).map UInt8.toNat).length≤b.length+8:=by
 have h8:=AA b.length
 unfold gu
 rw[uq ((b.length+Sound.padBits b.length)/8) _ _ (by rw[List.length_append,List.length_replicate];lia) (by lia),List.length_map,List.length_range]
 lia
theorem SS {α:Type} {xs:List α} {v:α} (h:xs[xs.length-1]?=some v) (h0:1≤xs.length):gq xs (-1)=some v:=by
 unfold gq jI
 rw[if_neg (by decide),if_pos (by lia)]
 have e:((-1:Int)+(xs.length:Nat)).toNat=xs.length-1:=by lia
 rw[e]
 exact h
theorem Ah: ∀(l:List Nat) (c:Nat),c<65536→(∀x∈l,x<256)→l.foldl eu c<65536
 | [],c,h,_=>h
 |x::l,c,h,hb=>by
  have h2:=(vC h (hb x (by simp))).2
  rw[List.foldl_cons]
  exact Ah l _ h2 fun y hy=>hb y (List.mem_cons_of_mem _ hy)
theorem O4 {F:Sound.Form} {k n:Nat} {s:List Int} (hc1:1≤F.channels) (hd1:4≤F.depth) (hd2:F.depth≤24) (ho:F.order≤4) (hl:s.length=F.channels*n) (hn1:1≤n) (hn2:n≤1024) (hf:bM F.depth s) {W:List Nat} (hW:(gu (dJ F.channels F.depth F.order k n s)).map UInt8.toNat=W):
  vN ((Sound.frame F k s).map UInt8.toNat)=vN W++ [V.int ((kL W:Nat)/2^(8:Int).toNat),V.int (Builtin.bitAnd (kL W:Nat) 255)]:=by
 have hb: ∀x∈W,x<256:=fun x hx=>by
  rw[←hW] at hx
  obtain ⟨y,_,rfl⟩:=List.mem_map.mp hx
  exact y.toNat_lt
 have hlt:kL W<65536:=Ah W 65535 (by decide) hb
 rw[Fp hc1 hd1 hd2 ho hl hn1 hn2 hf,List.map_append,←Ue,hW,PV hlt,vq]
 unfold vN
 rw[List.map_append]
 congr 1
theorem B8 {F:Sound.Form} {k n:Nat} {s:List Int} (hc1:1≤F.channels) (hc4:F.channels≤4) (hd1:4≤F.depth) (hd2:F.depth≤24) (ho:F.order≤4) (hl:s.length=F.channels*n) (hn1:1≤n) (hn2:n≤1024) (hf:bM F.depth s):
  (il k n).length=44∧((eM F.channels F.depth F.order s).flatMap fun q=>Sound.u 2 q.1).length≤4∧((eM F.channels F.depth F.order s).flatMap fun q=>aW q.2.1++aW q.2.2).length≤120000∧(jn F.channels F.depth F.order s).length≤30000:=by
 have hq2:F.channels/2≤2:=by lia
 refine ⟨by unfold il;rw[List.length_append,List.length_append,bt,bt,bt],?_,?_,?_⟩
 ·refine Nat.le_trans (vn (m:=2) _ fun q _=>by rw[bt];lia) ?_
  rw[vc];lia
 ·refine Nat.le_trans (vn (m:=60000) _ fun q hq=>?_) (by rw[vc];lia)
  unfold eM at hq
  obtain ⟨i,hi,rfl⟩:=List.mem_map.mp hq
  obtain ⟨_,g1,g2,_⟩:=wm hc1 hd1 hd2 ho hl hn1 hn2 hf (by simpa using hi)
  rw[List.length_append,g1.2.1,g2.2.1]
  have:=g1.2.2
  have:=g2.2.2
  lia
 ·unfold jn
  split
  ·have l1:=oo (c:=F.channels) (i:=F.channels-1) (by lia) hl
   have g:=kg (wd:=F.depth) (o:=F.order) (by lia) (by lia) ho (hf.sub fun x=>mP (c:=F.channels) (i:=F.channels-1)) (by lia) (by lia)
   rw[g.2.1]
   exact g.2.2
  ·exact Nat.zero_le _
theorem Rc {F:Sound.Form} {k n:Nat} {s:List Int} (hc1:1≤F.channels) (hc4:F.channels≤4) (hd1:4≤F.depth) (hd2:F.depth≤24) (ho:F.order≤4) (hl:s.length=F.channels*n) (hn1:1≤n) (hn2:n≤1024) (hf:bM F.depth s):((Sound.frame F k s).map UInt8.toNat).length≤20010:=by
 obtain ⟨z1,z2,z3,z4⟩:=B8 (k:=k) hc1 hc4 hd1 hd2 ho hl hn1 hn2 hf
 have hb:=Fg (dJ F.channels F.depth F.order k n s)
 rw[Fp hc1 hd1 hd2 ho hl hn1 hn2 hf,List.length_map,List.length_append]
 rw[List.length_map] at hb
 have e2:(Sound.high 2 (Sound.crc16 (gu (dJ F.channels F.depth F.order k n s)))).length=2:=rfl
 have e3:(dJ F.channels F.depth F.order k n s).length≤160000:=by
  unfold dJ
  rw[List.length_append,List.length_append,List.length_append]
  lia
 lia
theorem My (T:Txt K mg A):aC P w K mg base aO 10 A.nF A.mm ["form", "k", "numbers"] (Jh K A):=by
 refine T.DB.ok ic (fun vs H Q E h=>?_) (fun cdv Ar outer s H vs Q E hr h=>?_)
 ·obtain ⟨f,q,F,k,n,s,rfl,_⟩:=h
  rfl
 ·obtain ⟨f,q,F,kk,n,ss,rfl,hF,hq,⟨hc1,hc4⟩,⟨hd1,hd2,ho⟩,⟨hl,hn1,hn2⟩,hfit,hk20,k⟩:=h
  have hr1:aR 1 _:=hr.mono (by decide)
  have hr2:aR 2 _:=hr.mono (by decide)
  have hr5:aR 5 _:=hr.mono (by decide)
  have hr7:aR 7 _:=hr.mono (by decide)
  refine ⟨_,ak (xu (i:=3) (own:= [("c",10)]) rfl ic.nd rfl rfl rfl (jh rfl T.dt (aa (aA (pv 0) rfl) ag)) (b5 (by kernel_rfl)) (fun _ _ _ _ _=>aT (i:=10) ic.nd rfl (Or.inl rfl)) (fun _ _ _ _ _=>bZ)
    (fun _ _ _ _ _=>QF (K:=K) rfl (pv 2) (pv 10) (qV (K:=K) rfl (pv 0) rfl)))
   (ak (aI (i:=4) ic.nd rfl (Or.inl rfl) (Fn T.JQ (TQ T) hr2 rfl T.Rq T.Tr .nil ay))
   (ak (ba (bC (pv 4) T.cf T.fb (eZ T) hr1 T.fc .nil ay (aa au (aa (aY rfl T.TH) ag))))
   (ak (ba (bC (pv 4) T.cf T.fb (eZ T) hr1 T.fc .nil ay (aa au (aa (pv 1) ag))))
   (ak (ba (bC (pv 4) T.cf T.fb (eZ T) hr1 T.fc .nil ay (aa au (aa (aq cc (bf bU (by rfl) T.bW PySem.boot_len (aa (bS (fw (K:=K) rfl) (pv 3) au (fun _ _=>rfl)) ag)) au) ag))))
   (ak (aI (i:=5) ic.nd rfl (Or.inl rfl) (aN (Rt T) hr rfl T.Kg T.Ab.kp T.Qx .nil ay (aa (pv 0) (aa (pv 3) ag))))
   (ak (cv PassesOwn.never rfl (cg (pv 5)) (aT (i:=6) ic.nd rfl (Or.inl rfl)) (aw (ba (bC (pv 4) T.cf T.fb (eZ T) hr1 T.fc .nil ay (aa au (aa (aA (pv 6) rfl) ag))))))
   (ak (cv PassesOwn.never rfl (cg (pv 5)) (aT (i:=6) ic.nd rfl (Or.inl rfl)) (aw (cv PassesOwn.never rfl (cg (aA (pv 6) rfl)) (aT (i:=7) ic.nd rfl (Or.inl rfl))
     (aw (ba (aN (EB T) hr5 rfl T.zY T.xY.kp T.DX .nil ay (aa (pv 4) (aa (pv 7) ag))))))))
   (ak (bN (bO fj (aq tZ (aA (pv 0) rfl) au) au (bo _)) (aw (ba (aN (EB T) hr5 rfl T.zY T.xY.kp T.DX .nil ay (aa (pv 4) (aa
     (aN (mV T) hr7 rfl T.qf T.kP.kp T.lp .nil ay (aa (aA (pv 0) rfl) (aa (aA (pv 0) rfl) (aa (bS (fw (K:=K) rfl) (pv 3) (dB dz au) (fun _ _=>rfl)) ag)))) ag))))) bX)
   (ak (aI (i:=8) ic.nd rfl (Or.inl rfl) (Eo (pv 4) T.cf T.P5 (QR T) hr1 T.Ij .nil ay))
   (ak (aI (i:=9) ic.nd rfl (Or.inl rfl) (aN (OM T) hr1 rfl T.MR T.EF.kp T.Ro .nil ay (aa (pv 8) ag)))
   (aw (aS (aq i8 (pv 8) (b9 (aa (aq fg (pv 9) au) (aa (aq jo (pv 9) au) ag)))))))))))))))),?_⟩
  obtain ⟨dF,gF,sF,hf⟩:=id hF
  have e62:(2:Int)^62=4611686018427387904:=by decide
  have hcn:F.channels≤ss.length:=by rw[hl];exact Nat.le_mul_of_pos_right _ hn1
  obtain ⟨z1,z2,z3,z4⟩:=B8 (k:=kk) hc1 hc4 hd1 hd2 ho hl hn1 (by lia) hfit
  refine (aE rfl hf T.bw T.gA rfl ⟨_,rfl,by lia,by lia,fun D hD=>?_⟩)
  rw[Int.toNat_natCast]
  refine kz (J:=fX 0 F.channels) hD F.channels (by rw[sizeLine_eq];lia) (fun i v Hq=> ∃a,v= .ref a∧ae K Hq a ((Sound.channel F.channels i ss).map V.int)) (fun i v H1 H2 _ sm ⟨a,a1,a2⟩=>⟨a,a1,sm.seq a2⟩)
   (fun i Hh hi s1=>hi) (fun Hh s1=>Nat.le_refl _) ?_ ?_
  ·rintro i Hh z H' hi s1 ⟨acc,hacc⟩ ⟨rfl,rfl⟩ C hC
   rw[Int.zero_add]
   refine ⟨rfl,_,rfl,_,rfl,aE rfl (s1 _ _ hf) T.bw T.gA rfl (az q _ i F.channels ⟨rfl,rfl,rfl,s1.seq hq,⟨by rw[List.length_map];lia,hc1⟩,fun p hp=>?_⟩)⟩
   rw[Ub V.int hi hl]
   refine hC _ _ (aQ hp) ⟨p,rfl,ae.of ?_⟩
   rw[hide_ne (fun e=>by rw[e,hacc] at hp;cases hp)]
   exact ao
  intro H1 xs s1 hlen hp hx
  obtain ⟨as,rfl,_,has⟩:=uW hp
  rw[List.length_map] at hlen
  have hCh:j7 K H1 D F.depth n (dn F.channels ss):=⟨as,ae.of hx,by rw[mZ];exact hlen,fun i a ch e1 e2=>by
   have hi:i<F.channels:=by have:=(List.getElem?_eq_some_iff.mp e1).1;lia
   unfold dn at e2
   rw[List.getElem?_map,List.getElem?_range hi] at e2
   cases e2
   exact ⟨has i a e1,oo hi hl,hfit.sub fun x=>mP⟩⟩
  intro x dx hx1 hdx hne
  refine (af x dx ⟨rfl,ao,rfl,?_⟩)
  rw[gL]
  have s12:ah H1 (upd (upd H1 dx (.own x)) x (.ins A.aX dx (eB (.int 0) (.int 0)))):=dG hx1 hdx
  have hw2:bc A.aX (upd (upd H1 dx (.own x)) x (.ins A.aX dx (eB (.int 0) (.int 0)))) x []:=⟨dx,ao⟩
  generalize upd (upd H1 dx (.own x)) x (.ins A.aX dx (eB (.int 0) (.int 0)))=H2 at*
  obtain ⟨d2,hx2⟩:=id hw2
  refine (bA rfl hx2 rfl ⟨x,16,19287, [],rfl,hw2,by decide,by unfold cR;rw[List.length_nil];lia,fun H3 hb3 hw3=>?_⟩)
  obtain ⟨d3,hx3⟩:=id hw3
  refine (bA rfl hx3 rfl ⟨_,rfl,az x 20 kk _ ⟨rfl,hw3,hk20,by unfold cR;rw[List.length_append,List.length_nil,bt];lia,fun H4 hb4 hw4=>?_⟩⟩)
  obtain ⟨d4,hx4⟩:=id hw4
  have s14:ah H1 H4:=aP.same hx1 s12 (hb3.trans hb4)
  obtain ⟨as0,a0,g1,g2,g3,g4,_,_⟩:=(hCh.same s14).at (i:=0) (by rw[mZ];lia)
  refine (bA rfl hx4 rfl ⟨_,rfl,az D _ _ _ ⟨rfl,rfl,g1,bP (j:=0) g2,af a0 _ ⟨rfl, .inl g3,af _ _ ⟨rfl,rfl,?_⟩⟩⟩⟩)
  have e8:(((((dn F.channels ss).getD 0 []).map V.int).length:Nat):Int)-1=((n-1:Nat):Int):=by rw[List.length_map,g4];lia
  dsimp only
  rw[e8]
  refine (az x 8 (n-1) _ ⟨rfl,hw4,by show n-1<256;lia,by unfold cR;rw[List.length_append,List.length_append,List.length_nil,bt,bt];lia,fun H5 hb5 hw5=>?_⟩)
  have hw5:bc A.aX H5 x (il kk n):=hw5
  have s15:ah H1 H5:=aP.same hx1 s12 (hb3.trans (hb4.trans hb5))
  refine ⟨_,rfl,_,rfl,f,D,F.channels,F.depth,F.block,F.order,n,dn F.channels ss,rfl,(hF.same s1).same s15,hCh.same s15,⟨mZ _ _,hn1,by lia⟩,⟨hc1,hc4⟩,⟨hd1,hd2,ho⟩,fun Pp bs H6 s6 hPp hbl hbs=>?_⟩
  have hw6:bc A.aX H6 x (il kk n):=by
   obtain ⟨d5,hx5⟩:=hw5
   exact ⟨d5,s6 _ _ hx5⟩
  have s16:ah H1 H6:=s15.trans s6
  have hx6: ∃d6 n6 m6,H6 x=some (.ins A.aX d6 (eB n6 m6)):=by
   obtain ⟨d6,h6⟩:=hw6
   exact ⟨d6,_,_,h6⟩
  obtain ⟨d6,n6,m6,hx6⟩:=hx6
  have hqg: ∀i,i<F.channels/2→(eM F.channels F.depth F.order ss)[i]?=some (pairAt F.depth F.order (dn F.channels ss) i):=fun i hi=>Lx hi
  have hgood:=fun i (hi:i<F.channels/2)=>(wm (n:=n) hc1 hd1 hd2 ho hl hn1 (by lia) hfit hi).2
  generalize hQs:eM F.channels F.depth F.order ss=Qs at*
  have hQl:Qs.length=F.channels/2:=by rw[←hQs,vc]
  refine ⟨_,rfl,Pp,rfl,⟨_,ae.of hPp⟩,?_⟩
  refine eA (K:=K) (a:=Pp) (xs:=bs.map V.ref) (fun i σ H'=> ∃v6 v7 v8 v9 v10:Option V,σ= [some (.ref f),some (.int kk),some (.ref q),some (.ref D),some (.ref x),some (.ref Pp),v6,v7,v8,v9,v10]∧aP x H6 H'∧bc A.aX H' x (il kk n++(Qs.take i).flatMap fun q=>Sound.u 2 q.1))
   ⟨none,none,none,none,none,rfl,aP.refl _ _,by rw[List.take_zero];simpa using hw6⟩ (fun i σ H' _ ⟨_,_,_,_,_,_,hb,_⟩=>hb.sq hx6 (ae.of hPp)) ?_ ?_
  ·rintro i y σ H7 hi ⟨v6,v7,v8,v9,v10,rfl,hb7,hw7⟩
   obtain ⟨ai,hai,rfl⟩:=pU hi
   have hic:i<F.channels/2:=by have:=(List.getElem?_eq_some_iff.mp hai).1;lia
   obtain ⟨e1,p1,a1,b1,hp1,_⟩:=(hbs i ai hai).but hw6 hb7
   obtain ⟨d7,hx7⟩:=id hw7
   have hfs:=tJ (fun q:cE=>Sound.u 2 q.1) (hqg i hic)
   have htl:=tG (fun q:cE=>Sound.u 2 q.1) Qs i
   refine (bA rfl hx7 rfl (aE rfl hp1 T.jR T.Gr rfl (az x 2 _ _ ⟨rfl,hw7,(hgood i hic).2.2,by unfold cR;rw[List.length_append];lia,fun H8 hb8 hw8=>(fT _ _ _ _ _ ⟨rfl,hb7.trans hb8,?_⟩)⟩)))
   rw[hfs,←List.append_assoc]
   exact hw8
  rintro σ H7 ⟨v6,v7,v8,v9,v10,rfl,hb7,hw7⟩
  rw[List.length_map,hbl,←hQl,List.take_length] at hw7
  generalize hMb:Qs.flatMap (fun q=>Sound.u 2 q.1)=Mb at*
  have hx7: ∃d7 n7 m7,H7 x=some (.ins A.aX d7 (eB n7 m7)):=by
   obtain ⟨d7,h7⟩:=hw7
   exact ⟨d7,_,_,h7⟩
  obtain ⟨d7,n7,m7,hx7⟩:=hx7
  have hPp7:ae K H7 Pp (bs.map V.ref):=hb7.sq hx6 (ae.of hPp)
  refine ⟨_,rfl,Pp,rfl,⟨_,hPp7⟩,?_⟩
  refine eA (K:=K) (a:=Pp) (xs:=bs.map V.ref) (fun i σ H'=> ∃v6 v7 v8 v9 v10:Option V,σ= [some (.ref f),some (.int kk),some (.ref q),some (.ref D),some (.ref x),some (.ref Pp),v6,v7,v8,v9,v10]∧aP x H7 H'∧bc A.aX H' x (il kk n++Mb++(Qs.take i).flatMap fun q=>aW q.2.1++aW q.2.2))
   (fT v6 v7 v8 v9 v10 ⟨rfl,aP.refl _ _,by rw[List.take_zero];simpa using hw7⟩) (fun i σ H' _ ⟨_,_,_,_,_,_,hb,_⟩=>hb.sq hx7 hPp7) ?_ ?_
  ·rintro i y σ H8 hi ⟨u6,u7,u8,u9,u10,rfl,hb8,hw8⟩
   obtain ⟨ai,hai,rfl⟩:=pU hi
   have hic:i<F.channels/2:=by have:=(List.getElem?_eq_some_iff.mp hai).1;lia
   obtain ⟨e1,p1,a1,b1,hp1,hp2,hPa,hPb⟩:=(hbs i ai hai).but hw6 (hb7.trans hb8)
   obtain ⟨ga,gb,_⟩:=hgood i hic
   have hfs:=tJ (fun q:cE=>aW q.2.1++aW q.2.2) (hqg i hic)
   have htl:=tG (fun q:cE=>aW q.2.1++aW q.2.2) Qs i
   have la:=ga.2.1
   have lb:=gb.2.1
   have sa:=ga.2.2
   have sb:=gb.2.2
   generalize (pairAt F.depth F.order (dn F.channels ss) i).2.1=da at*
   generalize (pairAt F.depth F.order (dn F.channels ss) i).2.2=db at*
   have hx8: ∃d8 n8 m8,H8 x=some (.ins A.aX d8 (eB n8 m8)):=by
    obtain ⟨d8,h8⟩:=hw8
    exact ⟨d8,_,_,h8⟩
   obtain ⟨d8,n8,m8,hx8⟩:=hx8
   generalize hpre:il kk n++Mb++(Qs.take i).flatMap (fun q=>aW q.2.1++aW q.2.2)=pre at hw8
   have hprel:pre.length≤44+4+120000:=by
    rw[←hpre,List.length_append,List.length_append];lia
   refine (aE rfl hp1 T.jR T.Ac rfl ⟨p1,rfl,⟨_,ae.of hp2⟩,?_⟩)
   refine eA (K:=K) (a:=p1) (xs:= [.ref a1, .ref b1]) (fun j σ H'=> ∃v7 v8 v9 v10:Option V,σ= [some (.ref f),some (.int kk),some (.ref q),some (.ref D),some (.ref x),some (.ref Pp),some (.ref ai),v7,v8,v9,v10]∧aP x H8 H'∧bc A.aX H' x (pre++([da,db].take j).flatMap aW))
    ⟨u7,u8,u9,u10,rfl,aP.refl _ _,by rw[List.take_zero];simpa using hw8⟩ (fun j σ H' _ ⟨_,_,_,_,_,hb,_⟩=>hb.sq hx8 (ae.of hp2)) ?_ ?_
   ·rintro j y σ H9 hj ⟨w7,w8,w9,w10,rfl,hb9,hw9⟩
    have hj2:j<2:=(List.getElem?_eq_some_iff.mp hj).1
    rcases (by lia:j=0∨j=1) with rfl|rfl
    ·cases hj
     refine ⟨_,rfl,_,rfl,az x a1 da _ ⟨rfl,hw9,hPa.but hw8 hb9,ga.1,by unfold cR;rw[List.length_append];simp only [List.take_zero,List.flatMap_nil,List.length_nil];lia,fun H10 hb10 hw10=>(az _ _ _ _ ⟨rfl,hb9.trans hb10,?_⟩)⟩⟩
     simpa using hw10
    ·cases hj
     refine ⟨_,rfl,_,rfl,az x b1 db _ ⟨rfl,hw9,hPb.but hw8 hb9,gb.1,by unfold cR;rw[List.length_append];simp only [List.take_succ_cons,List.take_zero,List.flatMap_cons,List.flatMap_nil,List.append_nil];lia,fun H10 hb10 hw10=>(az _ _ _ _ ⟨rfl,hb9.trans hb10,?_⟩)⟩⟩
     simpa using hw10
   ·rintro σ H9 ⟨w7,w8,w9,w10,rfl,hb9,hw9⟩
    refine (fT _ _ _ _ _ ⟨rfl,hb8.trans hb9,?_⟩)
    rw[hfs,←List.append_assoc,hpre]
    simpa using hw9
  rintro σ H8 ⟨u6,u7,u8,u9,u10,rfl,hb8,hw8⟩
  rw[List.length_map,hbl,←hQl,List.take_length] at hw8
  have s18:ah H1 H8:=aP.same hx1 s16 (hb7.trans hb8)
  have hF8:jN A.bI H8 f F.channels F.depth F.block F.order:=(hF.same s1).same s18
  obtain ⟨d8,gF8,sF8,hf8⟩:=id hF8
  have tail: ∀(E':Ends) (t6 t7 t8 t9 t10:Option V) (H9:Hp),ah H1 H9→bc A.aX H9 x (dJ F.channels F.depth F.order kk n ss)→(∀(D:Addr) (H':Hp),H D=none→ah H H'→H' D=some (.lst (vN ((Sound.frame F kk ss).map UInt8.toNat)))→E'.rt (.ref D) H')→
    kv (qk (mC A.aX "whole_bytes" (Bc A.aX) [] E0 (cZ 4) fY) (i9 8)) (kv (qk (qD (C8 K) [] E0 (fh (cZ 8) fY)) (i9 9)) (xQ (fS uA (cZ 8) (xc (fh (fS (rI (fun _ j=>0≤j) fun i j=>V.int (i/2^j.toNat)) (cZ 9) (tC (.int 8))) (fh (fS (du fun i j=>V.int (Builtin.bitAnd i j)) (cZ 9) (tC (.int 255))) fY)))))) E'
     [some (.ref f),some (.int kk),some (.ref q),some (.ref D),some (.ref x),some (.ref Pp),t6,t7,t8,t9,t10] H9:=by
   intro E' t6 t7 t8 t9 t10 H9 s19 hw9 k'
   obtain ⟨d9,hx9⟩:=id hw9
   have hlen:(dJ F.channels F.depth F.order kk n ss).length≤1000000:=by
    unfold dJ
    rw[hQs,hMb,List.length_append,List.length_append,List.length_append]
    lia
   refine (bA rfl hx9 rfl (af x _ ⟨rfl,hw9,hlen,fun W H10 hW s10 hx10=>?_⟩))
   have hv:=O4 (k:=kk) hc1 hd1 hd2 ho hl hn1 (by lia) hfit rfl
   have hb: ∀z∈(gu (dJ F.channels F.depth F.order kk n ss)).map UInt8.toNat,z<256:=fun z hz=>by
    obtain ⟨y,_,rfl⟩:=List.mem_map.mp hz
    exact y.toNat_lt
   have hbl2:((gu (dJ F.channels F.depth F.order kk n ss)).map UInt8.toNat).length≤10000000:=by
    have:=Fg (dJ F.channels F.depth F.order kk n ss)
    lia
   generalize (gu (dJ F.channels F.depth F.order kk n ss)).map UInt8.toNat=Wl at*
   refine ⟨_,rfl,af W Wl ⟨rfl,ae.of hx10,hb,?_⟩⟩
   refine ⟨_,rfl,_,rfl,af _ _ ⟨rfl,rfl,(by show (0:Int)≤8;decide),_,rfl,af _ _ ⟨rfl,rfl,(by show 2≤sizeLine;decide),fun p hp=>?_⟩⟩⟩
   have hWp:W≠p:=bD hx10 hp
   refine (az W p _ _ ⟨rfl,rfl,by rw[aB hWp];exact hx10,ao,by rw[aK,sizeLine_eq];show Wl.length+2≤_;lia,fun p2 hp2=>?_⟩)
   refine k' p2 _ (((s1.trans (s19.trans s10)).trans (aQ hp)).none hp2) ((s1.trans (s19.trans s10)).trans ((aQ hp).trans (aQ hp2))) ?_
   rw[ao,hv]
  refine (aE rfl hf8 T.bw T.gA rfl (af _ _ ⟨rfl,rfl,(by show (0:Int)<2;decide),rfl,_,rfl,?_⟩))
  by_cases hodd:F.channels%2=1
  ·rw[decide_eq_true (show V.int (((F.channels:Nat):Int)%2)=V.int 1 by congr 1;lia)]
   refine bx ?_
   obtain ⟨asl,al,l1,l2,l3,l4,l5,hasl⟩:=(hCh.same s18).at (i:=F.channels-1) (by rw[mZ];lia)
   rw[vI (by lia)] at l3 l4 l5
   rw[mZ] at hasl
   refine ⟨_,rfl,aE rfl hf8 T.bw T.iB rfl (aE rfl hf8 T.bw T.kn rfl ⟨_,rfl,1,rfl,az D _ _ _ ⟨rfl,rfl,l1,SS (by rw[List.length_map,hasl];exact l2) (by rw[List.length_map];lia),az F.depth F.order al _ ⟨rfl,l3,⟨by lia,by lia,ho⟩,l5,⟨by lia,by lia⟩,fun xl H9 s9 hPl=>?_⟩⟩⟩)⟩
   have gl:=kg (wd:=F.depth) (o:=F.order) (by lia) (by lia) ho l5 (by lia) (by lia)
   have hw9:bc A.aX H9 x (il kk n++Mb++Qs.flatMap fun q=>aW q.2.1++aW q.2.2):=by
    obtain ⟨d9,h9⟩:=hw8
    exact ⟨d9,s9 _ _ h9⟩
   refine (az x xl _ _ ⟨rfl,hw9,hPl,gl.1,by unfold cR;rw[List.length_append,List.length_append,gl.2.1];have:=gl.2.2;lia,fun H10 hb10 hw10=>?_⟩)
   refine tail _ _ _ _ _ _ H10 (aP.same hx1 (s18.trans s9) hb10) ?_ k
   unfold dJ jn
   rw[if_pos hodd,hQs,hMb]
   exact hw10
  ·rw[decide_eq_false (show¬V.int (((F.channels:Nat):Int)%2)=V.int 1 from fun z=>hodd (by have:=V.int.inj z;lia))]
   refine bJ ?_
   refine tail _ _ _ _ _ _ H8 s18 ?_ k
   unfold dJ jn
   rw[if_neg hodd,hQs,hMb,List.append_nil]
   exact hw8
theorem wD {H H':Hp} {g:Addr} (hg:H g=none) (s:ah H H'):ah H (hide g H'):=fun b o e=>by rw[hide_ne (bD e hg)];exact s b o e
structure Rg where
 r:Addr
 dr:Addr
 q:Addr
 B:Sound.Bytes
def cJ (d p f o:V):List (Str×V):= [("data",d),("place",p),("fault",f),("fault_place",o)]
theorem QS (d p f o p':V):aJ "place" p' (cJ d p f o)=cJ d p' f o:=by
 have n1: ¬("data" :Str)= "place" :=by decide
 simp only [cJ,aJ,if_neg n1];rfl
theorem Kx (d p f o f':V):aJ "fault" f' (cJ d p f o)=cJ d p f' o:=by
 have n1: ¬("data" :Str)= "fault" :=by decide
 have n2: ¬("place" :Str)= "fault" :=by decide
 simp only [cJ,aJ,if_neg n1,if_neg n2];rfl
theorem L3 (d p f o o':V):aJ "fault_place" o' (cJ d p f o)=cJ d p f o':=by
 have n1: ¬("data" :Str)= "fault_place" :=by decide
 have n2: ¬("place" :Str)= "fault_place" :=by decide
 have n3: ¬("fault" :Str)= "fault_place" :=by decide
 simp only [cJ,aJ,if_neg n1,if_neg n2,if_neg n3];rfl
def cz (C:Addr) (H:Hp) (R:Rg) (pl:Nat):Prop:=H R.r=some (.ins C R.dr (cJ (.ref R.q) (.int (pl:Nat)) (.int 0) (.int (R.B.length:Nat))))
def oB (C:Addr) (H:Hp) (R:Rg) (k p:Nat):Prop:= ∃pl:V,H R.r=some (.ins C R.dr (cJ (.ref R.q) pl (.int (k:Nat)) (.int (p:Nat))))
def iR (K:PySem.W.Frag) (H:Hp) (R:Rg):Prop:=ae K (hide R.r H) R.q (vN (bn R.B))∧R.B.length≤16384
theorem tS {r:Addr} {H H':Hp} (s:ah (hide r H) H'):ah (hide r H) (hide r H'):=fun b o e=>by
 rw[hide_ne (eC e).2];exact s b o e
theorem gy {r:Addr} {H H' H'':Hp} (s:ah (hide r H) H') (s':ah (hide r H') H''):ah (hide r H) H'':=(tS s).trans s'
theorem Pl {r:Addr} {H H':Hp} (s:ah H H'):ah (hide r H) H':=(fF r H).trans s
theorem uM {r:Addr} {H:Hp} {o:HO}:ah (hide r H) (upd H r o):=fun b u e=>by
 obtain ⟨e1,e2⟩:=eC e
 rw[aB e2];exact e1
theorem iR.go {H H':Hp} {R:Rg} (h:iR K H R) (s:ah (hide R.r H) H'):iR K H' R:=⟨(tS s).seq h.1,h.2⟩
theorem iR.sq {H:Hp} {R:Rg} (h:iR K H R):ae K H R.q (vN (bn R.B)):=(fF _ _).seq h.1
def js (A:cF) (H:Hp) (R:Rg) {α:Type} (o:Except (Nat×Nat) (α×Nat)) (Q:α→Hp→Prop) (E:XK):Prop:=match o with
 | .ok (a,pl)=> ∀H',ah (hide R.r H) H'→cz A.a8 H' R pl→Q a H'
 | .error (k,p)=> ∀H',ah (hide R.r H) H'→oB A.a8 H' R k p→E (.ref A.eY) none H'
def i6 (B:Sound.Bytes) (pl n:Nat):Except (Nat×Nat) (Sound.Bytes×Nat):=if B.length<pl+n then .error (1,B.length) else .ok ((B.drop pl).take n,pl+n)
def Nq (K:PySem.W.Frag) (C:Addr):Sp:=fun vs H Q _=> ∃(p dx q:Addr) (xs:List V),vs= [.ref p, .ref q]∧H p=some (.ins C dx [])∧ae K H q xs∧Q .aD (upd H p (.ins C dx (cJ (.ref q) (.int 0) (.int 0) (.int (xs.length:Nat)))))
theorem Qj:aM ["self", "data"] ["self", "data"] (aG B6):=⟨rfl,rfl,rfl,by decide+kernel,rfl,by decide+kernel,by decide+kernel⟩
theorem Cy {H:Hp} {p q C dx:Addr} {fs fs':List (Str×V)} {xs:List V} (hp:H p=some (.ins C dx fs)) (hq:ae K H q xs):ae K (upd H p (.ins C dx fs')) q xs:=by
 rcases hq with (h|⟨ob,h⟩)|h
 ·exact .inl (.inl (by rw[aB (bV h hp (by intro e;cases e))];exact h))
 ·exact .inl (.inr ⟨ob,by rw[aB (bV h hp (by intro e;cases e))];exact h⟩)
 ·exact .inr h
theorem Ik (T:Txt K mg A):aC P w K mg base aO 1 A.o8 A.pD ["self", "data"] (Nq K A.a8):=by
 refine T.Tw.ok Qj (fun vs H Q E h=>?_) (fun cdv Ar outer s H vs Q E hr h=>?_)
 ·obtain ⟨p,dx,q,xs,rfl,_⟩:=h
  rfl
 ·obtain ⟨p,dx,q,xs,rfl,hp,hq,k⟩:=h
  refine ⟨_,ak (bh (pv 0) (pv 1) rfl) (ak (bh (pv 0) au rfl) (ak (bh (pv 0) au rfl) (aw (bh (pv 0) (bf bU (by rfl) T.bW PySem.boot_len (aa (pv 1) ag)) rfl)))),?_⟩
  refine ⟨_,rfl,_,rfl,p,A.a8,dx, [],rfl,hp,T.cn,T.sS,(by show 0<1000;decide),?_⟩
  refine ⟨_,rfl,az p A.a8 dx _ ⟨rfl,ao,T.cn,T.jm,(by show 1<1000;decide),?_⟩⟩
  rw[b7]
  refine ⟨_,rfl,az p A.a8 dx _ ⟨rfl,ao,T.cn,T.FP,(by show 2<1000;decide),?_⟩⟩
  rw[b7]
  refine ⟨_,rfl,af q xs ⟨rfl, .inl (Cy hp hq),_,rfl,az p A.a8 dx _ ⟨rfl,ao,T.cn,T.Ci,(by show 3<1000;decide),?_⟩⟩⟩
  rw[b7]
  exact k
def RG (A:cF):Sp:=fun vs H _ E=> ∃(p dx:Addr) (d pl f0 o0:V) (k q:Nat),vs= [.ref p, .int (k:Nat), .int (q:Nat)]∧H p=some (.ins A.a8 dx (cJ d pl f0 o0))∧E (.ref A.eY) none (upd H p (.ins A.a8 dx (cJ d pl (.int (k:Nat)) (.int (q:Nat)))))
theorem P9:aM ["self", "fault", "place"] ["self", "fault", "place"] (aG GO):=⟨rfl,rfl,rfl,by decide+kernel,rfl,by decide+kernel,by decide+kernel⟩
theorem k9 (T:Txt K mg A):aC P w K mg base (dP P w) 1 A.lM A.mE ["self", "fault", "place"] (RG A):=by
 refine T.Mz.kE P9 (fun vs H Q E h=>?_) (fun cdv Ar outer s H vs Q E hr h=>?_)
 ·obtain ⟨p,dx,d,pl,f0,o0,k,q,rfl,_⟩:=h
  rfl
 ·obtain ⟨p,dx,d,pl,f0,o0,k,q,rfl,hp,e⟩:=h
  refine ⟨_,ak (bh (pv 0) (pv 1) rfl) (ak (bh (pv 0) (pv 2) rfl) (aw (yy rfl rfl T.rG T.ua.exc wK))),?_⟩
  refine ⟨_,rfl,_,rfl,az p A.a8 dx _ ⟨rfl,hp,T.cn,T.FP,(by show 4<1000;decide),?_⟩⟩
  rw[Kx]
  refine ⟨_,rfl,_,rfl,az p A.a8 dx _ ⟨rfl,ao,T.cn,T.Ci,(by show 4<1000;decide),?_⟩⟩
  rw[b7,L3]
  exact e
def N9 (K:PySem.W.Frag) (A:cF):Sp:=fun vs H _ E=> ∃(p dx q:Addr) (pl f0 o0:V) (xs:List V),vs= [.ref p]∧H p=some (.ins A.a8 dx (cJ (.ref q) pl f0 o0))∧ae K H q xs∧E (.ref A.eY) none (upd H p (.ins A.a8 dx (cJ (.ref q) pl (.int ((1:Nat):Int)) (.int (xs.length:Nat)))))
theorem MW:aM ["self"] ["self"] (aG FZ):=⟨rfl,rfl,rfl,by decide+kernel,rfl,by decide+kernel,by decide+kernel⟩
theorem PU (T:Txt K mg A):aC P w K mg base (dP P w) 2 A.lT A.oH ["self"] (N9 K A):=by
 refine T.S8.kE MW (fun vs H Q E h=>?_) (fun cdv Ar outer s H vs Q E hr h=>?_)
 ·obtain ⟨p,dx,q,pl,f0,o0,xs,rfl,_⟩:=h
  rfl
 ·obtain ⟨p,dx,q,pl,f0,o0,xs,rfl,hp,hq,e⟩:=h
  refine ⟨_,aw (ba (bC (pv 0) T.cn T.oZ (k9 T) hr T.pF .nil fM (aa (aY rfl T.Pt) (aa (bf bU (by rfl) T.bW PySem.boot_len (aa (aA (pv 0) rfl) ag)) ag)))),?_⟩
  exact (bA rfl hp rfl (aE rfl hp T.cn T.sS rfl (af q xs ⟨rfl, .inl hq,p,dx,_,_,_,_,1,xs.length,rfl,hp,e⟩)))
def OJ (K:PySem.W.Frag) (A:cF):Sp:=fun vs H Q E=> ∃(R:Rg) (pl n:Nat),vs= [.ref R.r, .int (n:Nat)]∧iR K H R∧cz A.a8 H R pl∧js A H R (i6 R.B pl n) (fun b H'=> ∀D,H D=none→H' D=some (.lst (vN (bn b)))→Q (.ref D) H') E
theorem Gy:aM ["self", "count", "begin"] ["self", "count"] (aG FK):=⟨rfl,rfl,rfl,by decide+kernel,rfl,by decide+kernel,by decide+kernel⟩
theorem yh (T:Txt K mg A):aC P w K mg base (dP P w) 3 A.qL A.qH ["self", "count"] (OJ K A):=by
 refine T.PY.kE Gy (fun vs H Q E h=>?_) (fun cdv Ar outer s H vs Q E hr h=>?_)
 ·obtain ⟨R,pl,n,rfl,_⟩:=h
  rfl
 ·obtain ⟨R,pl,n,rfl,hI,hx,k⟩:=h
  refine ⟨_,ak (aI (i:=2) Gy.nd rfl (Or.inl rfl) (aA (pv 0) rfl))
   (ak (bN (bO iv (aq bE (pv 2) (pv 1)) (bf bU (by rfl) T.bW PySem.boot_len (aa (aA (pv 0) rfl) ag)) (bo _)) (aw (ba (Eo (pv 0) T.cn T.LP (PU T) hr T.R1 .nil fM))) bX)
   (ak (bh (pv 0) (aq bE (pv 2) (pv 1)) rfl)
   (aw (aS (j8 jF (aA (pv 0) rfl) (fq (pv 2)) (fq (aA (pv 0) rfl))))))),?_⟩
  have hq:=hI.sq
  unfold cz at hx
  refine (aE rfl hx T.cn T.jm rfl ?_)
  refine ⟨_,rfl,_,rfl,af _ _ ⟨rfl,rfl,aE rfl hx T.cn T.sS rfl (af R.q _ ⟨rfl, .inl hq,af _ _ ⟨rfl,rfl,_,rfl,?_⟩⟩)⟩⟩
  rw[aK,bg]
  dsimp only
  rw[show ((pl:Nat):Int)+((n:Nat):Int)=((pl+n:Nat):Int) by lia]
  unfold i6 js at k
  refine cP (fun c=>?_) fun c=>?_
  ·have c:((R.B.length:Nat):Int)<((pl+n:Nat):Int):=of_decide_eq_true c
   rw[if_pos (by lia)] at k
   refine (bA rfl hx rfl (qi R.r R.dr R.q _ _ _ _ ⟨rfl,hx,hq,k _ uM ⟨.int (pl:Nat),?_⟩⟩))
   rw[ao,aK,bg]
  ·have c: ¬((R.B.length:Nat):Int)<((pl+n:Nat):Int):=fun z=>c (decide_eq_true z)
   rw[if_neg (by lia)] at k
   refine ⟨_,rfl,_,rfl,af _ _ ⟨rfl,rfl,_,rfl,az R.r A.a8 R.dr _ ⟨rfl,hx,T.cn,T.jm,(by show 4<1000;decide),?_⟩⟩⟩
   dsimp only
   rw[QS,show ((pl:Nat):Int)+((n:Nat):Int)=((pl+n:Nat):Int) by lia]
   refine (aE rfl ao T.cn T.sS rfl ⟨_,rfl,_,rfl,aE rfl ao T.cn T.jm rfl ⟨_,rfl,af R.q _ ⟨rfl,Cy hx hq,fun D hD=>?_⟩⟩⟩)
   have hDr:D≠R.r:=fun z=>by rw[z,ao] at hD;cases hD
   have hD0:H D=none:=by rw[aB hDr] at hD;exact hD
   have s1:ah (hide R.r H) (upd (upd H R.r (.ins A.a8 R.dr (cJ (.ref R.q) (.int ((pl+n:Nat):Int)) (.int 0) (.int (R.B.length:Nat))))) D (.lst (dv (vN (bn R.B)) (some ((pl:Nat):Int)) (some ((pl+n:Nat):Int))))):=uM.trans (aQ hD)
   refine k _ s1 ?_ D hD0 ?_
   ·unfold cz
    rw[aB (Ne.symm hDr),ao]
   ·rw[ao,Ov,show pl+n-pl=n by lia,IH,Pb]
def OG (K:PySem.W.Frag) (A:cF):Sp:=fun vs H Q E=> ∃(R:Rg) (pl n:Nat),vs= [.ref R.r, .int (n:Nat)]∧iR K H R∧cz A.a8 H R pl∧n≤1000∧js A H R (i6 R.B pl n) (fun b H'=>Q (.int (Sound.fromHigh b:Nat)) H') E
theorem Pu:aM ["self", "count"] ["self", "count"] (aG EC):=⟨rfl,rfl,rfl,by decide+kernel,rfl,by decide+kernel,by decide+kernel⟩
theorem yW (T:Txt K mg A):aC P w K mg base (dP P w) 4 A.nS A.l7 ["self", "count"] (OG K A):=by
 refine T.Ox.kE Pu (fun vs H Q E h=>?_) (fun cdv Ar outer s H vs Q E hr h=>?_)
 ·obtain ⟨R,pl,n,rfl,_⟩:=h
  rfl
 ·obtain ⟨R,pl,n,rfl,hI,hx,hn,k⟩:=h
  have hr1':aR 1 _:=hr.mono (by decide)
  refine ⟨_,aw (aS (aN (Sa T) hr1' rfl T.TM T.DZ.kp T.Qt .nil ay (aa (bC (pv 0) T.cn T.yt (yh T) hr T.ux .nil fM (aa (pv 1) ag)) ag))),?_⟩
  refine (bA rfl hx rfl ⟨_,rfl,b8 R pl n ⟨rfl,hI,hx,?_⟩⟩)
  unfold js i6 at k⊢
  by_cases c:R.B.length<pl+n
  ·rw[if_pos c] at k⊢
   exact k
  ·rw[if_neg c] at k⊢
   dsimp only at k⊢
   intro H' s' hS D hD hxD
   refine (af D _ ⟨rfl,ae.of hxD,(by rw[bg,List.length_take];lia),j6 _,?_⟩)
   have e:dX (bn ((R.B.drop pl).take n))=Sound.fromHigh ((R.B.drop pl).take n):=(uU _).symm
   rw[e]
   exact k H' s' hS
def kj (a b:V):List (Str×V):= [("key",a),("value",b)]
def Ku (C:Addr):Sp:=fun vs H Q _=> ∃(p dx:Addr) (a b:V),vs= [.ref p,a,b]∧H p=some (.ins C dx [])∧Q .aD (upd H p (.ins C dx (kj a b)))
theorem ON:aM ["self", "key", "value"] ["self", "key", "value"] (aG CD):=⟨rfl,rfl,rfl,by decide+kernel,rfl,by decide+kernel,by decide+kernel⟩
theorem Oy (T:Txt K mg A):aC P w K mg base aO 1 A.ni A.nL ["self", "key", "value"] (Ku A.cT):=by
 refine T.TU.ok ON (fun vs H Q E h=>?_) (fun cdv Ar outer s H vs Q E hr h=>?_)
 ·obtain ⟨p,dx,a,b,rfl,_⟩:=h
  rfl
 ·obtain ⟨p,dx,a,b,rfl,hp,k⟩:=h
  refine ⟨_,ak (bh (pv 0) (pv 1) rfl) (aw (bh (pv 0) (pv 2) rfl)),?_⟩
  refine ⟨_,rfl,_,rfl,p,A.cT,dx, [],rfl,hp,T.uF,T.Gh,(by show 0<1000;decide),?_⟩
  refine ⟨_,rfl,_,rfl,az p A.cT dx _ ⟨rfl,ao,T.uF,T.Oh,(by show 1<1000;decide),?_⟩⟩
  rw[b7]
  exact k
def kB (n:Nat):Bool:=decide (33≤n)&&(decide (n≤126)&&n !=61)
theorem Iw (b:Sound.Bytes):Sound.mayKey b=(bn b).all kB:=by
 unfold Sound.mayKey bn
 rw[List.all_map]
 congr 1
 funext c
 unfold kB
 show _=(decide (33≤c.toNat)&&(decide (c.toNat≤126)&&c.toNat !=61))
 congr 2
 by_cases h:c=61
 ·subst h;rfl
 ·have h2: ¬c.toNat=61:=fun z=>h (UInt8.toNat_inj.mp z)
  rw[show (c !=61)=true from bne_iff_ne.mpr h,show (c.toNat !=61)=true from bne_iff_ne.mpr h2]
def Sw (K:PySem.W.Frag):Sp:=fun vs H Q _=> ∃(q:Addr) (b:Sound.Bytes),vs= [.ref q]∧ae K H q (vN (bn b))∧b.length≤1000∧ ∀H',ah H H'→Q (.bl (Sound.mayKey b)) H'
theorem yi:aM ["key", "byte"] ["key"] (aG B0):=⟨rfl,rfl,rfl,by decide+kernel,rfl,by decide+kernel,by decide+kernel⟩
theorem Jg (T:Txt K mg A):aC P w K mg base aO 1 A.qK A.pI ["key"] (Sw K):=by
 refine T.Gj.ok yi (fun vs H Q E h=>?_) (fun cdv Ar outer s H vs Q E hr h=>?_)
 ·obtain ⟨q,b,rfl,_⟩:=h
  rfl
 ·obtain ⟨q,b,rfl,hq,hl,k⟩:=h
  refine ⟨_,aw (aS (bf (o3 rfl) rfl T.ll (by decide+kernel:bootBuiltins "all" =some (.builtin "all")) (aa (cw (own:= [("byte",1)]) rfl yi.nd (cg (pv 0)) (b5 (by kernel_rfl)) (fun _ _ _ _ _=>aT (i:=1) yi.nd rfl (Or.inl rfl)) (fun _ _ _ _ _=>bZ)
   (fun _ _ _ _ _=>xE (xt gI gI au (pv 1) au) (yq (jd xM (pv 1) (aY rfl T.OY) (bo _))))) ag))),?_⟩
  refine ⟨_,rfl,q,rfl,⟨_,hq⟩,fun D hD=>?_⟩
  refine cC (J:=dH K q) hD (bn b).length (by rw[bg,sizeLine_eq];lia) (fun i=> .bl (kB ((bn b).getD i 0))) (fun i Hh hi t1=>⟨_,_,t1.seq hq,gg hi⟩) (fun Hh t1=>⟨_,t1.seq hq,by rw[aK];exact Nat.le_refl _⟩) ?_ ?_
  ·rintro i Hh z H' hi t1 ⟨rfl,hz⟩ C hC
   obtain ⟨rfl,_⟩:=fE (hz _ (t1.seq hq))
   have hC:=hC _ (ah.refl _)
   generalize (bn b).getD i 0=c at*
   refine ⟨rfl,_,rfl,af _ _ ⟨rfl,rfl,_,rfl,?_⟩⟩
   unfold kB at hC
   by_cases c1:33≤c
   ·rw[decide_eq_true c1,Bool.true_and] at hC
    rw[decide_eq_true (show (33:Int)≤((c:Nat):Int) by lia)]
    refine bx (af _ _ ⟨rfl,rfl,_,rfl,?_⟩)
    by_cases c2:c≤126
    ·rw[decide_eq_true c2,Bool.true_and] at hC
     rw[decide_eq_true (show ((c:Nat):Int)≤126 by lia)]
     refine bx ⟨_,rfl,rfl,?_⟩
     have e:(!decide (V.int ((c:Nat):Int)=V.int 61))=(c !=61):=by
      by_cases c3:c=61
      ·subst c3;rfl
      ·rw[decide_eq_false (fun z=>c3 (by have:=V.int.inj z;lia)),show (c !=61)=true from bne_iff_ne.mpr c3];rfl
     rw[e]
     exact hC
    ·rw[decide_eq_false c2,Bool.false_and] at hC
     rw[decide_eq_false (show¬((c:Nat):Int)≤126 by lia)]
     exact bJ hC
   ·rw[decide_eq_false c1,Bool.false_and] at hC
    rw[decide_eq_false (show¬(33:Int)≤((c:Nat):Int) by lia)]
    exact bJ ⟨_,rfl,bJ hC⟩
  ·intro H2 s2 hx2
   have e:(List.range (bn b).length).map (fun i=>V.bl (kB ((bn b).getD i 0)))=((bn b).map kB).map V.bl:=by
    rw[List.map_map]
    refine List.ext_getElem (by simp) fun i h1 h2=>?_
    simp at h1
    simp [List.getD_eq_getElem?_getD,List.getElem?_eq_getElem h1]
   rw[e] at hx2
   refine (af D _ ⟨rfl,ae.of hx2,?_⟩)
   have e2:((bn b).map kB).all id=Sound.mayKey b:=by rw[Iw,List.all_map];rfl
   rw[e2]
   exact k H2 s2
def valOf (t:Sound.Bytes):Sound.Bytes:=t.drop ((Sound.keyOf t).length+3)
def qE (C:Addr) (H:Hp) (x:Addr) (t:Sound.Bytes):Prop:= ∃dx a b,H x=some (.ins C dx (kj (.ref a) (.ref b)))∧H a=some (.lst (vN (bn (Sound.keyOf t))))∧H b=some (.lst (vN (bn (valOf t))))
theorem qE.same {C:Addr} {H H':Hp} {x:Addr} {t:Sound.Bytes} (h:qE C H x t) (s:ah H H'):qE C H' x t:=by
 obtain ⟨dx,a,b,h1,h2,h3⟩:=h
 exact ⟨dx,a,b,s _ _ h1,s _ _ h2,s _ _ h3⟩
theorem zh {Z H H':Hp} (s:ah H H'):ah (newOf Z H) (newOf Z H'):=fun b o e=>by
 obtain ⟨e1,e2⟩:=A6 e
 rw[tp e1];exact s b o e2
def gX (C:Addr) (Z H:Hp) (r D:Addr) (l:List Sound.Bytes):Prop:= ∃as:List Addr,hide r H D=some (.lst (as.map V.ref))∧as.length=l.length∧(∀(k:Nat) (a:Addr),as[k]?=some a→qE C (newOf Z (hide D (hide r H))) a (l.getD k []))∧ ∀b,H b=none→b≠D→b≠r→Z b=none
theorem gX.go {C:Addr} {Z H H':Hp} {r D:Addr} {l:List Sound.Bytes} (h:gX C Z H r D l) (s:ah (hide r H) H'):gX C Z H' r D l:=by
 obtain ⟨as,h1,h2,h3,h4⟩:=h
 refine ⟨as,tS s _ _ h1,h2,fun k a e=>(h3 k a e).same (zh (kR (tS s))),fun b hb hD hr=>h4 b ?_ hD hr⟩
 cases e:H b with
 |none=>rfl
 |some o=>rw[s b o (by rw[hide_ne hr];exact e)] at hb;cases hb
def eX (at_ n:Nat) (seen:List Sound.Bytes) (b:Sound.Bytes):Sound.Stand⊕Nat:=
 if n=0 then .inl (.fault 5 at_) else if b.length<1 then .inl .more else
 let m:=Sound.fromHigh (b.take 1)
 if m=0∨32<m∨n<m+3 then .inl (.fault 5 at_)
 else if b.length<1+m then .inl .more
 else if (Sound.mayKey ((b.drop 1).take m)&&!(seen.any fun (x:Sound.Bytes)=>Sound.keyOf x==(b.drop 1).take m))=false then .inl (.fault 5 at_)
 else if b.length<m+3 then .inl .more
 else
  let v:=Sound.fromHigh ((b.drop (1+m)).take 2)
  if n<m+3+v then .inl (.fault 5 at_) else if b.length<m+3+v then .inl .more else .inr (m+3+v)
theorem um (c:UInt8) (r:Sound.Bytes):Sound.fromHigh ((c::r).take 1)=c.toNat:=by
 rw[uU]
 show 256*0+c.toNat=_
 lia
def Fq (len:Nat):Sound.Stand→Nat×Nat
 | .more=>(1,len)
 | .whole=>(0,len)
 | .fault k p=>(k,p)
theorem MT {B:Sound.Bytes} {pl N i j:Nat} (h:i+j≤N):(((B.drop pl).take N).drop i).take j=(B.drop (pl+i)).take j:=by
 rw[List.drop_take,List.take_take,List.drop_drop,Nat.min_eq_left (by lia)]
theorem Qc {B:Sound.Bytes} {pl N j:Nat} (h:j≤N) (hp:pl≤B.length):((B.drop pl).take N).length<j↔B.length<pl+j:=by
 rw[List.length_take,List.length_drop]
 lia
def vT (A:cF) (H:Hp) (R:Rg) (Z:Hp) (D:Addr) (pl:Nat) (seen:List Sound.Bytes) (b:Sound.Bytes) (o:Sound.Stand⊕Nat) (Q:VK) (E:XK):Prop:=match o with
 | .inl st=> ∀H',ah (hide D (hide R.r H)) H'→oB A.a8 H' R (Fq R.B.length st).1 (Fq R.B.length st).2→gX A.cT Z H' R.r D seen→E (.ref A.eY) none H'
 | .inr z=> ∀H',ah (hide D (hide R.r H)) H'→cz A.a8 H' R (pl+z)→gX A.cT Z H' R.r D (seen++ [b.take z])→Q .aD H'
def Qw (K:PySem.W.Frag) (A:cF):Sp:=fun vs H Q E=> ∃(R:Rg) (Z:Hp) (D:Addr) (pl n:Nat) (seen:List Sound.Bytes),vs= [.ref R.r, .int ((pl+n:Nat):Int), .ref D]∧iR K H R∧cz A.a8 H R pl∧gX A.cT Z H R.r D seen∧(pl≤R.B.length∧seen.length≤100000)∧
 vT A H R Z D pl seen ((R.B.drop pl).take (n+4)) (eX pl n seen ((R.B.drop pl).take (n+4))) Q E
theorem ke:aM ["reading", "end", "tags", "begin", "key_size", "key", "value_size", "tag"] ["reading", "end", "tags"] (aG Dj):=⟨rfl,rfl,rfl,by decide+kernel,rfl,by decide+kernel,by decide+kernel⟩
theorem OF {a c:Sound.Bytes} (z:bn a=bn c):a=c:=by
 unfold bn at z
 exact (List.map_inj_right fun _ _=>UInt8.toNat_inj.mp).mp z
theorem Aj {a c:Sound.Bytes}:((bn a).map (fun (n:Nat)=>(n:Int))=(bn c).map fun (n:Nat)=>(n:Int))↔a=c:=by
 constructor
 ·intro z
  exact OF ((List.map_inj_right fun _ _ h=>Int.ofNat.inj h).mp z)
 ·rintro rfl;rfl
theorem IF (T:Txt K mg A):aC P w K mg base (dP P w) 6 A.oX A.mx ["reading", "end", "tags"] (Qw K A):=by
 refine T.Fo.kE ke (fun vs H Q E h=>?_) (fun cdv Ar outer s H vs Q E hr h=>?_)
 ·obtain ⟨R,Z,D,pl,n,seen,rfl,_⟩:=h
  rfl
 ·obtain ⟨R,Z,D,pl,n,seen,rfl,hI,hx,ht,⟨hplB,hseen⟩,k⟩:=h
  have hr1':aR 1 _:=hr.mono (by decide)
  have hr2':aR 2 _:=hr.mono (by decide)
  have hr3':aR 3 _:=hr.mono (by decide)
  have hr4':aR 4 _:=hr.mono (by decide)
  refine ⟨_,ak (aI (i:=3) ke.nd rfl (Or.inl rfl) (aA (pv 0) rfl))
   (ak (bN (bO fj (pv 3) (pv 1) (bo _)) (aw (ba (bC (pv 0) T.cn T.oZ (k9 T) hr1' T.pF .nil fM (aa (aY rfl T.su) (aa (pv 3) ag))))) bX)
   (ak (aI (i:=4) ke.nd rfl (Or.inl rfl) (bC (pv 0) T.cn T.EZ (yW T) hr4' T.El .nil fM (aa au ag)))
   (ak (bN (PW.pt (tE (tT (Ow gI gI au (pv 4) (aY rfl T.NA))) (sW (bO iv (aq bE (aq bE (aA (pv 0) rfl) (pv 4)) (aY rfl T.BK)) (pv 1) (bo _))))) (aw (ba (bC (pv 0) T.cn T.oZ (k9 T) hr1' T.pF .nil fM (aa (aY rfl T.su) (aa (pv 3) ag))))) bX)
   (ak (aI (i:=5) ke.nd rfl (Or.inr rfl) (bC (pv 0) T.cn T.yt (yh T) hr3' T.ux .nil fM (aa (pv 4) ag)))
   (ak (bN (PW.pt (tE (tT (jl (aN (Jg T) hr1' rfl T.Ie T.Gj.kp T.Ud .nil ay (aa (pv 5) ag)))) (sW (jl (bf (Ig rfl) rfl T.LQ (by decide+kernel:bootBuiltins "any" =some (.builtin "any")) (aa (cw (own:= [("tag",7)]) rfl ke.nd (cg (pv 2)) (b5 (by kernel_rfl)) (fun _ _ _ _ _=>aT (i:=7) ke.nd rfl (Or.inl rfl)) (fun _ _ _ _ _=>bZ)
     (fun _ _ _ _ _=>jd (PX (K:=K) rfl hr.units) (qV (K:=K) rfl (pv 7) rfl) (pv 5) (bo _))) ag)))))) (aw (ba (bC (pv 0) T.cn T.oZ (k9 T) hr1' T.pF .nil fM (aa (aY rfl T.su) (aa (pv 3) ag))))) bX)
   (ak (aI (i:=6) ke.nd rfl (Or.inl rfl) (bC (pv 0) T.cn T.EZ (yW T) hr4' T.El .nil fM (aa (aY rfl T.BK) ag)))
   (ak (bN (bO iv (aq bE (aA (pv 0) rfl) (pv 6)) (pv 1) (bo _)) (aw (ba (bC (pv 0) T.cn T.oZ (k9 T) hr1' T.pF .nil fM (aa (aY rfl T.su) (aa (pv 3) ag))))) bX)
   (aw (ba (ig PySem.F.plainAttrs_list PySem.F.slot_list_append PySem.F.type_list_append lL (pv 2) (aa (eJ T.Jz (Oy T) hr2' rfl T.J0 T.KD .nil ay (aa (pv 5) (aa (bC (pv 0) T.cn T.yt (yh T) hr3' T.ux .nil fM (aa (pv 6) ag)) ag))) ag))))))))))),?_⟩
  generalize hb:(R.B.drop pl).take (n+4)=b at*
  have hblen: ∀j,j≤n+4→(b.length<j↔R.B.length<pl+j):=fun j hj=>by rw[←hb];exact Qc hj hplB
  have hcut: ∀i j,i+j≤n+4→(b.drop i).take j=(R.B.drop (pl+i)).take j:=fun i j hj=>by rw[←hb];exact MT hj
  unfold eX at k
  have stop: ∀(H1:Hp) (p1:Nat),ah (hide R.r H) H1→cz A.a8 H1 R p1→(∀H',ah (hide D (hide R.r H)) H'→oB A.a8 H' R 5 pl→gX A.cT Z H' R.r D seen→E (.ref A.eY) none H')→
    E (.ref A.eY) none (upd H1 R.r (.ins A.a8 R.dr (cJ (.ref R.q) (.int (p1:Nat)) (.int ((5:Nat):Int)) (.int (pl:Nat))))):=fun H1 p1 s1 h1 kk=>by
   have s2:ah (hide R.r H) (upd H1 R.r (.ins A.a8 R.dr (cJ (.ref R.q) (.int (p1:Nat)) (.int ((5:Nat):Int)) (.int (pl:Nat))))):=gy s1 uM
   exact kk _ ((fF D _).trans s2) ⟨_,ao⟩ (ht.go s2)
  have hx':=hx
  unfold cz at hx'
  refine (aE rfl hx' T.cn T.jm rfl ?_)
  refine ⟨_,rfl,_,rfl,rfl,_,rfl,?_⟩
  by_cases c0:n=0
  ·rw[decide_eq_true (by rw[c0];rfl)]
   rw[if_pos c0] at k
   exact bx (bA rfl hx' rfl ⟨_,rfl,gi R.r R.dr _ _ _ _ 5 pl ⟨rfl,hx',stop H pl (Pl (ah.refl _)) hx k⟩⟩)
  rw[decide_eq_false (fun z=>c0 (by have:=V.int.inj z;lia)),if_neg c0] at*
  refine bJ (bA rfl hx' rfl (b8 R pl 1 ⟨rfl,hI,hx,by decide,?_⟩))
  unfold js i6
  by_cases c1:R.B.length<pl+1
  ·rw[if_pos c1]
   rw[if_pos ((hblen 1 (by lia)).mpr c1)] at k
   exact fun H' s' hF=>k H' ((fF D _).trans s') hF (ht.go s')
  rw[if_neg c1]
  rw[if_neg (fun z=>c1 ((hblen 1 (by lia)).mp z))] at k
  dsimp only at k⊢
  intro H1 s1 hS1
  have e1:(R.B.drop pl).take 1=b.take 1:=by
   have:=hcut 0 1 (by lia)
   rw[List.drop_zero,Nat.add_zero] at this
   exact this.symm
  rw[e1]
  have hm256:Sound.fromHigh (b.take 1)<256:=by
   rw[uU]
   have h1:=Bh (l:=(b.take 1).map UInt8.toNat) (fun x hx=>j6 (b.take 1) x hx)
   have h2:256^((b.take 1).map UInt8.toNat).length≤256^1:=Nat.pow_le_pow_right (by decide) (by rw[List.length_map,List.length_take];lia)
   lia
  generalize hm:Sound.fromHigh (b.take 1)=m at*
  have hS1':=hS1
  unfold cz at hS1'
  have I1:=hI.go s1
  refine ⟨_,rfl,af _ _ ⟨rfl,rfl,_,rfl,?_⟩⟩
  have bad1:(m=0∨32<m∨n<m+3)→ ∀H',ah (hide D (hide R.r H)) H'→oB A.a8 H' R 5 pl→gX A.cT Z H' R.r D seen→E (.ref A.eY) none H':=fun c=>by
   rw[if_pos c] at k
   exact k
  by_cases c2:(1:Int)≤((m:Nat):Int)
  case neg=>
   rw[decide_eq_false c2]
   exact bJ ⟨_,rfl,bx (bx (bA rfl hS1' rfl ⟨_,rfl,gi R.r R.dr _ _ _ _ 5 pl ⟨rfl,hS1',stop H1 _ s1 hS1 (bad1 (.inl (by lia)))⟩⟩))⟩
  rw[decide_eq_true c2]
  refine bx (af _ _ ⟨rfl,rfl,_,rfl,?_⟩)
  by_cases c3:((m:Nat):Int)≤32
  case neg=>
   rw[decide_eq_false c3]
   exact bx (bx (bA rfl hS1' rfl ⟨_,rfl,gi R.r R.dr _ _ _ _ 5 pl ⟨rfl,hS1',stop H1 _ s1 hS1 (bad1 (.inr (.inl (by lia))))⟩⟩))
  rw[decide_eq_true c3]
  refine bJ (aE rfl hS1' T.cn T.jm rfl ⟨_,rfl,af _ _ ⟨rfl,rfl,af _ _ ⟨rfl,rfl,_,rfl,af _ _ ⟨rfl,rfl,_,rfl,?_⟩⟩⟩⟩)
  dsimp only
  refine cP (fun c4=>?_) fun c4=>?_
  ·have c4:((pl+n:Nat):Int)<((pl+1:Nat):Int)+((m:Nat):Int)+2:=of_decide_eq_true c4
   exact (bA rfl hS1' rfl ⟨_,rfl,gi R.r R.dr _ _ _ _ 5 pl ⟨rfl,hS1',stop H1 _ s1 hS1 (bad1 (.inr (.inr (by lia))))⟩⟩)
  have c4: ¬((pl+n:Nat):Int)<((pl+1:Nat):Int)+((m:Nat):Int)+2:=fun z=>c4 (decide_eq_true z)
  rw[if_neg (by rintro (z|z|z)<;>lia)] at k
  refine (bA rfl hS1' rfl ⟨_,rfl,b8 R (pl+1) m ⟨rfl,I1,hS1,?_⟩⟩)
  unfold js i6
  by_cases c5:R.B.length<pl+1+m
  ·rw[if_pos c5]
   rw[if_pos ((hblen (1+m) (by lia)).mpr (by lia))] at k
   exact fun H' s' hF=>k H' ((fF D _).trans (gy s1 s')) hF (ht.go (gy s1 s'))
  rw[if_neg c5]
  rw[if_neg (fun z=>c5 (by have:=(hblen (1+m) (by lia)).mp z;lia))] at k
  dsimp only
  intro H2 s2 hS2 Dk hDk hDkx
  rw[←hcut 1 m (by lia)] at hDkx
  have s12:=gy s1 s2
  have hDkr:Dk≠R.r:=fun z=>by rw[z,hS1'] at hDk;cases hDk
  generalize hkey:(b.drop 1).take m=key at*
  have hkl:key.length=m:=by
   rw[←hkey,List.length_take,List.length_drop]
   have:=(hblen (1+m) (by lia))
   lia
  refine ⟨_,rfl,af Dk key ⟨rfl,ae.of hDkx,by lia,fun H3 s3=>⟨_,rfl,?_⟩⟩⟩
  have hS3:cz A.a8 H3 R (pl+1+m):=s3 _ _ hS2
  have hS3':=hS3
  unfold cz at hS3'
  have s13:ah (hide R.r H) H3:=s12.trans s3
  have hDk3:=s3 _ _ hDkx
  have bad2:(Sound.mayKey key&&!(seen.any fun (x:Sound.Bytes)=>Sound.keyOf x==key))=false→ ∀H',ah (hide D (hide R.r H)) H'→oB A.a8 H' R 5 pl→gX A.cT Z H' R.r D seen→E (.ref A.eY) none H':=fun c=>by
   rw[if_pos c] at k
   exact k
  cases c6:Sound.mayKey key with
  |false=>
   exact bx (bx (bA rfl hS3' rfl ⟨_,rfl,gi R.r R.dr _ _ _ _ 5 pl ⟨rfl,hS3',stop H3 _ s13 hS3 (bad2 (by rw[c6];rfl))⟩⟩))
  |true=>
  refine bJ ?_
  obtain ⟨as,ht1,ht2,ht3,_⟩:=ht.go s13
  have hD3:H3 D=some (.lst (as.map V.ref)):=(eC ht1).1
  have hDr:D≠R.r:=(eC ht1).2
  refine ⟨_,rfl,D,rfl,⟨_,ae.of hD3⟩,fun D4 hD4=>?_⟩
  refine cC (J:=dH K D) hD4 seen.length (by rw[sizeLine_eq];lia) (fun i=> .bl (Sound.keyOf (seen.getD i [])==key)) (fun i Hh hi t1=>?_) (fun Hh t1=>⟨_,t1.seq (ae.of hD3),by rw[List.length_map];lia⟩) ?_ ?_
  ·obtain ⟨a,ha1,_⟩:=uR (as:=as) (i:=i) (by lia)
   exact ⟨_,_,t1.seq (ae.of hD3),ha1⟩
  ·rintro i Hh z H' hi t1 ⟨rfl,hz⟩ C hC
   obtain ⟨a,rfl,ha⟩:=vt (hz _ (t1.seq (ae.of hD3)))
   obtain ⟨da,ka,va,hq1,hq2,hq3⟩:=((ht3 i a ha).same (((QV _ _).trans (fF _ _)).trans (fF _ _))).same t1
   refine ⟨rfl,aE rfl hq1 T.uF T.Gh rfl ⟨_,rfl,ka,Dk,(bn (Sound.keyOf (seen.getD i []))).map (fun (n:Nat)=>(n:Int)),(bn key).map (fun (n:Nat)=>(n:Int)),rfl,rfl,(by rw[←rP];exact ae.of hq2),(by rw[←rP];exact ae.of (t1 _ _ hDk3)),?_⟩⟩
   have e:decide ((bn (Sound.keyOf (seen.getD i []))).map (fun (n:Nat)=>(n:Int))=(bn key).map fun (n:Nat)=>(n:Int))=(Sound.keyOf (seen.getD i [])==key):=by
    by_cases c:Sound.keyOf (seen.getD i [])=key
    ·rw[decide_eq_true (Aj.mpr c),beq_iff_eq.mpr c]
    ·rw[decide_eq_false (fun z=>c (Aj.mp z)),beq_eq_false_iff_ne.mpr c]
   rw[e]
   exact hC _ (ah.refl _)
  ·intro H4 s4 hx4
   have ebs:(List.range seen.length).map (fun i=>V.bl (Sound.keyOf (seen.getD i [])==key))=(seen.map fun x=>Sound.keyOf x==key).map V.bl:=by
    rw[List.map_map]
    refine List.ext_getElem (by simp) fun i h1 h2=>?_
    simp at h1
    simp [List.getD_eq_getElem?_getD,List.getElem?_eq_getElem h1]
   rw[ebs] at hx4
   refine (af D4 _ ⟨rfl,ae.of hx4,_,rfl,?_⟩)
   have eany:(seen.map fun x=>Sound.keyOf x==key).any id=seen.any fun x=>Sound.keyOf x==key:=by rw[List.any_map];rfl
   rw[eany]
   have s14:ah (hide R.r H) H4:=s13.trans s4
   have hS4:cz A.a8 H4 R (pl+1+m):=s4 _ _ hS3
   have hS4':=hS4
   unfold cz at hS4'
   cases c7:seen.any fun x=>Sound.keyOf x==key with
   |true=>
    exact bx (bA rfl hS4' rfl ⟨_,rfl,gi R.r R.dr _ _ _ _ 5 pl ⟨rfl,hS4',stop H4 _ s14 hS4 (bad2 (by rw[c6,c7];rfl))⟩⟩)
   |false=>
    refine bJ ?_
    rw[if_neg (by rw[c6,c7];decide)] at k
    refine (bA rfl hS4' rfl (b8 R (pl+1+m) 2 ⟨rfl,hI.go s14,hS4,by decide,?_⟩))
    unfold js i6
    by_cases c8:R.B.length<pl+1+m+2
    ·rw[if_pos c8]
     rw[if_pos ((hblen (m+3) (by lia)).mpr (by lia))] at k
     exact fun H' s' hF=>k H' ((fF D _).trans (gy s14 s')) hF (ht.go (gy s14 s'))
    rw[if_neg c8]
    rw[if_neg (fun z=>c8 (by have:=(hblen (m+3) (by lia)).mp z;lia))] at k
    dsimp only at k⊢
    intro H5 s5 hS5
    have e5:(R.B.drop (pl+1+m)).take 2=(b.drop (1+m)).take 2:=by rw[hcut (1+m) 2 (by lia),Nat.add_assoc]
    rw[e5]
    generalize Sound.fromHigh ((b.drop (1+m)).take 2)=v at*
    have s15:=gy s14 s5
    have hS5':=hS5
    unfold cz at hS5'
    refine (aE rfl hS5' T.cn T.jm rfl ⟨_,rfl,af _ _ ⟨rfl,rfl,_,rfl,af _ _ ⟨rfl,rfl,_,rfl,?_⟩⟩⟩)
    dsimp only
    refine cP (fun c9=>?_) fun c9=>?_
    ·have c9:((pl+n:Nat):Int)<((pl+1+m+2:Nat):Int)+((v:Nat):Int):=of_decide_eq_true c9
     rw[if_pos (by lia)] at k
     exact (bA rfl hS5' rfl ⟨_,rfl,gi R.r R.dr _ _ _ _ 5 pl ⟨rfl,hS5',stop H5 _ s15 hS5 k⟩⟩)
    have c9: ¬((pl+n:Nat):Int)<((pl+1+m+2:Nat):Int)+((v:Nat):Int):=fun z=>c9 (decide_eq_true z)
    rw[if_neg (by lia)] at k
    have ht5:=ht.go s15
    obtain ⟨as5,hu1,hu2,hu3,hu4⟩:=id ht5
    refine ⟨_,rfl, .inl ⟨rfl,_,ae.of (eC hu1).1⟩,_,rfl,bA rfl hS5' rfl ⟨_,rfl,b8 R (pl+1+m+2) v ⟨rfl,hI.go s15,hS5,?_⟩⟩⟩
    unfold js i6
    by_cases cA:R.B.length<pl+1+m+2+v
    ·rw[if_pos cA]
     rw[if_pos ((hblen (m+3+v) (by lia)).mpr (by lia))] at k
     exact fun H' s' hF=>k H' ((fF D _).trans (gy s15 s')) hF (ht.go (gy s15 s'))
    rw[if_neg cA]
    rw[if_neg (fun z=>cA (by have:=(hblen (m+3+v) (by lia)).mp z;lia))] at k
    dsimp only at k⊢
    intro H6 s6 hS6 Dv hDv hDvx
    have eV:(R.B.drop (pl+1+m+2)).take v=(b.drop (m+3)).take v:=by rw[hcut (m+3) v (by lia),show pl+1+m+2=pl+(m+3) by lia]
    rw[eV] at hDvx
    have s16:=gy s15 s6
    obtain ⟨as6,hw1,hw2,hw3,hw4⟩:=ht.go s16
    have hD6:H6 D=some (.lst (as6.map V.ref)):=(eC hw1).1
    have hDk5:H5 Dk=some (.lst (vN (bn key))):=s5 _ _ (by rw[hide_ne hDkr];exact s4 _ _ hDk3)
    have hDk6:H6 Dk=some (.lst (vN (bn key))):=s6 _ _ (by rw[hide_ne hDkr];exact hDk5)
    have hDkD:Dk≠D:=fun z=>by
     have:H1 D=some _:=(eC (ht.go s1).choose_spec.1).1
     rw[z,this] at hDk;cases hDk
    have hDvr:Dv≠R.r:=fun z=>by rw[z,hS5'] at hDv;cases hDv
    have hDvD:Dv≠D:=fun z=>by rw[z,(eC hu1).1] at hDv;cases hDv
    intro x dx hx0 hdx hne
    refine (az x dx _ _ ⟨rfl,ao,rfl,?_⟩)
    rw[gL]
    have s7:ah H6 (upd (upd H6 dx (.own x)) x (.ins A.cT dx (kj (.ref Dk) (.ref Dv)))):=dG hx0 hdx
    have hx7:upd (upd H6 dx (.own x)) x (.ins A.cT dx (kj (.ref Dk) (.ref Dv))) x=some (.ins A.cT dx (kj (.ref Dk) (.ref Dv))):=ao
    have hxr:x≠R.r:=fun z=>by rw[z] at hx0;unfold cz at hS6;rw[hS6] at hx0;cases hx0
    have hxD:x≠D:=fun z=>by rw[z,hD6] at hx0;cases hx0
    generalize upd (upd H6 dx (.own x)) x (.ins A.cT dx (kj (.ref Dk) (.ref Dv)))=H7 at*
    refine (b8 D _ _ ⟨rfl,rfl,s7 _ _ hD6,(by rw[List.length_map,sizeLine_eq];lia),?_⟩)
    have s17:ah (hide R.r H) H7:=s16.trans s7
    have hup: ∀o,hide D (hide R.r (upd H7 D o))=hide D (hide R.r H7):=fun o=>by
     funext y
     by_cases hy:y=D
     ·rw[hy];unfold hide;rw[if_pos rfl,if_pos rfl]
     ·rw[hide_ne hy,hide_ne hy]
      by_cases hy2:y=R.r
      ·rw[hy2];unfold hide;rw[if_pos rfl,if_pos rfl]
      ·rw[hide_ne hy2,hide_ne hy2,aB hy]
    refine k _ ?_ ?_ ⟨as6++ [x],?_,?_,fun kk a e=>?_,fun y hy hyD hyr=>hw4 y (s7.none (by rw[aB hyD] at hy;exact hy)) hyD hyr⟩
    ·intro y o ey
     obtain ⟨e1,e2⟩:=eC ey
     rw[aB e2]
     exact s17 _ _ e1
    ·have e:pl+(m+3+v)=pl+1+m+2+v:=by lia
     rw[e]
     unfold cz
     rw[aB (Ne.symm hDr)]
     exact s7 _ _ hS6
    ·rw[hide_ne hDr,ao];simp
    ·rw[List.length_append,List.length_append,hw2];rfl
    ·rw[hup]
     by_cases hk:kk<as6.length
     ·rw[List.getElem?_append_left hk] at e
      rw[List.getD_eq_getElem?_getD,List.getElem?_append_left (by lia),←List.getD_eq_getElem?_getD]
      exact (hw3 kk a e).same (zh (kR (kR s7)))
     ·rw[List.getElem?_append_right (by lia)] at e
      have hk0:kk-as6.length=0:=by
       have:=(List.getElem?_eq_some_iff.mp e).1
       simp at this;lia
      rw[hk0] at e
      obtain rfl:x=a:=Option.some.inj e
      rw[List.getD_eq_getElem?_getD,List.getElem?_append_right (by lia),show kk-seen.length=0 by lia]
      show qE _ _ x (b.take (m+3+v))
      have hb1:1≤b.length:=by
       have:=hblen (1+m) (by lia)
       lia
      have hbl2:m+3+v≤b.length:=by
       have:=hblen (m+3+v) (by lia)
       lia
      have hkey2:Sound.keyOf (b.take (m+3+v))=key:=by
       have hh:((b.take (m+3+v)).headD 0).toNat=m:=by
        rw[←hm]
        obtain ⟨c,r,hcr⟩:=List.exists_cons_of_ne_nil (List.length_pos_iff.mp (show 0<b.length by lia))
        rw[hcr,um]
        obtain ⟨q,hq⟩: ∃q,Sound.fromHigh ((c::r).take 1)+3+v=q+1:=⟨Sound.fromHigh ((c::r).take 1)+2+v,by lia⟩
        rw[um] at hq
        rw[hq]
        rfl
       unfold Sound.keyOf
       rw[hh,List.drop_take,List.take_take,Nat.min_eq_left (by lia)]
       exact hkey
      have hval2:valOf (b.take (m+3+v))=(b.drop (m+3)).take v:=by
       unfold valOf
       rw[hkey2,hkl,List.drop_take,show m+3+v-(m+3)=v by lia]
      refine ⟨dx,Dk,Dv,?_,?_,?_⟩
      ·rw[tp (hw4 x hx0 hxD hxr),hide_ne hxD,hide_ne hxr];exact hx7
      ·rw[hkey2,tp ((ht.go s1).choose_spec.2.2.2 Dk hDk hDkD hDkr),hide_ne hDkD,hide_ne hDkr];exact s7 _ _ hDk6
      ·rw[hval2,tp (hu4 Dv hDv hDvD hDvr),hide_ne hDvD,hide_ne hDvr];exact s7 _ _ hDvx
theorem E8 (at_ n:Nat) (seen:List Sound.Bytes) (b:Sound.Bytes):eX at_ n seen b= .inl (.fault 5 at_)∨(eX at_ n seen b= .inl .more∧b.length<n)∨ ∃z,eX at_ n seen b= .inr z∧1≤z∧z≤n∧z≤b.length:=by
 unfold eX
 dsimp only
 split
 ·exact .inl rfl
 ·split
  ·exact .inr (.inl ⟨rfl,by lia⟩)
  ·split
   ·exact .inl rfl
   ·rename_i hc
    have hc: ¬n<Sound.fromHigh (b.take 1)+3:=fun z=>hc (.inr (.inr z))
    split
    ·exact .inr (.inl ⟨rfl,by lia⟩)
    ·split
     ·exact .inl rfl
     ·split
      ·exact .inr (.inl ⟨rfl,by lia⟩)
      ·split
       ·exact .inl rfl
       ·split
        ·exact .inr (.inl ⟨rfl,by lia⟩)
        ·exact .inr (.inr ⟨_,rfl,by lia,by lia,by lia⟩)
theorem TF {at_ n:Nat} {seen:List Sound.Bytes} {b:Sound.Bytes} {z:Nat} (h:eX at_ n seen b= .inr z):z≤n∧z≤b.length:=by
 rcases E8 at_ n seen b with e|⟨e,_⟩|⟨y,e,h1,h2⟩
 ·rw[e] at h;cases h
 ·rw[e] at h;cases h
 ·rw[e] at h;cases h;exact h2
def iW:Nat→Nat→List Sound.Bytes→Sound.Bytes→Option (List Sound.Bytes)
 |0,_,_,_=>none
 |k+1,at_,seen,b=>if b.isEmpty=true then some seen else match eX at_ b.length seen b with
  | .inl _=>none
  | .inr z=>iW k (at_+z) (seen++ [b.take z]) (b.drop z)
def iV:List Sound.Bytes→List Sound.Bytes→Bool
 |_, []=>true
 |seen,x::r=>!(seen.any fun y=>Sound.keyOf y==Sound.keyOf x)&&iV (seen++ [x]) r
theorem BN: ∀(l seen:List Sound.Bytes),iV seen l=true↔Sound.nodupKeys l=true∧ ∀x∈l,∀y∈seen,Sound.keyOf y≠Sound.keyOf x
 | [],seen=>by simp [iV,Sound.nodupKeys]
 |x::r,seen=>by
  unfold iV Sound.nodupKeys
  rw[Bool.and_eq_true,Bool.and_eq_true,BN r,Bool.not_eq_true',Bool.not_eq_true',List.any_eq_false,List.any_eq_false]
  constructor
  ·rintro ⟨h1,h2,h3⟩
   refine ⟨⟨fun y hy z=>h3 y hy x (by simp) (beq_iff_eq.mp z).symm,h2⟩,fun y hy z hz=>?_⟩
   rcases List.mem_cons.mp hy with rfl|hy
   ·exact fun e=>h1 z hz (beq_iff_eq.mpr e)
   ·exact h3 y hy z (List.mem_append_left _ hz)
  ·rintro ⟨⟨h1,h2⟩,h3⟩
   refine ⟨fun y hy z=>h3 x (List.mem_cons_self ..) y hy (beq_iff_eq.mp z),h2,fun y hy z hz=>?_⟩
   rcases List.mem_append.mp hz with hz|hz
   ·exact h3 y (List.mem_cons_of_mem _ hy) z hz
   ·rw[List.mem_singleton.mp hz]
    exact fun e=>h1 y hy (beq_iff_eq.mpr e.symm)
theorem Be {b:Sound.Bytes} {m z:Nat} (hb:b≠ []) (hm:(b.headD 0).toNat=m) (hz:1+m≤z):Sound.keyOf (b.take z)=(b.drop 1).take m:=by
 obtain ⟨c,r,rfl⟩:=List.exists_cons_of_ne_nil hb
 obtain ⟨q,rfl⟩: ∃q,z=q+1:=⟨z-1,by lia⟩
 have hm:c.toNat=m:=hm
 unfold Sound.keyOf
 show (r.take q).take c.toNat=r.take m
 rw[hm,List.take_take,Nat.min_eq_left (by lia)]
theorem Qy {at_:Nat} {seen:List Sound.Bytes} {b:Sound.Bytes} (hb:b≠ []):(∃st,eX at_ b.length seen b= .inl st∧((b.headD 0).toNat=0∨32<(b.headD 0).toNat∨b.length<(b.headD 0).toNat+3+Sound.fromHigh ((b.drop (1+(b.headD 0).toNat)).take 2)∨Sound.mayKey ((b.drop 1).take (b.headD 0).toNat)=false∨(seen.any fun y=>Sound.keyOf y==(b.drop 1).take (b.headD 0).toNat)=true))∨
  (eX at_ b.length seen b= .inr ((b.headD 0).toNat+3+Sound.fromHigh ((b.drop (1+(b.headD 0).toNat)).take 2))∧ ¬((b.headD 0).toNat=0∨32<(b.headD 0).toNat∨b.length<(b.headD 0).toNat+3+Sound.fromHigh ((b.drop (1+(b.headD 0).toNat)).take 2)∨Sound.mayKey ((b.drop 1).take (b.headD 0).toNat)=false)∧(seen.any fun y=>Sound.keyOf y==(b.drop 1).take (b.headD 0).toNat)=false):=by
 obtain ⟨c,r,hcr⟩:=List.exists_cons_of_ne_nil hb
 have hl:1≤b.length:=by rw[hcr];simp
 have hm:Sound.fromHigh (b.take 1)=(b.headD 0).toNat:=by rw[hcr,um];rfl
 unfold eX
 dsimp only
 rw[hm,if_neg (by lia),if_neg (by lia)]
 generalize (b.headD 0).toNat=m
 generalize Sound.fromHigh ((b.drop (1+m)).take 2)=v
 by_cases c1:m=0∨32<m∨b.length<m+3
 ·rw[if_pos c1]
  refine .inl ⟨_,rfl,?_⟩
  rcases c1 with z|z|z
  ·exact .inl z
  ·exact .inr (.inl z)
  ·exact .inr (.inr (.inl (by lia)))
 rw[if_neg c1,if_neg (by lia)]
 cases hk:Sound.mayKey ((b.drop 1).take m) with
 |false=>exact .inl ⟨.fault 5 at_,by simp, .inr (.inr (.inr (.inl rfl)))⟩
 |true=>
  cases hs:seen.any fun y=>Sound.keyOf y==(b.drop 1).take m with
  |true=>exact .inl ⟨.fault 5 at_,by simp, .inr (.inr (.inr (.inr rfl)))⟩
  |false=>
   rw[if_neg (by decide),if_neg (by lia)]
   by_cases c2:b.length<m+3+v
   ·rw[if_pos c2]
    exact .inl ⟨_,rfl, .inr (.inr (.inl c2))⟩
   ·rw[if_neg c2,if_neg c2]
    refine .inr ⟨rfl,?_,rfl⟩
    rintro (z|z|z|z)
    ·exact c1 (.inl z)
    ·exact c1 (.inr (.inl z))
    ·exact c2 z
    ·cases z
theorem yF: ∀(k at_:Nat) (seen:List Sound.Bytes) (b:Sound.Bytes),iW k at_ seen b=match Sound.tagsIn k b with
  |none=>none
  |some l=>if iV seen l=true then some (seen++l) else none
 |0,_,_,_=>rfl
 |k+1,at_,seen,b=>by
  unfold iW Sound.tagsIn
  by_cases hb:b= []
  ·subst hb
   simp [iV]
  ·have he:b.isEmpty=false:=by cases b with
    |nil=>exact absurd rfl hb
    |cons _ _=>rfl
   rw[he]
   simp only [Bool.false_eq_true,if_false]
   rcases Qy (at_:=at_) (seen:=seen) hb with ⟨st,e1,hc⟩|⟨e1,hc,hs⟩
   ·rw[e1]
    dsimp only
    by_cases h4:(b.headD 0).toNat=0∨32<(b.headD 0).toNat∨b.length<(b.headD 0).toNat+3+Sound.fromHigh ((b.drop (1+(b.headD 0).toNat)).take 2)∨Sound.mayKey ((b.drop 1).take (b.headD 0).toNat)=false
    ·rw[if_pos h4]
    ·rw[if_neg h4]
     have hs:(seen.any fun y=>Sound.keyOf y==(b.drop 1).take (b.headD 0).toNat)=true:=by
      rcases hc with z|z|z|z|z
      ·exact absurd (.inl z) h4
      ·exact absurd (.inr (.inl z)) h4
      ·exact absurd (.inr (.inr (.inl z))) h4
      ·exact absurd (.inr (.inr (.inr z))) h4
      ·exact z
     cases Sound.tagsIn k (b.drop ((b.headD 0).toNat+3+Sound.fromHigh ((b.drop (1+(b.headD 0).toNat)).take 2))) with
     |none=>rfl
     |some l=>
      dsimp only [Option.map_some]
      unfold iV
      rw[Be hb rfl (by lia),hs]
      rfl
   ·rw[e1,if_neg hc]
    dsimp only
    rw[yF k]
    cases Sound.tagsIn k (b.drop ((b.headD 0).toNat+3+Sound.fromHigh ((b.drop (1+(b.headD 0).toNat)).take 2))) with
    |none=>rfl
    |some l=>
     dsimp only [Option.map_some]
     conv=>rhs;unfold iV
     rw[Be hb rfl (by lia),hs,Bool.not_false,Bool.true_and,List.append_assoc]
     rfl
theorem xq: ∀(k:Nat) (b:Sound.Bytes) (l:List Sound.Bytes),Sound.tagsIn k b=some l→l.flatten=b
 |0,_,_,e=>by cases e
 |k+1,b,l,e=>by
  unfold Sound.tagsIn at e
  split at e
  ·rename_i hb
   cases e
   exact (List.isEmpty_iff.mp hb).symm
  ·dsimp only at e
   split at e
   ·cases e
   ·cases e2:Sound.tagsIn k (b.drop ((b.headD 0).toNat+3+Sound.fromHigh ((b.drop (1+(b.headD 0).toNat)).take 2))) with
    |none=>rw[e2] at e;cases e
    |some l'=>
     rw[e2] at e
     cases e
     rw[List.flatten_cons,xq k _ _ e2,List.take_append_drop]
theorem Uu (B:Sound.Bytes) (pad:Nat):Sound.tagList B pad=match iW (B.length+1) 0 [] B with
  |none=>none
  |some l=>if l.length≤16∧B.length+pad+6≤1024 then some l else none:=by
 unfold Sound.tagList
 rw[yF]
 cases Sound.tagsIn (B.length+1) B with
 |none=>rfl
 |some l=>
  dsimp only
  have hn:iV [] l=Sound.nodupKeys l:=by
   rw[Bool.eq_iff_iff,BN]
   exact ⟨fun h=>h.1,fun h=>⟨h,fun x _ y hy=>by cases hy⟩⟩
  rw[hn]
  cases Sound.nodupKeys l with
  |false=>simp
  |true=>
   simp only [if_true,List.nil_append,Bool.true_and,Bool.and_eq_true,decide_eq_true_eq]
   rfl
def uw (r:Addr) (n:Nat):L2.St→Hp→Nat:=fun _ H=>match H r with
 |some (.ins _ _ [_,(_, .int p),_,_])=>n-p.toNat
 |_=>0
theorem Fz {C:Addr} {H:Hp} {R:Rg} {pl:Nat} {σ:L2.St} (h:cz C H R pl) (n:Nat):uw R.r n σ H=n-pl:=by
 unfold uw
 unfold cz at h
 rw[h]
 show n-((pl:Nat):Int).toNat=_
 rw[Int.toNat_natCast]
theorem one_pos {at_ n:Nat} {seen:List Sound.Bytes} {b:Sound.Bytes} {z:Nat} (h:eX at_ n seen b= .inr z):1≤z:=by
 rcases E8 at_ n seen b with e|⟨e,hl⟩|⟨y,e,h1,h2⟩
 ·rw[e] at h;cases h
 ·rw[e] at h;cases h
 ·rw[e] at h;cases h;exact h1
def yU (A:cF) (H:Hp) (B:Sound.Bytes) (pad:Nat) (o:Option (List Sound.Bytes)) (Q:VK) (E:XK):Prop:=match o with
 |some l=>fQ H Q (bn (Sound.tagArea l pad))
 |none=> ∀H',ah H H'→E (.ref A.eY) none H'
def RP (K:PySem.W.Frag) (A:cF):Sp:=fun vs H Q E=> ∃(pad:Nat) (q:Addr) (B:Sound.Bytes),vs= [.int (pad:Nat), .ref q]∧ae K H q (vN (bn B))∧B.length≤2048∧yU A H B pad (Sound.tagList B pad) Q E
theorem xJ:aM ["pad", "data", "reading", "tags"] ["pad", "data"] (aG Av):=⟨rfl,rfl,rfl,by decide+kernel,rfl,by decide+kernel,by decide+kernel⟩
theorem OW (T:Txt K mg A):aC P w K mg base (dP P w) 7 A.oJ A.nX ["pad", "data"] (RP K A):=by
 refine T.zp.kE xJ (fun vs H Q E h=>?_) (fun cdv Ar outer s H vs Q E hr h=>?_)
 ·obtain ⟨pad,q,B,rfl,_⟩:=h
  rfl
 ·obtain ⟨pad,q,B,rfl,hq,hB,k⟩:=h
  have hr1':aR 1 _:=hr.mono (by decide)
  have hr2':aR 2 _:=hr.mono (by decide)
  refine ⟨_,ak (bN (bO iv (aq bE (aq bE (aq bE (aY rfl T.FV) (bf bU (by rfl) T.bW PySem.boot_len (aa (pv 1) ag))) (pv 0)) (aY rfl T.wB)) (aY rfl T.Lw) (bo _)) (aw (yy rfl rfl T.rG T.ua.exc wK)) bX)
   (ak (aI (i:=2) xJ.nd rfl (Or.inl rfl) (eJ T.Lz (Ik T) hr2' rfl T.Sq T.Qu .nil ay (aa (pv 1) ag)))
   (ak (aI (i:=3) xJ.nd rfl (Or.inl rfl) (b9 ag))
   (ak (Qq PassesOwn.leaving (bO jt (aA (pv 2) rfl) (bf bU (by rfl) T.bW PySem.boot_len (aa (pv 1) ag)) (bo _))
    (aw (ba (aN (IF T) hr rfl T.L4 T.Fo.kp T.LD .nil fM (aa (pv 2) (aa (bf bU (by rfl) T.bW PySem.boot_len (aa (pv 1) ag)) (aa (pv 3) ag)))))))
   (ak (bN (bO iv (bf bU (by rfl) T.bW PySem.boot_len (aa (pv 3) ag)) (aY rfl T.Rx) (bo _)) (aw (yy rfl rfl T.rG T.ua.exc wK)) bX)
   (aw (aS (aN (sI T) hr2' rfl T.rD T.qw.kp T.tu .nil ay (aa (aq dW (aq dW (aN (gj T) hr1' rfl T.f9 T.fH.kp T.f7 .nil ay (aa (aY rfl T.FV) (aa (bf bU (by rfl) T.bW PySem.boot_len (aa (pv 3) ag)) ag))) (pv 1)) (aq wF (b9 (aa au ag)) (pv 0))) ag)))))))),?_⟩
  rw[Uu] at k
  refine ⟨_,rfl,af q _ ⟨rfl, .inl hq,af _ _ ⟨rfl,rfl,_,rfl,af _ _ ⟨rfl,rfl,af _ _ ⟨rfl,rfl,af _ _ ⟨rfl,rfl,_,rfl,?_⟩⟩⟩⟩⟩⟩
  rw[aK,bg]
  have bad: ¬(B.length+pad+6≤1024)→ ∀H',ah H H'→E (.ref A.eY) none H':=fun c=>by
   cases e:iW (B.length+1) 0 [] B with
   |none=>rw[e] at k;exact k
   |some l=>
    rw[e] at k
    dsimp only at k
    rw[if_neg (fun z=>c z.2)] at k
    exact k
  refine cP (fun c=>?_) fun c=>?_
  ·have c:(1024:Int)<2+((B.length:Nat):Int)+((pad:Nat):Int)+4:=of_decide_eq_true c
   exact bad (by lia) H (ah.refl _)
  have c: ¬(1024:Int)<2+((B.length:Nat):Int)+((pad:Nat):Int)+4:=fun z=>c (decide_eq_true z)
  clear bad
  refine ⟨_,rfl,fun r dr hr0 hdr hne=>?_⟩
  have sm:ah H (upd (upd H dr (.own r)) r (.ins A.a8 dr [])):=dG hr0 hdr
  refine (az r dr q _ ⟨rfl,ao,sm.seq hq,rfl,?_⟩)
  rw[gL]
  have s1:ah H (upd (upd H dr (.own r)) r (.ins A.a8 dr (cJ (.ref q) (.int 0) (.int 0) (.int ((vN (bn B)).length:Nat))))):=dG hr0 hdr
  have hS1:cz A.a8 (upd (upd H dr (.own r)) r (.ins A.a8 dr (cJ (.ref q) (.int 0) (.int 0) (.int ((vN (bn B)).length:Nat))))) ⟨r,dr,q,B⟩ 0:=by
   unfold cz
   rw[ao,aK,bg];rfl
  generalize upd (upd H dr (.own r)) r (.ins A.a8 dr (cJ (.ref q) (.int 0) (.int 0) (.int ((vN (bn B)).length:Nat))))=H1 at*
  refine ⟨(by rw[sizeLine_eq];exact Nat.zero_le _),fun D hD=>?_⟩
  have s2:=aQ (o:= .lst []) hD
  have hDr:D≠r:=fun z=>by unfold cz at hS1;rw[z,hS1] at hD;cases hD
  have hDH:H D=none:=s1.none hD
  have hid2: ∀H',ah H H'→ah H (hide D (hide r H')):=fun H' s'=>wD hDH (wD hr0 s')
  have hrgi: ∀H',ah H H'→iR K H' ⟨r,dr,q,B⟩:=fun H' s'=>⟨(wD hr0 s').seq hq,by show B.length≤_;lia⟩
  obtain ⟨W,hW⟩: ∃W:Hp,W=fun _=>none:=⟨_,rfl⟩
  generalize hwt:iW (B.length+1) 0 [] B=wt at*
  refine GV (fun σ H'=> ∃(pl fuel:Nat) (seen:List Sound.Bytes),σ= [some (.int (pad:Nat)),some (.ref q),some (.ref r),some (.ref D)]∧pl≤B.length∧B.length-pl<fuel∧seen.length≤pl∧ah H H'∧cz A.a8 H' ⟨r,dr,q,B⟩ pl∧gX A.cT W H' r D seen∧iW fuel pl seen (B.drop pl)=wt) (uw r B.length)
   ⟨0,B.length+1, [],rfl,Nat.zero_le _,by lia,Nat.le_refl _,s1.trans s2,s2 _ _ hS1,⟨[],by rw[hide_ne hDr];exact ao,rfl,fun k a e=>by simp at e,fun b _ _ _=>by rw[hW]⟩,hwt⟩ ?_
  rintro σ H2 ⟨pl,fuel,seen,rfl,hpl,hfu,hsl,s02,hS2,hT2,hw2⟩ C hT hN
  have hS2r:=hS2
  unfold cz at hS2r
  refine (aE rfl hS2r T.cn T.jm rfl ⟨_,rfl,af q _ ⟨rfl, .inl (s02.seq hq),af _ _ ⟨rfl,rfl,_,rfl,?_⟩⟩⟩)
  rw[aK,bg]
  obtain ⟨fuel,rfl⟩: ∃m,fuel=m+1:=⟨fuel-1,by lia⟩
  unfold iW at hw2
  have hem:(B.drop pl).isEmpty=true↔B.length≤pl:=by rw[List.isEmpty_iff,List.drop_eq_nil_iff]
  by_cases hc:((pl:Nat):Int)<((B.length:Nat):Int)
  ·rw[decide_eq_true hc]
   refine hT _ ?_
   rw[if_neg (fun z=>by have:=hem.mp z;lia)] at hw2
   refine ⟨_,rfl,_,rfl,af q _ ⟨rfl, .inl (s02.seq hq),_,rfl,⟨r,dr,q,B⟩,W,D,pl,B.length-pl,seen,?_,hrgi H2 s02,hS2,hT2,⟨hpl,by lia⟩,?_⟩⟩
   ·rw[aK,bg,show pl+(B.length-pl)=B.length by lia];rfl
   have eb:(B.drop pl).take (B.length-pl+4)=B.drop pl:=List.take_of_length_le (by rw[List.length_drop];lia)
   show vT A H2 _ W D pl seen ((B.drop pl).take (B.length-pl+4)) (eX pl (B.length-pl) seen ((B.drop pl).take (B.length-pl+4))) _ _
   rw[eb]
   rw[List.length_drop] at hw2
   unfold vT
   cases eo:eX pl (B.length-pl) seen (B.drop pl) with
   |inl st=>
    rw[eo] at hw2
    dsimp only at hw2⊢
    subst hw2
    exact fun H3 s3 hF hT3=>k H3 ((hid2 H2 s02).trans s3)
   |inr z=>
    rw[eo] at hw2
    dsimp only at hw2⊢
    have hz1:=one_pos eo
    obtain ⟨hz2,hz3⟩:=TF eo
    rw[List.drop_drop] at hw2
    intro H3 s3 hS3 hT3
    have s03:=(hid2 H2 s02).trans s3
    refine ⟨⟨pl+z,fuel,_,rfl,by lia,by lia,by rw[List.length_append];show _+1≤_;lia,s03,hS3,hT3,hw2⟩,?_⟩
    rw[Fz hS3,Fz hS2]
    lia
  ·rw[decide_eq_false hc]
   refine hN _ ?_
   rw[if_pos (hem.mpr (by lia))] at hw2
   subst hw2
   obtain ⟨as,t1,t2,t3,_⟩:=hT2
   have hD2:H2 D=some (.lst (as.map V.ref)):=(eC t1).1
   refine ⟨_,rfl,af D _ ⟨rfl, .inl (ae.of hD2),af _ _ ⟨rfl,rfl,_,rfl,?_⟩⟩⟩
   rw[List.length_map,t2]
   dsimp only at k
   refine cP (fun c2=>?_) fun c2=>?_
   ·have c2:(16:Int)<((seen.length:Nat):Int):=of_decide_eq_true c2
    rw[if_neg (fun z=>by have:=z.1;lia)] at k
    exact k H2 s02
   have c2: ¬(16:Int)<((seen.length:Nat):Int):=fun z=>c2 (decide_eq_true z)
   rw[if_pos ⟨by lia,by lia⟩] at k
   refine ⟨_,rfl,af D _ ⟨rfl, .inl (ae.of hD2),2,seen.length,?_,by decide,fun D3 H3 hD3 s3 hx3=>?_⟩⟩
   ·rw[List.length_map,t2];rfl
   have s03:=s02.trans s3
   refine ⟨_,rfl,az D3 q _ _ ⟨rfl,rfl,ae.of hx3,s03.seq hq,(by rw[aK,bz,aK,bg,sizeLine_eq];lia),fun D4 hD4=>?_⟩⟩
   have s4:=aQ (o:= .lst (vN (aU 2 seen.length)++vN (bn B))) hD4
   refine ⟨(by rw[sizeLine_eq];show 1≤_;lia),fun D5 hD5=>⟨_,rfl,b8 D5 _ _ ⟨rfl,rfl,ao,by lia,by lia,(by rw[sizeLine_eq];simp;lia),fun D6 hD6=>?_⟩⟩⟩
   have s5:=aQ (o:= .lst [V.int 0]) hD5
   rw[Int.toNat_natCast,vW]
   have s6:=aQ (o:= .lst (vN (List.replicate pad 0))) hD6
   refine (az D4 D6 _ _ ⟨rfl,rfl,ae.of (s6 _ _ (s5 _ _ ao)),ae.of ao,(by rw[List.length_append,aK,aK,aK,bz,bg,List.length_replicate,sizeLine_eq];lia),fun D7 hD7=>?_⟩)
   rw[←cO,←cO]
   have s7:=aQ (o:= .lst (vN (aU 2 seen.length++bn B++List.replicate pad 0))) hD7
   have s07:=s03.trans (s4.trans (s5.trans (s6.trans s7)))
   have hlt: ∀x∈aU 2 seen.length++bn B++List.replicate pad 0,x<256:=fun x hx=>by
    rcases List.mem_append.mp hx with hx|hx
    ·rcases List.mem_append.mp hx with hx|hx
     ·exact o4 _ _ x hx
     ·exact j6 _ x hx
    ·rw[(List.mem_replicate.mp hx).2];decide
   refine (af D7 _ ⟨rfl,ae.of ao,hlt,(by rw[List.length_append,List.length_append,bz,bg,List.length_replicate];lia),fun D8 H8 hD8 s8 hx8=>k D8 H8 (s07.none hD8) (s07.trans s8) ?_⟩)
   rw[hx8]
   have ef:seen.flatten=B:=by
    have hw:=hwt
    rw[yF] at hw
    cases et:Sound.tagsIn (B.length+1) B with
    |none=>rw[et] at hw;cases hw
    |some l=>
     rw[et] at hw
     dsimp only at hw
     split at hw
     ·cases hw
      rw[List.nil_append]
      exact xq _ _ _ et
     ·cases hw
   unfold Sound.tagArea
   dsimp only
   rw[rC,ef,dc,dc,ei,List.append_assoc]
   congr 5
   unfold bn
   rw[List.map_replicate];rfl
def kH (F:Sound.Form) (n t:Nat):List Nat:= [83,75,69,69,80,1,13,10]++([F.channels,F.depth]++aU 2 F.block++ [F.group,F.spare])++aU 4 n++aU 4 t
theorem EU {F:Sound.Form} (n t:Nat) (ax:F.ok=true):bn (Sound.headOf F n t)=ji (kH F n t):=by
 obtain ⟨⟨hc1,hc2⟩,⟨hd1,hd2⟩,_,_,⟨hg1,hg2⟩,hsp⟩:=jZ ax
 unfold Sound.headOf kH
 dsimp only
 rw[rC]
 congr 1
 rw[dc,dc,dc,dc,dc,dc,dc,ei,ei,ei,ei,ei,ei,ei,ny (by lia),ny (by lia),ny (by lia),ny (by lia)]
 simp only [List.append_assoc,List.cons_append,List.nil_append]
 rfl
theorem Om {F:Sound.Form} (n t:Nat) (ax:F.ok=true): ∀x∈kH F n t,x<256:=by
 have e:=EU n t ax
 unfold ji at e
 intro x hx
 exact j6 _ x (by rw[e];exact List.mem_append_left _ hx)
def Rw (C:Addr):Sp:=fun vs H Q _=> ∃(f:Addr) (F:Sound.Form) (n t:Nat),vs= [.ref f, .int (n:Nat), .int (t:Nat)]∧mX C H f F∧F.ok=true∧fQ H Q (bn (Sound.headOf F n t))
theorem BS:aM ["form", "samples", "tags_size", "shape"] ["form", "samples", "tags_size"] (aG Gi):=⟨rfl,rfl,rfl,by decide+kernel,rfl,by decide+kernel,by decide+kernel⟩
theorem Ux (T:Txt K mg A):aC P w K mg base aO 3 A.mi A.p9 ["form", "samples", "tags_size"] (Rw A.bI):=by
 refine T.Fy.ok BS (fun vs H Q E h=>?_) (fun cdv Ar outer s H vs Q E hr h=>?_)
 ·obtain ⟨f,F,n,t,rfl,_⟩:=h
  rfl
 ·obtain ⟨f,F,n,t,rfl,⟨df,hf⟩,ax,k⟩:=h
  have hr1':aR 1 _:=hr.mono (by decide)
  refine ⟨_,ak (aI (i:=3) BS.nd rfl (Or.inl rfl) (aq dW (aq dW (b9 (aa (aA (pv 0) rfl) (aa (aA (pv 0) rfl) ag))) (aN (gj T) hr1' rfl T.f9 T.fH.kp T.f7 .nil ay (aa au (aa (aA (pv 0) rfl) ag)))) (b9 (aa (aA (pv 0) rfl) (aa (aA (pv 0) rfl) ag)))))
   (aw (aS (aN (sI T) hr rfl T.rD T.qw.kp T.tu .nil ay (aa (aq dW (aq dW (aq dW (wa Dd rfl T.yr (by decide+kernel:bootBuiltins "list" =some (.type "list")) (aa (kh rfl T.Jb) ag)) (pv 3))
    (aN (gj T) hr1' rfl T.f9 T.fH.kp T.f7 .nil ay (aa au (aa (pv 1) ag)))) (aN (gj T) hr1' rfl T.f9 T.fH.kp T.f7 .nil ay (aa au (aa (pv 2) ag)))) ag)))),?_⟩
  have sz: ∀m:Nat,m≤1000→m≤sizeLine:=fun m hm=>by rw[sizeLine_eq];lia
  refine aE rfl hf T.bw T.gA rfl (aE rfl hf T.bw T.iB rfl ⟨sz 2 (by decide),fun D1 hD1=>?_⟩)
  have s1:=aQ (o:= .lst (vN [F.channels,F.depth])) hD1
  refine aE rfl (s1 _ _ hf) T.bw T.oG rfl (af 2 F.block ⟨rfl,by decide,fun D2 H2 hD2 s2 hx2=>?_⟩)
  have t2:=s1.trans s2
  refine ⟨D1,D2,vN [F.channels,F.depth],vN (aU 2 F.block),rfl,rfl,ae.of (s2 _ _ ao),ae.of hx2,(by rw[aK,aK,bz];exact sz 4 (by decide)),fun D3 hD3=>?_⟩
  have s3:=aQ (o:= .lst (vN [F.channels,F.depth]++vN (aU 2 F.block))) hD3
  have t3:=t2.trans s3
  refine aE rfl (t3 _ _ hf) T.bw T.sZ rfl (aE rfl (t3 _ _ hf) T.bw T.wG rfl ⟨sz 2 (by decide),fun D4 hD4=>?_⟩)
  have s4:=aQ (o:= .lst (vN [F.group,F.spare])) hD4
  have t4:=t3.trans s4
  refine ⟨D3,D4,vN [F.channels,F.depth]++vN (aU 2 F.block),vN [F.group,F.spare],rfl,rfl,ae.of (s4 _ _ ao),ae.of ao,(by rw[List.length_append,aK,aK,aK,bz];exact sz 6 (by decide)),fun D5 hD5=>?_⟩
  rw[←cO,←cO]
  have s5:=aQ (o:= .lst (vN ([F.channels,F.depth]++aU 2 F.block++ [F.group,F.spare]))) hD5
  have t5:=t4.trans s5
  have hx5:upd (upd (upd (upd H2 D3 (.lst (vN [F.channels,F.depth]++vN (aU 2 F.block)))) D4 (.lst (vN [F.group,F.spare]))) D5 (.lst (vN ([F.channels,F.depth]++aU 2 F.block++ [F.group,F.spare])))) D5 (.own 0) D5=some (.own 0):=ao
  clear hx5
  refine (af A.qv _ ⟨rfl, .inr (T.Ir _),fun D6 hD6=>?_⟩)
  have s6:=aQ (o:= .lst (vN [83,75,69,69,80,1,13,10])) hD6
  have t6:=t5.trans s6
  refine ⟨_,rfl,D6,D5,vN [83,75,69,69,80,1,13,10],vN ([F.channels,F.depth]++aU 2 F.block++ [F.group,F.spare]),rfl,rfl,ae.of ao,ae.of (s6 _ _ ao),(by rw[aK,aK,List.length_append,List.length_append,bz];exact sz 14 (by decide)),fun D7 hD7=>?_⟩
  rw[←cO]
  have s7:=aQ (o:= .lst (vN ([83,75,69,69,80,1,13,10]++([F.channels,F.depth]++aU 2 F.block++ [F.group,F.spare])))) hD7
  have t7:=t6.trans s7
  refine ⟨_,rfl,af 4 n ⟨rfl,by decide,fun D8 H8 hD8 s8 hx8=>?_⟩⟩
  have t8:=t7.trans s8
  refine (az D7 D8 _ _ ⟨rfl,rfl,ae.of (s8 _ _ ao),ae.of hx8,(by rw[aK,aK,List.length_append,List.length_append,List.length_append,bz,bz];exact sz 18 (by decide)),fun D9 hD9=>?_⟩)
  rw[←cO]
  have s9:=aQ (o:= .lst (vN ([83,75,69,69,80,1,13,10]++([F.channels,F.depth]++aU 2 F.block++ [F.group,F.spare])++aU 4 n))) hD9
  have t9:=t8.trans s9
  refine ⟨_,rfl,af 4 t ⟨rfl,by decide,fun Da Ha hDa sa hxa=>?_⟩⟩
  have ta:=t9.trans sa
  refine (az D9 Da _ _ ⟨rfl,rfl,ae.of (sa _ _ ao),ae.of hxa,(by rw[aK,aK,List.length_append,List.length_append,List.length_append,List.length_append,bz,bz,bz];exact sz 22 (by decide)),fun Db hDb=>?_⟩)
  rw[←cO]
  have sb:=aQ (o:= .lst (vN (kH F n t))) hDb
  have tb:=ta.trans sb
  refine ⟨Db,kH F n t,rfl,ae.of ao,Om n t ax,(by unfold kH;rw[List.length_append,List.length_append,List.length_append,List.length_append,List.length_append,bz,bz,bz];exact (by decide:22≤1000000)),fun Dc Hc hDc sc hxc=>k Dc Hc (tb.none hDc) (tb.trans sc) ?_⟩
  rw[hxc,EU n t ax]
theorem RO {i j c:Int} {m:Nat} (hi:0≤i) (hi2:i<4096) (hj:0≤j) (hj2:j<4096) (hc:0<c) (hc2:c<4096) (hm:Builtin.Range.rangeSize i j c=m) (hm2:m≤4096):gG i j c m:=by
 refine ⟨by lia,by lia,?_,hm⟩
 unfold Builtin.Range.small
 rw[hm]
 simp only [Builtin.Range.rangeFitsLong,Bool.and_eq_true,Bool.or_eq_true,decide_eq_true_eq,beq_iff_eq,show c>0 from hc,if_true]
 lia
theorem SN {d:Nat} (h:d≤24):gG 0 (d:Int) 8 ((d+7)/8):=by
 refine RO (by decide) (by decide) (by lia) (by lia) (by decide) (by decide) ?_ (by lia)
 unfold Builtin.Range.rangeSize
 rw[if_pos (by decide)]
 split<;>lia
def ib (d:Nat) (s:List Int):Sound.Bytes:=s.flatMap fun (x:Int)=>Sound.low ((d+7)/8) (x%(2^(8*((d+7)/8)):Int)).toNat
theorem Mp (x:Int) (m i:Nat) (h:i<m):x/2^(8*i)%256=(((x%(2^(8*m):Int)).toNat/256^i%256:Nat):Int):=by
 have hp:(0:Int)<2^(8*m):=by
  have:(2:Int)^(8*m)=((2^(8*m):Nat):Int):=by simp
  rw[this];exact Int.natCast_pos.mpr (Nat.two_pow_pos _)
 have h0:=Int.emod_nonneg x (Int.ne_of_gt hp)
 have e1:((x%(2^(8*m):Int)).toNat:Int)=x%2^(8*m):=Int.toNat_of_nonneg h0
 have e2:(((x%(2^(8*m):Int)).toNat/256^i%256:Nat):Int)=(x%2^(8*m))/2^(8*i)%256:=by
  rw[Int.natCast_emod,Int.natCast_ediv,e1,uD];simp
 rw[e2]
 have e3:(2:Int)^(8*m)=2^(8*i)*(256*2^(8*(m-i-1))):=by
  rw[show (256:Int)=2^8 by decide,←Int.pow_add,←Int.pow_add]
  congr 1;lia
 have hq:(0:Int)<2^(8*i):=by
  have:(2:Int)^(8*i)=((2^(8*i):Nat):Int):=by simp
  rw[this];exact Int.natCast_pos.mpr (Nat.two_pow_pos _)
 have e4:x%2^(8*m)=x-2^(8*i)*(256*2^(8*(m-i-1))*(x/2^(8*m))):=by
  rw[Int.emod_def]
  conv=>lhs;rw[show (2:Int)^(8*m)*(x/2^(8*m))=2^(8*i)*(256*2^(8*(m-i-1)))*(x/2^(8*m)) by rw[←e3]]
  rw[Int.mul_assoc]
 rw[e4,Int.sub_eq_add_neg,←Int.mul_neg,Int.add_mul_ediv_left _ _ (Int.ne_of_gt hq),Int.mul_assoc,←Int.mul_neg,Int.add_mul_emod_self_left]
theorem QW (m v:Nat):bn (Sound.low m v)=(List.range m).map fun i=>v/256^i%256:=by
 unfold bn Sound.low
 rw[List.map_map]
 refine List.map_congr_left fun i _=>?_
 simp [UInt8.toNat_ofNat']
def PN (K:PySem.W.Frag):Sp:=fun vs H Q _=> ∃(d:Nat) (q:Addr) (s:List Int),vs= [.int d, .ref q]∧ae K H q (s.map V.int)∧(d≤24∧s.length≤1000000)∧fQ H Q (bn (ib d s))
theorem qa:aM ["depth", "numbers", "plain", "number", "shift"] ["depth", "numbers"] (aG zJ):=⟨rfl,rfl,rfl,by decide+kernel,rfl,by decide+kernel,by decide+kernel⟩
theorem Qe (d:Nat) (s:List Int):(ib d s).length=s.length*((d+7)/8):=by
 unfold ib
 induction s with
 |nil=>simp
 |cons x s ih=>
  rw[List.flatMap_cons,List.length_append,ih,List.length_cons,Nat.add_mul,Nat.one_mul]
  unfold Sound.low
  rw[List.length_map,List.length_range];lia
theorem JO (T:Txt K mg A):aC P w K mg base aO 1 A.lU A.qN ["depth", "numbers"] (PN K):=by
 refine T.zB.ok qa (fun vs H Q E h=>?_) (fun cdv Ar outer s H vs Q E hr h=>?_)
 ·obtain ⟨d,q,s,rfl,_⟩:=h
  rfl
 ·obtain ⟨d,q,ns,rfl,hq,⟨hd,hl⟩,k⟩:=h
  refine ⟨_,ak (aI (i:=2) qa.nd rfl (Or.inl rfl) (b9 ag))
   (ak (cv PassesOwn.never rfl (cg (pv 1)) (aT (i:=3) qa.nd rfl (Or.inr rfl))
    (aw (ba (ig PySem.F.plainAttrs_list PySem.F.slot_list_extend PySem.F.type_list_extend rp (pv 2) (aa (cw (own:= [("shift",4)]) rfl qa.nd (jM rfl T.dt (aa au (aa (pv 0) (aa au ag)))) (b5 (by kernel_rfl)) (fun _ _ _ _ _=>aT (i:=4) qa.nd rfl (Or.inl rfl)) (fun _ _ _ _ _=>bZ) (fun _ _ _ _ _=>aq jo (aq fg (pv 3) (pv 4)) au)) ag)))))
   (aw (aS (pv 2)))),?_⟩
  refine ⟨(by rw[sizeLine_eq];exact Nat.zero_le _),fun L hL=>?_⟩
  have sL:=aQ (o:= .lst []) hL
  refine ⟨_,rfl,q,rfl,⟨_,sL.seq hq⟩,?_⟩
  refine eA (K:=K) (a:=q) (xs:=ns.map V.int) (fun i σ H'=>(∃v3 v4:Option V,σ= [some (.int (d:Nat)),some (.ref q),some (.ref L),v3,v4])∧ah H H'∧H' L=some (.lst (vN (bn (ib d (ns.take i)))))) ⟨⟨none,none,rfl⟩,sL,ao⟩ (fun i σ H' _ ⟨_,s',_⟩=>s'.seq hq) ?_ ?_
  ·rintro i x σ H1 hi ⟨⟨v3,v4,rfl⟩,s1,hL1⟩
   rw[List.getElem?_map] at hi
   cases ex:ns[i]? with
   |none=>rw[ex] at hi;cases hi
   |some n=>
    rw[ex] at hi
    obtain rfl:V.int n=x:=Option.some.inj hi
    obtain ⟨hil,hin⟩:=List.getElem?_eq_some_iff.mp ex
    refine ⟨_,rfl, .inl ⟨rfl,_,ae.of hL1⟩,_,rfl,0,(d:Int),8,(d+7)/8,rfl,SN (by lia),fun D hD=>?_⟩
    refine cC (J:=iI 0 8 ((d+7)/8)) hD ((d+7)/8) (by rw[sizeLine_eq];lia) (fun j=> .int (((n%(2^(8*((d+7)/8)):Int)).toNat/256^j%256:Nat):Int)) (fun i Hh hi s1=>hi) (fun Hh s1=>Nat.le_refl _) ?_ ?_
    ·rintro j Hh z H' hj s2 ⟨rfl,rfl⟩ C hC
     have e1:(0:Int)+(j:Nat)*8=((8*j:Nat):Int):=by lia
     rw[e1]
     refine ⟨rfl,_,rfl,_,rfl,af _ _ ⟨rfl,rfl,(by lia),af _ _ ⟨rfl,rfl,?_⟩⟩⟩
     have e2:Builtin.bitAnd (n/2^((8*j:Nat):Int).toNat) 255=(((n%(2^(8*((d+7)/8)):Int)).toNat/256^j%256:Nat):Int):=by
      rw[Int.toNat_natCast,show (255:Int)=2^8-1 by decide,mask,show (2:Int)^8=256 by decide]
      exact Mp n _ j hj
     dsimp only
     rw[e2]
     exact hC _ (ah.refl _)
    ·intro H2 s2 hx2
     have af:(List.range ((d+7)/8)).map (fun j=>V.int (((n%(2^(8*((d+7)/8)):Int)).toNat/256^j%256:Nat):Int))=vN (bn (Sound.low ((d+7)/8) (n%(2^(8*((d+7)/8)):Int)).toNat)):=by
      rw[QW];unfold vN;rw[List.map_map];rfl
     rw[af] at hx2
     have hlt:(ib d (ns.take i)).length≤4000000:=by
      rw[Qe,List.length_take]
      exact Nat.le_trans (Nat.mul_le_mul (show min i ns.length≤1000000 by lia) (show (d+7)/8≤4 by lia)) (by decide)
     refine ⟨L,D,_,_,rfl,rfl,s2 _ _ hL1,hx2,(by rw[aK,aK,bg,bg,sizeLine_eq];unfold Sound.low;rw[List.length_map,List.length_range];lia),⟨_,_,rfl⟩,fun y o e=>?_,?_⟩
     ·rw[aB (bD e hL)]
      exact s2 _ _ (s1 _ _ e)
     ·rw[ao,←cO,←dc]
      have:ib d (ns.take (i+1))=ib d (ns.take i)++Sound.low ((d+7)/8) (n%(2^(8*((d+7)/8)):Int)).toNat:=by
       unfold ib
       rw[List.take_succ,ex,List.flatMap_append]
       simp
      rw[this]
  ·rintro σ H1 ⟨⟨v3,v4,rfl⟩,s1,hL1⟩
   rw[List.length_map,List.take_length] at hL1
   exact ⟨_,rfl,k L H1 hL s1 hL1⟩
def Oz (K:PySem.W.Frag):Sp:=fun vs H Q _=> ∃(d:Nat) (q:Addr) (s:List Int),vs= [.int d, .ref q]∧ae K H q (s.map V.int)∧(d≤24∧s.length≤1000000)∧fQ H Q (bn (Sound.high 4 (Sound.crc32 (ib d s))))
theorem L8:aM ["depth", "numbers"] ["depth", "numbers"] (aG z8):=⟨rfl,rfl,rfl,by decide+kernel,rfl,by decide+kernel,by decide+kernel⟩
theorem PZ (T:Txt K mg A):aC P w K mg base aO 2 A.qp A.l8 ["depth", "numbers"] (Oz K):=by
 refine T.Eg.ok L8 (fun vs H Q E h=>?_) (fun cdv Ar outer s H vs Q E hr h=>?_)
 ·obtain ⟨d,q,s,rfl,_⟩:=h
  rfl
 ·obtain ⟨d,q,ns,rfl,hq,hd,k⟩:=h
  refine ⟨_,aw (aS (aN (gj T) hr rfl T.f9 T.fH.kp T.f7 .nil ay (aa (aY rfl T.wB) (aa (aN (Ei T) hr rfl T.BB T.uh.kp T.zS .nil ay (aa (aN (JO T) hr rfl T.QD T.zB.kp T.Mj .nil ay (aa (pv 0) (aa (pv 1) ag))) ag)) ag)))),?_⟩
  refine ⟨_,rfl,_,rfl,b8 d q ns ⟨rfl,hq,hd,fun D H1 hD s1 hx=>?_⟩⟩
  refine (af D _ ⟨rfl,ae.of hx,j6 _,4,kK (bn (ib d ns)),rfl,by decide,fun D2 H2 hD2 s2 hx2=>k D2 H2 (s1.none hD2) (s1.trans s2) ?_⟩)
  rw[hx2,ei,←Gz];rfl
def eU (F:Sound.Form) (N:Nat):List Sound.Bytes→Nat→Sound.Bytes→List Nat→List Sound.Bytes→List Nat×Sound.Bytes
 | [],_,w,st,_=>(st,w)
 |x::r,k,w,st,grp=>if (k+1)%F.group=0∨k+1=N then eU F N r (k+1) (w++x++(Sound.sparesOf F (grp++ [x]) (k/F.group)).flatten) (st++ [w.length]) []
  else eU F N r (k+1) (w++x) (st++ [w.length]) (grp++ [x])
theorem Tb (p:Nat) (x:Sound.Bytes) (l:List Sound.Bytes):(List.range (x::l).length).map (fun i=>p+((x::l).take i).flatten.length)=p::(List.range l.length).map fun i=>p+x.length+(l.take i).flatten.length:=by
 rw[List.length_cons,List.range_succ_eq_map,List.map_cons,List.map_map]
 congr 1
 refine List.map_congr_left fun i _=>?_
 show p+(x::l.take i).flatten.length=_
 rw[List.flatten_cons,List.length_append,Nat.add_assoc]
theorem CH {F:Sound.Form} {N g:Nat} (hg:1≤F.group) (r:List Sound.Bytes): ∀(l:List Sound.Bytes) (w:Sound.Bytes) (st:List Nat) (grp:List Sound.Bytes),l≠ []→(grp.length+l.length=F.group∨(r= []∧grp.length+l.length<F.group))→g*F.group+grp.length+l.length+r.length=N→
  eU F N (l++r) (g*F.group+grp.length) w st grp=eU F N r (g*F.group+grp.length+l.length) (w++l.flatten++(Sound.sparesOf F (grp++l) g).flatten) (st++(List.range l.length).map fun i=>w.length+(l.take i).flatten.length) []
 | [],_,_,_,h,_,_=>absurd rfl h
 |x::l,w,st,grp,_,h2,h3=>by
  rw[List.cons_append,eU,Tb]
  have hdiv:(g*F.group+grp.length)/F.group=g:=by
   rw[Nat.mul_comm,Nat.mul_add_div (by lia),Nat.div_eq_of_lt,Nat.add_zero]
   rcases h2 with h2|h2
   ·rw[List.length_cons] at h2;lia
   ·rw[List.length_cons] at h2;lia
  have hmod:(g*F.group+grp.length+1)%F.group=(grp.length+1)%F.group:=by
   rw[Nat.add_assoc,Nat.mul_comm,Nat.mul_add_mod]
  rw[List.length_cons] at h2 h3
  cases l with
  |nil=>
   rw[List.length_nil] at h2 h3
   rw[if_pos,hdiv,List.nil_append]
   ·simp
   ·rcases h2 with h2|⟨h2,h4⟩
    ·left;rw[hmod,h2];exact Nat.mod_self _
    ·right;rw[h2] at h3;simp at h3;exact h3
  |cons y l=>
   rw[List.length_cons] at h2 h3
   rw[if_neg]
   ·have ih:=CH (N:=N) (g:=g) hg r (y::l) (w++x) (st++ [w.length]) (grp++ [x]) (by simp) (by simp only [List.length_append,List.length_cons,List.length_nil];rcases h2 with h2|⟨h2,h4⟩;exact .inl (by lia);exact .inr ⟨h2,by lia⟩) (by simp only [List.length_append,List.length_cons,List.length_nil];lia)
    rw[List.length_append,List.length_append] at ih
    simp only [List.length_cons,List.length_nil] at ih⊢
    rw[show g*F.group+grp.length+1=g*F.group+(grp.length+(0+1)) by lia,ih]
    congr 1
    ·lia
    ·simp
    ·simp
   ·rw[hmod]
    rintro (z|z)
    ·rw[Nat.mod_eq_of_lt (by rcases h2 with h2|⟨h2,h4⟩<;>lia)] at z;lia
    ·lia
theorem F7 {F:Sound.Form} {fs:List Sound.Bytes} (hg:1≤F.group): ∀(m g:Nat) (w:Sound.Bytes) (st:List Nat),m+g=(fs.length+F.group-1)/F.group→eU F fs.length (fs.drop (g*F.group)) (g*F.group) w st []=(st++(Sound.bodyFrom F fs m g w.length).1,w++(Sound.bodyFrom F fs m g w.length).2)
 |0,g,w,st,h=>by
  have hl:fs.length≤g*F.group:=by
   have:=Nat.div_add_mod (fs.length+F.group-1) F.group
   have:=Nat.mod_lt (fs.length+F.group-1) hg
   rw[Nat.mul_comm,←show 0+g=g by lia,h]
   lia
  rw[List.drop_of_length_le hl]
  simp [eU,Sound.bodyFrom]
 |m+1,g,w,st,h=>by
  have hl:g*F.group<fs.length:=by
   have h1:=Nat.div_mul_le_self (fs.length+F.group-1) F.group
   rw[←h,Nat.add_mul,Nat.add_mul] at h1
   lia
  have hcut:fs.drop (g*F.group)=Sound.groupAt F fs g++fs.drop ((g+1)*F.group):=by
   unfold Sound.groupAt
   rw[show fs.drop ((g+1)*F.group)=(fs.drop (g*F.group)).drop F.group by rw[List.drop_drop,Nat.add_mul,Nat.one_mul],List.take_append_drop]
  have hlen:(Sound.groupAt F fs g).length=min F.group (fs.length-g*F.group):=by unfold Sound.groupAt;rw[List.length_take,List.length_drop]
  rw[hcut]
  have e:=CH (N:=fs.length) (g:=g) hg (fs.drop ((g+1)*F.group)) (Sound.groupAt F fs g) w st [] (fun z=>by rw[z] at hlen;simp at hlen;lia) (by
   rw[hlen,List.length_nil,Nat.zero_add]
   by_cases c:F.group≤fs.length-g*F.group
   ·exact .inl (by lia)
   ·exact .inr ⟨List.drop_of_length_le (by rw[Nat.add_mul];lia),by lia⟩) (by rw[hlen,List.length_nil,List.length_drop,Nat.add_mul];lia)
  simp only [List.length_nil,Nat.add_zero,List.nil_append] at e
  rw[e]
  by_cases c:F.group≤fs.length-g*F.group
  ·rw[show g*F.group+(Sound.groupAt F fs g).length=(g+1)*F.group by rw[hlen,Nat.add_mul];lia]
   rw[F7 hg m (g+1) _ _ (by lia),Sound.bodyFrom]
   simp [Nat.add_assoc]
  ·rw[show fs.drop ((g+1)*F.group)= [] from List.drop_of_length_le (by rw[Nat.add_mul];lia)]
   have hm:m=0:=by
    have h1:=Nat.div_mul_le_self (fs.length+F.group-1) F.group
    rw[←h] at h1
    rcases Nat.eq_zero_or_pos m with z|z
    ·exact z
    ·have:=Nat.mul_le_mul (show g+2≤m+1+g by lia) (Nat.le_refl F.group)
     rw[Nat.add_mul] at this
     lia
   rw[hm,eU,Sound.bodyFrom]
   simp [Sound.bodyFrom]
theorem Io {F:Sound.Form} {fs:List Sound.Bytes} (hg:1≤F.group):eU F fs.length fs 0 [] [] []=Sound.bodyFrom F fs ((fs.length+F.group-1)/F.group) 0 0:=by
 have:=F7 (F:=F) (fs:=fs) hg ((fs.length+F.group-1)/F.group) 0 [] [] (by lia)
 simpa using this
def O7 (C:Addr):Sp:=fun vs H Q _=> ∃(f:Addr) (F:Sound.Form) (k n:Nat),vs= [.ref f, .int (k:Nat), .int (n:Nat)]∧mX C H f F∧1≤F.group∧Q (.bl (decide ((k+1)%F.group=0∨k+1=n))) H
theorem Na:aM ["self", "k", "frame_count"] ["self", "k", "frame_count"] (aG F5):=⟨rfl,rfl,rfl,by decide+kernel,rfl,by decide+kernel,by decide+kernel⟩
theorem SU (T:Txt K mg A):aC P w K mg base aO 1 A.qe A.qB ["self", "k", "frame_count"] (O7 A.bI):=by
 refine T.ID.ok Na (fun vs H Q E h=>?_) (fun cdv Ar outer s H vs Q E hr h=>?_)
 ·obtain ⟨f,F,k,n,rfl,_⟩:=h
  rfl
 ·obtain ⟨f,F,k,n,rfl,⟨df,hf⟩,hg,q⟩:=h
  refine ⟨_,aw (aS (Ra (jd fj (aq tZ (aq bE (pv 1) au) (aA (pv 0) rfl)) au (bo _)) (yq (jd fj (aq bE (pv 1) au) (pv 2) (bo _))))),?_⟩
  refine ⟨_,rfl,af _ _ ⟨rfl,rfl,aE rfl hf T.bw T.sZ rfl (af _ _ ⟨rfl,rfl,(by show (0:Int)<(F.group:Nat);lia),rfl,_,rfl,?_⟩)⟩⟩
  have e2:(((k:Nat):Int)+1)%((F.group:Nat):Int)=(((k+1)%F.group:Nat):Int):=by
   rw[show ((k:Nat):Int)+1=((k+1:Nat):Int) by lia,←Int.natCast_emod]
  by_cases c:(k+1)%F.group=0
  ·rw[decide_eq_true (by show V.int ((((k:Nat):Int)+1)%((F.group:Nat):Int))=V.int 0;rw[e2,c];rfl)]
   rw[decide_eq_true (.inl c)] at q
   exact bx q
  ·rw[decide_eq_false (fun z=>c (by have z:V.int ((((k:Nat):Int)+1)%((F.group:Nat):Int))=V.int 0:=z;rw[e2] at z;have:=V.int.inj z;lia))]
   refine bJ ⟨_,rfl,af _ _ ⟨rfl,rfl,_,rfl,rfl,?_⟩⟩
   by_cases c2:k+1=n
   ·rw[decide_eq_true (by show V.int (((k:Nat):Int)+1)=V.int (n:Nat);rw[←c2];rfl)]
    rw[decide_eq_true (.inr c2)] at q
    exact q
   ·rw[decide_eq_false (fun z=>c2 (by have z:V.int (((k:Nat):Int)+1)=V.int (n:Nat):=z;have:=V.int.inj z;lia))]
    rw[decide_eq_false (fun z=>z.elim c c2)] at q
    exact q
def gp (F:Hp) (g:Addr) (grp:List Sound.Bytes):Prop:= ∃as:List Addr,F g=some (.lst (as.map V.ref))∧as.length=grp.length∧ ∀(k:Nat) (a:Addr),as[k]?=some a→F a=some (.lst (vN (bn (grp.getD k []))))
theorem gp.same {F F':Hp} {g:Addr} {grp:List Sound.Bytes} (h:gp F g grp) (s:ah F F'):gp F' g grp:=by
 obtain ⟨as,h1,h2,h3⟩:=h
 exact ⟨as,s _ _ h1,h2,fun k a e=>s _ _ (h3 k a e)⟩
theorem gp.rows {F:Hp} {g:Addr} {grp:List Sound.Bytes} (h:gp F g grp):gK K F g (grp.map bn):=by
 obtain ⟨as,h1,h2,h3⟩:=h
 refine ⟨as,ae.of h1,by rw[List.length_map];exact h2,fun k a e=>?_⟩
 have hk:k<grp.length:=by rw[←h2];exact (List.getElem?_eq_some_iff.mp e).1
 have:=ae.of (K:=K) (h3 k a e)
 rw[List.getD_eq_getElem?_getD,List.getElem?_map,List.getElem?_eq_getElem hk]
 rw[List.getD_eq_getElem?_getD,List.getElem?_eq_getElem hk] at this
 exact this
theorem gp.push {H:Hp} {g D:Addr} {as:List Addr} {grp:List Sound.Bytes} {x:Sound.Bytes} (h1:H g=some (.lst (as.map V.ref))) (h2:as.length=grp.length) (h3: ∀(k:Nat) (a:Addr),as[k]?=some a→H a=some (.lst (vN (bn (grp.getD k []))))) (hD:H D=some (.lst (vN (bn x)))) (hne:D≠g):gp (upd H g (.lst (as.map V.ref++ [V.ref D]))) g (grp++ [x]):=by
 refine ⟨as++ [D],by rw[ao];simp,by rw[List.length_append,List.length_append,h2];rfl,fun k a e=>?_⟩
 by_cases hk:k<as.length
 ·rw[List.getElem?_append_left hk] at e
  have ha:=h3 k a e
  have hag:a≠g:=fun z=>by
   rw[z,h1] at ha
   have ha:=HO.lst.inj (Option.some.inj ha)
   cases as with
   |nil=>simp at hk
   |cons y ys=>
    cases hq:bn (grp.getD k []) with
    |nil=>rw[hq] at ha;cases ha
    |cons m ms=>rw[hq] at ha;cases ha
  rw[aB hag,List.getD_eq_getElem?_getD,List.getElem?_append_left (by lia),←List.getD_eq_getElem?_getD]
  exact ha
 ·rw[List.getElem?_append_right (by lia)] at e
  have hk0:k-as.length=0:=by
   have:=(List.getElem?_eq_some_iff.mp e).1
   simp at this;lia
  rw[hk0] at e
  obtain rfl:D=a:=Option.some.inj e
  rw[aB hne,List.getD_eq_getElem?_getD,List.getElem?_append_right (by lia),show k-grp.length=0 by lia]
  exact hD
def KZ (C:Addr):Sp:=fun vs H Q _=> ∃(f:Addr) (F:Sound.Form) (n:Nat),vs= [.ref f, .int (n:Nat)]∧mX C H f F∧(1≤F.block∧F.block≤256)∧Q (.int (Sound.framesOf F n:Nat)) H
theorem SX:aM ["self", "samples"] ["self", "samples"] (aG zc):=⟨rfl,rfl,rfl,by decide+kernel,rfl,by decide+kernel,by decide+kernel⟩
theorem QC (T:Txt K mg A):aC P w K mg base aO 1 A.nE A.nG ["self", "samples"] (KZ A.bI):=by
 refine T.Kn.ok SX (fun vs H Q E h=>?_) (fun cdv Ar outer s H vs Q E hr h=>?_)
 ·obtain ⟨f,F,n,rfl,_⟩:=h
  rfl
 ·obtain ⟨f,F,n,rfl,⟨df,hf⟩,hb,k⟩:=h
  refine ⟨_,aw (aS (aq tm (aq cc (aq bE (pv 1) (aA (pv 0) rfl)) au) (aA (pv 0) rfl))),?_⟩
  refine ⟨_,rfl,aE rfl hf T.bw T.oG rfl (af _ _ ⟨rfl,rfl,af _ _ ⟨rfl,rfl,aE rfl hf T.bw T.oG rfl (af _ _ ⟨rfl,rfl,⟨by lia,by lia⟩,?_⟩)⟩⟩)⟩
  have e:((n:Nat):Int)+((F.block:Nat):Int)-1=((n+F.block-1:Nat):Int):=by lia
  dsimp only
  rw[e,←Int.natCast_ediv]
  exact k
def RB (K:PySem.W.Frag):Sp:=fun vs H Q _=> ∃(q:Addr) (B:Sound.Bytes),vs= [.ref q]∧ae K H q (vN (bn B))∧B.length≤16000000∧ ∀D H',H' D=some (.lst ((Sound.fileOut B).map V.int))→Q (.ref D) H'
theorem IS (b:Sound.Bytes):(Sound.gives b).map V.int=V.int ((vN (bn b)).length:Nat)::vN (bn b):=by
 unfold Sound.gives Sound.nats
 rw[aK,bg]
 simp only [List.map_cons,List.map_map]
 unfold vN bn
 rw[List.map_map];rfl
theorem Kp:aM ["data"] ["data"] (aG zE):=⟨rfl,rfl,rfl,by decide+kernel,rfl,by decide+kernel,by decide+kernel⟩
theorem G8 (T:Txt K mg A):aC P w K mg base aO 2 A.om A.pk ["data"] (RB K):=by
 refine T.AK.ok Kp (fun vs H Q E h=>?_) (fun cdv Ar outer s H vs Q E hr h=>?_)
 ·obtain ⟨q,B,rfl,_⟩:=h
  rfl
 ·obtain ⟨q,B,rfl,hq,hl,k⟩:=h
  refine ⟨_,aw (aS (jx (bO iv (bf bU (by rfl) T.bW PySem.boot_len (aa (pv 0) ag)) (aY rfl T.Q9) (bo _)) (b9 (aa (dB dz au) ag)) (aN (Kv T) hr rfl T.Np T.Ff.kp T.SM .nil ay (aa (pv 0) ag)))),?_⟩
  refine ⟨_,rfl,af q _ ⟨rfl, .inl hq,af _ _ ⟨rfl,rfl,_,rfl,?_⟩⟩⟩
  rw[aK,bg]
  unfold Sound.fileOut Sound.tooLong Sound.FILE at k
  refine cP (fun c=>?_) fun c=>?_
  ·have c:(16384:Int)<((B.length:Nat):Int):=of_decide_eq_true c
   rw[if_pos (decide_eq_true (by lia))] at k
   exact ⟨_,rfl,(by rw[sizeLine_eq];show 1≤_;lia),fun D hD=>k D _ (by rw[ao];rfl)⟩
  ·have c: ¬(16384:Int)<((B.length:Nat):Int):=fun z=>c (decide_eq_true z)
   rw[if_neg (fun z=>c (by have:=of_decide_eq_true z;lia))] at k
   exact ⟨_,rfl,af q _ ⟨rfl,hq,by rw[aK,bg];lia,fun D H' hD s hx=>k D H' (by rw[IS];exact hx)⟩⟩
def tQ (a b:V):List (Str×V):= [("written",a),("starts",b)]
theorem SV (a b:V):aJ "starts" b [("written",a)]=tQ a b:=by
 have n1: ¬("written" :Str)= "starts" :=by decide
 simp only [aJ,if_neg n1];rfl
def Tc (C:Addr):Sp:=fun vs H Q _=> ∃(p dp:Addr),vs= [.ref p]∧H p=some (.ins C dp [])∧ ∀H' a b,H a=none∧H b=none∧a≠b→ah (hide p H) H'→H' p=some (.ins C dp (tQ (.ref a) (.ref b)))→H' a=some (.lst [])→H' b=some (.lst [])→Q .aD H'
theorem KQ:aM ["self"] ["self"] (aG E4):=⟨rfl,rfl,rfl,by decide+kernel,rfl,by decide+kernel,by decide+kernel⟩
theorem OI (T:Txt K mg A):aC P w K mg base aO 1 A.mh A.oa ["self"] (Tc A.dm):=by
 refine T.UE.ok KQ (fun vs H Q E h=>?_) (fun cdv Ar outer s H vs Q E hr h=>?_)
 ·obtain ⟨p,dp,rfl,_⟩:=h
  rfl
 ·obtain ⟨p,dp,rfl,hp,k⟩:=h
  refine ⟨_,ak (bh (pv 0) (b9 ag) rfl) (aw (bh (pv 0) (b9 ag) rfl)),?_⟩
  have z0:([]:List V).length≤sizeLine:=by rw[sizeLine_eq];exact Nat.zero_le _
  refine ⟨z0,fun a ha=>⟨_,rfl,az p A.dm dp _ ⟨rfl,aQ ha _ _ hp,T.gZ,T.oI,(by show 0<1000;decide),?_⟩⟩⟩
  have hap:a≠p:=(bD hp ha).symm
  refine ⟨z0,fun b hb=>⟨_,rfl,az p A.dm dp _ ⟨rfl,aQ hb _ _ ao,T.gZ,T.xN,(by show 1<1000;decide),?_⟩⟩⟩
  have hbp:b≠p:=fun z=>by rw[z,ao] at hb;cases hb
  have hba:b≠a:=fun z=>by rw[z,aB hap,ao] at hb;cases hb
  have hb0:H b=none:=by rw[aB hbp,aB hba] at hb;exact hb
  rw[show aJ "starts" (V.ref b) (aJ "written" (V.ref a) [])=tQ (.ref a) (.ref b) from SV _ _]
  refine k _ a b ⟨ha,hb0,hba.symm⟩ (fun y o e=>?_) ao ?_ ?_
  ·obtain ⟨e1,e2⟩:=eC e
   rw[aB e2,aB (bD e1 hb0),aB e2,aB (bD e1 ha)]
   exact e1
  ·rw[aB hap,aB hba.symm,aB hap];exact ao
  ·rw[aB hbp];exact ao
structure el where
 p:Addr
 dp:Addr
 a:Addr
 b:Addr
structure dD (C:Addr) (H:Hp) (B:el) (w:Sound.Bytes) (st:List Nat):Prop where
 hp:H B.p=some (.ins C B.dp (tQ (.ref B.a) (.ref B.b)))
 ha:H B.a=some (.lst (vN (bn w)))
 hb:H B.b=some (.lst (vN st))
 ne:B.a≠B.b
def JR (C:Addr):Sp:=fun vs H Q _=> ∃(B:el) (q:Addr) (w x:Sound.Bytes) (st:List Nat),vs= [.ref B.p, .ref q]∧dD C H B w st∧H q=some (.lst (vN (bn x)))∧(q≠B.b∧w.length+x.length≤16000000∧st.length≤1000000)∧Q .aD (upd (upd H B.b (.lst (vN (st++ [w.length])))) B.a (.lst (vN (bn (w++x)))))
theorem Jp:aM ["self", "one"] ["self", "one"] (aG CW):=⟨rfl,rfl,rfl,by decide+kernel,rfl,by decide+kernel,by decide+kernel⟩
theorem Uz (T:Txt K mg A):aC P w K mg base aO 1 A.nB A.pV ["self", "one"] (JR A.dm):=by
 refine T.Q2.ok Jp (fun vs H Q E h=>?_) (fun cdv Ar outer s H vs Q E hr h=>?_)
 ·obtain ⟨B,q,w,x,st,rfl,_⟩:=h
  rfl
 ·obtain ⟨B,q,w,x,st,rfl,⟨hp,ha,hb,ne⟩,hq,⟨hqb,h1,h2⟩,k⟩:=h
  refine ⟨_,ak (ba (ig PySem.F.plainAttrs_list PySem.F.slot_list_append PySem.F.type_list_append lL (aA (pv 0) rfl) (aa (bf bU (by rfl) T.bW PySem.boot_len (aa (aA (pv 0) rfl) ag)) ag)))
   (aw (ba (ig PySem.F.plainAttrs_list PySem.F.slot_list_extend PySem.F.type_list_extend rp (aA (pv 0) rfl) (aa (pv 1) ag)))),?_⟩
  refine aE rfl hp T.gZ T.xN rfl ⟨.inl ⟨rfl,_,ae.of hb⟩,aE rfl hp T.gZ T.oI rfl (af B.a _ ⟨rfl, .inl (ae.of ha),b8 B.b _ _ ⟨rfl,rfl,hb,(by rw[aK,sizeLine_eq];lia),?_⟩⟩)⟩
  rw[aK,bg,show vN st++ [V.int (w.length:Nat)]=vN (st++ [w.length]) by rw[cO];rfl]
  have hp2:upd H B.b (.lst (vN (st++ [w.length]))) B.p=_:=(aB (fun z=>by rw[z,hb] at hp;cases hp)).trans hp
  have ha2:upd H B.b (.lst (vN (st++ [w.length]))) B.a=_:=(aB ne).trans ha
  refine aE rfl hp2 T.gZ T.oI rfl ⟨.inl ⟨rfl,_,ae.of ha2⟩,_,rfl,az B.a q _ _ ⟨rfl,rfl,ha2,(aB hqb).trans hq,(by rw[aK,aK,bg,bg,sizeLine_eq];lia),?_⟩⟩
  rw[←cO,←dc]
  exact k
def Ru (C:Addr):Sp:=fun vs H Q _=> ∃(B:el) (q:Addr) (w x:Sound.Bytes) (st:List Nat),vs= [.ref B.p, .ref q]∧dD C H B w st∧H q=some (.lst (vN (bn x)))∧w.length+x.length≤16000000∧Q .aD (upd H B.a (.lst (vN (bn (w++x)))))
theorem M9:aM ["self", "piece"] ["self", "piece"] (aG zV):=⟨rfl,rfl,rfl,by decide+kernel,rfl,by decide+kernel,by decide+kernel⟩
theorem Ke (T:Txt K mg A):aC P w K mg base aO 1 A.qg A.o9 ["self", "piece"] (Ru A.dm):=by
 refine T.JG.ok M9 (fun vs H Q E h=>?_) (fun cdv Ar outer s H vs Q E hr h=>?_)
 ·obtain ⟨B,q,w,x,st,rfl,_⟩:=h
  rfl
 ·obtain ⟨B,q,w,x,st,rfl,⟨hp,ha,hb,ne⟩,hq,h1,k⟩:=h
  refine ⟨_,aw (ba (ig PySem.F.plainAttrs_list PySem.F.slot_list_extend PySem.F.type_list_extend rp (aA (pv 0) rfl) (aa (pv 1) ag))),?_⟩
  refine aE rfl hp T.gZ T.oI rfl ⟨.inl ⟨rfl,_,ae.of ha⟩,_,rfl,az B.a q _ _ ⟨rfl,rfl,ha,hq,(by rw[aK,aK,bg,bg,sizeLine_eq];lia),?_⟩⟩
  rw[←cO,←dc]
  exact k
def bodyOf (F:Sound.Form) (s:List Int):List Nat×Sound.Bytes:=eU F (Sound.allFrames F s).length (Sound.allFrames F s) 0 [] [] []
def IM (K:PySem.W.Frag) (A:cF):Sp:=fun vs H Q _=> ∃(f q:Addr) (F:Sound.Form) (s:List Int),vs= [.ref f, .ref q]∧mX A.bI H f F∧ae K H q (s.map V.int)∧F.ok=true∧(s.length%F.channels=0∧s.length≤2048)∧bM F.depth s∧
 ∀B H',ah H H'→dD A.dm H' B (bodyOf F s).2 (bodyOf F s).1→(bodyOf F s).2.length≤13000000∧(bodyOf F s).1.length≤129→Q (.ref B.p) H'
theorem iN:aM ["form", "numbers", "body", "step", "frame_count", "group", "k", "one", "j"] ["form", "numbers"] (aG BZ):=⟨rfl,rfl,rfl,by decide+kernel,rfl,by decide+kernel,by decide+kernel⟩
abbrev cS (B:el) (H:Hp):Hp:=hide B.a (hide B.b H)
theorem Mc (B:el) (H:Hp):ah (cS B H) H:=(fF _ _).trans (fF _ _)
theorem Au {B:el} {H H':Hp} (s:ah H H'):ah (cS B H) (cS B H'):=kR (kR s)
theorem Py {B:el} {H:Hp} {x y:HO}:cS B (upd (upd H B.b x) B.a y)=cS B H:=by
 funext z
 unfold cS
 by_cases h1:z=B.a
 ·rw[h1];unfold hide;rw[if_pos rfl,if_pos rfl]
 ·rw[hide_ne h1,hide_ne h1]
  by_cases h2:z=B.b
  ·rw[h2];unfold hide;rw[if_pos rfl,if_pos rfl]
  ·rw[hide_ne h2,hide_ne h2,aB h1,aB h2]
theorem Jk {B:el} {H:Hp} {y:HO}:cS B (upd H B.a y)=cS B H:=by
 funext z
 unfold cS
 by_cases h1:z=B.a
 ·rw[h1];unfold hide;rw[if_pos rfl,if_pos rfl]
 ·rw[hide_ne h1,hide_ne h1]
  by_cases h2:z=B.b
  ·rw[h2];unfold hide;rw[if_pos rfl,if_pos rfl]
  ·rw[hide_ne h2,hide_ne h2,aB h1]
theorem KI {B:el} {H:Hp} {g:Addr} {o:HO} (h1:g≠B.a) (h2:g≠B.b):cS B (upd H g o)=upd (cS B H) g o:=by
 funext z
 by_cases e:z=g
 ·rw[e,ao];unfold cS;rw[hide_ne h1,hide_ne h2,ao]
 ·rw[aB e]
  unfold cS hide
  split
  ·rfl
  ·split
   ·rfl
   ·exact aB e
theorem Af {B:el} {H:Hp} {g:Addr} {o:HO} (h:cS B H g=some o):H g=some o∧g≠B.a∧g≠B.b:=by
 obtain ⟨h1,h2⟩:=eC h
 obtain ⟨h3,h4⟩:=eC h1
 exact ⟨h3,h2,h4⟩
theorem dD.same {C:Addr} {H H':Hp} {B:el} {w:Sound.Bytes} {st:List Nat} (h:dD C H B w st) (s:ah H H'):dD C H' B w st:=⟨s _ _ h.hp,s _ _ h.ha,s _ _ h.hb,h.ne⟩
theorem dD.put {C:Addr} {H:Hp} {B:el} {w w':Sound.Bytes} {st st':List Nat} (h:dD C H B w st):dD C (upd (upd H B.b (.lst (vN st'))) B.a (.lst (vN (bn w')))) B w' st':=by
 have e1:B.p≠B.a:=fun z=>by have:=h.hp;rw[z,h.ha] at this;cases this
 have e2:B.p≠B.b:=fun z=>by have:=h.hp;rw[z,h.hb] at this;cases this
 exact ⟨by rw[aB e1,aB e2];exact h.hp,ao,by rw[aB h.ne.symm];exact ao,h.ne⟩
theorem dD.tY {C:Addr} {H:Hp} {B:el} {w w':Sound.Bytes} {st:List Nat} (h:dD C H B w st):dD C (upd H B.a (.lst (vN (bn w')))) B w' st:=by
 have e1:B.p≠B.a:=fun z=>by have:=h.hp;rw[z,h.ha] at this;cases this
 exact ⟨by rw[aB e1];exact h.hp,ao,by rw[aB h.ne.symm];exact h.hb,h.ne⟩
theorem dD.off {C:Addr} {H:Hp} {B:el} {w:Sound.Bytes} {st:List Nat} (h:dD C H B w st) {g:Addr} {o:HO} (h1:g≠B.a) (h2:g≠B.b) (h3:g≠B.p):dD C (upd H g o) B w st:=
 ⟨by rw[aB h3.symm];exact h.hp,by rw[aB h1.symm];exact h.ha,by rw[aB h2.symm];exact h.hb,h.ne⟩
theorem J3 (l:List Int) (i j:Nat):dv (l.map V.int) (some (i:Int)) (some (j:Int))=((l.drop i).take (j-i)).map V.int:=by
 unfold dv HT.cX
 simp only [List.length_map]
 rw[if_neg (by lia),if_neg (by lia),Int.toNat_natCast,Int.toNat_natCast,←List.map_drop,←List.map_take,zu]
theorem yQ {F:Sound.Form} {s:List Int}:(Sound.allFrames F s).length=Sound.framesOf F (s.length/F.channels):=by unfold Sound.allFrames;rw[List.length_map,List.length_range]
theorem frames_at {F:Sound.Form} {s:List Int} {i:Nat} (h:i<Sound.framesOf F (s.length/F.channels)):(Sound.allFrames F s).drop i=Sound.frame F i (Sound.samplesAt F s i)::(Sound.allFrames F s).drop (i+1):=by
 rw[List.drop_eq_getElem_cons (by rw[yQ];exact h)]
 congr 1
 unfold Sound.allFrames
 rw[List.getElem_map,List.getElem_range]
theorem N0 {F:Sound.Form} {s:List Int} {i:Nat} (ax:F.ok=true) (hm:s.length%F.channels=0) (hi:i<Sound.framesOf F (s.length/F.channels)) (hf:bM F.depth s):
  ∃n,(Sound.samplesAt F s i).length=F.channels*n∧1≤n∧n≤256∧bM F.depth (Sound.samplesAt F s i):=by
 obtain ⟨⟨hc1,hc2⟩,_,⟨hb1,hb2⟩,_⟩:=jZ ax
 obtain ⟨n,hn⟩: ∃n,s.length=F.channels*n:=⟨s.length/F.channels,by have:=Nat.div_add_mod s.length F.channels;lia⟩
 rw[hn,Nat.mul_div_cancel_left _ (by lia)] at hi
 have h1:i*F.block<n:=by
  unfold Sound.framesOf at hi
  have h2:=Nat.div_mul_le_self (n+F.block-1) F.block
  have h3:=Nat.mul_le_mul (show i+1≤(n+F.block-1)/F.block by lia) (Nat.le_refl F.block)
  rw[Nat.add_mul] at h3
  lia
 refine ⟨min F.block (n-i*F.block),?_,by lia,by lia,fun x hx=>hf x (List.mem_of_mem_drop (List.mem_of_mem_take hx))⟩
 unfold Sound.samplesAt
 rw[List.length_take,List.length_drop,hn,Nat.mul_assoc,←Nat.mul_sub,←Nat.mul_min_mul_left,Nat.mul_comm F.block i]
theorem Lp {F:Sound.Form} {s:List Int} (ax:F.ok=true) (hl:s.length≤2048):Sound.framesOf F (s.length/F.channels)≤129:=by
 obtain ⟨⟨hc1,hc2⟩,_,⟨hb1,hb2⟩,_⟩:=jZ ax
 have:s.length/F.channels≤s.length:=Nat.div_le_self ..
 unfold Sound.framesOf
 refine Nat.div_le_of_le_mul ?_
 have:=Nat.mul_le_mul (show 16≤F.block from hb1) (Nat.le_refl 128)
 lia
theorem OA {g j:Nat} {fs:List Sound.Bytes} (hj:j<4) (hne:fs≠ []) (h8:fs.length≤8) (hl: ∀b∈fs,b.length≤20010):(Sound.spare fs g j).length≤20023:=by
 have e:=congrArg List.length (z5 (g:=g) hj hne h8)
 rw[bg] at e
 rw[e]
 have hall: ∀m∈dR fs,m.length≤20010:=fun m hm=>by
  obtain ⟨b,hb,rfl⟩:=List.mem_map.mp hm
  rw[bg];exact hl b hb
 unfold kZ ji
 have:=F3 hall
 rw[List.length_append,bz,List.length_append,vO (fun m hm=>mr hm),List.length_append,List.length_append,List.length_append,bz,bz,bz]
 show _+1+_+_+_≤_
 lia
theorem BD {F:Sound.Form} {fs:List Sound.Bytes} {g j:Nat} (h:j<F.spare):((Sound.sparesOf F fs g).take (j+1)).flatten=((Sound.sparesOf F fs g).take j).flatten++Sound.spare fs g j:=by
 unfold Sound.sparesOf
 rw[←List.map_take,←List.map_take,List.take_range,List.take_range,Nat.min_eq_left h,Nat.min_eq_left (by lia),List.range_succ,List.map_append,List.flatten_append]
 simp
theorem Ln (T:Txt K mg A):aC P w K mg base aO 11 A.oY A.nN ["form", "numbers"] (IM K A):=by
 refine T.CS.ok iN (fun vs H Q E h=>?_) (fun cdv Ar outer s H vs Q E hr h=>?_)
 ·obtain ⟨f,q,F,s,rfl,_⟩:=h
  rfl
 ·obtain ⟨f,q,F,ss,rfl,⟨df,hf⟩,hq,ax,⟨hm,hl⟩,hfit,k⟩:=h
  have hr1:aR 1 _:=hr.mono (by decide)
  have hr2:aR 2 _:=hr.mono (by decide)
  have hr5:aR 5 _:=hr.mono (by decide)
  refine ⟨_,ak (aI (i:=2) iN.nd rfl (Or.inl rfl) (Fn T.O3 (OI T) hr2 rfl T.QZ T.QU .nil ay))
   (ak (aI (i:=3) iN.nd rfl (Or.inl rfl) (aq eE (aA (pv 0) rfl) (aA (pv 0) rfl)))
   (ak (aI (i:=4) iN.nd rfl (Or.inl rfl) (bC (pv 0) T.bw T.J7 (QC T) hr1 T.L1 .nil ay (aa (aq tm (bf bU (by rfl) T.bW PySem.boot_len (aa (pv 1) ag)) (aA (pv 0) rfl)) ag)))
   (ak (aI (i:=5) iN.nd rfl (Or.inl rfl) (b9 ag))
   (ak (cv PassesOwn.never rfl (jh rfl T.dt (aa (pv 4) ag)) (aT (i:=6) iN.nd rfl (Or.inl rfl))
    (ak (aI (i:=7) iN.nd rfl (Or.inl rfl) (aN (My T) hr rfl T.Ms T.DB.kp T.MB .nil ay (aa (pv 0) (aa (pv 6) (aa (j8 jF (pv 1) (fq (aq eE (pv 6) (pv 3))) (fq (aq eE (aq bE (pv 6) au) (pv 3)))) ag)))))
    (ak (ba (bC (pv 2) T.gZ T.G6 (Uz T) hr1 T.OQ .nil ay (aa (pv 7) ag)))
    (ak (ba (ig PySem.F.plainAttrs_list PySem.F.slot_list_append PySem.F.type_list_append lL (pv 5) (aa (pv 7) ag)))
    (aw (bN (jl (bC (pv 0) T.bw T.Sb (SU T) hr1 T.NY .nil ay (aa (pv 6) (aa (pv 4) ag))))
     (ak (cv PassesOwn.never rfl (jh rfl T.dt (aa (aA (pv 0) rfl) ag)) (aT (i:=8) iN.nd rfl (Or.inl rfl))
       (aw (ba (bC (pv 2) T.gZ T.TJ (Ke T) hr1 T.Iy .nil ay (aa (aN (KO T) hr5 rfl T.UD T.BR.kp T.J4 .nil ay (aa (aq tm (pv 6) (aA (pv 0) rfl)) (aa (pv 8) (aa (pv 5) ag)))) ag)))))
      (aw (aI (i:=5) iN.nd rfl (Or.inl rfl) (b9 ag))))
     bX))))))
   (aw (aS (pv 2))))))),?_⟩
  obtain ⟨⟨hc1,hc2⟩,⟨hd1,hd2⟩,⟨hb1,hb2⟩,ho,⟨hg1,hg2⟩,hsp⟩:=jZ ax
  have hN129:=Lp ax hl
  have z0:([]:List V).length≤sizeLine:=by rw[sizeLine_eq];exact Nat.zero_le _
  intro x dx hx hdx hne
  have sm:ah H (upd (upd H dx (.own x)) x (.ins A.dm dx [])):=dG hx hdx
  refine af x dx ⟨rfl,ao,fun H1 a b ⟨ha0,hb0,hab⟩ s1 hp1 ha1 hb1'=>⟨rfl,?_⟩⟩
  have s01:ah H H1:=fun y o e=>s1 y o (by rw[hide_ne (bD e hx)];exact sm y o e)
  have hBa:H a=none:=sm.none ha0
  have hBb:H b=none:=sm.none hb0
  have hB1:dD A.dm H1 ⟨x,dx,a,b⟩ [] []:=⟨hp1,ha1,hb1',hab⟩
  have hxn: ∀B:el,B=⟨x,dx,a,b⟩→H B.p=none∧H B.a=none∧H B.b=none:=fun B e=>by rw[e];exact ⟨hx,hBa,hBb⟩
  have hf1:=s01 _ _ hf
  refine aE rfl hf1 T.bw T.oG rfl (aE rfl hf1 T.bw T.gA rfl (af _ _ ⟨rfl,rfl, .inl ⟨by lia,by lia⟩,?_⟩))
  refine bA rfl hf1 rfl ⟨_,rfl,af q _ ⟨rfl, .inl (s01.seq hq),aE rfl hf1 T.bw T.gA rfl (af _ _ ⟨rfl,rfl,⟨by lia,by lia⟩,b8 f F (ss.length/F.channels) ⟨?_,⟨df,hf1⟩,⟨by lia,hb2⟩,?_⟩⟩)⟩⟩
  ·rw[List.length_map];rfl
  refine ⟨z0,fun g0 hg0=>⟨_,rfl,((Sound.framesOf F (ss.length/F.channels):Nat):Int),rfl,by lia,by lia,?_⟩⟩
  rw[Int.toNat_natCast]
  have sg:=aQ (o:= .lst []) hg0
  generalize hBB:(⟨x,dx,a,b⟩:el)=B at*
  rw[show x=B.p by rw[←hBB]]
  obtain ⟨hBp,hBa,hBb⟩:=hxn B rfl
  unfold bodyOf at k
  rw[yQ] at k
  generalize hTT:eU F (Sound.framesOf F (ss.length/F.channels)) (Sound.allFrames F ss) 0 [] [] []=TT at*
  have hg0B:g0≠B.a∧g0≠B.b∧g0≠B.p:=⟨(bD hB1.ha hg0).symm,(bD hB1.hb hg0).symm,(bD hB1.hp hg0).symm⟩
  refine jE (n:=Sound.framesOf F (ss.length/F.channels)) (fun i σ H'=> ∃(g:Addr) (grp:List Sound.Bytes) (w':Sound.Bytes) (st:List Nat) (v6 v7 v8:Option V),σ= [some (.ref f),some (.ref q),some (.ref B.p),some (.int (((F.block:Nat):Int)*((F.channels:Nat):Int))),some (.int ((Sound.framesOf F (ss.length/F.channels):Nat):Int)),some (.ref g),v6,v7,v8]∧
    ah H H'∧dD A.dm H' B w' st∧gp (cS B H') g grp∧(H g=none∧g≠B.p)∧((i<Sound.framesOf F (ss.length/F.channels)→grp.length=i%F.group)∧(∀m∈grp,m.length≤20010)∧w'.length≤100102*i∧st.length=i)∧
    eU F (Sound.framesOf F (ss.length/F.channels)) ((Sound.allFrames F ss).drop i) i w' st grp=TT) ?_ ?_ ?_
  ·refine ⟨g0, [], [], [],none,none,none,rfl,s01.trans sg,hB1.same sg,⟨[],?_,rfl,fun k a e=>by simp at e⟩,⟨s01.none hg0,hg0B.2.2⟩,⟨fun _=>by simp,(fun m hm=>by cases hm),Nat.le_refl _,rfl⟩,hTT⟩
   unfold cS
   rw[hide_ne hg0B.1,hide_ne hg0B.2.1];exact ao
  ·rintro i σ H2 aU ⟨g,grp,w',st,v6,v7,v8,rfl,s2,hB2,hG2,⟨hgn,hgp⟩,⟨hgi,hgm,hwl,hsl⟩,hS⟩
   have hf2:=s2 _ _ hf
   obtain ⟨n,hn1,hn2,hn3,hn4⟩:=N0 ax hm aU hfit
   rw[show (0:Int)+(i:Nat)=(i:Nat) by lia]
   have hmul: ∀j:Nat,((j:Nat):Int)*(((F.block:Nat):Int)*((F.channels:Nat):Int))=((j*(F.block*F.channels):Nat):Int):=fun j=>by rw[Int.natCast_mul,Int.natCast_mul]
   refine ⟨_,rfl,_,rfl,_,rfl,_,rfl,_,rfl,af _ _ ⟨rfl,rfl, .inl ⟨by lia,by lia⟩,_,rfl,?_⟩⟩
   refine ⟨_,rfl,af _ _ ⟨rfl,rfl,_,rfl,af _ _ ⟨rfl,rfl, .inl ⟨by lia,by lia⟩,_,rfl,af q _ ⟨rfl,s2.seq hq,fun p hp=>?_⟩⟩⟩⟩
   have ecut:upd H2 p (.lst (dv (ss.map V.int) (some (((i:Nat):Int)*(((F.block:Nat):Int)*((F.channels:Nat):Int)))) (some ((((i:Nat):Int)+1)*(((F.block:Nat):Int)*((F.channels:Nat):Int)))))) p=some (.lst ((Sound.samplesAt F ss i).map V.int)):=by
    rw[ao,show ((i:Nat):Int)+1=((i+1:Nat):Int) by lia,hmul,hmul,J3]
    unfold Sound.samplesAt
    rw[show (i+1)*(F.block*F.channels)-i*(F.block*F.channels)=F.channels*F.block by rw[←Nat.sub_mul,Nat.add_sub_cancel_left,Nat.one_mul,Nat.mul_comm],show i*(F.block*F.channels)=F.channels*F.block*i by rw[Nat.mul_comm,Nat.mul_comm F.block]]
   have sp:=aQ (o:= .lst (dv (ss.map V.int) (some (((i:Nat):Int)*(((F.block:Nat):Int)*((F.channels:Nat):Int)))) (some ((((i:Nat):Int)+1)*(((F.block:Nat):Int)*((F.channels:Nat):Int)))))) hp
   dsimp only
   generalize upd H2 p (.lst (dv (ss.map V.int) (some (((i:Nat):Int)*(((F.block:Nat):Int)*((F.channels:Nat):Int)))) (some ((((i:Nat):Int)+1)*(((F.block:Nat):Int)*((F.channels:Nat):Int))))))=H3 at*
   have hfl:=Rc (k:=i) hc1 hc2 hd1 hd2 ho hn1 hn2 (by lia) hn4
   rw[frames_at aU,eU] at hS
   refine b8 f p F ⟨i,n,_,rfl,⟨df,_,_,sp _ _ hf2⟩,ae.of ecut,⟨hc1,hc2⟩,⟨hd1,hd2,ho⟩,⟨hn1,hn2,hn3⟩,hn4,(by show i<1048576;lia),fun D H4 hD s4 hx4=>?_⟩
   generalize hfr:Sound.frame F i (Sound.samplesAt F ss i)=fr at*
   have hfl:fr.length≤20010:=by rw[List.length_map] at hfl;exact hfl
   have s24:=sp.trans s4
   have hB4:=hB2.same s24
   have hG4:=hG2.same (Au s24)
   have hDa:D≠B.a:=(bD (hB2.same sp).ha hD).symm
   have hDb:D≠B.b:=(bD (hB2.same sp).hb hD).symm
   have hDg:D≠g:=fun z=>by
    obtain ⟨as,ha1,_⟩:=hG2
    have:=sp _ _ (Af ha1).1
    rw[←z,hD] at this;cases this
   have hfr4:cS B H4 D=some (.lst (vN (bn fr))):=by unfold cS;rw[hide_ne hDa,hide_ne hDb];exact hx4
   have s04:=s2.trans s24
   refine bA rfl hB4.hp rfl ⟨_,rfl,fT B D w' fr st ⟨rfl,hB4,hx4,⟨hDb,by lia,by lia⟩,?_⟩⟩
   have hB5:=hB4.put (w':=w'++fr) (st':=st++ [w'.length])
   have s05:ah H (upd (upd H4 B.b (.lst (vN (st++ [w'.length])))) B.a (.lst (vN (bn (w'++fr))))):=eO (eO s04 hBb) hBa
   have e5:=Py (B:=B) (H:=H4) (x:= .lst (vN (st++ [w'.length]))) (y:= .lst (vN (bn (w'++fr))))
   generalize upd (upd H4 B.b (.lst (vN (st++ [w'.length])))) B.a (.lst (vN (bn (w'++fr))))=H5 at*
   rw[←e5] at hG4 hfr4
   obtain ⟨as,ha1,ha2,ha3⟩:=hG4
   obtain ⟨hg5,hga,hgb⟩:=Af ha1
   have hgl8:(grp++ [fr]).length≤8:=by
    rw[List.length_append,hgi aU]
    have:=Nat.mod_lt i hg1
    show _+1≤8
    lia
   refine ⟨_,rfl, .inl ⟨rfl,_,ae.of hg5⟩,_,rfl,b8 g _ _ ⟨rfl,rfl,hg5,(by rw[List.length_map,ha2,sizeLine_eq];rw[List.length_append] at hgl8;lia),?_⟩⟩
   have hB6:=hB5.off (o:= .lst (as.map V.ref++ [V.ref D])) hga hgb hgp
   have s06:ah H (upd H5 g (.lst (as.map V.ref++ [V.ref D]))):=eO s05 hgn
   have hG6:gp (cS B (upd H5 g (.lst (as.map V.ref++ [V.ref D])))) g (grp++ [fr]):=by
    rw[KI hga hgb]
    exact gp.push ha1 ha2 ha3 hfr4 hDg
   generalize upd H5 g (.lst (as.map V.ref++ [V.ref D]))=H6 at*
   have hf6:=s06 _ _ hf
   refine bA rfl hf6 rfl ⟨_,rfl,_,rfl,az f F i _ ⟨rfl,⟨df,hf6⟩,hg1,_,rfl,?_⟩⟩
   have hall: ∀m∈grp++ [fr],m.length≤20010:=fun m hmm=>by
    rcases List.mem_append.mp hmm with hmm|hmm
    ·exact hgm m hmm
    ·rw[List.mem_singleton.mp hmm];exact hfl
   have hne:grp++ [fr]≠ []:=by simp
   by_cases c3:(i+1)%F.group=0∨i+1=Sound.framesOf F (ss.length/F.channels)
   case neg=>
    rw[if_neg c3] at hS
    rw[decide_eq_false c3]
    refine bJ (qi g (grp++ [fr]) (w'++fr) (st++ [w'.length]) _ _ _ ⟨rfl,s06,hB6,hG6,⟨hgn,hgp⟩,⟨fun _=>?_,hall,by rw[List.length_append];lia,by rw[List.length_append,hsl];rfl⟩,hS⟩)
    rw[List.length_append,hgi aU]
    show i%F.group+1=_
    have h1:=Nat.mod_lt i hg1
    rcases Nat.lt_or_ge (i%F.group+1) F.group with z|z
    ·rw[Nat.add_mod,Nat.mod_eq_of_lt (show 1<F.group by lia),Nat.mod_eq_of_lt z]
    ·exfalso
     refine c3 (.inl ?_)
     have e1:i+1=(i%F.group+1)+F.group*(i/F.group):=by
      have:=Nat.mod_add_div i F.group
      lia
     rw[e1,Nat.add_mul_mod_self_left,show i%F.group+1=F.group by lia,Nat.mod_self]
   rw[if_pos c3] at hS
   rw[decide_eq_true c3]
   generalize hg1':grp++ [fr]=grp1 at*
   refine bx (aE rfl hf6 T.bw T.wG rfl ⟨((F.spare:Nat):Int),rfl,by lia,by lia,?_⟩)
   rw[Int.toNat_natCast]
   refine jE (lo:=0) (n:=F.spare) (fun j σ H'=>(∃v8:Option V,σ= [some (.ref f),some (.ref q),some (.ref B.p),some (.int (((F.block:Nat):Int)*((F.channels:Nat):Int))),some (.int ((Sound.framesOf F (ss.length/F.channels):Nat):Int)),some (.ref g),some (.int (i:Nat)),some (.ref D),v8])∧
     ah H H'∧dD A.dm H' B (w'++fr++((Sound.sparesOf F grp1 (i/F.group)).take j).flatten) (st++ [w'.length])∧gp (cS B H') g grp1∧(w'++fr++((Sound.sparesOf F grp1 (i/F.group)).take j).flatten).length≤100102*i+20010+20023*j) ?_ ?_ ?_
   ·exact ⟨⟨_,rfl⟩,s06,by simpa using hB6,hG6,by simp;lia⟩
   ·rintro j σ H7 hj ⟨⟨v8,rfl⟩,s7,hB7,hG7,hw7⟩
    have hf7:=s7 _ _ hf
    have hpl:=OA (g:=i/F.group) (show j<4 by lia) hne hgl8 hall
    refine bA rfl hB7.hp rfl ⟨_,rfl,aE rfl hf7 T.bw T.sZ rfl (af _ _ ⟨rfl,rfl,⟨by lia,by lia⟩,_,rfl,_,rfl,az (i/F.group) j g (dR grp1) ⟨?_,(hG7.same (Mc B H7)).rows,⟨by lia,by unfold dR;rw[List.length_map];exact List.length_pos_iff.mpr hne,by unfold dR;rw[List.length_map];exact hgl8⟩,fun m hmm=>?_,fun D8 H8 hD8 s8 hx8=>?_⟩⟩)⟩
    ·show [V.int (((i:Nat):Int)/((F.group:Nat):Int)),V.int (0+((j:Nat):Int)),V.ref g]=_
     rw[←Int.natCast_ediv,Int.zero_add]
    ·obtain ⟨bb,hbb,rfl⟩:=List.mem_map.mp hmm
     exact ⟨by rw[bg];have:=hall bb hbb;lia,j6 bb⟩
    ·rw[←z5 (show j<4 by lia) hne hgl8] at hx8
     have hB8:=hB7.same s8
     refine fT B D8 _ _ _ ⟨rfl,hB8,hx8,by lia,⟨_,rfl⟩,eO (s7.trans s8) hBa,?_,?_,?_⟩
     ·rw[BD hj,←List.append_assoc];exact hB8.tY
     ·rw[Jk];exact hG7.same (Au s8)
     ·rw[BD hj,←List.append_assoc,List.length_append];lia
   ·rintro σ H7 ⟨⟨v8,rfl⟩,s7,hB7,hG7,hw7⟩
    rw[List.take_of_length_le (by unfold Sound.sparesOf;rw[List.length_map,List.length_range];exact Nat.le_refl _)] at hB7 hw7
    refine ⟨z0,fun g' hg'=>?_⟩
    have sg':=aQ (o:= .lst []) hg'
    refine qi g' [] _ _ _ _ _ ⟨rfl,s7.trans sg',hB7.same sg',⟨[],?_,rfl,fun k a e=>by simp at e⟩,⟨s7.none hg',(bD hB7.hp hg').symm⟩,⟨fun hi2=>?_,(fun m hmm=>by cases hmm),by lia,by rw[List.length_append,hsl];rfl⟩,hS⟩
    ·unfold cS
     rw[hide_ne (bD hB7.ha hg').symm,hide_ne (bD hB7.hb hg').symm];exact ao
    ·rcases c3 with c3|c3
     ·rw[c3];rfl
     ·lia
  ·rintro σ H2 ⟨g,grp,w',st,v6,v7,v8,rfl,s2,hB2,hG2,_,⟨_,_,hwl,hsl⟩,hS⟩
   rw[List.drop_of_length_le (Nat.le_of_eq yQ),eU] at hS
   have e1:w'=TT.2:=by rw[←hS]
   have e2:st=TT.1:=by rw[←hS]
   subst e1 e2
   exact ⟨_,rfl,k B H2 s2 hB2 ⟨by lia,by lia⟩⟩
def GY (K:PySem.W.Frag):Sp:=fun vs H Q _=> ∃(q:Addr) (l:List Nat),vs= [.ref q]∧ae K H q (vN l)∧l.length≤1000∧fQ H Q (bn (Sound.indexOf l))
theorem vf:aM ["starts", "entries", "start"] ["starts"] (aG B5):=⟨rfl,rfl,rfl,by decide+kernel,rfl,by decide+kernel,by decide+kernel⟩
theorem ve (l:List Nat):(l.flatMap (Sound.high 3)).length=3*l.length:=by
 induction l with
 |nil=>rfl
 |cons x l ih=>rw[List.flatMap_cons,List.length_append,ih,List.length_cons];show 3+_=_;lia
theorem Mm (T:Txt K mg A):aC P w K mg base aO 3 A.pQ A.mS ["starts"] (GY K):=by
 refine T.FG.ok vf (fun vs H Q E h=>?_) (fun cdv Ar outer s H vs Q E hr h=>?_)
 ·obtain ⟨q,l,rfl,_⟩:=h
  rfl
 ·obtain ⟨q,l,rfl,hq,hl,k⟩:=h
  have hr1:aR 1 _:=hr.mono (by decide)
  refine ⟨_,ak (aI (i:=1) vf.nd rfl (Or.inl rfl) (b9 ag))
   (ak (cv PassesOwn.never rfl (cg (pv 0)) (aT (i:=2) vf.nd rfl (Or.inl rfl))
    (aw (ba (ig PySem.F.plainAttrs_list PySem.F.slot_list_extend PySem.F.type_list_extend rp (pv 1) (aa (aN (gj T) hr1 rfl T.f9 T.fH.kp T.f7 .nil ay (aa (aY rfl T.JM) (aa (pv 2) ag))) ag)))))
   (aw (aS (aN (sI T) hr rfl T.rD T.qw.kp T.tu .nil ay (aa (pv 1) ag))))),?_⟩
  refine ⟨(by rw[sizeLine_eq];exact Nat.zero_le _),fun L hL=>?_⟩
  have sL:=aQ (o:= .lst []) hL
  refine ⟨_,rfl,q,rfl,⟨_,sL.seq hq⟩,?_⟩
  refine eA (K:=K) (a:=q) (xs:=vN l) (fun i σ H'=>(∃v2:Option V,σ= [some (.ref q),some (.ref L),v2])∧ah H H'∧H' L=some (.lst (vN (bn ((l.take i).flatMap (Sound.high 3)))))) ⟨⟨none,rfl⟩,sL,ao⟩ (fun i σ H' _ ⟨_,s',_⟩=>s'.seq hq) ?_ ?_
  ·rintro i x σ H1 hi ⟨⟨v2,rfl⟩,s1,hL1⟩
   obtain ⟨rfl,hil⟩:=fE hi
   refine ⟨_,rfl, .inl ⟨rfl,_,ae.of hL1⟩,_,rfl,af 3 (l.getD i 0) ⟨rfl,by decide,fun D H2 hD s2 hx=>?_⟩⟩
   have e:(l.take (i+1)).flatMap (Sound.high 3)=(l.take i).flatMap (Sound.high 3)++Sound.high 3 (l.getD i 0):=by
    rw[List.take_succ,List.getElem?_eq_getElem hil,List.flatMap_append,getD_at hil]
    simp
   refine az L D _ _ ⟨rfl,rfl,s2 _ _ hL1,hx,(by rw[aK,aK,bg,ve,bz,List.length_take,sizeLine_eq];lia),⟨_,rfl⟩,eO (s1.trans s2) hL,?_⟩
   rw[ao,e,←ei,←cO,←dc]
  ·rintro σ H1 ⟨⟨v2,rfl⟩,s1,hL1⟩
   rw[aK,List.take_length] at hL1
   refine ⟨_,rfl,af L _ ⟨rfl,ae.of hL1,j6 _,by rw[bg,ve];lia,fun D H2 hD s2 hx=>k D H2 (s1.none hD) (s1.trans s2) ?_⟩⟩
   rw[hx]
   unfold Sound.indexOf
   dsimp only
   rw[rC]
def L6 (K:PySem.W.Frag) (A:cF):Sp:=fun vs H Q _=> ∃(f q t:Addr) (F:Sound.Form) (s:List Int) (l:List Sound.Bytes) (pad:Nat),vs= [.ref f, .ref q, .ref t]∧mX A.bI H f F∧ae K H q (s.map V.int)∧ae K H t (vN (bn (Sound.tagArea l pad)))∧F.ok=true∧(s.length%F.channels=0∧s.length≤2048∧(Sound.tagArea l pad).length≤1024)∧bM F.depth s∧
 ((Sound.pack F s l pad).length≤16000000→ ∀D H',ah H H'→H' D=some (.lst (vN (bn (Sound.pack F s l pad))))→Q (.ref D) H')
theorem tK:aM ["form", "numbers", "tags_part", "head", "body", "index"] ["form", "numbers", "tags_part"] (aG EW):=⟨rfl,rfl,rfl,by decide+kernel,rfl,by decide+kernel,by decide+kernel⟩
theorem Mv {F:Sound.Form} {s:List Int} {l:List Sound.Bytes} {pad:Nat} (ax:F.ok=true):Sound.pack F s l pad=Sound.headOf F (s.length/F.channels) (Sound.tagArea l pad).length++Sound.tagArea l pad++Sound.indexOf (bodyOf F s).1++(bodyOf F s).2++Sound.indexOf (bodyOf F s).1++Sound.headOf F (s.length/F.channels) (Sound.tagArea l pad).length++Sound.high 4 (Sound.crc32 (Sound.plain F s)):=by
 obtain ⟨_,_,_,_,⟨hg1,_⟩,_⟩:=jZ ax
 unfold bodyOf
 rw[Io hg1]
 unfold Sound.pack
 simp only [List.append_assoc]
theorem RL {F:Sound.Form} {n t:Nat}:(Sound.headOf F n t).length=26:=rfl
theorem Qm (l:List Nat):(Sound.indexOf l).length=3*l.length+4:=by
 unfold Sound.indexOf
 dsimp only
 rw[List.length_append,ve];rfl
theorem J1 (T:Txt K mg A):aC P w K mg base aO 12 A.nq A.qR ["form", "numbers", "tags_part"] (L6 K A):=by
 refine T.Ba.ok tK (fun vs H Q E h=>?_) (fun cdv Ar outer s H vs Q E hr h=>?_)
 ·obtain ⟨f,q,t,F,s,l,pad,rfl,_⟩:=h
  rfl
 ·obtain ⟨f,q,t,F,ss,l,pad,rfl,⟨df,hf⟩,hq,ht,ax,⟨hm,hl,htl⟩,hfit,k⟩:=h
  have hr2:aR 2 _:=hr.mono (by decide)
  have hr3:aR 3 _:=hr.mono (by decide)
  refine ⟨_,ak (aI (i:=3) tK.nd rfl (Or.inl rfl) (aN (Ux T) hr3 rfl T.Su T.Fy.kp T.JA .nil ay (aa (pv 0) (aa (aq tm (bf bU (by rfl) T.bW PySem.boot_len (aa (pv 1) ag)) (aA (pv 0) rfl)) (aa (bf bU (by rfl) T.bW PySem.boot_len (aa (pv 2) ag)) ag)))))
   (ak (aI (i:=4) tK.nd rfl (Or.inl rfl) (aN (Ln T) hr rfl T.N2 T.CS.kp T.RF .nil ay (aa (pv 0) (aa (pv 1) ag))))
   (ak (aI (i:=5) tK.nd rfl (Or.inl rfl) (aN (Mm T) hr3 rfl T.KU T.FG.kp T.Oq .nil ay (aa (aA (pv 4) rfl) ag)))
   (aw (aS (aq dW (aq dW (aq dW (aq dW (aq dW (aq dW (pv 3) (pv 2)) (pv 5)) (aA (pv 4) rfl)) (pv 5)) (pv 3)) (aN (PZ T) hr2 rfl T.Rz T.Eg.kp T.IQ .nil ay (aa (aA (pv 0) rfl) (aa (pv 1) ag)))))))),?_⟩
  obtain ⟨⟨hc1,hc2⟩,⟨hd1,hd2⟩,_⟩:=jZ ax
  rw[Mv ax] at k
  refine ⟨_,rfl,_,rfl,af q _ ⟨rfl, .inl hq,aE rfl hf T.bw T.gA rfl (af _ _ ⟨rfl,rfl,⟨by lia,by lia⟩,_,rfl,af t _ ⟨rfl, .inl ht,az f F (ss.length/F.channels) (Sound.tagArea l pad).length ⟨?_,⟨df,hf⟩,ax,fun D1 H1 hD1 s1 hx1=>?_⟩⟩⟩)⟩⟩
  ·rw[List.length_map,aK,bg];rfl
  refine ⟨_,rfl,_,rfl,az f q F ss ⟨rfl,⟨df,s1 _ _ hf⟩,s1.seq hq,ax,⟨hm,hl⟩,hfit,fun B H2 s2 hB ⟨hw2,hs2⟩=>?_⟩⟩
  refine aE rfl hB.hp T.gZ T.xN rfl (af B.b _ ⟨rfl,ae.of hB.hb,by lia,fun D3 H3 hD3 s3 hx3=>?_⟩)
  have hh2:=s2 _ _ hx1
  generalize hhd:Sound.headOf F (ss.length/F.channels) (Sound.tagArea l pad).length=hd at*
  have hhl:hd.length=26:=by rw[←hhd];exact RL
  generalize hix:Sound.indexOf (bodyOf F ss).1=ix at*
  have hil:ix.length≤391:=by rw[←hix,Qm];lia
  generalize (bodyOf F ss).2=wr at*
  generalize Sound.tagArea l pad=tg at*
  have s03:=s1.trans (s2.trans s3)
  have hD3':=s3 _ _ hh2
  have hBa:=s3 _ _ hB.ha
  have hBp:=s3 _ _ hB.hp
  have cat: ∀(a b:Sound.Bytes) (Hh:Hp) (p:Addr),Hh p=none→upd Hh p (.lst (vN (bn a)++vN (bn b))) p=some (.lst (vN (bn (a++b)))):=fun a b Hh p _=>by rw[ao,dc,cO]
  refine ⟨_,rfl,_,rfl,az D1 t _ _ ⟨rfl,rfl,ae.of hD3',s03.seq ht,(by rw[aK,aK,bg,bg,sizeLine_eq];lia),fun p1 hp1=>⟨_,rfl,?_⟩⟩⟩
  have c1:=cat hd tg _ _ hp1
  have t1:=aQ (o:= .lst (vN (bn hd)++vN (bn tg))) hp1
  generalize upd H3 p1 (.lst (vN (bn hd)++vN (bn tg)))=G1 at*
  refine az p1 D3 _ _ ⟨rfl,rfl,ae.of c1,ae.of (t1 _ _ hx3),(by rw[aK,aK,bg,bg,sizeLine_eq,List.length_append];lia),fun p2 hp2=>?_⟩
  have c2:=cat (hd++tg) ix _ _ hp2
  have t2:=t1.trans (aQ (o:= .lst (vN (bn (hd++tg))++vN (bn ix))) hp2)
  generalize upd G1 p2 (.lst (vN (bn (hd++tg))++vN (bn ix)))=G2 at*
  refine aE rfl (t2 _ _ hBp) T.gZ T.oI rfl (az p2 B.a _ _ ⟨rfl,rfl,ae.of c2,ae.of (t2 _ _ hBa),(by rw[aK,aK,bg,bg,sizeLine_eq,List.length_append,List.length_append];lia),fun p3 hp3=>⟨_,rfl,?_⟩⟩)
  have c3:=cat (hd++tg++ix) wr _ _ hp3
  have t3:=t2.trans (aQ (o:= .lst (vN (bn (hd++tg++ix))++vN (bn wr))) hp3)
  generalize upd G2 p3 (.lst (vN (bn (hd++tg++ix))++vN (bn wr)))=G3 at*
  refine az p3 D3 _ _ ⟨rfl,rfl,ae.of c3,ae.of (t3 _ _ hx3),(by rw[aK,aK,bg,bg,sizeLine_eq,List.length_append,List.length_append,List.length_append];lia),fun p4 hp4=>⟨_,rfl,?_⟩⟩
  have c4:=cat (hd++tg++ix++wr) ix _ _ hp4
  have t4:=t3.trans (aQ (o:= .lst (vN (bn (hd++tg++ix++wr))++vN (bn ix))) hp4)
  generalize upd G3 p4 (.lst (vN (bn (hd++tg++ix++wr))++vN (bn ix)))=G4 at*
  refine az p4 D1 _ _ ⟨rfl,rfl,ae.of c4,ae.of (t4 _ _ hD3'),(by rw[aK,aK,bg,bg,sizeLine_eq,List.length_append,List.length_append,List.length_append,List.length_append];lia),fun p5 hp5=>?_⟩
  have c5:=cat (hd++tg++ix++wr++ix) hd _ _ hp5
  have t5:=t4.trans (aQ (o:= .lst (vN (bn (hd++tg++ix++wr++ix))++vN (bn hd))) hp5)
  generalize upd G4 p5 (.lst (vN (bn (hd++tg++ix++wr++ix))++vN (bn hd)))=G5 at*
  have s05:=s03.trans t5
  refine aE rfl (s05 _ _ hf) T.bw T.iB rfl ⟨_,rfl,b8 F.depth q ss ⟨rfl,s05.seq hq,⟨hd2,by lia⟩,fun D6 H6 hD6 s6 hx6=>?_⟩⟩
  refine az p5 D6 _ _ ⟨rfl,rfl,ae.of (s6 _ _ c5),ae.of hx6,(by rw[aK,aK,bg,bg,sizeLine_eq,List.length_append,List.length_append,List.length_append,List.length_append,List.length_append];show _+4≤_;lia),fun p7 hp7=>?_⟩
  refine k ?_ p7 _ ((s05.trans s6).trans (aQ hp7)) (cat (hd++tg++ix++wr++ix++hd) _ _ _ hp7)
  rw[List.length_append,List.length_append,List.length_append,List.length_append,List.length_append,List.length_append]
  show _+4≤_
  lia
theorem NN {tg:Sound.Bytes} {pad:Nat} {t:List Sound.Bytes} (e:Sound.tagList tg pad=some t):(Sound.tagArea t pad).length≤1024:=by
 unfold Sound.tagList at e
 cases e3:Sound.tagsIn (tg.length+1) tg with
 |none=>rw[e3] at e;cases e
 |some l3=>
  rw[e3] at e
  dsimp only at e
  split at e
  ·rename_i hc
   cases e
   simp only [Bool.and_eq_true,decide_eq_true_eq,Sound.AREA] at hc
   unfold Sound.tagArea Sound.high
   dsimp only
   rw[List.length_append,List.length_append,List.length_append,xq _ _ _ e3,List.length_map,List.length_map,List.length_range,List.length_range,List.length_replicate]
   lia
  ·cases e
def yH (F:Sound.Form) (s:List Int) (tg:Sound.Bytes) (pad:Nat):List Int:=if s.length%F.channels≠0∨2048<s.length then [-1] else if Sound.allFit F.depth s=false then [-2] else match Sound.tagList tg pad with
 |none=> [-3]
 |some t=>Sound.fileOut (Sound.pack F s t pad)
theorem NU {pad:Int} {fm s tags:List Int} (h:Sound.formOf (jW fm)=none):PyWqaubg.pack pad fm s tags= [-1]:=by
 show Sound.ofForm (jW fm) _=_
 unfold Sound.ofForm
 rw[h];rfl
theorem IV {pad:Nat} {fm s tags:List Int} {F:Sound.Form} (h:Sound.formOf (jW fm)=some F):PyWqaubg.pack (pad:Int) fm s tags=yH F s (jf tags) pad:=by
 show Sound.ofForm (jW fm) _=_
 unfold Sound.ofForm
 rw[h]
 show (match Sound.samplesOf F s with
  |none=> [-1]
  |some _=>if 2048<s.length then [-1] else if Sound.allFit F.depth s=false then [-2] else match Sound.tagList (jf tags) ((pad:Nat):Int).toNat with
   |none=> [-3]
   |some t=>Sound.fileOut (Sound.pack F s t ((pad:Nat):Int).toNat))=_
 rw[Int.toNat_natCast]
 unfold yH Sound.samplesOf
 by_cases c:s.length%F.channels=0
 ·rw[if_pos c]
  by_cases c2:2048<s.length
  ·rw[if_pos (show s.length%F.channels≠0∨2048<s.length from .inr c2)]
   exact if_pos c2
  ·rw[if_neg (show¬(s.length%F.channels≠0∨2048<s.length) from fun z=>z.elim (fun y=>y c) c2)]
   exact if_neg c2
 ·rw[if_neg c,if_pos (show s.length%F.channels≠0∨2048<s.length from .inl c)]
theorem Tg {W:Nat} (h:1≤W) (n:Int):eP (W:Int) n=Sound.fits W n:=by
 unfold eP Sound.fits
 rw[show ((W:Int)-1).toNat=W-1 by lia]
def Eu (K:PySem.W.Frag):Sp:=fun vs H Q _=> ∃(pad:Int) (b a r:Addr) (fm s tags:List Int),vs= [.int pad, .ref b, .ref a, .ref r]∧ae K H b (fm.map V.int)∧ae K H a (s.map V.int)∧ae K H r (tags.map V.int)∧0≤pad∧(∀z∈fm,0≤z)∧s.length≤2100∧(tags.length≤2048∧(∀x∈tags,0≤x∧x≤255))∧
 ∀(H':Hp) (p:Addr),H' p=some (.lst ((PyWqaubg.pack pad fm s tags).map V.int))→Q (.ref p) H'
theorem wo:aM ["pad", "form", "numbers", "tags", "shape", "tags_part"] ["pad", "form", "numbers", "tags"] (aG FR):=⟨rfl,rfl,rfl,by decide+kernel,rfl,by decide+kernel,by decide+kernel⟩
theorem Ld (T:Txt K mg A):aC P w K mg base aO 13 A.lQ A.jH ["pad", "form", "numbers", "tags"] (Eu K):=by
 refine T.TV.ok wo (fun vs H Q E h=>?_) (fun cdv Ar outer s H vs Q E hr h=>?_)
 ·obtain ⟨pad,b,a,r,fm,s,tags,rfl,_⟩:=h
  rfl
 ·obtain ⟨pad,b,a,r,fm,ns,tags,rfl,hb,ha,hr',hpad,hfm,hnl,⟨htl,htb⟩,k⟩:=h
  obtain ⟨pad,rfl⟩: ∃b:Nat,pad=(b:Int):=⟨pad.toNat,by lia⟩
  have hr1:aR 1 _:=hr.mono (by decide)
  have hr2:aR 2 _:=hr.mono (by decide)
  have hr7:aR 7 _:=hr.mono (by decide)
  refine ⟨_,ak (bN (tT (jl (aN (JK T) hr1 rfl T.OZ T.GG.kp T.QA .nil ay (aa (pv 1) ag)))) (aw (aS (b9 (aa (dB dz au) ag)))) bX)
   (ak (aI (i:=4) wo.nd rfl (Or.inl rfl) (eJ T.SK (IK T) hr2 rfl T.Qh T.Um .nil ay (aa (pv 1) ag)))
   (ak (bN (PW.pt (tE (bO xM (aq tZ (bf bU (by rfl) T.bW PySem.boot_len (aa (pv 2) ag)) (aA (pv 4) rfl)) au (bo _)) (sW (bO iv (bf bU (by rfl) T.bW PySem.boot_len (aa (pv 2) ag)) (aY rfl T.RT) (bo _))))) (aw (aS (b9 (aa (dB dz au) ag)))) bX)
   (ak (bN (tT (jl (aN (Ll T) hr2 rfl T.P4 T.Dx.kp T.KR .nil ay (aa (aA (pv 4) rfl) (aa (pv 2) ag))))) (aw (aS (b9 (aa (dB dz au) ag)))) bX)
   (ak (Si rfl rfl rfl (fun E pn xe hp ho=>aw (aI (i:=5) wo.nd rfl (Or.inl rfl) (Ss (OW T) hr7 rfl T.Mw T.zp.kp T.Ut .nil hp (aa (pv 0) (aa (pv 3) ag)))))
    (OD rfl T.ua rfl T.rG (fun x ps n _=>aw (aS (b9 (aa (dB dz au) ag))))))
   (aw (aS (aN (G8 T) hr2 rfl T.KJ T.AK.kp T.Lg .nil ay (aa (aN (J1 T) hr rfl T.N1 T.Ba.kp T.OX .nil ay (aa (pv 4) (aa (pv 2) (aa (pv 5) ag)))) ag)))))))),?_⟩
  rw[Ui hfm] at hb
  rw[MK htb] at hr'
  have hT:(jf tags).length≤2048:=by rw[Sd];exact htl
  have one1:(1:Nat)≤sizeLine:=by rw[sizeLine_eq];lia
  have w1: ∀z:Int,PyWqaubg.pack (pad:Int) fm ns tags= [z]→ ∀Hh p,Q (.ref p) (upd Hh p (.lst [V.int z])):=fun z h Hh p=>k _ p (by rw[ao,h];rfl)
  refine ⟨_,rfl,af b _ ⟨rfl,hb,fun H1 s1=>⟨_,rfl,?_⟩⟩⟩
  cases hform:Sound.formOf (jW fm) with
  |none=>exact bx ⟨1,rfl,one1,fun p hp=>w1 (-1) (NU hform) _ p⟩
  |some F=>
   obtain ⟨hl6,ax⟩:=Nv hform
   obtain ⟨⟨hc1,hc2⟩,⟨hd1,hd2⟩,_⟩:=jZ ax
   have hfr:=IV (pad:=pad) (s:=ns) (tags:=tags) hform
   generalize jf tags=tg at*
   refine bJ ⟨_,rfl,?_⟩
   intro x dx hx hdx hne
   have sm:ah H1 (upd (upd H1 dx (.own x)) x (.ins A.bI dx [])):=dG hx hdx
   rw[hl6] at hb
   refine Cp x dx b F.channels F.depth F.block F.order F.group F.spare ⟨rfl,ao,sm.seq (s1.seq hb),rfl,?_⟩
   rw[gL]
   have s2:ah H (upd (upd H1 dx (.own x)) x (.ins A.bI dx (lq (.int F.channels) (.int F.depth) (.int F.block) (.int F.order) (.int F.group) (.int F.spare)))):=s1.trans (dG hx hdx)
   have hx2:upd (upd H1 dx (.own x)) x (.ins A.bI dx (lq (.int F.channels) (.int F.depth) (.int F.block) (.int F.order) (.int F.group) (.int F.spare))) x=_:=ao
   generalize upd (upd H1 dx (.own x)) x (.ins A.bI dx (lq (.int F.channels) (.int F.depth) (.int F.block) (.int F.order) (.int F.group) (.int F.spare)))=H2 at*
   have ha2:=s2.seq ha
   refine ⟨_,rfl,af a _ ⟨rfl, .inl ha2,aE rfl hx2 T.bw T.gA rfl (af _ _ ⟨rfl,rfl,(by lia),rfl,_,rfl,?_⟩)⟩⟩
   have hlen:((ns.map V.int).length:Nat)=ns.length:=List.length_map ..
   rw[hlen]
   unfold yH at hfr
   by_cases hm:ns.length%F.channels=0
   case neg=>
    rw[decide_eq_false (fun z=>hm (by have:=V.int.inj z;rw[←Int.natCast_emod] at this;lia))]
    rw[if_pos (.inl hm)] at hfr
    exact bx (bx ⟨1,rfl,one1,fun p hp=>w1 (-1) hfr _ p⟩)
   rw[decide_eq_true (show V.int (((ns.length:Nat):Int)%((F.channels:Nat):Int))=V.int 0 by congr 1;rw[←Int.natCast_emod,hm];rfl)]
   refine bJ ⟨_,rfl,af a _ ⟨rfl, .inl ha2,af _ _ ⟨rfl,rfl,_,rfl,?_⟩⟩⟩
   rw[hlen]
   refine cP (fun c=>?_) fun c=>?_
   ·have c:(2048:Int)<((ns.length:Nat):Int):=of_decide_eq_true c
    rw[if_pos (.inr (by lia))] at hfr
    exact ⟨1,rfl,one1,fun p hp=>w1 (-1) hfr _ p⟩
   have c: ¬(2048:Int)<((ns.length:Nat):Int):=fun z=>c (decide_eq_true z)
   rw[if_neg (fun z=>z.elim (fun y=>y hm) (fun y=>c (by lia)))] at hfr
   have ef:ns.all (eP ((F.depth:Nat):Int))=Sound.allFit F.depth ns:=by
    unfold Sound.allFit
    congr 1
    funext z
    exact Tg (by lia) z
   refine aE rfl hx2 T.bw T.iB rfl ⟨_,rfl,b8 ((F.depth:Nat):Int) a ns ⟨rfl,ha2,⟨by lia,by lia⟩,by lia,fun H3 s3=>⟨_,rfl,?_⟩⟩⟩
   rw[ef]
   cases hA:Sound.allFit F.depth ns with
   |false=>
    rw[if_pos hA] at hfr
    exact bx ⟨2,rfl,one1,fun p hp=>w1 (-2) hfr _ p⟩
   |true=>
    rw[if_neg (by rw[hA];decide)] at hfr
    have hfit:bM F.depth ns:=fun z hz=>by
     have:=List.all_eq_true.mp hA z hz
     unfold Sound.fits at this
     simpa using this
    have s03:=s2.trans s3
    refine bJ ⟨_,rfl,_,rfl,b8 pad r tg ⟨rfl,s03.seq hr',hT,?_⟩⟩
    unfold yU
    cases et:Sound.tagList tg pad with
    |none=>
     rw[et] at hfr
     exact fun H4 s4=>⟨rfl,3,rfl,one1,fun D hD=>w1 (-3) hfr _ D⟩
    |some t=>
     rw[et] at hfr
     dsimp only at hfr⊢
     intro Dt H4 hDt s4 hxt
     have s04:=s03.trans s4
     refine ⟨_,rfl,_,rfl,_,rfl,qi x a Dt F ns t pad ⟨rfl,⟨dx,s4 _ _ (s3 _ _ hx2)⟩,s04.seq ha,ae.of hxt,ax,⟨hm,by lia,NN et⟩,hfit,fun hpl D5 H5 s5 hx5=>?_⟩⟩
     exact af D5 _ ⟨rfl,ae.of hx5,hpl,fun D6 H6 hx6=>k H6 D6 (by rw[hfr];exact hx6)⟩
end
end Wg
namespace PySem.W.Fast
theorem tw15813201113143721232:True:=⟨⟩
theorem tw1879578797817335368:True:=⟨⟩
theorem tw11162409078080299886:True:=⟨⟩
theorem tw14359019823469371290:True:=⟨⟩
theorem tw11406770660441720521:True:=⟨⟩
theorem tw3176370001277125630:True:=⟨⟩
theorem tw10619397613152889834:True:=⟨⟩
theorem tw13226317262788359774:True:=⟨⟩
theorem tw12286176835210847530:True:=⟨⟩
theorem tw5357548375612393948:True:=⟨⟩
theorem tw2029614422657234024:True:=⟨⟩
theorem tw7474765912997020968:True:=⟨⟩
theorem tw1784073319946752484:True:=⟨⟩
theorem tw14329755182260154902:True:=⟨⟩
theorem tw6773531761777308333:True:=⟨⟩
theorem tw12536360115259910826:True:=⟨⟩
theorem tw16074761181574213606:True:=⟨⟩
theorem tw12294854244880488953:True:=⟨⟩
theorem tw2180783060507285737:True:=⟨⟩
theorem tw13795670868185191092:True:=⟨⟩
theorem tw4945611405049260241:True:=⟨⟩
theorem tw14023402805227866887:True:=⟨⟩
theorem tw16278721861047740031:True:=⟨⟩
theorem tw16529549457779206925:True:=⟨⟩
theorem tw3485718161715265432:True:=⟨⟩
theorem tw11278029303517020429:True:=⟨⟩
theorem tw4271175827477434266:True:=⟨⟩
theorem tw16385779956512216913:True:=⟨⟩
theorem tw2407158682519564654:True:=⟨⟩
theorem tw7578487651369671836:True:=⟨⟩
theorem tw15206177646938118541:True:=⟨⟩
theorem tw14946378979772070770:True:=⟨⟩
theorem tw10685063181052420261:True:=⟨⟩
theorem tw17229227794701368946:True:=⟨⟩
theorem tw15462184738236513759:True:=⟨⟩
theorem tw8669918173033555812:True:=⟨⟩
theorem tw14030006258839578650:True:=⟨⟩
theorem tw17700648675827795659:True:=⟨⟩
theorem tw14425796264516746285:True:=⟨⟩
theorem tw17389301074887270472:True:=⟨⟩
theorem tw11388045968278841330:True:=⟨⟩
theorem tw12331439151817453109:True:=⟨⟩
theorem tw12055972087566069663:True:=⟨⟩
theorem tw8338226172661690846:True:=⟨⟩
theorem tw7610611498291587492:True:=⟨⟩
theorem tw8590470384320061155:True:=⟨⟩
theorem tw10846373339319407606:True:=⟨⟩
theorem tw3693791421413271456:True:=⟨⟩
theorem tw4362013898920915751:True:=⟨⟩
theorem tw12264365440451341373:True:=⟨⟩
theorem tw5894768339659906998:True:=⟨⟩
theorem tw15395863510141861578:True:=⟨⟩
theorem tw2415796299793894088:True:=⟨⟩
theorem tw8050450450766609873:True:=⟨⟩
theorem tw13037720541442610438:True:=⟨⟩
theorem tw18428042884886472883:True:=⟨⟩
theorem tw9882723932162249356:True:=⟨⟩
theorem tw5885777070481184165:True:=⟨⟩
theorem tw11976894702407366625:True:=⟨⟩
theorem tw16711350271967336313:True:=⟨⟩
theorem tw13235960720279488350:True:=⟨⟩
theorem tw8183223762731217833:True:=⟨⟩
theorem tw6627003921805705306:True:=⟨⟩
theorem tw4046196393773791177:True:=⟨⟩
theorem tw2670503353753704147:True:=⟨⟩
theorem tw3355770584596359616:True:=⟨⟩
theorem tw1253664480113066948:True:=⟨⟩
theorem tw7935176881770231732:True:=⟨⟩
theorem tw6355591939525567170:True:=⟨⟩
theorem tw7196374507601241596:True:=⟨⟩
theorem tw2193153874987469837:True:=⟨⟩
theorem tw12639580574242427668:True:=⟨⟩
theorem tw3105504176358361009:True:=⟨⟩
theorem tw918803968878930306:True:=⟨⟩
theorem tw9653066347833731123:True:=⟨⟩
theorem tw16816190092161360126:True:=⟨⟩
theorem tw11292115824967044612:True:=⟨⟩
theorem tw7737660182924801439:True:=⟨⟩
theorem tw16555497843350100398:True:=⟨⟩
theorem tw10586730257699843240:True:=⟨⟩
theorem tw18418086368966265374:True:=⟨⟩
theorem tw11553266273672107532:True:=⟨⟩
theorem tw8962490909461367061:True:=⟨⟩
theorem tw5664074485143210672:True:=⟨⟩
theorem tw4297015639049318704:True:=⟨⟩
theorem tw16578544533832131078:True:=⟨⟩
theorem tw12595861082621883081:True:=⟨⟩
theorem tw8887665743606209797:True:=⟨⟩
theorem tw14325287060298182110:True:=⟨⟩
theorem tw7626149037523887353:True:=⟨⟩
theorem tw12370719237485010378:True:=⟨⟩
theorem tw10672856482485381053:True:=⟨⟩
theorem tw10672098615591543944:True:=⟨⟩
theorem tw6031927384974965222:True:=⟨⟩
theorem tw8514998953584436396:True:=⟨⟩
theorem tw2649504962337814303:True:=⟨⟩
theorem tw10962748630628789674:True:=⟨⟩
theorem tw15788227186273296266:True:=⟨⟩
theorem tw16204607367881352721:True:=⟨⟩
theorem tw12944459143378997954:True:=⟨⟩
theorem tw2231176065765611039:True:=⟨⟩
theorem tw15872643306068046850:True:=⟨⟩
theorem tw1063150733176156764:True:=⟨⟩
theorem tw10265206108291839615:True:=⟨⟩
theorem tw4839652550762927607:True:=⟨⟩
theorem tw1637024198415557924:True:=⟨⟩
theorem tw16055710220194715745:True:=⟨⟩
theorem tw14658871087708980073:True:=⟨⟩
theorem tw14300426671638474459:True:=⟨⟩
theorem tw13556176408485269593:True:=⟨⟩
theorem tw332912482444802651:True:=⟨⟩
theorem tw967042484249113253:True:=⟨⟩
theorem tw13179735199766775990:True:=⟨⟩
theorem tw16688469973861067247:True:=⟨⟩
theorem tw15758199509511297677:True:=⟨⟩
theorem tw2529317152240978748:True:=⟨⟩
theorem tw7758321187162142926:True:=⟨⟩
theorem tw883792345417605556:True:=⟨⟩
theorem tw13397976172594818532:True:=⟨⟩
theorem tw12666021086653646373:True:=⟨⟩
theorem tw1906744877390247091:True:=⟨⟩
theorem tw2925287915895998645:True:=⟨⟩
theorem tw10878814214890701396:True:=⟨⟩
theorem tw13360093134244653998:True:=⟨⟩
theorem tw5155677771529965190:True:=⟨⟩
theorem tw14441837032777102945:True:=⟨⟩
theorem tw9767601403759431332:True:=⟨⟩
theorem tw17649980982422433475:True:=⟨⟩
theorem tw4915321694579471410:True:=⟨⟩
theorem tw15784868387889247677:True:=⟨⟩
theorem tw17878294268940731416:True:=⟨⟩
theorem tw1930758992710309816:True:=⟨⟩
theorem tw8525349695157887900:True:=⟨⟩
theorem tw4367110484960202830:True:=⟨⟩
theorem tw18384608685555976115:True:=⟨⟩
theorem tw1629311040264058461:True:=⟨⟩
theorem tw8554901065981107900:True:=⟨⟩
theorem tw2046712808305014888:True:=⟨⟩
theorem tw5035959532113116777:True:=⟨⟩
theorem tw6038574915156201849:True:=⟨⟩
theorem tw14440392866863684081:True:=⟨⟩
theorem tw10543564458830417897:True:=⟨⟩
theorem tw750109123284139851:True:=⟨⟩
theorem tw15671197354264869860:True:=⟨⟩
theorem tw15146630657991098851:True:=⟨⟩
theorem tw12089622966590845934:True:=⟨⟩
theorem tw3554944733927708283:True:=⟨⟩
theorem tw15537907267681793786:True:=⟨⟩
theorem tw9826009060134288038:True:=⟨⟩
theorem tw9666046856217337982:True:=⟨⟩
theorem tw8502744235110189935:True:=⟨⟩
theorem tw17274769834826604298:True:=⟨⟩
theorem tw9964363566328120604:True:=⟨⟩
theorem tw16310058500938085835:True:=⟨⟩
theorem tw1434071757213425816:True:=⟨⟩
theorem tw12419815423000840595:True:=⟨⟩
theorem tw7476805650303870603:True:=⟨⟩
theorem tw2816571769297493884:True:=⟨⟩
theorem tw12827256515682716192:True:=⟨⟩
theorem tw3482289167206088601:True:=⟨⟩
theorem tw4700811165897653497:True:=⟨⟩
theorem tw18103979353106403245:True:=⟨⟩
theorem tw15489025058394162032:True:=⟨⟩
theorem tw3375179753917875629:True:=⟨⟩
theorem tw2452404072526959336:True:=⟨⟩
theorem tw8662745299227759879:True:=⟨⟩
theorem tw18267728966947445591:True:=⟨⟩
theorem tw964870944674436786:True:=⟨⟩
theorem tw13785476185137217397:True:=⟨⟩
theorem tw10054683621077732797:True:=⟨⟩
theorem tw16541186863308414795:True:=⟨⟩
theorem tw11806469768493709294:True:=⟨⟩
theorem tw7277927831848729397:True:=⟨⟩
theorem tw15580065827663943946:True:=⟨⟩
theorem tw325143929607398585:True:=⟨⟩
theorem tw15874164430109197639:True:=⟨⟩
theorem tw10235694089192155111:True:=⟨⟩
theorem tw14521248080995109232:True:=⟨⟩
theorem tw3254666365993834731:True:=⟨⟩
theorem tw17541624504217870803:True:=⟨⟩
theorem tw7482771272503418905:True:=⟨⟩
theorem tw2960380883874058324:True:=⟨⟩
theorem tw14044005596570408668:True:=⟨⟩
theorem tw12754057691419689940:True:=⟨⟩
theorem tw11114078544459617278:True:=⟨⟩
theorem tw12220391578210230128:True:=⟨⟩
theorem tw5478815192973661878:True:=⟨⟩
theorem tw11088093699426933767:True:=⟨⟩
theorem tw15678649517761875557:True:=⟨⟩
theorem tw15738800672268968357:True:=⟨⟩
theorem tw3299439452273709199:True:=⟨⟩
theorem tw6852062619000346186:True:=⟨⟩
theorem tw3671968374301100506:True:=⟨⟩
theorem tw1820700070584726710:True:=⟨⟩
theorem tw1526040201676833431:True:=⟨⟩
theorem tw13200012897933571671:True:=⟨⟩
theorem tw14598183015119033776:True:=⟨⟩
theorem tw11795006602102268388:True:=⟨⟩
theorem tw18269514635175296386:True:=⟨⟩
theorem tw5129325771625337693:True:=⟨⟩
theorem tw8645583738567173881:True:=⟨⟩
theorem tw3162465422589937996:True:=⟨⟩
theorem tw5015517679864648102:True:=⟨⟩
theorem tw221831286441120964:True:=⟨⟩
theorem tw17936319693480064268:True:=⟨⟩
theorem tw11182416030236932795:True:=⟨⟩
theorem tw13631525363388604139:True:=⟨⟩
theorem tw5568098750494335882:True:=⟨⟩
theorem tw267931383389732794:True:=⟨⟩
theorem tw2117235527928041191:True:=⟨⟩
theorem tw8509095224160590138:True:=⟨⟩
theorem tw1049815932344402768:True:=⟨⟩
theorem tw438287151746448449:True:=⟨⟩
theorem tw13681351486341416974:True:=⟨⟩
theorem tw10195027916734511669:True:=⟨⟩
theorem tw11975398175403395007:True:=⟨⟩
theorem tw3315218737550520077:True:=⟨⟩
theorem tw6064783841023334476:True:=⟨⟩
theorem tw13510448203096598505:True:=⟨⟩
theorem tw5149762316229857474:True:=⟨⟩
theorem tw17061485679699563733:True:=⟨⟩
theorem tw15035896327513256990:True:=⟨⟩
theorem tw13239239440719558727:True:=⟨⟩
theorem tw4814456238471262578:True:=⟨⟩
theorem tw8907434519350831816:True:=⟨⟩
theorem tw8596426675408828751:True:=⟨⟩
theorem tw7963189266895861094:True:=⟨⟩
theorem tw5472395294079381459:True:=⟨⟩
theorem tw3214320826290429647:True:=⟨⟩
theorem tw18192984710988271718:True:=⟨⟩
theorem tw2296049887062366821:True:=⟨⟩
theorem tw9674620379731264338:True:=⟨⟩
theorem tw13545393181919530013:True:=⟨⟩
theorem tw4547308011019323637:True:=⟨⟩
theorem tw5227815083008070992:True:=⟨⟩
theorem tw10262659927271415155:True:=⟨⟩
theorem tw10643508858539426955:True:=⟨⟩
theorem tw14736943002060032699:True:=⟨⟩
theorem tw8442973918666179584:True:=⟨⟩
theorem tw6543978688546146420:True:=⟨⟩
theorem tw6800898864094616586:True:=⟨⟩
theorem tw9544531295775347261:True:=⟨⟩
theorem tw12443373674140858674:True:=⟨⟩
theorem tw7946690610634173681:True:=⟨⟩
theorem tw3770141213028941119:True:=⟨⟩
theorem tw1988255011502256627:True:=⟨⟩
theorem tw7004467359210830836:True:=⟨⟩
theorem tw4379474048776579756:True:=⟨⟩
theorem tw17052237314493755412:True:=⟨⟩
theorem tw12186838422992513655:True:=⟨⟩
theorem tw15582129873654838329:True:=⟨⟩
theorem tw4134673596567767742:True:=⟨⟩
theorem tw11006424157311708060:True:=⟨⟩
theorem tw13824572200318980083:True:=⟨⟩
theorem tw12118220557411887468:True:=⟨⟩
theorem tw10946309823871229277:True:=⟨⟩
theorem tw145897427096280432:True:=⟨⟩
theorem tw1185855700702472874:True:=⟨⟩
theorem tw6808637612816409116:True:=⟨⟩
theorem tw12747981776044323261:True:=⟨⟩
theorem tw1781168670022455064:True:=⟨⟩
theorem tw6724024109175858920:True:=⟨⟩
theorem tw5011199922022944608:True:=⟨⟩
theorem tw17911525923931443378:True:=⟨⟩
theorem tw2536030277692324441:True:=⟨⟩
theorem tw18337385380877352581:True:=⟨⟩
theorem tw8087080620149626641:True:=⟨⟩
theorem tw15969150412593471728:True:=⟨⟩
theorem tw12684714309659738473:True:=⟨⟩
theorem tw1679935604492186849:True:=⟨⟩
theorem tw17219169300204876937:True:=⟨⟩
theorem tw2829751222363158260:True:=⟨⟩
theorem tw1855971231890709947:True:=⟨⟩
theorem tw256346068518386539:True:=⟨⟩
theorem tw15449743346117925838:True:=⟨⟩
theorem tw16127089862749097203:True:=⟨⟩
theorem tw4251329448095729551:True:=⟨⟩
theorem tw12454562094157176609:True:=⟨⟩
theorem tw3385730801959360683:True:=⟨⟩
theorem tw12804092280279639769:True:=⟨⟩
theorem tw7643837857259732292:True:=⟨⟩
theorem tw1619067101065967553:True:=⟨⟩
theorem tw11692851200157648680:True:=⟨⟩
theorem tw14692741073626463131:True:=⟨⟩
theorem tw10142370114138423160:True:=⟨⟩
theorem tw10045303473425014949:True:=⟨⟩
theorem tw13776272791307200005:True:=⟨⟩
theorem tw12870237627613956572:True:=⟨⟩
theorem tw6051452377918625933:True:=⟨⟩
theorem tw16920744682198584794:True:=⟨⟩
theorem tw5733248160950172283:True:=⟨⟩
theorem tw16523352248949816845:True:=⟨⟩
theorem tw10970168542011200367:True:=⟨⟩
theorem tw4226444107872838509:True:=⟨⟩
theorem tw14262027845337623729:True:=⟨⟩
theorem tw14098860107482759640:True:=⟨⟩
theorem tw6753043858375177008:True:=⟨⟩
theorem tw9149162717262212586:True:=⟨⟩
theorem tw3933996035853694885:True:=⟨⟩
theorem tw2626650417253868059:True:=⟨⟩
theorem tw11100560143094633575:True:=⟨⟩
theorem tw4818798785578715641:True:=⟨⟩
theorem tw8948305392838415127:True:=⟨⟩
theorem tw11796521844826552424:True:=⟨⟩
theorem tw14016974927806945861:True:=⟨⟩
theorem tw10202531454032432117:True:=⟨⟩
theorem tw17269436648554806919:True:=⟨⟩
theorem tw1462597102968057545:True:=⟨⟩
theorem tw15443046507639074390:True:=⟨⟩
theorem tw5907514208952374258:True:=⟨⟩
theorem tw4255391490073977017:True:=⟨⟩
theorem tw5250938143797678602:True:=⟨⟩
theorem tw5299100651456653121:True:=⟨⟩
theorem tw5795598678619068000:True:=⟨⟩
theorem tw4446490927733955475:True:=⟨⟩
theorem tw16165593154733089483:True:=⟨⟩
theorem tw7641314808197644099:True:=⟨⟩
theorem tw14294776972348506804:True:=⟨⟩
theorem tw7682932992441844122:True:=⟨⟩
theorem tw15352237943304711857:True:=⟨⟩
theorem tw18426657540724323652:True:=⟨⟩
theorem tw12093412650012848697:True:=⟨⟩
theorem tw60786301858362934:True:=⟨⟩
theorem tw10316808088946993435:True:=⟨⟩
theorem tw7079842908027915420:True:=⟨⟩
theorem tw10108239189780682399:True:=⟨⟩
theorem tw17576341018067757631:True:=⟨⟩
theorem tw10885990762257074473:True:=⟨⟩
theorem tw14632421589709584812:True:=⟨⟩
theorem tw8811919783855266158:True:=⟨⟩
theorem tw5984154924737542075:True:=⟨⟩
theorem tw15587223487984910667:True:=⟨⟩
theorem tw5059976322921100056:True:=⟨⟩
theorem tw4436633951073125282:True:=⟨⟩
theorem tw11335862599153202638:True:=⟨⟩
theorem tw9707511189921416025:True:=⟨⟩
theorem tw10777054801340718050:True:=⟨⟩
theorem tw16094386252682492498:True:=⟨⟩
theorem tw6449195968276226050:True:=⟨⟩
theorem tw17782094502355146465:True:=⟨⟩
theorem tw17549117680916312885:True:=⟨⟩
theorem tw228880426669872725:True:=⟨⟩
theorem tw3100253994443018969:True:=⟨⟩
theorem tw106587334908547132:True:=⟨⟩
theorem tw5066277782796732867:True:=⟨⟩
theorem tw3815637167703486982:True:=⟨⟩
theorem tw16145765355168933062:True:=⟨⟩
theorem tw16941232668202385342:True:=⟨⟩
theorem tw4178944997751907161:True:=⟨⟩
theorem tw2637259655859480464:True:=⟨⟩
theorem tw10022705198005064020:True:=⟨⟩
theorem tw1843592414852185574:True:=⟨⟩
theorem tw14754072379043951788:True:=⟨⟩
theorem tw2547949803441931110:True:=⟨⟩
theorem tw1057686363091461348:True:=⟨⟩
theorem tw6735311386587422908:True:=⟨⟩
theorem tw4045766129584320635:True:=⟨⟩
theorem tw7869067562498020319:True:=⟨⟩
theorem tw5368613502029280836:True:=⟨⟩
theorem tw7849122960579131358:True:=⟨⟩
theorem tw14410392726677387351:True:=⟨⟩
theorem tw9229954916619759744:True:=⟨⟩
theorem tw15704998522816959558:True:=⟨⟩
theorem tw9472291452636562437:True:=⟨⟩
theorem tw3384686663907029496:True:=⟨⟩
theorem tw15806764358166667831:True:=⟨⟩
theorem tw7892927588889314405:True:=⟨⟩
theorem tw6435394954912365691:True:=⟨⟩
theorem tw5628658672383532428:True:=⟨⟩
theorem tw16145918245700995787:True:=⟨⟩
theorem tw2785387335241222468:True:=⟨⟩
theorem tw12515428224544314226:True:=⟨⟩
theorem tw14105265050520121261:True:=⟨⟩
theorem tw8022650433945800298:True:=⟨⟩
theorem tw13677521831466879727:True:=⟨⟩
theorem tw1245346124134912993:True:=⟨⟩
theorem tw3366573797022380875:True:=⟨⟩
theorem tw6159325101234670893:True:=⟨⟩
theorem tw12298633027861009538:True:=⟨⟩
theorem tw7988031828534765435:True:=⟨⟩
theorem tw7339774286841145527:True:=⟨⟩
theorem tw3767315039996351185:True:=⟨⟩
theorem tw3723382347863821856:True:=⟨⟩
theorem tw17304765808299648890:True:=⟨⟩
theorem tw11561791836691997212:True:=⟨⟩
theorem tw7693404877217912548:True:=⟨⟩
theorem tw16499271303468586888:True:=⟨⟩
theorem tw9717220902481200544:True:=⟨⟩
theorem tw11984045175343748463:True:=⟨⟩
theorem tw8255233759793261019:True:=⟨⟩
theorem tw1740881033346404306:True:=⟨⟩
theorem tw5395618340531632100:True:=⟨⟩
theorem tw6443027047678581283:True:=⟨⟩
theorem tw10915925285029751448:True:=⟨⟩
theorem tw6357603958504641771:True:=⟨⟩
theorem tw10088091924293970759:True:=⟨⟩
theorem tw10191301562968961385:True:=⟨⟩
theorem tw7414238905273618471:True:=⟨⟩
theorem tw418473806164545730:True:=⟨⟩
theorem tw8725346067262016686:True:=⟨⟩
theorem tw2208145525204007015:True:=⟨⟩
theorem tw14003757065651791567:True:=⟨⟩
theorem tw11833964475108299468:True:=⟨⟩
theorem tw17689883304916966127:True:=⟨⟩
theorem tw6897627553496534286:True:=⟨⟩
theorem tw12157628134121227908:True:=⟨⟩
theorem tw14473671700313676068:True:=⟨⟩
theorem tw4145595079789658532:True:=⟨⟩
theorem tw14794316302686807104:True:=⟨⟩
theorem tw15955613859600985083:True:=⟨⟩
theorem tw14114787384601959325:True:=⟨⟩
theorem tw17509440011624210612:True:=⟨⟩
theorem tw8419902341511695162:True:=⟨⟩
theorem tw16209362859658498302:True:=⟨⟩
theorem tw9897268759949732101:True:=⟨⟩
theorem tw12421841108223052013:True:=⟨⟩
theorem tw14363493544446212754:True:=⟨⟩
theorem tw4874244997545823435:True:=⟨⟩
theorem tw2532263210224794274:True:=⟨⟩
theorem tw15540285411814440687:True:=⟨⟩
theorem tw14947971416809642417:True:=⟨⟩
theorem tw11168320511129122931:True:=⟨⟩
theorem tw6231509155071556269:True:=⟨⟩
theorem tw15101062160781309106:True:=⟨⟩
theorem tw6514600849030506253:True:=⟨⟩
theorem tw16474641894139969304:True:=⟨⟩
theorem tw15876863754082623828:True:=⟨⟩
theorem tw6255470490276133112:True:=⟨⟩
theorem tw5026278112774275257:True:=⟨⟩
theorem tw8970361873057987250:True:=⟨⟩
theorem tw16051577181281449302:True:=⟨⟩
theorem tw5678662495516175940:True:=⟨⟩
theorem tw17959770555337207246:True:=⟨⟩
theorem tw6449163259142450472:True:=⟨⟩
theorem tw8605771995125647326:True:=⟨⟩
theorem tw760264325623130937:True:=⟨⟩
theorem tw15477845322869229029:True:=⟨⟩
theorem tw14553438040946252011:True:=⟨⟩
theorem tw5694034032410538586:True:=⟨⟩
theorem tw13518217681447476275:True:=⟨⟩
theorem tw2152158128691321239:True:=⟨⟩
theorem tw11370438256327889769:True:=⟨⟩
theorem tw5975352002272616009:True:=⟨⟩
theorem tw17830162433870535199:True:=⟨⟩
theorem tw9717183628860088997:True:=⟨⟩
theorem tw7444845812404454921:True:=⟨⟩
theorem tw4514282993462487862:True:=⟨⟩
theorem tw16630254998419088242:True:=⟨⟩
theorem tw11459314893790969226:True:=⟨⟩
theorem tw798760667993385794:True:=⟨⟩
theorem tw5205299859239263278:True:=⟨⟩
theorem tw5669947769487330363:True:=⟨⟩
theorem tw6146242720203599087:True:=⟨⟩
theorem tw13026589715954087706:True:=⟨⟩
theorem tw14956913660347043734:True:=⟨⟩
theorem tw16888250506193975488:True:=⟨⟩
theorem tw15744501649224971628:True:=⟨⟩
theorem tw9111182325754867167:True:=⟨⟩
theorem tw9852562550561266766:True:=⟨⟩
theorem tw10264886151061814181:True:=⟨⟩
theorem tw18078267112896170296:True:=⟨⟩
theorem tw1328788596914774603:True:=⟨⟩
theorem tw16627060113277165513:True:=⟨⟩
theorem tw1126939194492404057:True:=⟨⟩
theorem tw5814473629364452026:True:=⟨⟩
theorem tw3042519862339022204:True:=⟨⟩
theorem tw12585775346996745230:True:=⟨⟩
theorem tw16736379437324989128:True:=⟨⟩
theorem tw9590991081567890403:True:=⟨⟩
theorem tw11868730222319230737:True:=⟨⟩
theorem tw5419828238799560380:True:=⟨⟩
theorem tw13364465346127243137:True:=⟨⟩
theorem tw6248261393364176406:True:=⟨⟩
theorem tw17101956259063313114:True:=⟨⟩
theorem tw13998455003884719431:True:=⟨⟩
theorem tw14810050089878787855:True:=⟨⟩
theorem tw12656852384382047520:True:=⟨⟩
theorem tw11309247557500347589:True:=⟨⟩
theorem tw12911251975636038803:True:=⟨⟩
theorem tw707725543231903889:True:=⟨⟩
theorem tw16183828783978872545:True:=⟨⟩
theorem tw6837063251922545814:True:=⟨⟩
theorem tw6059901438097069318:True:=⟨⟩
theorem tw14273379563743955473:True:=⟨⟩
theorem tw9075361752458301509:True:=⟨⟩
theorem tw8625754562483189178:True:=⟨⟩
theorem tw138750251913913926:True:=⟨⟩
theorem tw4459933090185417367:True:=⟨⟩
theorem tw17515626376146102460:True:=⟨⟩
theorem tw13495672153958454104:True:=⟨⟩
theorem tw14483715310255619706:True:=⟨⟩
theorem tw15524046832806338847:True:=⟨⟩
theorem tw2273663039383463719:True:=⟨⟩
theorem tw14124307867618410691:True:=⟨⟩
theorem tw13005654743937001242:True:=⟨⟩
theorem tw108913387503431952:True:=⟨⟩
theorem tw1304377476213245338:True:=⟨⟩
theorem tw9283093477524671881:True:=⟨⟩
theorem tw12520148843370343878:True:=⟨⟩
theorem tw15952746644651454410:True:=⟨⟩
theorem tw2113851024266933415:True:=⟨⟩
theorem tw1381587147579708172:True:=⟨⟩
theorem tw15408215341007785460:True:=⟨⟩
theorem tw5282349867507138067:True:=⟨⟩
theorem tw6167092362782183315:True:=⟨⟩
theorem tw10570355356298560122:True:=⟨⟩
theorem tw4586547267182483164:True:=⟨⟩
theorem tw105547515514063743:True:=⟨⟩
theorem tw4158082548407290861:True:=⟨⟩
theorem tw4187244704710673753:True:=⟨⟩
theorem tw9913875966246514848:True:=⟨⟩
theorem tw12990885736088388106:True:=⟨⟩
theorem tw2532395395473538696:True:=⟨⟩
theorem tw518089708760104429:True:=⟨⟩
theorem tw6537063499806856692:True:=⟨⟩
theorem tw5680885467028463624:True:=⟨⟩
theorem tw10124409353045064317:True:=⟨⟩
theorem tw12785306312162276171:True:=⟨⟩
theorem tw17883463763831737275:True:=⟨⟩
theorem tw13582365169999386404:True:=⟨⟩
theorem tw4479836450013631102:True:=⟨⟩
theorem tw6445089621760114984:True:=⟨⟩
theorem tw1556610127935721761:True:=⟨⟩
theorem tw10389120453294484745:True:=⟨⟩
theorem tw6763467808617402800:True:=⟨⟩
theorem tw9706873342789959073:True:=⟨⟩
theorem tw2814505121918514732:True:=⟨⟩
theorem tw4274725360725398283:True:=⟨⟩
theorem tw10050237113221146529:True:=⟨⟩
theorem tw1760975479191082846:True:=⟨⟩
theorem tw9558279856666038576:True:=⟨⟩
theorem tw4123111058032446997:True:=⟨⟩
theorem tw5781689112314662723:True:=⟨⟩
theorem tw15002357814058762300:True:=⟨⟩
theorem tw16244019074843495067:True:=⟨⟩
theorem tw4493977374603130789:True:=⟨⟩
theorem tw12244840566096878663:True:=⟨⟩
theorem tw3047565500508219848:True:=⟨⟩
theorem tw52280202703072573:True:=⟨⟩
theorem tw2988335549294882819:True:=⟨⟩
theorem tw9685024070434668959:True:=⟨⟩
theorem tw9015880868855123396:True:=⟨⟩
theorem tw2767621319154206210:True:=⟨⟩
theorem tw8126190605598963388:True:=⟨⟩
theorem tw14766192926884716362:True:=⟨⟩
theorem tw5606733837901995419:True:=⟨⟩
theorem tw13034147243791107469:True:=⟨⟩
theorem tw15313470785910833890:True:=⟨⟩
theorem tw8885034626262461737:True:=⟨⟩
theorem tw14632319947421581363:True:=⟨⟩
theorem tw11509622444295758089:True:=⟨⟩
theorem tw5622821695222968304:True:=⟨⟩
theorem tw645353514944295388:True:=⟨⟩
theorem tw12889755622135350943:True:=⟨⟩
theorem tw14992563300208318246:True:=⟨⟩
theorem tw18357917424933874460:True:=⟨⟩
theorem tw10645881673160784453:True:=⟨⟩
theorem tw1243891718988799349:True:=⟨⟩
theorem tw1064476790507516476:True:=⟨⟩
theorem tw14622369741574634361:True:=⟨⟩
theorem tw9839385335461968760:True:=⟨⟩
theorem tw5728726512240227666:True:=⟨⟩
theorem tw15101495915540570543:True:=⟨⟩
theorem tw6080120891466256468:True:=⟨⟩
theorem tw1310148727820771259:True:=⟨⟩
theorem tw14169340542607972282:True:=⟨⟩
theorem tw4245633361130978587:True:=⟨⟩
theorem tw18439720450487554665:True:=⟨⟩
theorem tw1709004436080632893:True:=⟨⟩
theorem tw1220457875672538998:True:=⟨⟩
theorem tw4078175909205479551:True:=⟨⟩
theorem tw4523628124200741862:True:=⟨⟩
theorem tw11875413784040906543:True:=⟨⟩
theorem tw5336187053440547631:True:=⟨⟩
theorem tw12886447561448359907:True:=⟨⟩
theorem tw16249742538218517831:True:=⟨⟩
theorem tw8685300582331760536:True:=⟨⟩
theorem tw16350126229683321842:True:=⟨⟩
theorem tw14456586450614665517:True:=⟨⟩
theorem tw12116561581817847318:True:=⟨⟩
theorem tw706034091861118768:True:=⟨⟩
theorem tw3967598345671298838:True:=⟨⟩
theorem tw8576887234991247513:True:=⟨⟩
theorem tw15016410935337587220:True:=⟨⟩
theorem tw17108329093413968119:True:=⟨⟩
theorem tw12429919238435789669:True:=⟨⟩
theorem tw4527305175754294892:True:=⟨⟩
theorem tw7551997454721292879:True:=⟨⟩
theorem tw4065193163669879221:True:=⟨⟩
theorem tw10503871839963562013:True:=⟨⟩
theorem tw4762805537030657584:True:=⟨⟩
theorem tw186191526242534849:True:=⟨⟩
theorem tw14188884461516497284:True:=⟨⟩
theorem tw4881302450132055435:True:=⟨⟩
theorem tw6257299037399003115:True:=⟨⟩
theorem tw10660346781231262879:True:=⟨⟩
theorem tw6235199529085633305:True:=⟨⟩
theorem tw15669599940901332342:True:=⟨⟩
theorem tw16394063395134481642:True:=⟨⟩
theorem tw1817005449534879741:True:=⟨⟩
theorem tw6835404770676296935:True:=⟨⟩
theorem tw113060299071920113:True:=⟨⟩
theorem tw7140660922775499617:True:=⟨⟩
theorem tw2525601668076851172:True:=⟨⟩
theorem tw9757390418971900618:True:=⟨⟩
theorem tw3105707841574809193:True:=⟨⟩
theorem tw17653863998164328964:True:=⟨⟩
theorem tw395223310523668124:True:=⟨⟩
theorem tw814522518670569737:True:=⟨⟩
theorem tw11598283214764918739:True:=⟨⟩
theorem tw7317841266124713257:True:=⟨⟩
theorem tw5496239745746597383:True:=⟨⟩
theorem tw3799966728319577836:True:=⟨⟩
theorem tw7747671833134539980:True:=⟨⟩
theorem tw5720851209036211632:True:=⟨⟩
theorem tw10312593959109891297:True:=⟨⟩
theorem tw9210167740089628680:True:=⟨⟩
theorem tw4200390368688559849:True:=⟨⟩
theorem tw11760459415123325318:True:=⟨⟩
theorem tw1447871190657758782:True:=⟨⟩
theorem tw4143572055046218294:True:=⟨⟩
theorem tw16995420858037169051:True:=⟨⟩
theorem tw6042040831838019628:True:=⟨⟩
theorem tw7628801111531524168:True:=⟨⟩
theorem tw2849163463782528158:True:=⟨⟩
theorem tw6593359840945277527:True:=⟨⟩
theorem tw13292037156878831158:True:=⟨⟩
theorem tw1062939488202029021:True:=⟨⟩
theorem tw18330150498118466166:True:=⟨⟩
theorem tw7926984619438223445:True:=⟨⟩
theorem tw77852805573168947:True:=⟨⟩
theorem tw859945846902605510:True:=⟨⟩
theorem tw4324576997617071008:True:=⟨⟩
theorem tw11872765568896278546:True:=⟨⟩
theorem tw9260056706556644309:True:=⟨⟩
theorem tw7339266903182979048:True:=⟨⟩
theorem tw12997735356573316001:True:=⟨⟩
theorem tw12766089793872975832:True:=⟨⟩
theorem tw3577872909665898667:True:=⟨⟩
theorem tw16929015557251047181:True:=⟨⟩
theorem tw12407277462595704641:True:=⟨⟩
theorem tw13616072571696686562:True:=⟨⟩
theorem tw11569795718020534457:True:=⟨⟩
theorem tw2298391237760483279:True:=⟨⟩
theorem tw1823043465852929748:True:=⟨⟩
theorem tw15583216931612448496:True:=⟨⟩
theorem tw693612739638053702:True:=⟨⟩
theorem tw12746361851563692132:True:=⟨⟩
theorem tw4753879492169045865:True:=⟨⟩
theorem tw3234556703465055038:True:=⟨⟩
theorem tw926084392144776289:True:=⟨⟩
theorem tw14490800592179673351:True:=⟨⟩
theorem tw6667824969588845293:True:=⟨⟩
theorem tw10634954875235930491:True:=⟨⟩
theorem tw18088443682530673279:True:=⟨⟩
theorem tw15711916219790588995:True:=⟨⟩
theorem tw2096522312717606304:True:=⟨⟩
theorem tw10913475319065880896:True:=⟨⟩
theorem tw3932877885859144813:True:=⟨⟩
theorem tw17537560521827969690:True:=⟨⟩
theorem tw1159528664167432216:True:=⟨⟩
theorem tw17561148818117540231:True:=⟨⟩
theorem tw11012443993500248064:True:=⟨⟩
theorem tw6317373565230840260:True:=⟨⟩
theorem tw9904540110373659487:True:=⟨⟩
theorem tw2417656228318156699:True:=⟨⟩
theorem tw5280772495720287888:True:=⟨⟩
theorem tw16153202018412374931:True:=⟨⟩
theorem tw9420361235787538281:True:=⟨⟩
theorem tw6409828451026664148:True:=⟨⟩
theorem tw16325204034437501151:True:=⟨⟩
theorem tw12648993983710851916:True:=⟨⟩
theorem tw12587548568072240591:True:=⟨⟩
theorem tw18427513467120546863:True:=⟨⟩
theorem tw9267526847431438426:True:=⟨⟩
theorem tw14478335340005681202:True:=⟨⟩
theorem tw16411627659050516697:True:=⟨⟩
theorem tw5342284283793285563:True:=⟨⟩
theorem tw15742961703198666997:True:=⟨⟩
theorem tw15899097717406574249:True:=⟨⟩
theorem tw7286952505485819199:True:=⟨⟩
theorem tw15388361517084537767:True:=⟨⟩
theorem tw11508370193760316834:True:=⟨⟩
theorem tw11510133760382998531:True:=⟨⟩
theorem tw3147385532133867897:True:=⟨⟩
theorem tw12699139432099494317:True:=⟨⟩
theorem tw264860808713186891:True:=⟨⟩
theorem tw11655414998362408954:True:=⟨⟩
theorem tw1298436879305436851:True:=⟨⟩
theorem tw15772270931209822341:True:=⟨⟩
theorem tw3798440196740059152:True:=⟨⟩
theorem tw3798955713713435942:True:=⟨⟩
theorem tw1261800080731252584:True:=⟨⟩
theorem tw13487717508636258740:True:=⟨⟩
theorem tw18069944393951545011:True:=⟨⟩
theorem tw17331642469738033548:True:=⟨⟩
theorem tw11902234403721909286:True:=⟨⟩
theorem tw12603079353487015886:True:=⟨⟩
end PySem.W.Fast
open PySem PySem.W PyProof.Rows
set_option maxRecDepth 100000 in
set_option maxHeartbeats 0 in
theorem PySem.Challenge.cw_soundkeeping_s06_pack_holds : PySem.Challenge.rw_soundkeeping_s06_pack.Holds := by
 w_on;k_headS;(case hw=>exact ⟨[.int 0, .list [], .list [], .list []],by decide+kernel,by decide+kernel⟩)
 k_fillS
 refine L2.MI (r:=PySem.Challenge.rw_soundkeeping_s06_pack) (k:=13) (CX:=L2.aO) (ps:= ["pad", "form", "numbers", "tags"]) (sp:=Wg.Eu) (by decide+kernel) rfl rfl ⟨rfl,by decide,by decide⟩ (fun w h Y=>PySem.W.kIn_of Y) ?F ?S (fun _ _ _ _ z=>z)
 case F=>
  intro w mg fa h Y KX G hmg
  have T: ∃A,Wg.Txt (L2.Bo KX) mg A:=by
   dsimp only [L2.Bo]
   apply Wg.I0
   apply Wg.Txt.mk
   all_goals try dsimp only
   all_goals first
   |(refine PySem.W.mg_of KX G ?_;k_is;done)
   |(refine PySem.W.mg_none_of KX G ?_;k_is;done)
   |(apply L2.O8;all_goals try k_is)
   |exact Wg.PJ fun _=>rfl
   |exact Wg.GQ fun _ _=>rfl
   |exact Wg.Oa fun _ _ _=>rfl
   |exact Wg.OT fun _ _ _ _=>rfl
   |exact Wg.Rm fun _ _ _ _ _=>rfl
   |exact Wg.PB fun _ _ _ _ _ _=>rfl
   |(apply L2.Meth.mk<;>k_is)
   |(apply L2.cD.mk<;>k_is)
   |(apply L2.Mk.mk<;>k_is)
   |(apply L2.Own.mk<;>(try unfold L2.kN)<;>first|k_is|k_exc|rfl)
   |exact beq_eq_false_iff_ne.mp rfl
   |(refine (?_:PySem.W.findIn _ _ _=some none);k_is;done)
   |(apply Wg.QG;k_is;decide;repeat first|exact .nil|refine .cons rfl ?_|refine .cons ⟨_,rfl⟩ ?_)
   |exact fun s us hu=>match us,hu with| [_,_,_,_],_=> .of_eq rfl
   |skip
  obtain ⟨A,T⟩:=T
  have e0:=hmg.symm.trans T.NC
  cases e0
  exact ⟨A.jH,T.entry,fun base _ _=>Wg.Ld T⟩
 case S=>
  intro K H xs a hO hwi hask hx
  obtain ⟨x0,x1,x2,x3,u⟩:=a
  cases hx with
  |cons h0 r0=>
   cases r0 with
   |cons h1 r1=>
    cases r1 with
    |cons h2 r2=>
     cases r2 with
     |cons h3 r3=>
      cases r3
      cases h0
      cases h1 with
      |lst s1 d1=>
       have e1:=L2.sE x1 _ d1
       subst e1
       cases h2 with
       |lst s2 d2=>
        have e2:=L2.sE x2 _ d2
        subst e2
        cases h3 with
        |lst s3 d3=>
         have e3:=L2.sE x3 _ d3
         subst e3
         have q:(Codec.inInt 0 4294967295 x0&&((Codec.inLen 0 8 x1&&x1.all (Codec.inInt 0 4294967295))&&((Codec.inLen 0 2100 x2&&x2.all (Codec.inInt (-2147483648) 2147483647))&&((Codec.inLen 0 2048 x3&&x3.all (Codec.inInt 0 255))&&true))))=true:=hwi
         simp only [Bool.and_eq_true] at q
         obtain ⟨q0,⟨l1,b1⟩,⟨l2,b2⟩,⟨l3,b3⟩,_⟩:=q
         have q0:=Codec.inInt_iff.mp q0
         have l1:=(Codec.inNat_iff.mp l1).2
         have b1:=fun z hz=>Codec.inInt_iff.mp (List.all_eq_true.mp b1 z hz)
         have l2:=(Codec.inNat_iff.mp l2).2
         have b2:=fun z hz=>Codec.inInt_iff.mp (List.all_eq_true.mp b2 z hz)
         have l3:=(Codec.inNat_iff.mp l3).2
         have b3:=fun z hz=>Codec.inInt_iff.mp (List.all_eq_true.mp b3 z hz)
         exact ⟨x0,_,_,_,x1,x2,x3,rfl,s1,s2,s3,q0.1,fun z hz=>(b1 z hz).1,l2,⟨l3,b3⟩,fun H' p hp=> .lst (L2.ae.of hp) (L2.yZ _)⟩
#print axioms PySem.Challenge.cw_soundkeeping_s06_pack_holds
