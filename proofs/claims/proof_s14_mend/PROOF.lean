import PyProof.Rows.All
import Wide.All
import OpenK.AllK
import Wide.FinOn
import PyProof.EqAt
import PyProof.EqKinds
import PyProof.TupleCall
import KE.BitLaws
import Open.SpecLaws
import KE.OsHead
import KE.OsGo
import PySem.Challenge.RW_soundkeeping_s14_mend
set_option Elab.async false
set_option linter.all false
set_option maxRecDepth 100000
namespace L2
open PySem PySem.Spec PyProof.Rows
abbrev Key:=Sum Int Str
def jR:Key→Value→Bool
 | .inl k,v=>Value.isInt k v
 | .inr x,v=>Value.isStrOf x v
def KY (w:World):Key→Int
 | .inl k=>hashInt k
 | .inr x=>hashStr w x
theorem gF: ∀{k:Key} {v:Value},jR k v=true→(∃i t,k=Sum.inl i∧v=Value.int i t)∨(∃x t,k=Sum.inr x∧v=Value.str x t)
 | .inl i,v,h=>by
  obtain ⟨t,e⟩:=Value.isInt_shape (k:=i) (v:=v) h
  exact .inl ⟨i,t,rfl,e⟩
 | .inr x,v,h=>by
  obtain ⟨t,e⟩:=Value.isStrOf_shape (x:=x) (v:=v) h
  exact .inr ⟨x,t,rfl,e⟩
theorem K3 (i:Int) (t:Tok):jR (.inl i) (.int i t)=true:=by simp [jR,Value.isInt]
theorem Lq (x:Str) (t:Tok):jR (.inr x) (.str x t)=true:=by simp [jR,Value.isStrOf]
theorem IB (a b:Int):decide ((Sum.inl a:Key)=Sum.inl b)=(a==b):=by
 by_cases e:a=b
 ·subst e;simp
 ·have h: ¬(Sum.inl a:Key)=Sum.inl b:=fun q=>e (Sum.inl.inj q)
  rw[decide_eq_false h]
  exact (beq_eq_false_iff_ne.mpr e).symm
theorem Ga (a b:Str):decide ((Sum.inr a:Key)=Sum.inr b)=decide (a=b):=by
 by_cases e:a=b
 ·subst e;simp
 ·have h: ¬(Sum.inr a:Key)=Sum.inr b:=fun q=>e (Sum.inr.inj q)
  rw[decide_eq_false h,decide_eq_false e]
theorem GA (a:Int) (b:Str):decide ((Sum.inl a:Key)=Sum.inr b)=false:=decide_eq_false (fun q=>nomatch q)
theorem Fv (a:Str) (b:Int):decide ((Sum.inr a:Key)=Sum.inl b)=false:=decide_eq_false (fun q=>nomatch q)
def cW (prog:Program) (w:World):PySem.KeyKind prog w Key where
 is:=jR
 hash:=KY w
 inj:=fun v a b ha hb=>by
  rcases gF ha with ⟨i,t,rfl,rfl⟩|⟨x,t,rfl,rfl⟩
  ·rcases gF hb with ⟨j,u,rfl,e⟩|⟨y,u,rfl,e⟩
   ·injection e with e1 _;rw[e1]
   ·exact nomatch e
  ·rcases gF hb with ⟨j,u,rfl,e⟩|⟨y,u,rfl,e⟩
   ·exact nomatch e
   ·injection e with e1 _;rw[e1]
 byValue:=fun k v h=>by
  rcases gF h with ⟨i,t,rfl,rfl⟩|⟨x,t,rfl,rfl⟩<;>rfl
 pyHash:=fun hv h=>by
  rcases gF hv with ⟨i,t,rfl,rfl⟩|⟨x,t,rfl,rfl⟩
  ·exact wpAny_pyHash_int h
  ·exact wpAny_pyHash_str h
 eqBool:=fun hu hv h=>by
  rcases gF hu with ⟨i,t,rfl,rfl⟩|⟨x,t,rfl,rfl⟩
  ·rcases gF hv with ⟨j,u,rfl,rfl⟩|⟨y,u,rfl,rfl⟩
   ·rw[IB] at h;exact wpAny_eqBool_int h
   ·rw[GA] at h;exact SeqAt.EqAt.int_str i t y u _ _ _ _ h
  ·rcases gF hv with ⟨j,u,rfl,rfl⟩|⟨y,u,rfl,rfl⟩
   ·rw[Fv] at h;exact SeqAt.EqAt.str_int x t j u _ _ _ _ h
   ·rw[Ga] at h;exact wpAny_eqBool_str h
 «strs»:=fun k x t v h=>by
  rcases gF h with ⟨i,u,rfl,e⟩|⟨y,u,rfl,e⟩
  ·exact nomatch e
  ·injection e with e1 _
   subst e1
   cases v<;>rfl
theorem KJ (prog:Program) (w:World) (i:Int) (t:Tok):(cW prog w).is (.inl i) (.int i t)=true:=K3 i t
theorem EO (prog:Program) (w:World) (x:Str) (t:Tok):(cW prog w).is (.inr x) (.str x t)=true:=Lq x t
end L2
namespace L2
open PySem PySem.Spec PyProof.Rows
inductive V where
 |au|bl (b:Bool)|int (i:Int)|str (x:Str)|cR (b:Array UInt8)|pC (b:UInt64)|ref (a:Addr)|ty (n:String)
 deriving DecidableEq
def RelV:V→Value→Prop
 | .au,u=>u=Value.none
 | .bl b,u=>u=Value.bool b
 | .int i,u=> ∃t,u=Value.int i t
 | .str x,u=> ∃t,u=Value.str x t
 | .cR b,u=> ∃t,u=Value.bytes b t
 | .pC b,u=> ∃t,u=Value.float b t
 | .ref a,u=>u=Value.ref a
 | .ty n,u=>u=Value.type n
abbrev Vals:List V→List Value→Prop:=Paired RelV
theorem Vals.length {xs:List V} {us:List Value} (r:Vals xs us):xs.length=us.length:=Paired.length r
theorem Vals.get: ∀{xs:List V} {us:List Value} {i:Nat} {x:V},Vals xs us→xs[i]?=some x→ ∃u,us[i]?=some u∧RelV x u
 |_,_,_,_, .nil,e=>by simp at e
 |_,_,0,_, .cons r _,e=>by simp at e;subst e;exact ⟨_,rfl,r⟩
 |_,_,i+1,x, .cons _ t,e=>by
  obtain ⟨u,h1,h2⟩:=Vals.get (i:=i) (x:=x) t (by simpa using e)
  exact ⟨u,by simpa using h1,h2⟩
theorem Vals.set {x:V} {u:Value} (r:RelV x u): ∀{xs:List V} {us:List Value} (i:Nat),Vals xs us→Vals (xs.set i x) (us.set i u)
 |_,_,_, .nil=> .nil
 |_,_,0, .cons _ t=> .cons r t
 |_,_,i+1, .cons q t=> .cons q (Vals.set r i t)
theorem Vals.append: ∀{xs ys:List V} {us ws:List Value},Vals xs us→Vals ys ws→Vals (xs++ys) (us++ws)
 |_,_,_,_, .nil,s=>s
 |_,_,_,_, .cons r t,s=> .cons r (Vals.append t s)
theorem Vals.take: ∀{xs:List V} {us:List Value} (n:Nat),Vals xs us→Vals (xs.take n) (us.take n)
 |_,_,0,_=> .nil
 |_,_,_+1, .nil=> .nil
 |_,_,n+1, .cons r t=> .cons r (Vals.take n t)
theorem Vals.drop: ∀{xs:List V} {us:List Value} (n:Nat),Vals xs us→Vals (xs.drop n) (us.drop n)
 |_,_,0,r=>r
 |_,_,_+1, .nil=> .nil
 |_,_,n+1, .cons _ t=>Vals.drop n t
def cB:Option V→Option Value→Prop
 |some v,some u=>RelV v u
 |none,none=>True
 |_,_=>False
def KV {κ:Type}:List (κ×V)→List (κ×Value)→Prop:=Paired fun (p:κ×V) (q:κ×Value)=>p.1=q.1∧RelV p.2 q.2
def kV:Key→V
 | .inl i=> .int i
 | .inr x=> .str x
inductive HO where
 |lst (xs:List V)
 |tup (xs:List V)
 |dK (kvs:List (Key×V))|dT (kvs:List (List Key×V))
 |set (S:Int→Bool) (n:Nat)
 |ins (C dx:Addr) (fs:List (Str×V))
 |own (x:Addr)
 |xd (fs:List (Str×V))
 |met (f x:Addr)
 |fu (lo hi:Int)
 |cK (o:Obj) (u:HO)
 |iq (ps:Array Value)
 |ext (φ:Heap→Prop)
abbrev Hp:=Addr→Option HO
def upd (H:Hp) (a:Addr) (o:HO):Hp:=fun b=>if b=a then some o else H b
theorem ak {H:Hp} {a:Addr} {o:HO}:upd H a o a=some o:=by unfold upd;rw[if_pos rfl]
theorem ay {H:Hp} {a b:Addr} {o:HO} (h:b≠a):upd H a o b=H b:=by unfold upd;rw[if_neg h]
theorem cM {H:Hp} {a:Addr} {o u:HO}:upd (upd H a o) a u=upd H a u:=by
 funext b;unfold upd;split<;>rfl
theorem fD {H:Hp} {a b:Addr} {o u:HO} (h:H a=some o) (h':H b=some u) (d:o≠u):a≠b:=by
 intro e;subst e;rw[h] at h';exact d (Option.some.inj h')
theorem bZ {H:Hp} {a b:Addr} {o:HO} (h:H a=some o) (h':H b=none):a≠b:=by
 intro e;subst e;rw[h] at h';cases h'
section
variable (P:Program) (w:World)
def bJ (H:Hp) (h:Heap) (a:Addr):HO→Prop
 | .lst xs=>xs.length≤sizeLine∧ ∃(its:List Value) (n:Nat),Vals xs its∧h.get? a=some {cls:= .type "list",data:= .seq its.toArray n}
 | .tup xs=>xs.length≤sizeLine∧ ∃its:List Value,Vals xs its∧IsTup h a its.toArray
 | .dK kvs=>kvs.length≤sizeLine∧(a==sysModules)=false∧ ∃vs,KV kvs vs∧h.DictOf (cW P w) a vs
 | .dT kvs=>kvs.length≤sizeLine∧(a==sysModules)=false∧ ∃xs:List (List Key×Addr×Value),
   Paired (fun (p:List Key×V) (q:List Key×Addr×Value)=>p.1=q.1∧H q.2.1=some (.tup (p.1.map kV))∧RelV p.2 q.2.2) kvs xs∧
   ∃o es ep,h.get? a=some o∧o.ExactDict∧o.data= .dict es ep∧es.toList=xs.map (entryOfKey (tupleKind (cW P w)))∧(xs.map (·.1)).Nodup
 | .set S n=>h.SetOf (intKind P w) a S n
 | .ins C dx fs=>H dx=some (.own a)∧fs.length≤1000∧dx≠a∧h.get? a=some (PySem.W.instObj C dx)∧
   ∃mA,h.Ns1 dx mA∧(∀f,cB (fs.lookup f) (mA f))∧PySem.Within mA (fs.map (·.1))
 | .own _=> ∃o,h.get? a=some o
 | .xd fs=> ∃mA,h.Ns1 a mA∧ ∀f,cB (fs.lookup f) (mA f)
 | .fu lo hi=> ∃t u v,h.get? a=some {cls:= .type "range",data:= .fields #[.int lo t, .int hi u, .int 1 v]}
 | .cK o u=>h.get? a=some o∧bJ H h a u
 | .iq ps=>h.get? a=some {cls:= .none,data:= .fields ps}
 | .met f x=>h.get? a=some (PySem.W.methodObj (.ref f) (.ref x))
 | .ext φ=>φ h∧(∃o,h.get? a=some o)∧ ∀h1 h2:Heap,φ h1→(∀o,h1.get? a=some o→h2.get? a=some o)→φ h2
def bh (H:Hp) (h:Heap):Prop:= ∀a o,H a=some o→bJ P w H h a o
end
section
variable {P:Program} {w:World} {H H':Hp} {h h':Heap} {a:Addr} {o:HO}
theorem bJ.lt (x:bJ P w H h a o):a<h.objs.size:=by
 cases o with
 |lst xs=>obtain ⟨_,_,_,_,e⟩:=x;exact Heap.lt_size e
 |tup xs=>obtain ⟨_,_,_,p⟩:=x;exact p.lt
 |dK kvs=>obtain ⟨_,_,_,_,o,_,_,e,_⟩:=x;exact Heap.lt_size e
 |dT kvs=>obtain ⟨_,_,_,_,o,_,_,e,_⟩:=x;exact Heap.lt_size e
 |set S n=>obtain ⟨o,_,_,_,e,_⟩:=x;exact Heap.lt_size e
 |ins C dx fs=>obtain ⟨_,_,_,e,_⟩:=x;exact Heap.lt_size e
 |own y=>obtain ⟨_,e⟩:=x;exact Heap.lt_size e
 |xd fs=>obtain ⟨_,⟨_,_,_,e,_⟩,_⟩:=x;exact Heap.lt_size e
 |fu lo hi=>obtain ⟨_,_,_,e⟩:=x;exact Heap.lt_size e
 |cK ob u=>obtain ⟨e,_⟩:=x;exact Heap.lt_size e
 |iq ps=>exact Heap.lt_size (show h.get? a=some _ from x)
 |met f y=>exact Heap.lt_size (show h.get? a=some _ from x)
 |ext φ=>obtain ⟨_,⟨_,e⟩,_⟩:=x;exact Heap.lt_size e
theorem Paired.vw {α β:Type} {F G:α→β→Prop}: ∀{l₁:List α} {l₂:List β},Paired F l₁ l₂→(∀a b,F a b→G a b)→Paired G l₁ l₂
 |_,_, .nil,_=> .nil
 |_,_, .cons r t,f=> .cons (f _ _ r) (Paired.vw t f)
theorem bJ.eW (x:bJ P w H h a o) (k: ∀b u,(b=a∨H b=some (.own a))→h.get? b=some u→h'.get? b=some u)
  (ho: ∀b,H b=some (.own a)→H' b=some (.own a)) (ht: ∀b xs,H b=some (.tup xs)→H' b=some (.tup xs)):bJ P w H' h' a o:=by
 induction o with
 |lst xs=>obtain ⟨z,its,n,r,e⟩:=x;exact ⟨z,its,n,r,k _ _ (.inl rfl) e⟩
 |tup xs=>obtain ⟨z,its,r,ob,e,c⟩:=x;exact ⟨z,its,r,ob,k _ _ (.inl rfl) e,c⟩
 |dK kvs=>obtain ⟨z,y,vs,r,ob,es,ep,e,c⟩:=x;exact ⟨z,y,vs,r,ob,es,ep,k _ _ (.inl rfl) e,c⟩
 |dT kvs=>
  obtain ⟨z,y,xs,r,ob,es,ep,e,c⟩:=x
  exact ⟨z,y,xs,Paired.vw r fun p q z=>⟨z.1,ht _ _ z.2.1,z.2.2⟩,ob,es,ep,k _ _ (.inl rfl) e,c⟩
 |set S n=>obtain ⟨ob,es,ep,t,e,c⟩:=x;exact ⟨ob,es,ep,t,k _ _ (.inl rfl) e,c⟩
 |ins C dx fs=>
  obtain ⟨d,z,ne,e,mA,⟨od,es,ep,e2,c⟩,r⟩:=x
  exact ⟨ho _ d,z,ne,k _ _ (.inl rfl) e,mA,⟨od,es,ep,k _ _ (.inr d) e2,c⟩,r⟩
 |own y=>obtain ⟨ob,e⟩:=x;exact ⟨ob,k _ _ (.inl rfl) e⟩
 |xd fs=>obtain ⟨mA,⟨od,es,ep,e,c⟩,r⟩:=x;exact ⟨mA,⟨od,es,ep,k _ _ (.inl rfl) e,c⟩,r⟩
 |fu lo hi=>obtain ⟨t,u,v,e⟩:=x;exact ⟨t,u,v,k _ _ (.inl rfl) e⟩
 |cK ob u ih=>obtain ⟨e,q⟩:=x;exact ⟨k _ _ (.inl rfl) e,ih q⟩
 |iq ps=>
  have e:h.get? a=some {cls:= .none,data:= .fields ps}:=x
  show h'.get? a=some {cls:= .none,data:= .fields ps}
  exact k a _ (.inl rfl) e
 |met f y=>
  have e:h.get? a=some (PySem.W.methodObj (.ref f) (.ref y)):=x
  show h'.get? a=some (PySem.W.methodObj (.ref f) (.ref y))
  exact k a _ (.inl rfl) e
 |ext φ=>obtain ⟨p,⟨o,e⟩,st⟩:=x;exact ⟨st _ _ p fun o q=>k _ _ (.inl rfl) q,⟨o,k _ _ (.inl rfl) e⟩,st⟩
theorem bh.lt (x:bh P w H h) (e:H a=some o):a<h.objs.size:=(x a o e).lt
theorem bh.fresh (x:bh P w H h) (e:h.objs.size≤a):H a=none:=by
 cases q:H a with
 |none=>rfl
 |some u=>exact absurd (Nat.lt_of_lt_of_le (x.lt q) e) (Nat.lt_irrefl _)
theorem bh.kept (x:bh P w H h) (k: ∀b u,h.get? b=some u→h'.get? b=some u):bh P w H h':=fun a o e=>
 (x a o e).eW (fun b u _ q=>k b u q) (fun _ q=>q) fun _ _ q=>q
theorem bh.laid (x:bh P w H h) (k: ∀b u,h.get? b=some u→h'.get? b=some u) (hp:h.objs.size≤a) (new:bJ P w (upd H a o) h' a o):bh P w (upd H a o) h':=fun b u e=>by
 have hn:=x.fresh hp
 by_cases hb:b=a
 ·subst hb;rw[ak] at e;cases e;exact new
 ·rw[ay hb] at e
  exact (x b u e).eW (fun c v _ q=>k c v q) (fun c q=>by rw[ay (bZ q hn)];exact q) fun c xs q=>by rw[ay (bZ q hn)];exact q
end
def Rd (H:Hp) (a:Addr) (u:HO):Prop:=H a=some u∨ ∃o,H a=some (.cK o u)
theorem Rd.ok {P:Program} {w:World} {H:Hp} {h:Heap} {a:Addr} {u:HO} (r:Rd H a u) (x:bh P w H h):bJ P w H h a u:=by
 rcases r with r|⟨o,r⟩
 ·exact x a u r
 ·obtain ⟨_,q⟩:=x a _ r
  exact q
def l9:Option HO→Prop
 |some (.lst _)=>True
 |some (.dK _)=>True
 |some (.dT _)=>True
 |some (.set _ _)=>True
 |some (.ins _ _ _)=>True
 |some (.ext _)=>True
 |_=>False
section
variable {P:Program} {w:World} {H:Hp} {h h':Heap} {x e:Addr} {o':HO}
theorem bh.write (ok:bh P w H h) (mu:l9 (H x)) (he:e=x∨H e=some (.own x)) (k: ∀b u,b≠e→h.get? b=some u→h'.get? b=some u) (heo: ∃u,h'.get? e=some u)
  (new:bJ P w (upd H x o') h' x o'):bh P w (upd H x o') h':=fun b u q=>by
 have nown: ∀c y,H c=some (.own y)→c≠x:=fun c y r z=>by subst z;rw[r] at mu;exact mu
 have ntup: ∀c xs,H c=some (.tup xs)→c≠x:=fun c xs r z=>by subst z;rw[r] at mu;exact mu
 by_cases hb:b=x
 ·subst hb;rw[ak] at q;cases q;exact new
 ·rw[ay hb] at q
  by_cases hbe:b=e
  ·have q':H b=some (.own x):=by
    rcases he with z|z
    ·exact absurd (hbe.trans z) hb
    ·rw[hbe];exact z
   rw[q] at q';cases q'
   obtain ⟨v,hv⟩:=heo
   exact ⟨v,by rw[hbe];exact hv⟩
  ·refine (ok b u q).eW (fun c v hc r=>k c v ?_ r) (fun c r=>by rw[ay (nown c b r)];exact r) fun c xs r=>by rw[ay (ntup c xs r)];exact r
   rcases hc with rfl|hc
   ·exact hbe
   ·rintro rfl
    rcases he with z|z
    ·exact nown c b hc z
    ·rw[hc] at z;cases z;exact hb rfl
end
structure Un (fs ex:List Addr) (H H':Hp) (h h':Heap):Prop where
 keep: ∀b o,h.get? b=some o→H b=none→b∉fs→b∉ex→h'.get? b=some o
 slot: ∀b o,h.get? b=some o→H b=none→b∈fs→b∉ex→ ∃sl,h'.get? b=some {o with slots:=sl}
 free: ∀b o,h.get? b=some o→H b=none→b∉ex→H' b=none
 there: ∀b o,h.get? b=some o→b∉ex→ ∃o',h'.get? b=some o'
 fO: ∀b xs,H b=some (.tup xs)→H' b=some (.tup xs)
 fG: ∀b o u,H b=some (.cK o u)→H' b=some (.cK o u)
 gb: ∀b ps,H b=some (.iq ps)→ ∃more,H' b=some (.iq (ps++more))
section
variable {fs fs' ex ex':List Addr} {H H1 H2:Hp} {h h1 h2 h':Heap} {a x e:Addr} {o:HO}
theorem Un.any (u:Un fs ex H H1 h h1) {b:Addr} {ob:Obj} (q:h.get? b=some ob) (n:H b=none) (hx:b∉ex): ∃sl,h1.get? b=some {ob with slots:=sl}:=by
 by_cases hb:b∈fs
 ·exact u.slot b ob q n hb hx
 ·exact ⟨ob.slots,u.keep b ob q n hb hx⟩
theorem Un.kept (k: ∀b u,h.get? b=some u→h'.get? b=some u):Un fs ex H H h h':=
 ⟨fun b ob q _ _ _=>k b ob q,fun b ob q _ _ _=>⟨ob.slots,k b ob q⟩,fun _ _ _ n _=>n,fun b ob q _=>⟨ob,k b ob q⟩,fun _ _ q=>q,fun _ _ _ q=>q,fun _ ps q=>⟨#[],by rw[q];simp⟩⟩
theorem Un.refl:Un fs ex H H h h:=Un.kept fun _ _ q=>q
theorem Un.laid (k: ∀b u,h.get? b=some u→h'.get? b=some u) (hp:h.objs.size≤a) (hn:H a=none):Un fs ex H (upd H a o) h h' where
 keep:=fun b u q _ _ _=>k b u q
 slot:=fun b u q _ _ _=>⟨u.slots,k b u q⟩
 free:=fun b u q n _=>by rw[ay (Nat.ne_of_lt (Nat.lt_of_lt_of_le (Heap.lt_size q) hp))];exact n
 there:=fun b u q _=>⟨u,k b u q⟩
 fO:=fun b xs q=>by rw[ay (bZ q hn)];exact q
 fG:=fun b u xs q=>by rw[ay (bZ q hn)];exact q
 gb:=fun b ps q=>⟨#[],by rw[ay (bZ q hn),q];simp⟩
theorem Un.write (mu:l9 (H x)) (he:e=x∨H e=some (.own x)) (k: ∀b u,b≠e→h.get? b=some u→h'.get? b=some u) (heo: ∃u,h'.get? e=some u):Un fs ex H (upd H x o) h h':=by
 have hx: ∀b,H b=none→b≠x:=fun b n z=>by subst z;rw[n] at mu;exact mu
 have hb: ∀b,H b=none→b≠e:=fun b n z=>by
  subst z
  rcases he with r|r
  ·exact hx b n r
  ·rw[n] at r;cases r
 have hm: ∀b u,H b=some u→ ¬l9 (some u)→b≠x:=fun b u q nm z=>by subst z;rw[q] at mu;exact nm mu
 refine ⟨fun b u q n _ _=>k b u (hb b n) q,fun b u q n _ _=>⟨u.slots,k b u (hb b n) q⟩,fun b u q n _=>by rw[ay (hx b n)];exact n,fun b u q _=>?_,
  fun b xs q=>by rw[ay (hm b _ q fun z=>z)];exact q,fun b u xs q=>by rw[ay (hm b _ q fun z=>z)];exact q,fun b ps q=>⟨#[],by rw[ay (hm b _ q fun z=>z),q];simp⟩⟩
 by_cases hbe:b=e
 ·subst hbe;exact heo
 ·exact ⟨u,k b u hbe q⟩
end
def rF (h:Heap) (H:Hp):List Addr:=(List.range h.objs.size).filter fun a=>(H a).isSome
def gA (h:Heap) (H:Hp):Heap:=PySem.W.hideAll h (rF h H)
theorem Rh (h:Heap) (H:Hp):(gA h H).objs.size=h.objs.size:=PySem.W.hideAll_size _ _
theorem KW {h:Heap} {H:Hp} {b:Addr} {o:Obj} (e:h.get? b=some o) (n:H b=none):(gA h H).get? b=some o:=
 PySem.W.hideAll_get _ e fun hm=>by
  have q:(H b).isSome=true:=(List.mem_filter.mp hm).2
  rw[n] at q;simp at q
theorem NW {h:Heap} {H:Hp} {b:Addr} {o:Obj} (e:(gA h H).get? b=some o):h.get? b=some o∧H b=none:=by
 have e':h.get? b=some o:=PySem.W.of_hideAll (rF h H) e
 refine ⟨e',?_⟩
 cases q:H b with
 |none=>rfl
 |some x=>
  have hm:b∈rF h H:=List.mem_filter.mpr ⟨List.mem_range.mpr (Heap.lt_size e'),by simp [q]⟩
  have z:(gA h H).get? b=none:=PySem.W.hideAll_none (rF h H) hm
  rw[z] at e;cases e
end L2
namespace L2
open PySem PySem.Spec PyProof.Rows
structure Mod (K:PySem.W.Frag) (mg:Str→Option Value) (base:Heap):Prop where
 ke:K.In base
 glob:base.Ns mainGlobals mg
 blt: ∃mb,base.Ns builtinsNs mb∧ ∀x:Str,x≠ "__name__" →mb x=bootBuiltins x
 nolimit:base.NoLimit
structure Cx where
 prog:Program
 w:World
 K:PySem.W.Frag
 mg:Str→Option Value
 base:Heap
 A:Around
 N:List Str
 a8:Shared
 kg:Hp
 env:Env
 outer:List Env
 stack:List Env
 ex:List Addr
 fn:Str→Bool
 calm:Bool
 pn:List (Addr×Obj)
 xe:Value→Shared→Prop
def aX (l:List Env):List Addr:=l.filterMap (·.frame)
abbrev Cx.fs (X:Cx):List Addr:=aX X.outer
def jO (sc:Scope) (x:Str):Prop:=sc.names.lookup x=some .local∨sc.names.lookup x=some .cell∨sc.names.lookup x=some .free
def Loc (sc:Scope) (x:Str):Prop:=sc.names.lookup x=some .local∨sc.names.lookup x=some .cell
def Look (env:Env) (h:Heap) (m:Str→Option Value) (x:Str) (u:Value):Prop:=
 (env.kindOf x=some .local∧m x=some u)∨((env.kindOf x=some .cell∨env.kindOf x=some .free)∧ ∃c,env.cells.lookup x=some c∧h.IsCell c (some u))
structure Cx.Ok (X:Cx):Prop where
 mod:Mod X.K X.mg X.base
 kind:X.env.scope.kind= .function
 glob:X.env.globals=mainGlobals
 blt:X.env.builtins=builtinsNs
 above:X.a8.heap.objs.size≤X.env.locals
 inj: ∀x y c,X.env.cells.lookup x=some c→X.env.cells.lookup y=some c→x=y
 has: ∀x,(X.env.kindOf x=some .cell∨X.env.kindOf x=some .free)→ ∃c,X.env.cells.lookup x=some c
 iw: ∀x c,X.fn x=true→X.env.cells.lookup x=some c→X.a8.heap.objs.size≤c
 hd:X.calm=true→X.A.handled=none
 frames:X.A.frames=some X.stack
 iR:X.stack=X.outer∨(X.stack=X.env::X.outer∧X.env.frame=some X.env.locals)
 gM: ∀b∈X.ex,b≠X.env.locals∧ ∀x c,X.env.cells.lookup x=some c→c≠b
 bs: ∀b o,X.base.get? b=some o→X.a8.heap.get? b=some o∧X.kg b=none
 fz:X.base.objs.size≤X.a8.heap.objs.size
 eK: ∀b o,X.base.get? b=some o→b∉X.ex
 gJ: ∀b∈X.ex,b∉X.fs
 dv:X.a8.heap.FunFrames X.base X.outer
 fT: ∀b∈X.fs,X.kg b=none
structure Inv (X:Cx) (pins:List (Addr×Obj)) (σ:List (Option V)) (H:Hp) (s:Shared):Prop where
 ok:X.Ok
 os:s.os=X.a8.os
 bare:AllBare s.gens
 base:Un X.fs X.ex X.kg H X.a8.heap s.heap
 loc: ∃m,s.heap.Ns X.env.locals m∧ ∀(i:Nat) (x:Str) (v:V),X.N[i]?=some x→σ[i]?=some (some v)→jO X.env.scope x→ ∃u,RelV v u∧Look X.env s.heap m x u
 cell: ∀x c,X.env.cells.lookup x=some c→ ∃v,s.heap.IsCell c v
 free:H X.env.locals=none
 dC: ∀x c,X.env.cells.lookup x=some c→H c=none
 pin: ∀p∈X.pn++pins,s.heap.get? p.1=some p.2∧H p.1=none∧p.1≠X.env.locals∧p.1∉X.fs∧ ∀v,p.2.data≠ .cell v
 ag:bh X.prog X.w H s.heap
 len:σ.length=X.N.length
section
variable {X:Cx} {pins:List (Addr×Obj)} {σ:List (Option V)} {H H':Hp} {s:Shared} {h':Heap}
theorem Cx.Ok.IJ (ok:X.Ok) {b:Addr} {o:Obj} (e:X.base.get? b=some o):b∉X.fs:=fun hb=>by
 have:=(ok.dv.mem hb).1
 rw[e] at this;cases this
theorem Inv.bs (I:Inv X pins σ H s): ∀b o,X.base.get? b=some o→s.heap.get? b=some o∧H b=none:=fun b o e=>
 ⟨I.base.keep b o (I.ok.bs b o e).1 (I.ok.bs b o e).2 (I.ok.IJ e) (I.ok.eK b o e),I.base.free b o (I.ok.bs b o e).1 (I.ok.bs b o e).2 (I.ok.eK b o e)⟩
theorem Inv.bk (I:Inv X pins σ H s): ∀b o,X.base.get? b=some o→s.heap.get? b=some o:=fun b o e=>(I.bs b o e).1
theorem Inv.mod (I:Inv X pins σ H s):Mod X.K X.mg X.base:=I.ok.mod
theorem Inv.cy (I:Inv X pins σ H s):X.K.In s.heap:=I.ok.mod.ke.keeps I.bk
theorem Inv.lt (I:Inv X pins σ H s):X.env.locals<s.heap.objs.size:=let ⟨_,hn,_⟩:=I.loc;hn.lt
theorem Inv.sz (I:Inv X pins σ H s):X.a8.heap.objs.size≤s.heap.objs.size:=Nat.le_trans I.ok.above (Nat.le_of_lt I.lt)
theorem Inv.Gu (I:Inv X pins σ H s) {a:Addr} (h:s.heap.objs.size≤a):a∉X.fs:=fun hb=>by
 obtain ⟨_,o,ho,_⟩:=I.ok.dv.mem hb
 exact absurd (Nat.lt_of_lt_of_le (Heap.lt_size ho) (Nat.le_trans I.sz h)) (Nat.lt_irrefl _)
theorem Inv.iP (I:Inv X pins σ H s): ∀x c,X.env.cells.lookup x=some c→c≠X.env.locals:=fun x c e z=>by
 obtain ⟨v,o,ho,hd⟩:=I.cell x c e
 obtain ⟨m,⟨o',es,ep,ho',hd',_⟩,_⟩:=I.loc
 rw[z,ho'] at ho;cases ho;rw[hd'] at hd;cases hd
theorem Inv.dv (I:Inv X pins σ H s):s.heap.FunFrames X.base X.outer:=by
 have all: ∀(l:List Env),(∀b∈aX l,b∈X.fs)→X.a8.heap.FunFrames X.base l→s.heap.FunFrames X.base l:=by
  intro l
  induction l with
  |nil=>intro _ _;trivial
  |cons env r ih=>
   intro hs hl
   obtain ⟨hk,⟨L,o,hf,hn,ho,hd⟩,hr⟩:=hl
   have hL:L∈X.fs:=hs L (by unfold aX;rw[List.filterMap_cons,hf];exact List.mem_cons_self)
   obtain ⟨sl,e⟩:=I.base.slot L o ho (I.ok.fT L hL) hL fun z=>I.ok.gJ L z hL
   exact ⟨hk,⟨L,_,hf,hn,e,hd⟩,ih (fun b hb=>hs b (by unfold aX;rw[List.filterMap_cons,hf];exact List.mem_cons_of_mem _ hb)) hr⟩
 exact all X.outer (fun _ hb=>hb) I.ok.dv
theorem Inv.stack (I:Inv X pins σ H s):s.heap.FunFrames X.base X.stack:=by
 rcases I.ok.iR with e|⟨e,hf⟩
 ·rw[e];exact I.dv
 ·rw[e]
  obtain ⟨m,hn,_⟩:=I.loc
  refine .cons (by rw[I.ok.kind];decide) hf hn ?_ I.dv
  exact Heap.get?_none_of_le (Nat.le_trans I.ok.fz I.ok.above)
theorem Inv.l7 (I:Inv X pins σ H s): ∀b∈aX X.stack,b∈X.env.locals::X.fs:=fun b hb=>by
 rcases I.ok.iR with e|⟨e,hf⟩
 ·rw[e] at hb;exact List.mem_cons_of_mem _ hb
 ·rw[e] at hb
  unfold aX at hb
  rw[List.filterMap_cons,hf] at hb
  exact hb
theorem Inv.qg (I:Inv X pins σ H s): ∀b∈aX X.stack,H b=none:=fun b hb=>by
 rcases List.mem_cons.mp (I.l7 b hb) with e|hb
 ·rw[e];exact I.free
 ·obtain ⟨_,o,ho,_⟩:=I.ok.dv.mem hb
  exact I.base.free b o ho (I.ok.fT b hb) fun z=>I.ok.gJ b z hb
theorem Inv.step {g':Array GenState} {t':Nat} {d':Drawn} {ch:List Addr} (I:Inv X pins σ H s)
  (hch: ∀b∈ch,(b∈X.ex∨X.a8.heap.objs.size≤b)∧b≠X.env.locals∧(∀x c,X.env.cells.lookup x=some c→c≠b)∧ ∀p∈X.pn++pins,p.1≠b)
  (keep: ∀b o,b≠X.env.locals→b∉X.fs→b∉ch→s.heap.get? b=some o→H b=none→h'.get? b=some o)
  (slot: ∀b o,b≠X.env.locals→b∈X.fs→b∉ch→s.heap.get? b=some o→H b=none→ ∃sl,h'.get? b=some {o with slots:=sl}) (free: ∀b o,b∉ch→s.heap.get? b=some o→H b=none→H' b=none)
  (there: ∀b o,b∉ch→s.heap.get? b=some o→ ∃o',h'.get? b=some o')
  (fO: ∀b xs,H b=some (.tup xs)→H' b=some (.tup xs)) (fG: ∀b o u,H b=some (.cK o u)→H' b=some (.cK o u)) (gb: ∀b ps,H b=some (.iq ps)→ ∃more,H' b=some (.iq (ps++more)))
  (ns: ∀m,s.heap.Ns X.env.locals m→h'.Ns X.env.locals m) (ag:bh X.prog X.w H' h') (hg:AllBare g'):
  Inv X pins σ H' {s with heap:=h',gens:=g',drawn:=d',toks:=t'}:=by
 have neL: ∀b o,X.a8.heap.get? b=some o→b≠X.env.locals:=fun b o e=>Nat.ne_of_lt (Nat.lt_of_lt_of_le (Heap.lt_size e) I.ok.above)
 have neC: ∀b o,X.a8.heap.get? b=some o→b∉X.ex→b∉ch:=fun b o e hx hb=>by
  rcases (hch b hb).1 with z|z
  ·exact hx z
  ·exact absurd (Nat.lt_of_lt_of_le (Heap.lt_size e) z) (Nat.lt_irrefl _)
 have cellK: ∀x c,X.env.cells.lookup x=some c→ ∀v,s.heap.IsCell c v→h'.IsCell c v:=fun x c e v ⟨o,ho,hd⟩=>by
  have nch:c∉ch:=fun z=>(hch c z).2.2.1 x c e rfl
  by_cases hc:c∈X.fs
  ·obtain ⟨sl,q⟩:=slot c o (I.iP x c e) hc nch ho (I.dC x c e)
   exact ⟨_,q,hd⟩
  ·exact ⟨o,keep c o (I.iP x c e) hc nch ho (I.dC x c e),hd⟩
 refine ⟨I.ok,I.os,hg,⟨fun b o e n hb hx=>?_,fun b o e n hb hx=>?_,fun b o e n hx=>?_,fun b o e hx=>?_,fun b xs e=>fO b xs (I.base.fO b xs e),fun b o xs e=>fG b o xs (I.base.fG b o xs e),fun b ps e=>?_⟩,?_,fun x c e=>?_,?_,fun x c e=>?_,fun p hp=>?_,ag,I.len⟩
 ·exact keep b o (neL b o e) hb (neC b o e hx) (I.base.keep b o e n hb hx) (I.base.free b o e n hx)
 ·obtain ⟨sl,e1⟩:=I.base.slot b o e n hb hx
  obtain ⟨sl',e2⟩:=slot b _ (neL b o e) hb (neC b o e hx) e1 (I.base.free b o e n hx)
  exact ⟨sl',e2⟩
 ·obtain ⟨o',e1⟩:=I.base.there b o e hx
  exact free b o' (neC b o e hx) e1 (I.base.free b o e n hx)
 ·obtain ⟨o',e1⟩:=I.base.there b o e hx
  exact there b o' (neC b o e hx) e1
 ·obtain ⟨m1,e1⟩:=I.base.gb b ps e
  obtain ⟨m2,e2⟩:=gb b _ e1
  exact ⟨m1++m2,by rw[e2,Array.append_assoc]⟩
 ·obtain ⟨m,hn,hl⟩:=I.loc
  refine ⟨m,ns m hn,fun i x v e1 e2 e3=>?_⟩
  obtain ⟨u,r,l⟩:=hl i x v e1 e2 e3
  refine ⟨u,r,?_⟩
  rcases l with l|⟨k,c,e,z⟩
  ·exact .inl l
  ·exact .inr ⟨k,c,e,cellK x c e _ z⟩
 ·obtain ⟨v,z⟩:=I.cell x c e
  exact ⟨v,cellK x c e v z⟩
 ·obtain ⟨m,⟨o,_,_,ho,_⟩,_⟩:=I.loc
  exact free _ o (fun z=>(hch _ z).2.1 rfl) ho I.free
 ·obtain ⟨v,o,ho,hd⟩:=I.cell x c e
  exact free c o (fun z=>(hch c z).2.2.1 x c e rfl) ho (I.dC x c e)
 ·obtain ⟨e,n,ne,nf,d⟩:=I.pin p hp
  have nch:p.1∉ch:=fun z=>(hch p.1 z).2.2.2 p hp rfl
  exact ⟨keep p.1 p.2 ne nf nch e n,free p.1 p.2 nch e n,ne,nf,d⟩
theorem Inv.un {t':Nat} (I:Inv X pins σ H s) (u:Un X.fs [] H H' s.heap h') (ag:bh X.prog X.w H' h'):Inv X pins σ H' {s with heap:=h',toks:=t'}:=by
 obtain ⟨m,⟨o,es,ep,ho,r⟩,_⟩:=id I.loc
 obtain ⟨sl,hL⟩:=u.any ho I.free (by simp)
 exact I.step (g':=s.gens) (d':=s.drawn) (ch:= []) (fun _ z=>nomatch z) (fun b o _ hb _ e n=>u.keep b o e n hb (by simp)) (fun b o _ hb _ e n=>u.slot b o e n hb (by simp)) (fun b o _ e n=>u.free b o e n (by simp)) (fun b o _ e=>u.there b o e (by simp)) u.fO u.fG u.gb (fun m' hm=>by
  obtain ⟨o',es',ep',ho',r'⟩:=hm
  rw[ho] at ho';cases ho'
  exact ⟨_,es',ep',hL,r'⟩) ag I.bare
theorem Inv.call {g':Array GenState} {t':Nat} {d':Drawn} {ch:List Addr} (I:Inv X pins σ H s) (u:Un (aX X.stack) ch H H' s.heap h') (ag:bh X.prog X.w H' h') (hg:AllBare g')
  (hch: ∀b∈ch,(b∈X.ex∨X.a8.heap.objs.size≤b)∧b≠X.env.locals∧(∀x c,X.env.cells.lookup x=some c→c≠b)∧ ∀p∈X.pn++pins,p.1≠b):
  Inv X pins σ H' {s with heap:=h',gens:=g',drawn:=d',toks:=t'}:=by
 obtain ⟨m,⟨o,es,ep,ho,r⟩,_⟩:=id I.loc
 obtain ⟨sl,hL⟩:=u.any ho I.free fun z=>(hch _ z).2.1 rfl
 exact I.step (ch:=ch) hch (fun b o hL hb hc e n=>u.keep b o e n (fun z=>(List.mem_cons.mp (I.l7 b z)).elim hL hb) hc) (fun b o _ _ hc e n=>u.any e n hc) (fun b o hc e n=>u.free b o e n hc) (fun b o hc e=>u.there b o e hc) u.fO u.fG u.gb (fun m' hm=>by
  obtain ⟨o',es',ep',ho',r'⟩:=hm
  rw[ho] at ho';cases ho'
  exact ⟨_,es',ep',hL,r'⟩) ag hg
theorem Inv.turned {t':Nat} {it:Addr} (I:Inv X pins σ H s) (k: ∀b o,b≠it→s.heap.get? b=some o→h'.get? b=some o) (hn:H it=none) (hL:it≠X.env.locals)
  (h1:it∈X.ex∨X.a8.heap.objs.size≤it) (h2: ∀x c,X.env.cells.lookup x=some c→c≠it) (h3: ∀p∈X.pn++pins,p.1≠it):Inv X pins σ H {s with heap:=h',toks:=t'}:=by
 have nit: ∀b u,H b=some u→b≠it:=fun b u e z=>by rw[z,hn] at e;cases e
 refine I.step (g':=s.gens) (d':=s.drawn) (ch:= [it]) (fun b hb=>?_) (fun b o _ _ hc e _=>k b o (fun z=>hc (by simp [z])) e) (fun b o _ _ hc e _=>⟨o.slots,k b o (fun z=>hc (by simp [z])) e⟩) (fun _ _ _ _ n=>n)
  (fun b o hc e=>⟨o,k b o (fun z=>hc (by simp [z])) e⟩) (fun _ _ e=>e) (fun _ _ _ e=>e) (fun b ps e=>⟨#[],by rw[e];simp⟩) (fun m hm=>?_) (fun b u e=>?_) I.bare
 ·have e:b=it:=by simpa using hb
  subst e
  exact ⟨h1,hL,h2,h3⟩
 ·obtain ⟨o,es,ep,ho,r⟩:=hm
  exact ⟨o,es,ep,k _ o (Ne.symm hL) ho,r⟩
 ·refine (I.ag b u e).eW (fun c v hc q=>k c v ?_ q) (fun _ q=>q) fun _ _ q=>q
  rcases hc with z|z
  ·rw[z];exact nit b u e
  ·exact nit c _ z
theorem Inv.tok (I:Inv X pins σ H s) (t:Nat):Inv X pins σ H {s with toks:=t}:=I.un (h':=s.heap) (t':=t) Un.refl I.ag
theorem Inv.kept {t':Nat} (I:Inv X pins σ H s) (k: ∀b u,s.heap.get? b=some u→h'.get? b=some u):Inv X pins σ H {s with heap:=h',toks:=t'}:=I.un (Un.kept k) (I.ag.kept k)
theorem Inv.laid {a:Addr} {o:HO} {t':Nat} (I:Inv X pins σ H s) (k: ∀b u,s.heap.get? b=some u→h'.get? b=some u) (hp:s.heap.objs.size≤a) (new:bJ X.prog X.w (upd H a o) h' a o):
  Inv X pins σ (upd H a o) {s with heap:=h',toks:=t'}:=I.un (Un.laid k hp (I.ag.fresh hp)) (I.ag.laid k hp new)
theorem Inv.write {x e:Addr} {o:HO} {t':Nat} (I:Inv X pins σ H s) (mu:l9 (H x)) (he:e=x∨H e=some (.own x)) (k: ∀b u,b≠e→s.heap.get? b=some u→h'.get? b=some u) (heo: ∃u,h'.get? e=some u)
  (new:bJ X.prog X.w (upd H x o) h' x o):Inv X pins σ (upd H x o) {s with heap:=h',toks:=t'}:=I.un (Un.write mu he k heo) (I.ag.write mu he k heo new)
theorem Inv.weak {σ':List (Option V)} (I:Inv X pins σ H s) (hl:σ'.length=σ.length) (w: ∀(i:Nat) v,σ'[i]?=some (some v)→σ[i]?=some (some v)):Inv X pins σ' H s:=
 ⟨I.ok,I.os,I.bare,I.base,let ⟨m,hn,hl'⟩:=I.loc;⟨m,hn,fun i x v e1 e2 e3=>hl' i x v e1 (w i v e2) e3⟩,I.cell,I.free,I.dC,I.pin,I.ag,hl.trans I.len⟩
theorem Inv.BC {pins':List (Addr×Obj)} (I:Inv X pins σ H s) (h: ∀p∈pins',s.heap.get? p.1=some p.2∧H p.1=none∧p.1≠X.env.locals∧p.1∉X.fs∧ ∀v,p.2.data≠ .cell v):Inv X pins' σ H s:=
 ⟨I.ok,I.os,I.bare,I.base,I.loc,I.cell,I.free,I.dC,fun p hp=>(List.mem_append.mp hp).elim (fun z=>I.pin p (List.mem_append_left _ z)) (h p),I.ag,I.len⟩
theorem sY {N:List Str} (hN:N.Nodup) {i j:Nat} {x:Str} (a:N[i]?=some x) (b:N[j]?=some x):i=j:=by
 obtain ⟨h1,e1⟩:=List.getElem?_eq_some_iff.mp a
 obtain ⟨h2,e2⟩:=List.getElem?_eq_some_iff.mp b
 exact (List.getElem_inj hN).mp (e1.trans e2.symm)
theorem tJ {M:Model} {A:Around} {E:Value→Shared→Prop} {i:Nat} {x:Str} {v:V} {u:Value} {Q:Unit→Shared→Prop} (I:Inv X pins σ H s) (hN:X.N.Nodup) (hi:X.N[i]?=some x) (hx:Loc X.env.scope x) (r:RelV v u)
  (h: ∀s',Inv X pins (σ.set i (some v)) H s'→(∃a,Heap.SameBut a s.heap s'.heap∧(a=X.env.locals∨X.env.cells.lookup x=some a))→Q () s') (hf:X.fn x=true∨X.env.scope.names.lookup x=some .local:=by first|exact .inl rfl|exact .inr rfl|assumption):wpAny M A (storeName X.env x u) Q E s:=by
 obtain ⟨m,hn,hl⟩:=id I.loc
 have hcls:(X.env.scope.kind== .class||(X.env.scope.kind== .module&&X.env.locals !=X.env.globals))=false:=by rw[I.ok.kind];rfl
 have hiσ:i<σ.length:=by rw[I.len];exact (List.getElem?_eq_some_iff.mp hi).1
 have iP:=I.iP
 have tracked: ∀{a:Addr} {h':Heap},(∃o,s.heap.get? a=some o∧H a=none)→Heap.SameBut a s.heap h'→bh X.prog X.w H h':=fun {a h'} ha hs b ob e=>by
  obtain ⟨_,_,hfree⟩:=ha
  refine (I.ag b ob e).eW (fun c w' hc q=>(hs.2 c ?_).trans q) (fun _ q=>q) fun _ _ q=>q
  rintro rfl
  rcases hc with rfl|hc
  ·rw[hfree] at e;cases e
  ·rw[hfree] at hc;cases hc
 rcases hx with hk|hk
 ·refine wpAny_storeName_local hk hn (fun h' hn' hs=>?_) hcls
  obtain ⟨oL,_,_,hoL,_⟩:=id hn
  refine h _ ⟨I.ok,I.os,I.bare,⟨fun b o e n hb hx=>?_,fun b o e n hb hx=>?_,I.base.free,fun b o e hx=>?_,I.base.fO,I.base.fG,I.base.gb⟩,⟨_,hn',fun j y v' e1 e2 e3=>?_⟩,fun y c e=>?_,I.free,I.dC,fun p hp=>?_,tracked ⟨oL,hoL,I.free⟩ hs,by simpa using I.len⟩ ⟨_,hs, .inl rfl⟩
  ·exact (hs.2 b (Nat.ne_of_lt (Nat.lt_of_lt_of_le (Heap.lt_size e) I.ok.above))).trans (I.base.keep b o e n hb hx)
  ·obtain ⟨sl,e1⟩:=I.base.slot b o e n hb hx
   exact ⟨sl,(hs.2 b (Nat.ne_of_lt (Nat.lt_of_lt_of_le (Heap.lt_size e) I.ok.above))).trans e1⟩
  ·obtain ⟨o',e1⟩:=I.base.there b o e hx
   exact ⟨o',(hs.2 b (Nat.ne_of_lt (Nat.lt_of_lt_of_le (Heap.lt_size e) I.ok.above))).trans e1⟩
  ·by_cases hj:j=i
   ·subst hj
    rw[hi] at e1;cases e1
    rw[List.getElem?_set_self hiσ] at e2
    cases e2
    exact ⟨u,r, .inl ⟨hk,by simp⟩⟩
   ·rw[List.getElem?_set_ne (Ne.symm hj)] at e2
    obtain ⟨u',r',q⟩:=hl j y v' e1 e2 e3
    refine ⟨u',r',?_⟩
    rcases q with ⟨k,e⟩|⟨k,c,e,z⟩
    ·refine .inl ⟨k,?_⟩
     have:y≠x:=fun e=>hj (sY hN e1 (e▸hi))
     simp [this,e]
    ·exact .inr ⟨k,c,e,z.sameBut hs (iP y c e)⟩
  ·obtain ⟨w',z⟩:=I.cell y c e
   exact ⟨w',z.sameBut hs (iP y c e)⟩
  ·obtain ⟨e,n,ne,nf,d⟩:=I.pin p hp
   exact ⟨(hs.2 p.1 ne).trans e,n,ne,nf,d⟩
 ·have hfn:X.fn x=true:=by
   rcases hf with z|z
   ·exact z
   ·rw[z] at hk;cases hk
  obtain ⟨c,hc⟩:=I.ok.has x (.inl hk)
  obtain ⟨w',z⟩:=I.cell x c hc
  refine wpAny_storeName_cell I.ok.kind hk hc z (fun h' hc' hs=>?_)
  obtain ⟨oc,hoc,hocd⟩:=id z
  refine h {s with heap:=h'} ⟨I.ok,I.os,I.bare,⟨fun b o e n hb hx=>?_,fun b o e n hb hx=>?_,I.base.free,fun b o e hx=>?_,I.base.fO,I.base.fG,I.base.gb⟩,⟨m,hn.sameBut hs (Ne.symm (iP x c hc)),fun j y v' e1 e2 e3=>?_⟩,fun y c' e=>?_,I.free,I.dC,fun p hp=>?_,tracked ⟨oc,hoc,I.dC x c hc⟩ hs,by simpa using I.len⟩ ⟨c,hs, .inr hc⟩
  ·exact (hs.2 b (Nat.ne_of_lt (Nat.lt_of_lt_of_le (Heap.lt_size e) (I.ok.iw x c hfn hc)))).trans (I.base.keep b o e n hb hx)
  ·obtain ⟨sl,e1⟩:=I.base.slot b o e n hb hx
   exact ⟨sl,(hs.2 b (Nat.ne_of_lt (Nat.lt_of_lt_of_le (Heap.lt_size e) (I.ok.iw x c hfn hc)))).trans e1⟩
  ·obtain ⟨o',e1⟩:=I.base.there b o e hx
   exact ⟨o',(hs.2 b (Nat.ne_of_lt (Nat.lt_of_lt_of_le (Heap.lt_size e) (I.ok.iw x c hfn hc)))).trans e1⟩
  ·by_cases hj:j=i
   ·subst hj
    rw[hi] at e1;cases e1
    rw[List.getElem?_set_self hiσ] at e2
    cases e2
    exact ⟨u,r, .inr ⟨.inl hk,c,hc,hc'⟩⟩
   ·rw[List.getElem?_set_ne (Ne.symm hj)] at e2
    obtain ⟨u',r',q⟩:=hl j y v' e1 e2 e3
    refine ⟨u',r',?_⟩
    rcases q with q|⟨k,c',e,z'⟩
    ·exact .inl q
    ·refine .inr ⟨k,c',e,z'.sameBut hs ?_⟩
     rintro rfl
     exact hj (sY hN e1 (I.ok.inj _ _ _ e hc▸hi))
  ·by_cases hcc:c'=c
   ·subst hcc;exact ⟨_,hc'⟩
   ·obtain ⟨w2,z2⟩:=I.cell y c' e
    exact ⟨w2,z2.sameBut hs hcc⟩
  ·obtain ⟨e,n,ne,nf,d⟩:=I.pin p hp
   refine ⟨(hs.2 p.1 ?_).trans e,n,ne,nf,d⟩
   intro q
   rw[q,hoc] at e
   have q':oc=p.2:=Option.some.inj e
   exact d w' (by rw[←q'];exact hocd)
theorem vL {M:Model} {A:Around} {E:Value→Shared→Prop} {i:Nat} {x:Str} {v:V} {u:Value} {Q:Unit→Shared→Prop} (I:Inv X pins σ H s) (hN:X.N.Nodup) (hi:X.N[i]?=some x) (hx:Loc X.env.scope x) (r:RelV v u)
  (h: ∀s',Inv X pins (σ.set i (some v)) H s'→Q () s') (hf:X.fn x=true∨X.env.scope.names.lookup x=some .local:=by first|exact .inl rfl|exact .inr rfl|assumption):wpAny M A (storeName X.env x u) Q E s:=
 tJ I hN hi hx r (fun s' I' _=>h s' I') hf
theorem Inv.jx {s':Shared} {ch:List Addr} (I:Inv X pins σ H s) (ho:s'.os=s.os) (u:Un (aX X.stack) ch H H' s.heap s'.heap) (ag:bh X.prog X.w H' s'.heap) (hg:AllBare s'.gens)
  (hch: ∀b∈ch,(b∈X.ex∨X.a8.heap.objs.size≤b)∧b≠X.env.locals∧(∀x c,X.env.cells.lookup x=some c→c≠b)∧ ∀p∈X.pn++pins,p.1≠b):Inv X pins σ H' s':=by
 obtain ⟨h',g',d',t',o'⟩:=s'
 have e:o'=s.os:=ho
 subst e
 exact I.call (g':=g') (t':=t') (d':=d') u ag hg hch
end
abbrev XK:=Value→Option Addr→Hp→Prop
abbrev St:=List (Option V)
abbrev VK:=V→Hp→Prop
abbrev TE:=St→Hp→VK→Prop
abbrev TT:=St→Hp→(Bool→Hp→Prop)→Prop
abbrev TA:=St→Hp→(List V→Hp→Prop)→Prop
structure Ends where
 nx:St→Hp→Prop
 rt:VK
 bk:St→Hp→Prop:=fun _ _=>False
 ct:St→Hp→Prop:=fun _ _=>False
abbrev TS:=Ends→St→Hp→Prop
def EP (X:Cx) (pins:List (Addr×Obj)) (σ:St) (Q:VK) (u:Value) (s':Shared):Prop:= ∃v H',Inv X pins σ H' s'∧RelV v u∧Q v H'
def TP (X:Cx) (pins:List (Addr×Obj)) (σ:St) (Q:Bool→Hp→Prop) (b:Bool) (s':Shared):Prop:= ∃H',Inv X pins σ H' s'∧Q b H'
def AP (X:Cx) (pins:List (Addr×Obj)) (σ:St) (Q:List V→Hp→Prop) (us:List Value) (s':Shared):Prop:= ∃vs H',Inv X pins σ H' s'∧Vals vs us∧Q vs H'
def SP (X:Cx) (pins:List (Addr×Obj)) (D:Ends) (f:Flow) (s':Shared):Prop:=
 match f with
 | .next=> ∃σ' H',Inv X pins σ' H' s'∧D.nx σ' H'
 | .brk=> ∃σ' H',Inv X pins σ' H' s'∧D.bk σ' H'
 | .cont=> ∃σ' H',Inv X pins σ' H' s'∧D.ct σ' H'
 | .ret u=> ∃v σ' H',Inv X pins σ' H' s'∧RelV v u∧D.rt v H'
def PE (X:Cx) (e:Expr) (t:TE):Prop:=
 ∀(pins:List (Addr×Obj)) (s:Shared) (σ:St) (H:Hp) (Q:VK),Inv X pins σ H s→t σ H Q→wpAny (model X.prog X.w) X.A (eval e X.env) (EP X pins σ Q) X.xe s
def PT (X:Cx) (e:Expr) (t:TT):Prop:=
 ∀(pins:List (Addr×Obj)) (s:Shared) (σ:St) (H:Hp) (Q:Bool→Hp→Prop),Inv X pins σ H s→t σ H Q→wpAny (model X.prog X.w) X.A (isTrue e X.env (eval e X.env)) (TP X pins σ Q) X.xe s
def PW (X:Cx) (e:Expr) (t:TT):Prop:=
 ∀(whole:Sem Value) (pins:List (Addr×Obj)) (s:Shared) (σ:St) (H:Hp) (Q:Bool→Hp→Prop),Inv X pins σ H s→t σ H Q→wpAny (model X.prog X.w) X.A (isTrue e X.env whole) (TP X pins σ Q) X.xe s
theorem PW.pt {X:Cx} {e:Expr} {t:TT} (h:PW X e t):PT X e t:=h _
def PA (X:Cx) (es:List Expr) (t:TA):Prop:=
 ∀(pos:Pos) (pins:List (Addr×Obj)) (s:Shared) (σ:St) (H:Hp) (Q:List V→Hp→Prop),Inv X pins σ H s→t σ H Q→wpAny (model X.prog X.w) X.A (spliced (backTo pos (starEach es X.env))) (AP X pins σ Q) X.xe s
def PS (X:Cx) (st:Stmt) (t:TS):Prop:=
 ∀(pins:List (Addr×Obj)) (s:Shared) (σ:St) (H:Hp) (D:Ends),Inv X pins σ H s→t D σ H→wpAny (model X.prog X.w) X.A (exec st X.env) (SP X pins D) X.xe s
def cO (X:Cx) (st:List Stmt) (t:TS):Prop:=
 ∀(pins:List (Addr×Obj)) (s:Shared) (σ:St) (H:Hp) (D:Ends),Inv X pins σ H s→t D σ H→wpAny (model X.prog X.w) X.A (execs st X.env) (SP X pins D) X.xe s
theorem aw {α:Type} {t:Sem α} {Q Q':α→Shared→Prop} {M:Model} {A:Around} {E:Value→Shared→Prop} {s:Shared} (h:wpAny M A t Q E s) (hQ: ∀a s,Q a s→Q' a s):wpAny M A t Q' E s:=wpAny_mono h hQ fun _ _ x=>x
end L2
namespace L2
open PySem PySem.Spec PyProof.Rows
section
variable {X:Cx}
inductive fi (i:Nat) (σ:St) (H:Hp) (Q:VK):Prop
 |mk (v:V) (e:σ[i]?=some (some v)) (q:Q v H):fi i σ H Q
def tC (v:V):TE:=fun _ H Q=>Q v H
theorem Py {i:Nat} {x:Str} {pos:Pos} (hN:X.N[i]?=some x) (hv:jO X.env.scope x) (hd:(x==("__debug__" :Str))=false:=by decide) (hcd:(x==("__classdict__" :Str))=false:=by decide):PE X (.Name x pos) (fi i):=by
 intro pins s σ H Q I h
 obtain ⟨v,e,h⟩:=h
 obtain ⟨m,hn,hl⟩:=I.loc
 obtain ⟨u,r,l⟩:=hl i x v hN e hv
 have fin:EP X pins σ Q u s:=⟨v,H,I,r,h⟩
 rcases l with ⟨hk,hm⟩|⟨hk,c,hc,hcell⟩
 ·exact wpAny_Name (wpAny_loadName_local I.ok.kind hk hn hm fin) hd
 ·rcases hk with hk|hk
  ·exact wpAny_Name (wpAny_loadName_cell I.ok.kind hk hc hcell fin) hd
  ·exact wpAny_Name (wpAny_loadName_free I.ok.kind hk hc hcell fin hcd) hd
theorem ao {i j pos}:PE X (.Constant (.int i) j pos) (tC (.int i)):=fun _ _ _ H _ I h=>wpAny_Constant_int ⟨.int i,H,I.tok _,⟨_,rfl⟩,h⟩
theorem MG {b j pos}:PE X (.Constant (.bool b) j pos) (tC (.bl b)):=fun _ _ _ H _ I h=>Constant_bool ⟨.bl b,H,I,rfl,h⟩
theorem fh {j pos}:PE X (.Constant .none j pos) (tC .au):=fun _ _ _ H _ I h=>Constant_none ⟨.au,H,I,rfl,h⟩
def Gl (X:Cx) (x:Str):Prop:=X.env.kindOf x=some .globalImplicit
theorem jz {E:Value→Shared→Prop} {pins:List (Addr×Obj)} {s:Shared} {σ:St} {H:Hp} {x:Str} {u:Value} {pos:Pos} {Q:Value→Shared→Prop} (I:Inv X pins σ H s) (hg:Gl X x) (hm:X.mg x=some u) (h:Q u s)
  (hd:(x==("__debug__" :Str))=false:=by decide):wpAny (model X.prog X.w) X.A (eval (.Name x pos) X.env) Q E s:=
 Calls.Name_function_global I.ok.kind hg (Calls.loadGlobal_global (by rw[I.ok.glob];exact I.mod.glob.keeps I.bk) hm h) hd
theorem iC {E:Value→Shared→Prop} {pins:List (Addr×Obj)} {s:Shared} {σ:St} {H:Hp} {x:Str} {u:Value} {pos:Pos} {Q:Value→Shared→Prop} (I:Inv X pins σ H s) (hg:Gl X x) (hm:X.mg x=none) (hv:bootBuiltins x=some u) (h:Q u s)
  (hn:x≠ "__name__" :=by decide) (hd:(x==("__debug__" :Str))=false:=by decide):wpAny (model X.prog X.w) X.A (eval (.Name x pos) X.env) Q E s:=by
 obtain ⟨mb,h1,h2⟩:=I.mod.blt
 exact Calls.Name_function_global I.ok.kind hg (Calls.loadGlobal_builtin (by rw[I.ok.glob];exact I.mod.glob.keeps I.bk) hm (by rw[I.ok.blt];exact h1.keeps I.bk) ((h2 x hn).trans hv) h) hd
theorem CK {x:Str} {v:V} {u:Value} {pos:Pos} (hg:Gl X x) (hm:X.mg x=some u) (r:RelV v u) (hd:(x==("__debug__" :Str))=false:=by decide):PE X (.Name x pos) (tC v):=
 fun _ _ _ H _ I h=>jz I hg hm ⟨v,H,I,r,h⟩ hd
variable {a b:Expr} {ta tb:TE} {pos:Pos}
def PC (X:Cx) (op:CmpOp) (a b:Expr) (t:TE):Prop:=
 ∀(pins:List (Addr×Obj)) (s:Shared) (σ:St) (H:Hp) (Q:VK),Inv X pins σ H s→t σ H Q→
  wpAny (model X.prog X.w) X.A (eval a X.env) (fun v s₁=>wpAny (model X.prog X.w) X.A (eval b X.env) (fun u s₂=>wpAny (model X.prog X.w) X.A (compareOp op v u) (EP X pins σ Q) X.xe s₂) X.xe s₁) X.xe s
theorem Ia (b:Expr) {op:CmpOp} (h:op≠ .In) (h2:op≠ .NotIn):behindInMarks op b=false:=by
 have e1:(op==CmpOp.In)=false:=by cases op<;>first|rfl|exact absurd rfl h
 have e2:(op==CmpOp.NotIn)=false:=by cases op<;>first|rfl|exact absurd rfl h2
 cases b<;>simp [behindInMarks,e1,e2]
def OC (ta:TE):TE:=fun σ H Q=>ta σ H fun x H1=>Q (.bl (!decide (x= .au))) H1
theorem RelV.RA {x:V} {v:Value} (r:RelV x v):(v==Value.none)=decide (x= .au):=by
 cases x with
 |au=>cases r;rfl
 |bl _=>cases r;rfl
 |int _=>obtain ⟨t,rfl⟩:=r;rfl
 |str _=>obtain ⟨t,rfl⟩:=r;rfl
 |cR _=>obtain ⟨t,rfl⟩:=r;rfl
 |pC _=>obtain ⟨t,rfl⟩:=r;rfl
 |ref _=>cases r;rfl
 |ty _=>cases r;rfl
theorem L8 {j pos'} (ha:PE X a ta):PC X .IsNot a (.Constant .none j pos') (OC ta):=by
 intro pins s σ H Q I h
 refine aw (ha pins s σ H _ I h) fun v s1 ⟨x,H1,I1,r1,q1⟩=>?_
 exact Constant_none (isnot_none_gen ⟨.bl _,H1,I1,by rw[r1.RA];rfl,q1⟩)
inductive lM (Q:Bool→Hp→Prop) (x:V) (H:Hp):Prop
 |mk (c:Bool) (e:x= .bl c) (q:Q c H):lM Q x H
def tB (t:TE):TT:=fun σ H Q=>t σ H (lM Q)
theorem qj {op:CmpOp} {t:TE} (h:PC X op a b t) (h1:behindInMarks op b=false:=by first|exact Ia _ (by decide) (by decide)|rfl):PT X (.Compare a [op] [b] pos) (tB t):=by
 intro pins s σ H Q I hw
 refine wpAny_isTrue_Compare1 (aw (h pins s σ H _ I hw) fun v s1 h1=>aw h1 fun u s2 h2=>aw h2 fun c s3 ⟨x,H1,I1,r1,q1⟩=>?_) h1
 obtain ⟨d,rfl,q⟩:=q1
 cases r1
 exact wpAny_truthy_bool ⟨H1,I1,q⟩
theorem oV {e:Expr} {t:TE} (h:PE X e t) (he: ∀whole,isTrue e X.env whole=(do let v←whole;standAt e.pos;holding [v] (truthy v)):=by intro _;rfl):PT X e (tB t):=by
 intro pins s σ H Q I hw
 refine isTrue_plain (aw (h pins s σ H _ I hw) fun v s1 ⟨x,H1,I1,r1,q1⟩=>?_) (he _)
 obtain ⟨d,rfl,q⟩:=q1
 cases r1
 exact wpAny_truthy_bool ⟨H1,I1,q⟩
variable {tA tB':TT} {rest:List Expr}
def PJ (t u:TT):TT:=fun σ H Q=>t σ H fun c H1=>if c=true then u σ H1 Q else Q false H1
def GD (t u:TT):TT:=fun σ H Q=>t σ H fun c H1=>if c=true then Q true H1 else u σ H1 Q
def J4 (t:TT):TT:=fun σ H Q=>t σ H fun c H1=>Q (!c) H1
theorem Fj (ha:PT X a tA):PW X (.BoolOp .And [a] pos) tA:=by
 intro wh pins s σ H Q I h
 refine isTrue_and (aw (ha pins s σ H Q I h) fun c s1 e=>?_)
 cases c with
 |true=>exact isTrue_and_nil e
 |false=>exact e
theorem pF (ha:PT X a tA):PW X (.BoolOp .Or [a] pos) tA:=by
 intro wh pins s σ H Q I h
 refine isTrue_or (aw (ha pins s σ H Q I h) fun c s1 e=>?_)
 cases c with
 |false=>exact isTrue_or_nil e
 |true=>exact e
theorem Cp (ha:PT X a tA) (hb:PW X (.BoolOp .And (b::rest) pos) tB'):PW X (.BoolOp .And (a::b::rest) pos) (PJ tA tB'):=by
 intro wh pins s σ H Q I h
 refine isTrue_and (aw (ha pins s σ H _ I h) fun c s1 ⟨H1,I1,q1⟩=>?_)
 cases c with
 |true=>exact hb wh pins s1 σ H1 Q I1 q1
 |false=>exact ⟨H1,I1,q1⟩
theorem jG (ha:PT X a tA) (hb:PW X (.BoolOp .Or (b::rest) pos) tB'):PW X (.BoolOp .Or (a::b::rest) pos) (GD tA tB'):=by
 intro wh pins s σ H Q I h
 refine isTrue_or (aw (ha pins s σ H _ I h) fun c s1 ⟨H1,I1,q1⟩=>?_)
 cases c with
 |true=>exact ⟨H1,I1,q1⟩
 |false=>exact hb wh pins s1 σ H1 Q I1 q1
theorem jj (ha:PT X a tA):PT X (.UnaryOp .Not a pos) (J4 tA):=by
 intro pins s σ H Q I h
 exact isTrue_not (ha pins s σ H (fun c H1=>Q (!c) H1) I h)
def Jm (ta tb:TE):TE:=fun σ H Q=>ta σ H fun x H1=>lM (fun c H1=>if c=true then tb σ H1 Q else Q (.bl false) H1) x H1
theorem NH {op} {t:TE} (h:PE X a t):PE X (.BoolOp op [a] pos) t:=fun pins s σ H Q I hw=>BoolOp_one (h pins s σ H Q I hw)
theorem y6 (ha:PE X a ta) (hb:PE X (.BoolOp .And (b::rest) pos) tb):PE X (.BoolOp .And (a::b::rest) pos) (Jm ta tb):=by
 intro pins s σ H Q I h
 refine BoolOp_and (aw (ha pins s σ H _ I h) fun v s1 ⟨x,H1,I1,r1,q1⟩=>?_)
 obtain ⟨c,rfl,q1⟩:=q1
 cases r1
 refine wpAny_truthy_bool ?_
 cases c with
 |true=>exact hb pins s1 σ H1 Q I1 q1
 |false=>exact ⟨.bl false,H1,I1,rfl,q1⟩
def FW (t:TT) (ta tb:TE):TE:=fun σ H Q=>t σ H fun c H1=>if c=true then ta σ H1 Q else tb σ H1 Q
theorem jL {c:Expr} (hc:PT X c tA) (ha:PE X a ta) (hb:PE X b tb):PE X (.IfExp c a b pos) (FW tA ta tb):=by
 intro pins s σ H Q I h
 refine wpAny_IfExp (aw (hc pins s σ H _ I h) fun d s1 ⟨H1,I1,q1⟩=>?_)
 cases d with
 |true=>exact ha pins s1 σ H1 Q I1 q1
 |false=>exact hb pins s1 σ H1 Q I1 q1
end
end L2
namespace L2
open PySem PySem.Spec PyProof.Rows
def af (K:PySem.W.Frag) (H:Hp) (a:Addr) (xs:List V):Prop:=
 Rd H a (.lst xs)∨
  ∃(o:Obj) (its:Array Value) (n:Nat),K.lookup a=some o∧o.cls= .type "list" ∧o.dict=none∧o.data= .seq its n∧its.size≤sizeLine∧Vals xs its.toList
def aP (K:PySem.W.Frag) (H:Hp) (a:Addr) (xs:List V):Prop:=
 Rd H a (.tup xs)∨
  ∃(o:Obj) (its:Array Value) (n:Nat),K.lookup a=some o∧o.cls= .type "tuple" ∧o.data= .seq its n∧its.size≤sizeLine∧Vals xs its.toList
def F3:Value→Option V
 | .none=>some .au
 | .bool b=>some (.bl b)
 | .int i _=>some (.int i)
 | .str x _=>some (.str x)
 | .bytes b _=>some (.cR b)
 | .float b _=>some (.pC b)
 | .ref a=>some (.ref a)
 | .type n=>some (.ty n)
 |_=>none
theorem RelV.abs {x:V} {u:Value} (r:RelV x u):F3 u=some x:=by
 cases x with
 |au=>cases r;rfl
 |bl _=>cases r;rfl
 |int _=>obtain ⟨t,rfl⟩:=r;rfl
 |str _=>obtain ⟨t,rfl⟩:=r;rfl
 |cR _=>obtain ⟨t,rfl⟩:=r;rfl
 |pC _=>obtain ⟨t,rfl⟩:=r;rfl
 |ref _=>cases r;rfl
 |ty _=>cases r;rfl
theorem RelV.inj {x y:V} {u:Value} (r:RelV x u) (q:RelV y u):x=y:=Option.some.inj (r.abs.symm.trans q.abs)
theorem Vals.inj: ∀{xs ys:List V} {us:List Value},Vals xs us→Vals ys us→xs=ys
 |_,_,_, .nil, .nil=>rfl
 |_,_,_, .cons r t, .cons r' t'=>by rw[r.inj r',Vals.inj t t']
section
variable {X:Cx} {pins:List (Addr×Obj)} {σ:St} {H:Hp} {s:Shared} {a:Addr} {xs ys:List V}
theorem af.of {K:PySem.W.Frag} (h:H a=some (.lst xs)):af K H a xs:= .inl (.inl h)
theorem aP.of {K:PySem.W.Frag} (h:H a=some (.tup xs)):aP K H a xs:= .inl (.inl h)
theorem Inv.list (I:Inv X pins σ H s) (h:af X.K H a xs): ∃its:List Value,Vals xs its∧PlainL s.heap a its.toArray∧xs.length≤sizeLine:=by
 rcases h with h|⟨o,its,n,hk,hc,hd,hs,hz,r⟩
 ·obtain ⟨z,its,n,r,e⟩:=h.ok I.ag
  exact ⟨its,r,⟨_,n,e,rfl,rfl,rfl⟩,z⟩
 ·refine ⟨its.toList,r,⟨o,n,I.cy a o hk,hc,hd,by simpa using hs⟩,?_⟩
  have e:=r.length
  simp only [Array.length_toList] at e
  lia
theorem Inv.tuple (I:Inv X pins σ H s) (h:aP X.K H a xs): ∃its:List Value,Vals xs its∧IsTup s.heap a its.toArray∧xs.length≤sizeLine:=by
 rcases h with h|⟨o,its,n,hk,hc,hs,hz,r⟩
 ·obtain ⟨z,its,r,p⟩:=h.ok I.ag
  exact ⟨its,r,p,z⟩
 ·refine ⟨its.toList,r,⟨o,I.cy a o hk,hc,n,by simpa using hs⟩,?_⟩
  have e:=r.length
  simp only [Array.length_toList] at e
  lia
theorem Inv.pO (I:Inv X pins σ H s) (h:af X.K H a xs) (h':af X.K H a ys):xs=ys:=by
 obtain ⟨its,r,⟨o,n,e,_,_,d⟩,_⟩:=I.list h
 obtain ⟨its',r',⟨o',n',e',_,_,d'⟩,_⟩:=I.list h'
 rw[e] at e';cases e'
 rw[d] at d'
 injection d' with d1 _
 have:its=its':=by simpa using congrArg Array.toList d1
 subst this
 exact r.inj r'
theorem Inv.DQ (I:Inv X pins σ H s) (h:aP X.K H a xs) (h':aP X.K H a ys):xs=ys:=by
 obtain ⟨its,r,⟨o,e,_,n,d⟩,_⟩:=I.tuple h
 obtain ⟨its',r',⟨o',e',_,n',d'⟩,_⟩:=I.tuple h'
 rw[e] at e';cases e'
 rw[d] at d'
 injection d' with d1 _
 have:its=its':=by simpa using congrArg Array.toList d1
 subst this
 exact r.inj r'
end
abbrev Cx.bC (X:Cx) (E:Value→Shared→Prop):Cx:={X with xe:=E}
abbrev Cx.rC (X:Cx):Cx:=X.bC fun _ _=>False
theorem Cx.Ok.bC {X:Cx} (ok:X.Ok) (E:Value→Shared→Prop):(X.bC E).Ok:=
 ⟨ok.mod,ok.kind,ok.glob,ok.blt,ok.above,ok.inj,ok.has,ok.iw,ok.hd,ok.frames,ok.iR,ok.gM,ok.bs,ok.fz,ok.eK,ok.gJ,ok.dv,ok.fT⟩
theorem Cx.Ok.ig {X:Cx} {E:Value→Shared→Prop} (ok:(X.bC E).Ok):X.Ok:=
 ⟨ok.mod,ok.kind,ok.glob,ok.blt,ok.above,ok.inj,ok.has,ok.iw,ok.hd,ok.frames,ok.iR,ok.gM,ok.bs,ok.fz,ok.eK,ok.gJ,ok.dv,ok.fT⟩
section
variable {X:Cx} {pins:List (Addr×Obj)} {σ:St} {H:Hp} {s:Shared} {E:Value→Shared→Prop}
theorem Inv.bC (I:Inv X pins σ H s) (E:Value→Shared→Prop):Inv (X.bC E) pins σ H s:=⟨I.ok.bC E,I.os,I.bare,I.base,I.loc,I.cell,I.free,I.dC,I.pin,I.ag,I.len⟩
theorem Inv.ig (I:Inv (X.bC E) pins σ H s):Inv X pins σ H s:=⟨I.ok.ig,I.os,I.bare,I.base,I.loc,I.cell,I.free,I.dC,I.pin,I.ag,I.len⟩
theorem SP.ig {D:Ends} {f:Flow} {s':Shared} (h:SP (X.bC E) pins D f s'):SP X pins D f s':=by
 cases f with
 |next=>obtain ⟨σ',H',I,q⟩:=h;exact ⟨σ',H',I.ig,q⟩
 |brk=>obtain ⟨σ',H',I,q⟩:=h;exact ⟨σ',H',I.ig,q⟩
 |cont=>obtain ⟨σ',H',I,q⟩:=h;exact ⟨σ',H',I.ig,q⟩
 |ret u=>obtain ⟨v,σ',H',I,r,q⟩:=h;exact ⟨v,σ',H',I.ig,r,q⟩
theorem cO.rC {st:List Stmt} {t:TS} (h:cO X.rC st t):cO X st t:=fun pins s σ H D I hw=>
 wpAny_mono (h pins s σ H D (I.bC _) hw) (fun _ _ q=>q.ig) fun _ _ z=>False.elim z
end
section
variable {X:Cx} {st:Stmt} {rest:List Stmt} {t u:TS} {e:Expr} {te:TE} {pos:Pos}
def GQ:TS:=fun D σ H=>D.nx σ H
def Ms (t u:TS):TS:=fun D σ H=>t {D with nx:=u D} σ H
theorem bA:cO X [] GQ:=fun _ _ σ H _ I h=>wpAny_execs_nil ⟨σ,H,I,h⟩
theorem ai (h1:PS X st t) (h2:cO X rest u):cO X (st::rest) (Ms t u):=by
 intro pins s σ H D I h
 refine wpAny_execs_cons (aw (h1 pins s σ H {D with nx:=u D} I h) fun f s1 q=>?_)
 cases f with
 |next=>
  obtain ⟨σ',H',I',q⟩:=q
  exact h2 pins s1 σ' H' D I' q
 |ret v=>exact q
 |brk=>exact q
 |cont=>exact q
theorem aj (h1:PS X st t):cO X [st] t:=by
 intro pins s σ H D I h
 refine wpAny_execs_cons (aw (h1 pins s σ H D I h) fun f s1 q=>?_)
 cases f with
 |next=>exact wpAny_execs_nil q
 |ret v=>exact q
 |brk=>exact q
 |cont=>exact q
theorem Inv.quiet {pins:List (Addr×Obj)} {σ:St} {H:Hp} {s:Shared} (I:Inv X pins σ H s):interactive X.env=false:=by simp [interactive,I.ok.kind]
def DD (te:TE):TS:=fun D σ H=>te σ H fun _ H1=>D.nx σ H1
theorem bR (he:PE X e te) (hs:swapsWith e none pos.line X.env=pure false:=by rfl):PS X (.Expr e pos) (DD te):=by
 intro pins s σ H D I h
 exact wpAny_Expr_any (aw (he pins s σ H _ I h) fun v s1 ⟨x,H1,I1,r1,q1⟩=>⟨σ,H1,I1,q1⟩) I.quiet hs
def zb (te:TE):TS:=fun D σ H=>te σ H D.rt
theorem aM (he:PE X e te):PS X (.Return (some e) pos) (zb te):=by
 intro pins s σ H D I h
 exact wpAny_Return_some (aw (he pins s σ H _ I h) fun v s1 ⟨x,H1,I1,r1,q1⟩=>⟨x,σ,H1,I1,r1,q1⟩)
def IP:TS:=fun D _ H=>D.rt .au H
theorem vP:PS X (.Return none pos) IP:=fun _ _ σ H _ I h=>wpAny_Return_none ⟨.au,σ,H,I,rfl,h⟩
def Lg (c:TT) (t u:TS):TS:=fun D σ H=>c σ H fun b H1=>if b=true then t D σ H1 else u D σ H1
theorem bc {c:Expr} {a b:List Stmt} {tc:TT} (hc:PT X c tc) (ha:cO X a t) (hb:cO X b u):PS X (.If c a b pos) (Lg tc t u):=by
 intro pins s σ H D I h
 refine wpAny_If (aw (hc pins s σ H _ I h) fun d s1 ⟨H1,I1,q1⟩=>?_)
 cases d with
 |true=>exact ha pins s1 σ H1 D I1 q1
 |false=>exact hb pins s1 σ H1 D I1 q1
end
abbrev TG:=V→St→Hp→(St→Hp→Prop)→Prop
abbrev jQ:=List V→St→Hp→(St→Hp→Prop)→Prop
def PG (X:Cx) (target:Expr) (t:TG):Prop:=
 ∀(pins:List (Addr×Obj)) (s:Shared) (σ:St) (H:Hp) (v:V) (u:Value) (Q:St→Hp→Prop),Inv X pins σ H s→RelV v u→t v σ H Q→
  wpAny (model X.prog X.w) X.A (assign target X.env u) (fun _ s'=> ∃σ' H',Inv X pins σ' H' s'∧Q σ' H') X.xe s
def oI (X:Cx) (ts:List Expr) (t:jQ):Prop:=
 ∀(pins:List (Addr×Obj)) (s:Shared) (σ:St) (H:Hp) (vs:List V) (us:List Value) (Q:St→Hp→Prop),Inv X pins σ H s→Vals vs us→t vs σ H Q→
  wpAny (model X.prog X.w) X.A (assignInOrder ((assignEach ts X.env).map (·.2)) us) (fun _ s'=> ∃σ' H',Inv X pins σ' H' s'∧Q σ' H') X.xe s
abbrev nR:=V→V→V→Hp→(Hp→Prop)→Prop
def tI (X:Cx) (t:nR):Prop:=
 ∀(pins:List (Addr×Obj)) (s:Shared) (σ:St) (H:Hp) (o i v:V) (ov iv u:Value) (Q:Hp→Prop),Inv X pins σ H s→RelV o ov→RelV i iv→RelV v u→t o i v H Q→
  wpAny (model X.prog X.w) X.A (setItem ov iv u) (fun _ s'=> ∃H',Inv X pins σ H' s'∧Q H') X.xe s
abbrev lI:=V→V→Hp→VK→Prop
def yE (X:Cx) (op:Operator) (t:lI):Prop:=
 ∀(pins:List (Addr×Obj)) (s:Shared) (σ:St) (H:Hp) (x y:V) (v u:Value) (Q:VK),Inv X pins σ H s→RelV x v→RelV y u→t x y H Q→
  wpAny (model X.prog X.w) X.A (inplaceOp op v u) (EP X pins σ Q) X.xe s
section
variable {X:Cx} {pos:Pos}
def iX (i:Nat):TG:=fun v σ H Q=>Q (σ.set i (some v)) H
theorem aN {i:Nat} {x:Str} (hN:X.N.Nodup) (hi:X.N[i]?=some x) (hx:Loc X.env.scope x) (hf:X.fn x=true∨X.env.scope.names.lookup x=some .local:=by first|exact .inl rfl|exact .inr rfl|assumption):PG X (.Name x pos) (iX i):=by
 intro pins s σ H v u Q I r h
 exact wpAny_assign_Name (vL I hN hi hx r (fun s' I'=>⟨_,H,I',h⟩) hf)
inductive Ce (vs:List V) (σ:St) (H:Hp) (Q:St→Hp→Prop):Prop
 |mk (e:vs= []) (q:Q σ H):Ce vs σ H Q
inductive Dh (t:TG) (u:jQ) (vs:List V) (σ:St) (H:Hp) (Q:St→Hp→Prop):Prop
 |mk (v:V) (r:List V) (e:vs=v::r) (q:t v σ H fun σ' H'=>u r σ' H' Q):Dh t u vs σ H Q
theorem jl:oI X [] Ce:=by
 intro pins s σ H vs us Q I r h
 obtain ⟨e,h⟩:=h
 subst e
 cases r
 exact assignInOrder_nil ⟨σ,H,I,h⟩
theorem dR {e:Expr} {es:List Expr} {t:TG} {u:jQ} (h1:PG X e t) (h2:oI X es u)
  (hs:(assignEach (e::es) X.env).map (·.2)=assign e X.env::(assignEach es X.env).map (·.2):=by rfl):oI X (e::es) (Dh t u):=by
 intro pins s σ H vs us Q I r h
 obtain ⟨v,vr,e1,h⟩:=h
 subst e1
 cases r with
 |cons r rr=>
  rw[hs]
  refine assignInOrder_cons (aw (h1 pins s σ H _ _ _ I r h) fun _ s1 ⟨σ1,H1,I1,q1⟩=>?_)
  exact h2 pins s1 σ1 H1 _ _ Q I1 rr q1
inductive wt (K:PySem.W.Frag) (n:Nat) (t:jQ) (v:V) (σ:St) (H:Hp) (Q:St→Hp→Prop):Prop
 |mk (a:Addr) (xs:List V) (e:v= .ref a) (h:aP K H a xs) (l:xs.length=n) (q:t xs σ H Q):wt K n t v σ H Q
theorem Fb {es:List Expr} {k:Nat} {t:jQ} {n:Nat} (hc:X.calm=true) (h:oI X es t)
  (hn:(assignEach es X.env).length=n:=by rfl) (hst:(assignEach es X.env).findIdx? (·.1)=none:=by rfl):PG X (.Tuple es k pos) (wt X.K n t):=by
 intro pins s σ H v u Q I r hw
 obtain ⟨a,xs,e1,hq,hl,hw⟩:=hw
 subst e1
 cases r
 obtain ⟨its,rv,ht,hz⟩:=I.tuple hq
 refine assign_Tuple_tuple (I.ok.hd hc) ht (by simp [hn,←hl,rv.length]) hst fun h' hx=>?_
 have I1:Inv X pins σ H {s with heap:=h'}:=I.kept (t':=s.toks) fun b o e=>hx b o (Nat.ne_of_lt (Heap.lt_size e)) e
 exact h pins _ σ H xs _ Q I1 (by simpa using rv) hw
def Jd (to ti:TE) (t:nR):TG:=fun v σ H Q=>to σ H fun o H1=>ti σ H1 fun i H2=>t o i v H2 fun H3=>Q σ H3
theorem Kg {o i:Expr} {to ti:TE} {t:nR} (ho:PE X o to) (hi:PE X i ti) (hs:tI X t)
  (ha: ∀v,assign (.Subscript o i pos) X.env v=(do
   let ov←holding [v] (eval o X.env)
   let iv←holding [v,ov] (eval i X.env)
   standAt pos
   holding [v,ov,iv] (setItem ov iv v)
   release [v,ov,iv] []):=by intro _;rfl):PG X (.Subscript o i pos) (Jd to ti t):=by
 intro pins s σ H v u Q I r h
 rw[ha]
 refine wpAny_bind (wpAny_holding (aw (ho pins s σ H _ I h) fun ov s1 ⟨x,H1,I1,r1,q1⟩=>?_))
 refine wpAny_bind (wpAny_holding (aw (hi pins s1 σ H1 _ I1 q1) fun iv s2 ⟨y,H2,I2,r2,q2⟩=>?_))
 refine wpAny_bind (wpAny_standAt (wpAny_bind (wpAny_holding (aw (hs pins s2 σ H2 x y v ov iv u _ I2 r1 r2 r q2) fun _ s3 ⟨H3,I3,q3⟩=>?_))))
 exact wpAny_release ⟨σ,H3,I3,q3⟩
def pY (te:TE) (g:TG):TS:=fun D σ H=>te σ H fun x H1=>g x σ H1 D.nx
theorem E9 {tg e:Expr} {te:TE} {g:TG} (he:PE X e te) (hg:PG X tg g) (hs:swapsWithSole [tg] e pos.line X.env=pure false:=by rfl) (hw:swappedStores [tg] e X.env=pure none:=by rfl)
  (h1:(assignEach [tg] X.env).map (·.2)= [assign tg X.env]:=by rfl):PS X (.Assign [tg] e pos) (pY te g):=by
 intro pins s σ H D I h
 refine wpAny_Assign_stores (aw (he pins s σ H _ I h) fun v s1 ⟨x,H1,I1,r1,q1⟩=>?_) hs hw
 rw[h1]
 exact aw (hg pins s1 σ H1 x v _ I1 r1 q1) fun _ s2 q=>q
theorem aC {i:Nat} {x:Str} {e:Expr} {te:TE} {pos':Pos} (hN:X.N.Nodup) (hi:X.N[i]?=some x) (hx:Loc X.env.scope x) (he:PE X e te) (hs:swapsWith e (some (.Name x pos')) pos.line X.env=pure false:=by rfl) (hf:X.fn x=true∨X.env.scope.names.lookup x=some .local:=by first|exact .inl rfl|exact .inr rfl|assumption):
  PS X (.Assign [.Name x pos'] e pos) (pY te (iX i)):=by
 intro pins s σ H D I h
 refine wpAny_Assign_Name (aw (he pins s σ H _ I h) fun v s1 ⟨y,H1,I1,r1,q1⟩=>?_) hs
 exact vL I1 hN hi hx r1 (fun s2 I2=>⟨_,H1,I2,q1⟩) hf
inductive BL (i:Nat) (te:TE) (ti:lI) (D:Ends) (σ:St) (H:Hp):Prop
 |mk (x:V) (e:σ[i]?=some (some x)) (q:te σ H fun y H1=>ti x y H1 fun z H2=>D.nx (σ.set i (some z)) H2):BL i te ti D σ H
theorem f7 {i:Nat} {x:Str} {e:Expr} {te:TE} {op:Operator} {ti:lI} {pos':Pos} (hN:X.N.Nodup) (hi:X.N[i]?=some x) (hx:Loc X.env.scope x) (he:PE X e te) (ho:yE X op ti) (hf:X.fn x=true∨X.env.scope.names.lookup x=some .local:=by first|exact .inl rfl|exact .inr rfl|assumption):
  PS X (.AugAssign (.Name x pos') op e pos) (BL i te ti):=by
 intro pins s σ H D I h
 obtain ⟨v,e1,h⟩:=h
 obtain ⟨m,hn,hl⟩:=I.loc
 have vis:jO X.env.scope x:=by rcases hx with k|k;exact .inl k;exact .inr (.inl k)
 obtain ⟨u,r,l⟩:=hl i x v hi e1 vis
 refine wpAny_AugAssign_Name ?_
 have go:wpAny (model X.prog X.w) X.A (eval e X.env) (fun w s₂=>wpAny (model X.prog X.w) X.A (inplaceOp op u w) (fun r s₃=>wpAny (model X.prog X.w) X.A (storeName X.env x r) (fun _=>SP X pins D .next) X.xe s₃) X.xe s₂) X.xe s:=by
  refine aw (he pins s σ H _ I h) fun w s1 ⟨y,H1,I1,r1,q1⟩=>?_
  refine aw (ho pins s1 σ H1 v y u w _ I1 r r1 q1) fun z s2 ⟨zv,H2,I2,r2,q2⟩=>?_
  exact vL I2 hN hi hx r2 (fun s3 I3=>⟨_,H2,I3,q2⟩) hf
 rcases l with ⟨hk,hm⟩|⟨hk,c,hc,hcell⟩
 ·exact wpAny_loadName_local I.ok.kind hk hn hm go
 ·rcases hk with hk|hk
  ·exact wpAny_loadName_cell I.ok.kind hk hc hcell go
  ·rcases hx with k|k
   ·have:X.env.scope.names.lookup x=some .free:=hk
    rw[k] at this;cases this
   ·have:X.env.scope.names.lookup x=some .free:=hk
    rw[k] at this;cases this
def Gn (to ti te:TE) (tget:V→V→Hp→VK→Prop) (tip:lI) (tset:nR):TS:=fun D σ H=>to σ H fun o H1=>ti σ H1 fun i H2=>tget o i H2 fun x H3=>te σ H3 fun y H4=>tip x y H4 fun z H5=>tset o i z H5 fun H6=>D.nx σ H6
def BE (X:Cx) (t:V→V→Hp→VK→Prop):Prop:=
 ∀(pins:List (Addr×Obj)) (s:Shared) (σ:St) (H:Hp) (o i:V) (ov iv:Value) (Q:VK),Inv X pins σ H s→RelV o ov→RelV i iv→t o i H Q→
  wpAny (model X.prog X.w) X.A (getItem ov iv) (EP X pins σ Q) X.xe s
theorem Ex {o i e:Expr} {to ti te:TE} {tget:V→V→Hp→VK→Prop} {tip:lI} {tset:nR} {op:Operator} {tpos:Pos} (ho:PE X o to) (hi:PE X i ti) (hg:BE X tget) (he:PE X e te) (hp:yE X op tip) (hs:tI X tset)
  (ha: ∀ov iv new,augStore i ov iv new=(do holding [new,ov,iv] (setItem ov iv new);release [new,ov,iv] [];pure .next):=by intros;rfl):PS X (.AugAssign (.Subscript o i tpos) op e pos) (Gn to ti te tget tip tset):=by
 intro pins s σ H D I h
 refine wpAny_AugAssign_SubscriptAny (aw (ho pins s σ H _ I h) fun ov s1 ⟨x1,H1,I1,r1,q1⟩=>?_) ha
 refine aw (hi pins s1 σ H1 _ I1 q1) fun iv s2 ⟨x2,H2,I2,r2,q2⟩=>?_
 refine aw (hg pins s2 σ H2 x1 x2 ov iv _ I2 r1 r2 q2) fun old s3 ⟨x3,H3,I3,r3,q3⟩=>?_
 refine aw (he pins s3 σ H3 _ I3 q3) fun v s4 ⟨x4,H4,I4,r4,q4⟩=>?_
 refine aw (hp pins s4 σ H4 x3 x4 old v _ I4 r3 r4 q4) fun new s5 ⟨x5,H5,I5,r5,q5⟩=>?_
 exact aw (hs pins s5 σ H5 x1 x2 x5 ov iv new _ I5 r1 r2 r5 q5) fun _ s6 ⟨H6,I6,q6⟩=>⟨σ,H6,I6,q6⟩
end
section
variable {X:Cx} {pos:Pos}
def Bl (c:TT) (tb:TS):TS:=fun D σ H=> ∃W:Nat→St→Hp→Prop,(∃m,W m σ H)∧ ∀m σ H,W m σ H→
 c σ H fun b H1=>if b=true then∃N:St→Hp→Prop,(∀σ' H',N σ' H'→ ∃m',m'<m∧W m' σ' H')∧tb {D with nx:=N,ct:=N,bk:=D.nx} σ H1 else D.nx σ H1
theorem yR {c:Expr} {body:List Stmt} {tc:TT} {tb:TS} (hp:PassesOwn (model X.prog X.w) X.A X.env X.xe) (hc:PT X c tc) (hb:cO X body tb):PS X (.While c body [] pos) (Bl tc tb):=by
 intro pins s σ H D I h
 obtain ⟨W,⟨m0,w0⟩,turn⟩:=h
 refine wpAny_While (codeAny_whileLoop (fun n s'=> ∃σ' H',Inv X pins σ' H' s'∧W n σ' H') ?_ m0 ⟨σ,H,I,w0⟩)
 rintro n s1 ⟨σ1,H1,I1,w1⟩
 refine wpAny_passesOwn hp (aw (hc pins s1 σ1 H1 _ I1 (turn n σ1 H1 w1)) fun b s2 ⟨H2,I2,q2⟩=>?_)
 cases b with
 |true=>
  obtain ⟨N,hN,q2⟩:=q2
  rw[if_pos rfl]
  refine wpAny_passesOwn hp (aw (hb pins s2 σ1 H2 _ I2 q2) fun f s3 q3=>?_)
  cases f with
  |next=>
   obtain ⟨σ3,H3,I3,n3⟩:=q3
   obtain ⟨m',hm,w3⟩:=hN σ3 H3 n3
   exact ⟨m',hm,σ3,H3,I3,w3⟩
  |cont=>
   obtain ⟨σ3,H3,I3,n3⟩:=q3
   obtain ⟨m',hm,w3⟩:=hN σ3 H3 n3
   exact ⟨m',hm,σ3,H3,I3,w3⟩
  |brk=>exact q3
  |ret v=>exact q3
 |false=>
  rw[if_neg Bool.false_ne_true]
  exact wpAny_execs_nil ⟨σ1,H2,I2,q2⟩
end
structure It where
 go:Nat→Hp→Prop
 dw:Nat→Hp→V→Hp→Prop
 stop:Nat→Hp→Prop
def dN (X:Cx) (pins:List (Addr×Obj)) (H:Hp) (b:Addr):Prop:=
 H b=none∧b≠X.env.locals∧b∉X.fs∧(b∈X.ex∨X.a8.heap.objs.size≤b)∧(∀x c,X.env.cells.lookup x=some c→c≠b)∧ ∀p∈X.pn++pins,p.1≠b
theorem Inv.gm {X:Cx} {pins:List (Addr×Obj)} {σ:St} {H H':Hp} {s:Shared} {b:Addr} (I:Inv X pins σ H s) (hb:s.heap.objs.size≤b) (hn:H' b=none):dN X pins H' b:=by
 refine ⟨hn,Nat.ne_of_gt (Nat.lt_of_lt_of_le I.lt hb),I.Gu hb, .inr (Nat.le_trans I.sz hb),fun x c e z=>?_,fun p hp z=>?_⟩
 ·obtain ⟨v,q⟩:=I.cell x c e
  exact absurd (Nat.lt_of_lt_of_le q.lt (by rw[z];exact hb)) (Nat.lt_irrefl _)
 ·exact absurd (Nat.lt_of_lt_of_le (Heap.lt_size (I.pin p hp).1) (by rw[z];exact hb)) (Nat.lt_irrefl _)
structure Turn (P:Program) (w:World) (K:PySem.W.Frag) (tg:Expr) (J:It) (fp:List Addr) (it:Addr) (tn:Nat→Heap→Prop):Prop where
 mem:it∈fp
 obj: ∀i h,tn i h→ ∀b∈fp,∃o,h.get? b=some o∧ ∀v,o.data≠ .cell v
 keep: ∀i h h',tn i h→(∀b∈fp,∀o,h.get? b=some o→h'.get? b=some o)→tn i h'
 item: ∀(X:Cx),X.prog=P→X.w=w→X.K=K→X.calm=true→ ∀(i:Nat) (pins:List (Addr×Obj)) (s:Shared) (σ:St) (H:Hp) (E:Value→Shared→Prop),Inv X pins σ H s→(∀b∈fp,dN X pins H b)→tn i s.heap→J.go i H→
  wpAny (model P w) X.A (pyNext (.ref it)) (fun r s1=> ∃u,r=some u∧
   wpAny (model P w) X.A (letOwnedTupleGo tg (.ref it) u) (fun _ s2=> ∃x H',Inv X pins σ H' s2∧RelV x u∧J.dw i H x H'∧tn (i+1) s2.heap∧ ∀b∈fp,H' b=none) E s1) E s
 done: ∀(X:Cx),X.prog=P→X.w=w→X.K=K→X.calm=true→ ∀(i:Nat) (pins:List (Addr×Obj)) (s:Shared) (σ:St) (H:Hp) (E:Value→Shared→Prop),Inv X pins σ H s→(∀b∈fp,dN X pins H b)→tn i s.heap→J.stop i H→
  wpAny (model P w) X.A (pyNext (.ref it)) (fun r s1=>r=none∧Inv X pins σ H s1) E s
 self: ∀(A:Around) (i:Nat) (s:Shared) (Q:Value→Shared→Prop) (E:Value→Shared→Prop),tn i s.heap→Q (.ref it) s→wpAny (model P w) A (pyIter (.ref it)) Q E s
abbrev TI:=St→Hp→(It→Hp→Prop)→Prop
def um (X:Cx) (pins:List (Addr×Obj)) (σ:St) (tg:Expr) (R:It→Hp→Prop) (itv:Value) (s2:Shared):Prop:=
 ∃(it:Addr) (fp:List Addr) (tn:Nat→Heap→Prop) (J:It) (H':Hp),itv= .ref it∧Inv X pins σ H' s2∧Turn X.prog X.w X.K tg J fp it tn∧tn 0 s2.heap∧(∀b∈fp,dN X pins H' b)∧R J H'
def PI (X:Cx) (tg iter:Expr) (wi:TI):Prop:=
 ∀(pins:List (Addr×Obj)) (s:Shared) (σ:St) (H:Hp) (R:It→Hp→Prop),Inv X pins σ H s→wi σ H R→
  wpAny (model X.prog X.w) X.A (eval iter X.env) (fun v s1=>wpAny (model X.prog X.w) X.A (pyIter v) (um X pins σ tg R) X.xe s1) X.xe s
theorem rJ {M:Model} {A:Around} {E:Value→Shared→Prop} {s:Shared} {tg:Expr} {it:Addr} {u:Value} {o:Obj} {n:String} {vs:Array Value} {Q:Unit→Shared→Prop} (ho:s.heap.get? it=some o) (hc:o.cls= .type n) (hd:o.data= .fields vs)
  (hn: ["enumerate", "zip", "dict_itemiterator", "dict_reverseitemiterator", "odict_iterator", "itertools.zip_longest", "itertools.pairwise"].contains n=false) (hQ:Q () s):wpAny M A (letOwnedTupleGo tg (.ref it) u) Q E s:=by
 unfold letOwnedTupleGo
 cases tg<;>first
  |exact wpAny_pure hQ
  |(cases u<;>first
    |exact wpAny_pure hQ
    |(refine wpAny_bind (wpAny_load ho ?_)
      rw[hc,hd]
      show wpAny M A (if (["enumerate", "zip", "dict_itemiterator", "dict_reverseitemiterator", "odict_iterator", "itertools.zip_longest", "itertools.pairwise"].contains n&&vs[0]?==some (rawInt _))=true then _ else _) Q E s
      rw[if_neg (by intro h;rw[hn,Bool.false_and] at h;cases h)]
      exact wpAny_pure hQ))
def cY (K:PySem.W.Frag) (a:Addr):It:=
 ⟨fun i H=> ∃xs x,af K H a xs∧xs[i]?=some x,fun i H x H'=>H'=H∧ ∀xs,af K H a xs→xs[i]?=some x,fun i H=> ∃xs,af K H a xs∧xs.length≤i⟩
def mw (K:PySem.W.Frag) (a:Addr):It:=
 ⟨fun i H=> ∃xs x,aP K H a xs∧xs[i]?=some x,fun i H x H'=>H'=H∧ ∀xs,aP K H a xs→xs[i]?=some x,fun i H=> ∃xs,aP K H a xs∧xs.length≤i⟩
def jq (lo:Int) (n:Nat):It:=⟨fun i _=>i<n,fun i H x H'=>H'=H∧x= .int (lo+i),fun i _=>n≤i⟩
theorem OZ {P:Program} {w:World} {K:PySem.W.Frag} {tg:Expr} (a it:Addr):Turn P w K tg (cY K a) [it] it (fun i h=>h.IsListIter it a i) where
 mem:=by simp
 obj:=fun i h st b hb=>by
  have e:b=it:=by simpa using hb
  subst e
  obtain ⟨o,e,c,d⟩:=st
  exact ⟨o,e,fun v z=>by rw[d] at z;cases z⟩
 keep:=fun i h h' st k=>st.at fun o e=>k it (by simp) o e
 item:=by
  intro X hP hw hK hc i pins s σ H E I hf st hg
  subst hP hw hK
  obtain ⟨xs,x,hq,hx⟩:=hg
  obtain ⟨its,rv,p,hz⟩:=I.list hq
  obtain ⟨u,hu,ru⟩:=rv.get hx
  obtain ⟨f0,f1,f2,f3,f4,f5⟩:=hf it (by simp)
  refine wpAny_pyNext_list_item st p.isList (x:=u) (by simpa using hu) fun h' st' sb=>?_
  have I1:Inv X pins σ H {s with heap:=h'}:=I.turned (t':=s.toks) (fun b o hb e=>(sb.2 b hb).trans e) f0 f1 f3 f4 f5
  obtain ⟨o,e,c,d⟩:=id st'
  exact ⟨u,rfl,rJ (s:={s with heap:=h'}) e c d (by decide) ⟨x,H,I1,ru,⟨rfl,fun ys hy=>by rw[I.pO hy hq];exact hx⟩,st',fun b hb=>(hf b hb).1⟩⟩
 done:=by
  intro X hP hw hK hc i pins s σ H E I hf st hg
  subst hP hw hK
  obtain ⟨xs,hq,hx⟩:=hg
  obtain ⟨its,rv,p,hz⟩:=I.list hq
  obtain ⟨f0,f1,f2,f3,f4,f5⟩:=hf it (by simp)
  have hl:=rv.length
  exact wpAny_pyNext_list_end (I.ok.hd hc) st p.isList (by simp;lia) fun h' eb=>⟨rfl,I.turned (t':=s.toks) (fun b o hb e=>eb b o hb e) f0 f1 f3 f4 f5⟩
 self:=fun _ _ _ _ _ st h=>wpAny_pyIter_listiter st h
theorem PR {P:Program} {w:World} {K:PySem.W.Frag} {tg:Expr} (a it:Addr):Turn P w K tg (mw K a) [it] it (fun i h=>h.IsTupleIter it a i) where
 mem:=by simp
 obj:=fun i h st b hb=>by
  have e:b=it:=by simpa using hb
  subst e
  obtain ⟨o,e,c,d⟩:=st
  exact ⟨o,e,fun v z=>by rw[d] at z;cases z⟩
 keep:=fun i h h' st k=>st.at fun o e=>k it (by simp) o e
 item:=by
  intro X hP hw hK hc i pins s σ H E I hf st hg
  subst hP hw hK
  obtain ⟨xs,x,hq,hx⟩:=hg
  obtain ⟨its,rv,p,hz⟩:=I.tuple hq
  obtain ⟨u,hu,ru⟩:=rv.get hx
  obtain ⟨f0,f1,f2,f3,f4,f5⟩:=hf it (by simp)
  refine wpAny_pyNext_tuple_item st (show s.heap.IsTuple a its.toArray from p) (x:=u) (by simpa using hu) fun h' st' sb=>?_
  have I1:Inv X pins σ H {s with heap:=h'}:=I.turned (t':=s.toks) (fun b o hb e=>(sb.2 b hb).trans e) f0 f1 f3 f4 f5
  obtain ⟨o,e,c,d⟩:=id st'
  exact ⟨u,rfl,rJ (s:={s with heap:=h'}) e c d (by decide) ⟨x,H,I1,ru,⟨rfl,fun ys hy=>by rw[I.DQ hy hq];exact hx⟩,st',fun b hb=>(hf b hb).1⟩⟩
 done:=by
  intro X hP hw hK hc i pins s σ H E I hf st hg
  subst hP hw hK
  obtain ⟨xs,hq,hx⟩:=hg
  obtain ⟨its,rv,p,hz⟩:=I.tuple hq
  obtain ⟨f0,f1,f2,f3,f4,f5⟩:=hf it (by simp)
  have hl:=rv.length
  exact wpAny_pyNext_tuple_end (I.ok.hd hc) st (show s.heap.IsTuple a its.toArray from p) (by simp;lia) fun h' eb=>⟨rfl,I.turned (t':=s.toks) (fun b o hb e=>eb b o hb e) f0 f1 f3 f4 f5⟩
 self:=fun _ _ _ _ _ st h=>wpAny_pyIter_tupleiter st h
theorem L9 {P:Program} {w:World} {K:PySem.W.Frag} {tg:Expr} (it:Addr) (lo:Int) (n:Nat):Turn P w K tg (jq lo n) [it] it (fun i h=>IsRangeIter h it (lo+(i:Nat)*1) ((n:Int)-(i:Nat)) 1) where
 mem:=by simp
 obj:=fun i h st b hb=>by
  have e:b=it:=by simpa using hb
  subst e
  exact ⟨_,st,fun v z=>by
   have z':Data.fields _=Data.cell v:=z
   cases z'⟩
 keep:=fun i h h' st k=>k it (by simp) _ st
 item:=by
  intro X hP hw hK hc i pins s σ H E I hf st hg
  subst hP hw hK
  obtain ⟨f0,f1,f2,f3,f4,f5⟩:=hf it (by simp)
  have W:=Walks.range (prog:=X.prog) (w:=X.w) (I.ok.hd hc) it lo 1 n
  refine W.item i s _ _ hg st fun v h' tk hv st' kk=>?_
  obtain ⟨t,rfl⟩:=hv
  have I1:Inv X pins σ H {s with heap:=h',toks:=tk}:=I.turned (fun b o hb e=>kk b o (by simpa using hb) e) f0 f1 f3 f4 f5
  refine ⟨_,rfl,rJ (s:={s with heap:=h',toks:=tk}) (n:= "range_iterator") st' rfl rfl (by decide) ⟨.int (lo+i),H,I1,⟨t,?_⟩,⟨rfl,rfl⟩,st',fun b hb=>(hf b hb).1⟩⟩
  rw[Int.mul_one]
 done:=by
  intro X hP hw hK hc i pins s σ H E I hf st hg
  subst hP hw hK
  obtain ⟨f0,f1,f2,f3,f4,f5⟩:=hf it (by simp)
  exact wpAny_pyNext_range_end (I.ok.hd hc) st (by have:n≤i:=hg;lia) fun h' eb=>⟨rfl,I.turned (t':=s.toks) (fun b o hb e=>eb b o hb e) f0 f1 f3 f4 f5⟩
 self:=fun _ _ _ _ _ st h=>wpAny_pyIter_rangeiter st h
end L2
namespace L2
open PySem PySem.Spec PyProof.Rows
section
variable {X:Cx} {tg:Expr}
inductive BJ (K:PySem.W.Frag) (R:It→Hp→Prop) (x:V) (H:Hp):Prop
 |mk (a:Addr) (e:x= .ref a) (h: ∃xs,af K H a xs) (q:R (cY K a) H):BJ K R x H
def tF (K:PySem.W.Frag) (tl:TE):TI:=fun σ H R=>tl σ H (BJ K R)
def Fm (K:PySem.W.Frag) (tl:TE):TI:=fun σ H R=>tl σ H fun x H1=> ∃a,x= .ref a∧(∃xs,aP K H1 a xs)∧R (mw K a) H1
theorem gK {l:Expr} {tl:TE} (hl:PE X l tl):PI X tg l (tF X.K tl):=by
 intro pins s σ H R I h
 refine aw (hl pins s σ H _ I h) fun v s1 ⟨x,H1,I1,r1,q1⟩=>?_
 obtain ⟨a,e,⟨xs,hq⟩,q⟩:=q1
 subst e
 cases r1
 obtain ⟨its,rv,p,hz⟩:=I1.list hq
 refine wpAny_pyIter_list p.isList ?_
 refine ⟨s1.heap.objs.size, [s1.heap.objs.size],_,_,H1,rfl,I1.kept (t':=s1.toks) fun b o e=>Heap.get?_push_of_some _ e,OZ a _,⟨_,Heap.get?_push_size _ rfl,rfl,rfl⟩,fun b hb=>?_,q⟩
 have e:b=s1.heap.objs.size:=by simpa using hb
 subst e
 exact I1.gm (Nat.le_refl _) (I1.ag.fresh (Nat.le_refl _))
theorem KQ {l:Expr} {tl:TE} (hl:PE X l tl):PI X tg l (Fm X.K tl):=by
 intro pins s σ H R I h
 refine aw (hl pins s σ H _ I h) fun v s1 ⟨x,H1,I1,r1,q1⟩=>?_
 obtain ⟨a,e,⟨xs,hq⟩,q⟩:=q1
 subst e
 cases r1
 obtain ⟨its,rv,p,hz⟩:=I1.tuple hq
 refine wpAny_pyIter_tuple (show s1.heap.IsTuple a its.toArray from p) ?_
 refine ⟨s1.heap.objs.size, [s1.heap.objs.size],_,_,H1,rfl,I1.kept (t':=s1.toks) fun b o e=>Heap.get?_push_of_some _ e,PR a _,⟨_,Heap.get?_push_size _ rfl,rfl,rfl⟩,fun b hb=>?_,q⟩
 have e:b=s1.heap.objs.size:=by simpa using hb
 subst e
 exact I1.gm (Nat.le_refl _) (I1.ag.fresh (Nat.le_refl _))
theorem MA {pins:List (Addr×Obj)} {σ:St} {H:Hp} {s:Shared} {R:It→Hp→Prop} {E:Value→Shared→Prop} {lo hi:Int} {t u v:Tok} {tk:Nat} (I:Inv X pins σ H s) (h1: -(2^62)≤lo) (h2:lo<2^62) (h3: -(2^62)≤hi) (h4:hi<2^62)
  (q:R (jq lo (hi-lo).toNat) H):wpAny (model X.prog X.w) X.A (pyIter (.ref s.heap.objs.size)) (um X pins σ tg R) E {s with heap:=s.heap.push {cls:= .type "range",data:= .fields #[.int lo t, .int hi u, .int 1 v]},toks:=tk}:=by
 refine wpAny_pyIter_range (IsRange.new ..) (small_one h1 h2 h3 h4) ?_
 have I1:Inv X pins σ H {s with heap:=s.heap.push {cls:= .type "range",data:= .fields #[.int lo t, .int hi u, .int 1 v]},toks:=tk}:=I.kept fun b o e=>Heap.get?_push_of_some _ e
 refine ⟨(s.heap.push {cls:= .type "range",data:= .fields #[.int lo t, .int hi u, .int 1 v]}).objs.size, [(s.heap.push {cls:= .type "range",data:= .fields #[.int lo t, .int hi u, .int 1 v]}).objs.size],_,_,H,rfl,
  I1.kept (t':=tk) fun b o e=>Heap.get?_push_of_some _ e,L9 _ lo (hi-lo).toNat,?_,fun b hb=>?_,q⟩
 ·have e1:lo+((0:Nat):Int)*1=lo:=by simp
  have e2:(((hi-lo).toNat:Nat):Int)-((0:Nat):Int)=Builtin.Range.rangeSize lo hi 1:=by rw[rangeSize_one];split<;>lia
  show IsRangeIter _ _ (lo+((0:Nat):Int)*1) ((((hi-lo).toNat:Nat):Int)-((0:Nat):Int)) 1
  rw[e1,e2]
  exact Heap.get?_push_size _ rfl
 ·have e:b=(s.heap.push {cls:= .type "range",data:= .fields #[.int lo t, .int hi u, .int 1 v]}).objs.size:=by simpa using hb
  subst e
  exact I1.gm (Nat.le_refl _) (I1.ag.fresh (Nat.le_refl _))
inductive Af (R:It→Hp→Prop) (vs:List V) (H:Hp):Prop
 |mk (j:Int) (e:vs= [.int j]) (h1: -(2^62)≤j) (h2:j<2^62) (q:R (jq 0 j.toNat) H):Af R vs H
def Og (ta:TA):TI:=fun σ H R=>ta σ H (Af R)
theorem eN {a:Expr} {ta:TA} {p pos:Pos} (hg:Gl X "range") (hm:X.mg "range" =none) (ha:PA X [a] ta) (hs:starEach [a] X.env= [(false,eval a X.env)]:=by rfl):PI X tg (.Call (.Name "range" p) [a] [] pos) (Og ta):=by
 intro pins s σ H R I h
 refine Call_ (iC I hg hm boot_range (PyProof.Rows.callWith_type1 (aw (ha pos pins s σ H _ I h) fun us s1 ⟨vs,H1,I1,r1,q1⟩=>?_) hs rfl))
 obtain ⟨j,e,q1,q2,q⟩:=q1
 subst e
 cases r1 with
 |cons r rr=>
  cases rr
  obtain ⟨t,rfl⟩:=r
  exact call_range_1 (MA I1 (by lia) (by lia) q1 q2 (by simpa using q))
def Ie (wi:TI) (g:TG) (tb:TS):TS:=fun D σ H=>wi σ H fun J H1=> ∃W:Nat→Nat→St→Hp→Prop,(∃m,W 0 m σ H1)∧ ∀i m σ H,W i m σ H→
 (J.stop i H∧D.nx σ H)∨(J.go i H∧ ∃N:St→Hp→Prop,(∀σ' H',N σ' H'→ ∃m',m'<m∧W (i+1) m' σ' H')∧ ∀x H',J.dw i H x H'→g x σ H' fun σ2 H2=>tb {D with nx:=N,ct:=N,bk:=D.nx} σ2 H2)
def jK (fp:List Addr) (h:Heap):List (Addr×Obj):=fp.filterMap fun b=>(h.get? b).map fun o=>(b,o)
theorem sN {fp:List Addr} {h:Heap} {b:Addr} {o:Obj} (hb:b∈fp) (e:h.get? b=some o):(b,o)∈jK fp h:=List.mem_filterMap.mpr ⟨b,hb,by rw[e];rfl⟩
theorem Qv {fp:List Addr} {h:Heap} {p:Addr×Obj} (hp:p∈jK fp h):p.1∈fp∧h.get? p.1=some p.2:=by
 obtain ⟨b,hb,e⟩:=List.mem_filterMap.mp hp
 cases q:h.get? b with
 |none=>rw[q] at e;cases e
 |some o=>
  rw[q] at e
  have e':(b,o)=p:=Option.some.inj e
  subst e'
  exact ⟨hb,q⟩
theorem Inv.pinned {pins:List (Addr×Obj)} {σ:St} {H:Hp} {s:Shared} {fp:List Addr} (I:Inv X pins σ H s) (hf: ∀b∈fp,dN X pins H b) (ho: ∀b∈fp,∃o,s.heap.get? b=some o∧ ∀v,o.data≠ .cell v):Inv X (pins++jK fp s.heap) σ H s:=
 I.BC fun p hp=>(List.mem_append.mp hp).elim (fun z=>I.pin p (List.mem_append_right _ z)) fun z=>by
  obtain ⟨hb,e⟩:=Qv z
  obtain ⟨f0,f1,f2,_⟩:=hf p.1 hb
  obtain ⟨o,e',d⟩:=ho p.1 hb
  rw[e] at e';cases e'
  exact ⟨e,f0,f1,f2,d⟩
theorem Inv.mi {pins pl:List (Addr×Obj)} {σ:St} {H:Hp} {s:Shared} (I:Inv X (pins++pl) σ H s):Inv X pins σ H s:=I.BC fun p hp=>I.pin p (List.mem_append_right _ (List.mem_append_left _ hp))
theorem cj {iter:Expr} {body:List Stmt} {wi:TI} {g:TG} {tb:TS} {pos:Pos} (hp:PassesOwn (model X.prog X.w) X.A X.env X.xe) (hc:X.calm=true) (hi:PI X tg iter wi) (hg:PG X tg g) (hb:cO X body tb)
  (hs: ∀x,foldedSetIterable iter X.env x=pure x:=by intro _;rfl):PS X (.For tg iter body [] pos) (Ie wi g tb):=by
 intro pins s σ H D I h
 refine wpAny_For (aw (hi pins s σ H _ I h) fun v s1 h1=>aw h1 fun itv s2 h2=>?_) hs
 obtain ⟨it,fp,tn,J,H2,e,I2,T,st2,f2,W,⟨m0,w0⟩,turn⟩:=h2
 subst e
 have stat: ∀{H':Hp},(∀b∈fp,H' b=none)→ ∀b∈fp,dN X pins H' b:=fun hn b hb=>⟨hn b hb,(f2 b hb).2⟩
 refine codeAny_forLoop_any (fun n s'=> ∃i σ' H',Inv X pins σ' H' s'∧tn i s'.heap∧(∀b∈fp,H' b=none)∧W i n σ' H') ?_ m0 ⟨0,σ,H2,I2,st2,fun b hb=>(f2 b hb).1,w0⟩
 rintro n s3 ⟨i,σ3,H3,I3,st3,fr3,w3⟩
 rcases turn i n σ3 H3 w3 with ⟨stop,qn⟩|⟨go,N,hN,step⟩
 ·refine wpAny_passesOwn hp (aw (T.done X rfl rfl rfl hc i pins s3 σ3 H3 X.xe I3 (stat fr3) st3 stop) fun r s4 ⟨hr,I4⟩=>?_)
  subst hr
  exact wpAny_execs_nil ⟨σ3,H3,I4,qn⟩
 ·refine wpAny_passesOwn hp (aw (T.item X rfl rfl rfl hc i pins s3 σ3 H3 X.xe I3 (stat fr3) st3 go) fun r s4 ⟨u,hr,h4⟩=>?_)
  subst hr
  refine wpAny_passesOwn hp (aw h4 fun _ s5 ⟨x,H5,I5,r5,y5,st5,fr5⟩=>?_)
  have I5':=I5.pinned (stat fr5) (T.obj _ _ st5)
  refine wpAny_passesOwn hp (aw (hg _ s5 σ3 H5 x u _ I5' r5 (step x H5 y5)) fun _ s6 ⟨σ6,H6,I6,q6⟩=>?_)
  refine wpAny_passesOwn hp (aw (hb _ s6 σ6 H6 _ I6 q6) fun f s7 q7=>?_)
  have again: ∀{σ7:St} {H7:Hp},Inv X (pins++jK fp s5.heap) σ7 H7 s7→N σ7 H7→ ∃m,m<n∧ ∃i σ' H',Inv X pins σ' H' s7∧tn i s7.heap∧(∀b∈fp,H' b=none)∧W i m σ' H':=fun {σ7 H7} I7 n7=>by
   obtain ⟨m',hm,w7⟩:=hN σ7 H7 n7
   refine ⟨m',hm,i+1,σ7,H7,I7.mi,T.keep _ _ _ st5 fun b hb o e=>(I7.pin (b,o) (List.mem_append_right _ (List.mem_append_right _ (sN hb e)))).1,fun b hb=>?_,w7⟩
   obtain ⟨o,e,d⟩:=T.obj _ _ st5 b hb
   exact (I7.pin (b,o) (List.mem_append_right _ (List.mem_append_right _ (sN hb e)))).2.1
  cases f with
  |next=>obtain ⟨σ7,H7,I7,n7⟩:=q7;exact again I7 n7
  |cont=>obtain ⟨σ7,H7,I7,n7⟩:=q7;exact again I7 n7
  |brk=>obtain ⟨σ7,H7,I7,q7⟩:=q7;exact ⟨σ7,H7,I7.mi,q7⟩
  |ret v=>obtain ⟨x7,σ7,H7,I7,r7,q7⟩:=q7;exact ⟨x7,σ7,H7,I7.mi,r7,q7⟩
end
theorem fA {K:PySem.W.Frag} {a:Addr} {xs:List V} {g:TG} {tb:TS} {D:Ends} {σ:St} {H:Hp} (Pv:Nat→St→Hp→Prop) (h0:Pv 0 σ H) (hl: ∀i σ H,i≤xs.length→Pv i σ H→af K H a xs)
  (hs: ∀i x σ H,xs[i]?=some x→Pv i σ H→g x σ H fun σ2 H2=>tb {D with nx:=Pv (i+1),ct:=Pv (i+1),bk:=D.nx} σ2 H2) (hd: ∀σ H,Pv xs.length σ H→D.nx σ H):
  ∃W:Nat→Nat→St→Hp→Prop,(∃m,W 0 m σ H)∧ ∀i m σ H,W i m σ H→
   ((cY K a).stop i H∧D.nx σ H)∨((cY K a).go i H∧ ∃N:St→Hp→Prop,(∀σ' H',N σ' H'→ ∃m',m'<m∧W (i+1) m' σ' H')∧ ∀x H',(cY K a).dw i H x H'→g x σ H' fun σ2 H2=>tb {D with nx:=N,ct:=N,bk:=D.nx} σ2 H2):=by
 refine ⟨fun i m σ H=>m=xs.length-i∧i≤xs.length∧Pv i σ H,⟨xs.length,by simp,Nat.zero_le _,h0⟩,?_⟩
 rintro i m σ H ⟨rfl,hi,p⟩
 have q:=hl i σ H hi p
 by_cases hlt:i<xs.length
 ·refine .inr ⟨⟨xs,xs[i],q,by simp [hlt]⟩,Pv (i+1),fun σ' H' p'=>⟨xs.length-(i+1),by lia,rfl,hlt,p'⟩,fun x H' y=>?_⟩
  obtain ⟨e,y⟩:=y
  subst e
  exact hs i x σ _ (y xs q) p
 ·have e:i=xs.length:=by lia
  subst e
  exact .inl ⟨⟨xs,q,Nat.le_refl _⟩,hd σ H p⟩
theorem KS {K:PySem.W.Frag} {a:Addr} {xs:List V} {g:TG} {tb:TS} {D:Ends} {σ:St} {H:Hp} (Pv:Nat→St→Hp→Prop) (h0:Pv 0 σ H) (hl: ∀i σ H,i≤xs.length→Pv i σ H→aP K H a xs)
  (hs: ∀i x σ H,xs[i]?=some x→Pv i σ H→g x σ H fun σ2 H2=>tb {D with nx:=Pv (i+1),ct:=Pv (i+1),bk:=D.nx} σ2 H2) (hd: ∀σ H,Pv xs.length σ H→D.nx σ H):
  ∃W:Nat→Nat→St→Hp→Prop,(∃m,W 0 m σ H)∧ ∀i m σ H,W i m σ H→
   ((mw K a).stop i H∧D.nx σ H)∨((mw K a).go i H∧ ∃N:St→Hp→Prop,(∀σ' H',N σ' H'→ ∃m',m'<m∧W (i+1) m' σ' H')∧ ∀x H',(mw K a).dw i H x H'→g x σ H' fun σ2 H2=>tb {D with nx:=N,ct:=N,bk:=D.nx} σ2 H2):=by
 refine ⟨fun i m σ H=>m=xs.length-i∧i≤xs.length∧Pv i σ H,⟨xs.length,by simp,Nat.zero_le _,h0⟩,?_⟩
 rintro i m σ H ⟨rfl,hi,p⟩
 have q:=hl i σ H hi p
 by_cases hlt:i<xs.length
 ·refine .inr ⟨⟨xs,xs[i],q,by simp [hlt]⟩,Pv (i+1),fun σ' H' p'=>⟨xs.length-(i+1),by lia,rfl,hlt,p'⟩,fun x H' y=>?_⟩
  obtain ⟨e,y⟩:=y
  subst e
  exact hs i x σ _ (y xs q) p
 ·have e:i=xs.length:=by lia
  subst e
  exact .inl ⟨⟨xs,q,Nat.le_refl _⟩,hd σ H p⟩
theorem fM {lo:Int} {n:Nat} {g:TG} {tb:TS} {D:Ends} {σ:St} {H:Hp} (Pv:Nat→St→Hp→Prop) (h0:Pv 0 σ H)
  (hs: ∀i σ H,i<n→Pv i σ H→g (.int (lo+i)) σ H fun σ2 H2=>tb {D with nx:=Pv (i+1),ct:=Pv (i+1),bk:=D.nx} σ2 H2) (hd: ∀σ H,Pv n σ H→D.nx σ H):
  ∃W:Nat→Nat→St→Hp→Prop,(∃m,W 0 m σ H)∧ ∀i m σ H,W i m σ H→
   ((jq lo n).stop i H∧D.nx σ H)∨((jq lo n).go i H∧ ∃N:St→Hp→Prop,(∀σ' H',N σ' H'→ ∃m',m'<m∧W (i+1) m' σ' H')∧ ∀x H',(jq lo n).dw i H x H'→g x σ H' fun σ2 H2=>tb {D with nx:=N,ct:=N,bk:=D.nx} σ2 H2):=by
 refine ⟨fun i m σ H=>m=n-i∧i≤n∧Pv i σ H,⟨n,by simp,Nat.zero_le _,h0⟩,?_⟩
 rintro i m σ H ⟨rfl,hi,p⟩
 by_cases hlt:i<n
 ·refine .inr ⟨hlt,Pv (i+1),fun σ' H' p'=>⟨n-(i+1),by lia,rfl,hlt,p'⟩,fun x H' y=>?_⟩
  obtain ⟨e,y⟩:=y
  subst e y
  exact hs i σ _ hlt p
 ·have e:i=n:=by lia
  subst e
  exact .inl ⟨Nat.le_refl _,hd σ H p⟩
end L2
namespace L2
open PySem PySem.Spec PyProof.Rows
abbrev R2:=V→V→Hp→VK→Prop
def bq (X:Cx) (f:Value→Value→Sem Value) (r:R2):Prop:=
 ∀(pins:List (Addr×Obj)) (s:Shared) (σ:St) (H:Hp) (x y:V) (v u:Value) (Q:VK),Inv X pins σ H s→RelV x v→RelV y u→r x y H Q→
  wpAny (model X.prog X.w) X.A (f v u) (EP X pins σ Q) X.xe s
def w4 (X:Cx) (f:Value→Sem Value) (r:V→Hp→VK→Prop):Prop:=
 ∀(pins:List (Addr×Obj)) (s:Shared) (σ:St) (H:Hp) (x:V) (v:Value) (Q:VK),Inv X pins σ H s→RelV x v→r x H Q→
  wpAny (model X.prog X.w) X.A (f v) (EP X pins σ Q) X.xe s
def eY (X:Cx) (f:Value) (r:List V→Hp→VK→Prop):Prop:=
 ∀(pins:List (Addr×Obj)) (s:Shared) (σ:St) (H:Hp) (xs:List V) (us:List Value) (Q:VK),Inv X pins σ H s→Vals xs us→r xs H Q→
  wpAny (model X.prog X.w) X.A (call f us) (EP X pins σ Q) X.xe s
def gw (r:R2) (ta tb:TE):TE:=fun σ H Q=>ta σ H fun x H1=>tb σ H1 fun y H2=>r x y H2 Q
def J7 (r:V→Hp→VK→Prop) (ta:TE):TE:=fun σ H Q=>ta σ H fun x H1=>r x H1 Q
inductive rI (C:Int→Int→Prop) (g:Int→Int→V) (x y:V) (H:Hp) (Q:VK):Prop
 |mk (i j:Int) (e1:x= .int i) (e2:y= .int j) (c:C i j) (q:Q (g i j) H):rI C g x y H Q
inductive du (g:Int→Int→V) (x y:V) (H:Hp) (Q:VK):Prop
 |mk (i j:Int) (e1:x= .int i) (e2:y= .int j) (q:Q (g i j) H):du g x y H Q
inductive rU (g:Int→V) (x:V) (H:Hp) (Q:VK):Prop
 |mk (i:Int) (e:x= .int i) (q:Q (g i) H):rU g x H Q
section
variable {X:Cx} {a b c:Expr} {ta tb tc:TE} {pos:Pos}
theorem vq (ha:PE X a ta) (hb:PE X b tb) {pins:List (Addr×Obj)} {s:Shared} {σ:St} {H:Hp} {R:V→V→Hp→Prop} (I:Inv X pins σ H s)
  (h:ta σ H fun x H1=>tb σ H1 fun y H2=>R x y H2) {Q:Value→Shared→Prop} {f:Value→Value→Sem Value}
  (hf: ∀v u s2 x y H2,Inv X pins σ H2 s2→RelV x v→RelV y u→R x y H2→wpAny (model X.prog X.w) X.A (f v u) Q X.xe s2):
  wpAny (model X.prog X.w) X.A (eval a X.env) (fun v s₁=>wpAny (model X.prog X.w) X.A (eval b X.env) (fun u s₂=>wpAny (model X.prog X.w) X.A (f v u) Q X.xe s₂) X.xe s₁) X.xe s:=by
 refine aw (ha pins s σ H _ I h) fun v s1 ⟨x,H1,I1,r1,q1⟩=>?_
 refine aw (hb pins s1 σ H1 _ I1 q1) fun u s2 ⟨y,H2,I2,r2,q2⟩=>?_
 exact hf v u s2 x y H2 I2 r1 r2 q2
theorem aq {op:Operator} {r:R2} (ho:bq X (binaryOp op) r) (ha:PE X a ta) (hb:PE X b tb):PE X (.BinOp a op b pos) (gw r ta tb):=by
 intro pins s σ H Q I h
 exact wpAny_BinOp (vq ha hb I h fun v u s2 x y H2 I2 rx ry q=>ho pins s2 σ H2 x y v u Q I2 rx ry q)
theorem gS {op:UnaryOp} {r:V→Hp→VK→Prop} (ho:w4 X (unaryOp op) r) (ha:PE X a ta):PE X (.UnaryOp op a pos) (J7 r ta):=by
 intro pins s σ H Q I h
 exact UnaryOp_ (aw (ha pins s σ H _ I h) fun v s1 ⟨x,H1,I1,r1,q1⟩=>ho pins s1 σ H1 x v Q I1 r1 q1)
theorem iZ {f:Value→Value→Sem Value} {C:Int→Int→Prop} {g:Int→Int→Int}
  (rule: ∀(i j:Int) (t u:Tok) (s:Shared) (Q:Value→Shared→Prop) (E:Value→Shared→Prop),C i j→Q (.int (g i j) s.toks) {s with toks:=s.toks+1}→wpAny (model X.prog X.w) X.A (f (.int i t) (.int j u)) Q E s):
  bq X f (rI C fun i j=> .int (g i j)):=by
 intro pins s σ H x y v u Q I rx ry h
 obtain ⟨i,j,rfl,rfl,hc,q⟩:=h
 obtain ⟨t,rfl⟩:=rx
 obtain ⟨t',rfl⟩:=ry
 exact rule i j t t' s _ _ hc ⟨.int (g i j),H,I.tok _,⟨_,rfl⟩,q⟩
theorem iJ {f:Value→Value→Sem Value} {g:Int→Int→Int}
  (rule: ∀(i j:Int) (t u:Tok) (s:Shared) (Q:Value→Shared→Prop) (E:Value→Shared→Prop),Q (.int (g i j) s.toks) {s with toks:=s.toks+1}→wpAny (model X.prog X.w) X.A (f (.int i t) (.int j u)) Q E s):
  bq X f (du fun i j=> .int (g i j)):=by
 intro pins s σ H x y v u Q I rx ry h
 obtain ⟨i,j,rfl,rfl,q⟩:=h
 obtain ⟨t,rfl⟩:=rx
 obtain ⟨t',rfl⟩:=ry
 exact rule i j t t' s _ _ ⟨.int (g i j),H,I.tok _,⟨_,rfl⟩,q⟩
theorem qX {f:Value→Value→Sem Value} {g:Int→Int→Bool}
  (rule: ∀(i j:Int) (t u:Tok) (s:Shared) (Q:Value→Shared→Prop) (E:Value→Shared→Prop),Q (.bool (g i j)) s→wpAny (model X.prog X.w) X.A (f (.int i t) (.int j u)) Q E s):
  bq X f (du fun i j=> .bl (g i j)):=by
 intro pins s σ H x y v u Q I rx ry h
 obtain ⟨i,j,rfl,rfl,q⟩:=h
 obtain ⟨t,rfl⟩:=rx
 obtain ⟨t',rfl⟩:=ry
 exact rule i j t t' s _ _ ⟨.bl (g i j),H,I,rfl,q⟩
def M4 (i j:Int):Prop:=0<j∧j<1073741824
def uN (i j:Int):Prop:=0≤j∧j≤1000000∧i.natAbs<2^64
def vT (i j:Int):Prop:=(-(2^64)<i∧i<2^64)∨(-(2^64)<j∧j<2^64)
theorem vT.ok {i j:Int} (h:vT i j):IntMulOk i j:=by
 rcases h with ⟨h1,h2⟩|⟨h1,h2⟩
 ·exact .of_left (intBits_le_64 h1 h2)
 ·exact .of_right (intBits_le_64 h1 h2)
theorem I0 (k:Nat):(0:Int)≤2^k:=by
 rw[two_pow_cast]
 exact Int.natCast_nonneg _
theorem bT:bq X (binaryOp .Add) (du fun i j=> .int (i+j)):=iJ fun _ _ _ _ _ _ _ q=>add_int q
theorem cZ:bq X (binaryOp .Sub) (du fun i j=> .int (i-j)):=iJ fun _ _ _ _ _ _ _ q=>sub_int q
theorem gz:bq X (binaryOp .Mult) (rI vT fun i j=> .int (i*j)):=iZ fun _ _ _ _ _ _ _ hc q=>mul_int q hc.ok
theorem iU:bq X (binaryOp .FloorDiv) (rI M4 fun i j=> .int (i/j)):=iZ fun i j _ _ _ _ _ hc q=>by
 have h1:(0:Int)<j:=hc.1
 have h2:j<1073741824:=hc.2
 exact floordiv_int (by lia) (by rw[Int.fdiv_eq_ediv_of_nonneg i (by lia)];exact q) (.inl (PyProof.noPylong_small (by lia)))
theorem l8:bq X (binaryOp .Mod) (rI (fun _ j=>0<j) fun i j=> .int (i%j)):=iZ fun i j _ _ _ _ _ hc q=>by
 have h1:(0:Int)<j:=hc
 exact mod_int' (by lia) (by rw[Int.fmod_eq_emod_of_nonneg i (by lia)];exact q)
theorem je:bq X (binaryOp .LShift) (rI uN fun i j=> .int (i*2^j.toNat)):=iZ fun _ _ _ _ _ _ _ hc q=>lshift_int_small hc.1 hc.2.1 hc.2.2 q
theorem fg:bq X (binaryOp .RShift) (rI (fun _ j=>0≤j) fun i j=> .int (i/2^j.toNat)):=iZ fun i j _ _ _ _ _ hc q=>
 rshift_int hc (by rw[Int.fdiv_eq_ediv_of_nonneg i (I0 _)];exact q)
theorem kU:bq X (binaryOp .BitAnd) (du fun i j=> .int (Builtin.bitAnd i j)):=iJ fun _ _ _ _ _ _ _ q=>and_int q
theorem yk:bq X (binaryOp .BitOr) (du fun i j=> .int (Builtin.bitOr i j)):=iJ fun _ _ _ _ _ _ _ q=>or_int q
theorem jB:bq X (binaryOp .BitXor) (du fun i j=> .int (Builtin.bitXor i j)):=iJ fun _ _ _ _ _ _ _ q=>xor_int q
theorem qF:bq X (inplaceOp .Add) (du fun i j=> .int (i+j)):=iJ fun _ _ _ _ _ _ _ q=>iadd_int q
theorem MW:bq X (inplaceOp .Sub) (du fun i j=> .int (i-j)):=iJ fun _ _ _ _ _ _ _ q=>isub_int q
theorem Ax:bq X (inplaceOp .LShift) (rI uN fun i j=> .int (i*2^j.toNat)):=iZ fun _ _ _ _ _ _ _ hc q=>ilshift_int_small hc.1 hc.2.1 hc.2.2 q
theorem rK:bq X (inplaceOp .BitXor) (du fun i j=> .int (Builtin.bitXor i j)):=iJ fun _ _ _ _ _ _ _ q=>ixor_int q
theorem RW {f:Value→Sem Value} {g:Int→Int}
  (rule: ∀(i:Int) (t:Tok) (s:Shared) (Q:Value→Shared→Prop) (E:Value→Shared→Prop),Q (.int (g i) s.toks) {s with toks:=s.toks+1}→wpAny (model X.prog X.w) X.A (f (.int i t)) Q E s):
  w4 X f (rU fun i=> .int (g i)):=by
 intro pins s σ H x v Q I rx h
 obtain ⟨i,rfl,q⟩:=h
 obtain ⟨t,rfl⟩:=rx
 exact rule i t s _ _ ⟨.int (g i),H,I.tok _,⟨_,rfl⟩,q⟩
theorem gR:w4 X (unaryOp .USub) (rU fun i=> .int (-i)):=RW fun _ _ _ _ _ q=>neg_int q
end
def zO:V→V→Bool
 | .au, .au=>true| .au, .int _=>true| .int _, .au=>true| .au, .bl _=>true| .bl _, .au=>true| .au, .str _=>true| .str _, .au=>true
 | .int _, .int _=>true| .bl _, .bl _=>true| .str _, .str _=>true| .cR _, .cR _=>true
 | .int _, .str _=>true| .str _, .int _=>true| .bl _, .str _=>true| .str _, .bl _=>true
 |_,_=>false
inductive Au (x y:V) (H:Hp) (Q:VK):Prop
 |mk (e:zO x y=true) (q:Q (.bl (decide (x=y))) H):Au x y H Q
inductive Ct (x y:V) (H:Hp) (Q:VK):Prop
 |mk (e:zO x y=true) (q:Q (.bl (!decide (x=y))) H):Ct x y H Q
theorem DN {i j:Int}:decide (V.int i=V.int j)=(i==j):=by
 rw[Bool.eq_iff_iff]
 simp
theorem xh {i j:Bool}:decide (V.bl i=V.bl j)=(i==j):=by
 rw[Bool.eq_iff_iff]
 simp
theorem xH {i j:Str}:decide (V.str i=V.str j)=(i==j):=by
 rw[Bool.eq_iff_iff]
 simp
theorem BZ {i j:Array UInt8}:decide (V.cR i=V.cR j)=(i.toList==j.toList):=by
 rw[Bool.eq_iff_iff]
 cases i
 cases j
 simp
section
variable {X:Cx} {a b c:Expr} {ta tb tc:TE} {pos:Pos}
theorem bG {pins:List (Addr×Obj)} {σ:St} {H:Hp} {s:Shared} {Q:VK} {k k':Bool} (I:Inv X pins σ H s) (q:Q (.bl k) H) (e:k=k'):EP X pins σ Q (.bool k') s:=by
 subst e
 exact ⟨.bl k,H,I,rfl,q⟩
theorem cH:bq X (compareOp .Eq) Au:=by
 intro pins s σ H x y v u Q I rx ry h
 obtain ⟨hs,q⟩:=h
 cases x with
 |au=>
  cases rx
  cases y with
  |au=>cases ry;exact PySem.EqNone.eq_none_none (bG I q (by simp))
  |bl j=>cases ry;exact PySem.EqNone.eq_none_bool (bG I q (by simp))
  |int j=>obtain ⟨t',rfl⟩:=ry;exact PySem.EqNone.eq_none_int (bG I q (by simp))
  |str j=>obtain ⟨t',rfl⟩:=ry;exact PySem.EqNone.eq_none_str (bG I q (by simp))
  |_=>exact absurd (show false=true from hs) Bool.false_ne_true
 |bl i=>
  cases rx
  cases y with
  |au=>cases ry;exact PySem.EqNone.eq_bool_none (bG I q (by simp))
  |bl j=>cases ry;exact eq_bool (bG I q xh)
  |str j=>obtain ⟨t',rfl⟩:=ry;exact PySem.EqMixed.eq_bool_str (bG I q (by simp))
  |_=>exact absurd (show false=true from hs) Bool.false_ne_true
 |int i=>
  obtain ⟨t,rfl⟩:=rx
  cases y with
  |au=>cases ry;exact PySem.EqNone.eq_int_none (bG I q (by simp))
  |int j=>obtain ⟨t',rfl⟩:=ry;exact eq_int (bG I q DN)
  |str j=>obtain ⟨t',rfl⟩:=ry;exact PySem.EqMixed.eq_int_str (bG I q (by simp))
  |_=>exact absurd (show false=true from hs) Bool.false_ne_true
 |str i=>
  obtain ⟨t,rfl⟩:=rx
  cases y with
  |au=>cases ry;exact PySem.EqNone.eq_str_none (bG I q (by simp))
  |bl j=>cases ry;exact PySem.EqMixed.eq_str_bool (bG I q (by simp))
  |int j=>obtain ⟨t',rfl⟩:=ry;exact PySem.EqMixed.eq_str_int (bG I q (by simp))
  |str j=>obtain ⟨t',rfl⟩:=ry;exact eq_str (bG I q xH)
  |_=>exact absurd (show false=true from hs) Bool.false_ne_true
 |cR i=>
  obtain ⟨t,rfl⟩:=rx
  cases y with
  |cR j=>obtain ⟨t',rfl⟩:=ry;exact PySem.W.eq_bytes (bG I q BZ)
  |_=>exact absurd (show false=true from hs) Bool.false_ne_true
 |_=>cases y<;>exact absurd (show false=true from hs) Bool.false_ne_true
theorem iT:bq X (compareOp .NotEq) Ct:=by
 intro pins s σ H x y v u Q I rx ry h
 obtain ⟨hs,q⟩:=h
 cases x with
 |au=>
  cases rx
  cases y with
  |au=>cases ry;exact PySem.EqNone.ne_none_none (bG I q (by simp))
  |bl j=>cases ry;exact PySem.EqNone.ne_none_bool (bG I q (by simp))
  |int j=>obtain ⟨t',rfl⟩:=ry;exact PySem.EqNone.ne_none_int (bG I q (by simp))
  |str j=>obtain ⟨t',rfl⟩:=ry;exact PySem.EqNone.ne_none_str (bG I q (by simp))
  |_=>exact absurd (show false=true from hs) Bool.false_ne_true
 |bl i=>
  cases rx
  cases y with
  |au=>cases ry;exact PySem.EqNone.ne_bool_none (bG I q (by simp))
  |bl j=>cases ry;exact ne_bool (bG I q (congrArg not xh))
  |str j=>obtain ⟨t',rfl⟩:=ry;exact PySem.EqMixed.ne_bool_str (bG I q (by simp))
  |_=>exact absurd (show false=true from hs) Bool.false_ne_true
 |int i=>
  obtain ⟨t,rfl⟩:=rx
  cases y with
  |au=>cases ry;exact PySem.EqNone.ne_int_none (bG I q (by simp))
  |int j=>obtain ⟨t',rfl⟩:=ry;exact ne_int (bG I q (congrArg not DN))
  |str j=>obtain ⟨t',rfl⟩:=ry;exact PySem.EqMixed.ne_int_str (bG I q (by simp))
  |_=>exact absurd (show false=true from hs) Bool.false_ne_true
 |str i=>
  obtain ⟨t,rfl⟩:=rx
  cases y with
  |au=>cases ry;exact PySem.EqNone.ne_str_none (bG I q (by simp))
  |bl j=>cases ry;exact PySem.EqMixed.ne_str_bool (bG I q (by simp))
  |int j=>obtain ⟨t',rfl⟩:=ry;exact PySem.EqMixed.ne_str_int (bG I q (by simp))
  |str j=>obtain ⟨t',rfl⟩:=ry;exact ne_str (bG I q (congrArg not xH))
  |_=>exact absurd (show false=true from hs) Bool.false_ne_true
 |cR i=>
  obtain ⟨t,rfl⟩:=rx
  cases y with
  |cR j=>obtain ⟨t',rfl⟩:=ry;exact PySem.W.ne_bytes (bG I q (congrArg not BZ))
  |_=>exact absurd (show false=true from hs) Bool.false_ne_true
 |_=>cases y<;>exact absurd (show false=true from hs) Bool.false_ne_true
theorem nX:bq X (compareOp .Lt) (du fun i j=> .bl (decide (i<j))):=qX fun _ _ _ _ _ _ _ q=>lt_int q
theorem gI:bq X (compareOp .LtE) (du fun i j=> .bl (decide (i≤j))):=qX fun _ _ _ _ _ _ _ q=>le_int q
theorem fH:bq X (compareOp .Gt) (du fun i j=> .bl (decide (j<i))):=qX fun _ _ _ _ _ _ _ q=>gt_int q
theorem qB:bq X (compareOp .GtE) (du fun i j=> .bl (decide (j≤i))):=qX fun _ _ _ _ _ _ _ q=>ge_int q
theorem JQ:bq X (compareOp .Is) (fun x y H Q=>y= .au∧Q (.bl (decide (x= .au))) H):=by
 intro pins s σ H x y v u Q I rx ry h
 obtain ⟨rfl,q⟩:=h
 cases ry
 refine is_none_gen (bG I q ?_)
 cases x<;>first
  |(cases rx;rfl)
  |(obtain ⟨t,rfl⟩:=rx;rfl)
theorem AH:bq X (compareOp .IsNot) (fun x y H Q=>y= .au∧Q (.bl (!decide (x= .au))) H):=by
 intro pins s σ H x y v u Q I rx ry h
 obtain ⟨rfl,q⟩:=h
 cases ry
 refine isnot_none_gen (bG I q ?_)
 cases x<;>first
  |(cases rx;rfl)
  |(obtain ⟨t,rfl⟩:=rx;rfl)
theorem aT (b:Expr) {op:CmpOp} (h:op≠ .In:=by decide) (h2:op≠ .NotIn:=by decide):behindInMarks op b=false:=by
 have e1:(op==CmpOp.In)=false:=by cases op<;>first|rfl|exact absurd rfl h
 have e2:(op==CmpOp.NotIn)=false:=by cases op<;>first|rfl|exact absurd rfl h2
 cases b<;>simp [behindInMarks,e1,e2]
theorem tG {op:CmpOp} {r:R2} (ho:bq X (compareOp op) r) (ha:PE X a ta) (hb:PE X b tb) (hm:behindInMarks op b=false):PE X (.Compare a [op] [b] pos) (gw r ta tb):=by
 intro pins s σ H Q I h
 exact wpAny_Compare1 (vq ha hb I h fun v u s2 x y H2 I2 rx ry q=>ho pins s2 σ H2 x y v u Q I2 rx ry q) hm
def Cd (t:TE):TT:=fun σ H Q=>t σ H (lM Q)
theorem aU {op:CmpOp} {r:R2} (ho:bq X (compareOp op) r) (ha:PE X a ta) (hb:PE X b tb) (hm:behindInMarks op b=false):PT X (.Compare a [op] [b] pos) (Cd (gw r ta tb)):=by
 intro pins s σ H Q I h
 refine wpAny_isTrue_Compare1 (aw (ha pins s σ H _ I h) fun v s1 ⟨x,H1,I1,r1,q1⟩=>aw (hb pins s1 σ H1 _ I1 q1) fun u s2 ⟨y,H2,I2,r2,q2⟩=>
  aw (ho pins s2 σ H2 x y v u _ I2 r1 r2 q2) fun c s3 ⟨z,H3,I3,r3,k,e,q3⟩=>?_) hm
 subst e
 cases r3
 exact wpAny_truthy_bool ⟨H3,I3,q3⟩
def Cm (r r':R2) (ta tb tc:TE):TE:=fun σ H Q=>ta σ H fun x H1=>tb σ H1 fun y H2=>r x y H2 fun z H3=>lM (fun k H3=>if k=true then tc σ H3 fun w' H4=>r' y w' H4 Q else Q (.bl false) H3) z H3
theorem DR {op op':CmpOp} {r r':R2} (ho:bq X (compareOp op) r) (ho':bq X (compareOp op') r') (ha:PE X a ta) (hb:PE X b tb) (hc:PE X c tc)
  (hm:lastMarks [op,op'] [b,c]=false:=by with_unfolding_all rfl):PE X (.Compare a [op,op'] [b,c] pos) (Cm r r' ta tb tc):=by
 intro pins s σ H Q I h
 refine Compare_chain (aw (ha pins s σ H _ I h) fun v s1 ⟨x,H1,I1,r1,q1⟩=>chain_link (aw (hb pins s1 σ H1 _ I1 q1) fun u s2 ⟨y,H2,I2,r2,q2⟩=>
  aw (ho pins s2 σ H2 x y v u _ I2 r1 r2 q2) fun d s3 ⟨z,H3,I3,r3,k,e,q3⟩=>?_)) hm
 subst e
 cases r3
 refine wpAny_truthy_bool ?_
 cases k with
 |false=>exact ite_ff ⟨.bl false,H3,I3,rfl,q3⟩
 |true=>exact ite_tt (chain_last (aw (hc pins s3 σ H3 _ I3 q3) fun w' s4 ⟨z',H4,I4,r4,q4⟩=>ho' pins s4 σ H4 y z' u w' Q I4 r2 r4 q4))
theorem vI {op op':CmpOp} {r r':R2} (ho:bq X (compareOp op) r) (ho':bq X (compareOp op') r') (ha:PE X a ta) (hb:PE X b tb) (hc:PE X c tc)
  (hm:lastMarks [op,op'] [b,c]=false:=by with_unfolding_all rfl):PT X (.Compare a [op,op'] [b,c] pos) (Cd (Cm r r' ta tb tc)):=by
 intro pins s σ H Q I h
 refine isTrue_chain (aw (ha pins s σ H _ I h) fun v s1 ⟨x,H1,I1,r1,q1⟩=>test_link (aw (hb pins s1 σ H1 _ I1 q1) fun u s2 ⟨y,H2,I2,r2,q2⟩=>
  aw (ho pins s2 σ H2 x y v u _ I2 r1 r2 q2) fun d s3 ⟨z,H3,I3,r3,k,e,q3⟩=>?_)) hm
 subst e
 cases r3
 refine wpAny_truthy_bool ?_
 cases k with
 |false=>
  obtain ⟨k',e',q'⟩:=q3
  cases e'
  exact ite_ff ⟨H3,I3,q'⟩
 |true=>
  refine ite_tt (test_last (aw (hc pins s3 σ H3 _ I3 q3) fun w' s4 ⟨z',H4,I4,r4,q4⟩=>aw (ho' pins s4 σ H4 y z' u w' _ I4 r2 r4 q4) fun d' s5 ⟨z2,H5,I5,r5,k2,e2,q5⟩=>?_))
  subst e2
  cases r5
  exact wpAny_truthy_bool ⟨H5,I5,q5⟩
theorem mV:(sizeLine:Nat)<2^63:=by rw[sizeLine_eq];decide
theorem vals1 {x:V} {us:List Value} (r:Vals [x] us): ∃u,us= [u]∧RelV x u:=by
 cases r with
 |cons r1 r2=>cases r2;exact ⟨_,rfl,r1⟩
theorem vals2 {x y:V} {us:List Value} (r:Vals [x,y] us): ∃u w',us= [u,w']∧RelV x u∧RelV y w':=by
 cases r with
 |cons r1 r2=>
  cases r2 with
  |cons r3 r4=>cases r4;exact ⟨_,_,rfl,r1,r3⟩
theorem JN (hc:X.calm=true):eY X (.builtin "min") (fun xs H Q=> ∃i j,xs= [.int i, .int j]∧Q (.int (if j<i then j else i)) H):=by
 intro pins s σ H xs us Q I r h
 obtain ⟨i,j,rfl,q⟩:=h
 obtain ⟨u,w',rfl,⟨t,rfl⟩,⟨t',rfl⟩⟩:=vals2 r
 refine min_two_ints (I.ok.hd hc) fun h' tk k=>⟨_,H,I.kept k,?_,q⟩
 by_cases hj:j<i
 ·rw[if_pos hj,if_pos hj];exact ⟨_,rfl⟩
 ·rw[if_neg hj,if_neg hj];exact ⟨_,rfl⟩
end
end L2
namespace L2
open PySem PySem.Spec PyProof.Rows
structure jy (h:Heap) (x dx C:Addr) (mA:Str→Option Value):Prop where
 obj:h.get? x=some (PySem.W.instObj C dx)
 ns:h.Ns1 dx mA
 ne:dx≠x
theorem L7 {h:Heap} {dx:Addr} {mA:Str→Option Value} (n:h.Ns1 dx mA): ∃od,h.get? dx=some od∧ ∀name,PySem.W.lookIn name od=some (mA name):=by
 obtain ⟨o,es,ep,ho,hd,hk,_,hm⟩:=n
 refine ⟨o,ho,fun name=>?_⟩
 have e:=hm name
 unfold nsFind findBy at e
 rw[←Array.find?_toList] at e
 unfold PySem.W.lookIn
 rw[hd]
 dsimp only
 split
 ·rename_i y q
  rw[q] at e
  exact congrArg some e
 ·rename_i q
  rw[q] at e
  have a:es.toList.any (·.refKey)=false:=by
   rw[List.any_eq_false]
   intro y hy
   obtain ⟨z,t,hkey⟩:=hk y (Array.mem_toList_iff.mp hy)
   simp [DictEntry.refKey,hkey]
  have a': ¬es.toList.any (·.refKey)=true:=by rw[a];exact Bool.false_ne_true
  rw[if_neg a']
  exact congrArg some e
theorem jy.look {h:Heap} {x dx C:Addr} {mA:Str→Option Value} (I:jy h x dx C mA): ∃od,PySem.W.InstAt h x (PySem.W.instObj C dx) C (some od)∧ ∀name,PySem.W.lookIn name od=some (mA name):=
 let ⟨od,ho,hl⟩:=L7 I.ns
 ⟨od,⟨I.obj,rfl,rfl,ho⟩,hl⟩
section
variable {prog:Program} {w:World} {A:Around} {E:Value→Shared→Prop} {s:Shared} {K:PySem.W.Frag} {x dx C f:Addr} {mA:Str→Option Value} {name:Str} {v:Value}
theorem get_map {expr:Bool} {Q:Value→Shared→Prop} (X:K.In s.heap) (I:jy s.heap x dx C mA) (hg:PySem.W.plainGet K C name=true) (hh:PySem.W.hasDictIn K C=true)
  (ha:PySem.W.findIn K (.ref C) name=some none) (hv:mA name=some v) (hv':PySem.W.handedIn v=true) (h:Q v {s with toks:=s.toks+1}):
  wpAny (model prog w) A (getAttr (.ref x) name expr) Q E s:=by
 obtain ⟨od,J,hl⟩:=I.look
 exact PySem.W.get_value X J (PySem.W.plainGet_of hg).1 (PySem.W.findObj_own hh ha rfl (by rw[hl,hv])) hv' h
theorem J3 {pl:Sem Bool} {Q:Value×List Value→Shared→Prop} (X:K.In s.heap) (I:jy s.heap x dx C mA) (hg:PySem.W.plainGet K C name=true)
  (hf:PySem.W.findIn K (.ref C) name=some (some (.ref f))) (ht:PySem.W.isFn K (.ref f)=true) (hv:mA name=none) (h:Q (.ref f, [.ref x]) s):
  wpAny (model prog w) A (getMethod (.ref x) name pl) Q E s:=by
 obtain ⟨od,J,hl⟩:=I.look
 exact PySem.W.method_fn X J (PySem.W.plainGet_of hg).1 (PySem.W.plainGet_of hg).2 hf (beq_iff_eq.mp ht) (by show (PySem.W.lookIn name od).map (·.isSome)=some false;rw[hl,hv];rfl) h
theorem LO {ns:List Str} {Q:Unit→Shared→Prop} (X:K.In s.heap) (I:jy s.heap x dx C mA)
  (hs:PySem.W.findIn K (.ref C) "__setattr__" =some (some (.builtin "object.__setattr__"))) (hp:PySem.W.plainOver K C=true) (ht:PySem.W.takerIn K C name=some none) (hh:PySem.W.hasDictIn K C=true)
  (hw:PySem.Within mA ns) (hsz:ns.length≤sizeLine)
  (h: ∀h',jy h' x dx C (fun y=>if y=name then some v else mA y)→Heap.SameBut dx s.heap h'→Q () {s with heap:=h',toks:=s.toks+2}):
  wpAny (model prog w) A (setAttr (.ref x) name v) Q E s:=by
 obtain ⟨od,J,hl⟩:=I.look
 refine PySem.W.set_plain X J hs (PySem.W.osa_open (s:={s with toks:=s.toks+1}) (r:=none) X J hp ht fun b=>?_)
 obtain ⟨cd,hc,hd'⟩:=PySem.W.any_some hh
 have hx:s.heap.get? x=some ⟨.ref C,some dx, .plain, #[]⟩:=I.obj
 refine wpAny_bind (wpAny_pure (wpAny_bind (wpAny_bind (wpAny_loadPart hx (wpAny_bind (PySem.W.Looks.here (s:={s with toks:=s.toks+1}) (PySem.W.looks_clsIn X hc) ?_))))))
 rw[hd']
 refine wpAny_pure (a:=some dx) (wpAny_bind (wpAny_pure (wpAny_bind ?_)))
 refine wpAny_nsSet1 (s:={s with toks:=s.toks+1}) I.ns fun h' hn2 hs2=>?_
 obtain ⟨oD,esD,epD,hoD,hdD,hcD⟩:=hn2.count (PySem.Within.cons name v hw)
 refine wpAny_bind (wpAny_lookBehind hoD (by rw[hdD];exact pastItsLine_dict (Nat.le_trans hcD (by rw[List.length_cons];lia))) ?_)
 exact wpAny_pure (h _ ⟨(hs2.2 _ (Ne.symm I.ne)).trans I.obj,hn2,I.ne⟩ hs2)
theorem E3 {R:Result→Shared→Prop} {vs:List Value} {kw:List (Str×Value)} (X:K.In s.heap) (hm:PySem.W.makesIn K C=true)
  (hi:PySem.W.findIn K (.ref C) "__init__" =some (some (.ref f))) (hf:PySem.W.typeIn K (.ref f)=some (.type "function"))
  (h:codeAny (model prog w) (A.under (.builtin "type.__call__" ⟨.ref C::vs,kw⟩)) (.call (.ref f) ⟨.ref (s.heap.objs.size+1)::vs,kw⟩) (PySem.W.InitBack (s.heap.objs.size+1) R)
   {s with heap:=(s.heap.push PySem.W.emptyDict).push (PySem.W.instObj C s.heap.objs.size)}):
  codeAny (model prog w) A (.call (.ref C) ⟨vs,kw⟩) R s:=by
 obtain ⟨hh,g,d,t,os⟩:=s
 exact PySem.W.make_core (PySem.W.makes_of X hm) (PySem.W.looks_findIn X hi) (fun self=>PySem.W.bind_fn X self hf) (.inl rfl) h
end
def bD (f:Str) (v:V):List (Str×V)→List (Str×V)
 | []=> [(f,v)]
 |(g,x)::r=>if g=f then (g,v)::r else (g,x)::bD f v r
theorem yc (f g:Str) (v:V): ∀fs:List (Str×V),(bD f v fs).lookup g=if g=f then some v else fs.lookup g
 | []=>by
  show List.lookup g [(f,v)]=_
  by_cases h:g=f
  ·have hb:(g==f)=true:=beq_iff_eq.mpr h
   simp only [List.lookup,hb,if_pos h]
  ·have hb:(g==f)=false:=beq_eq_false_iff_ne.mpr h
   simp only [List.lookup,hb,if_neg h]
 |(k,x)::r=>by
  have ih:=yc f g v r
  rw[show bD f v ((k,x)::r)=(if k=f then (k,v)::r else (k,x)::bD f v r) from rfl]
  by_cases hk:k=f
  ·rw[if_pos hk]
   by_cases h:g=k
   ·have hb:(g==k)=true:=beq_iff_eq.mpr h
    simp only [List.lookup,hb,if_pos (h.trans hk)]
   ·have hb:(g==k)=false:=beq_eq_false_iff_ne.mpr h
    simp only [List.lookup,hb,if_neg (fun e:g=f=>h (e.trans hk.symm))]
  ·rw[if_neg hk]
   by_cases h:g=k
   ·have hb:(g==k)=true:=beq_iff_eq.mpr h
    simp only [List.lookup,hb,if_neg (fun e:g=f=>hk (h.symm.trans e))]
   ·have hb:(g==k)=false:=beq_eq_false_iff_ne.mpr h
    simp only [List.lookup,hb]
    exact ih
theorem uY (f:Str) (v:V): ∀fs:List (Str×V),f∈(bD f v fs).map (·.1)∧ ∀g,g∈fs.map (·.1)→g∈(bD f v fs).map (·.1)
 | []=>⟨by simp [bD],fun g h=>by simp at h⟩
 |(k,x)::r=>by
  obtain ⟨i1,i2⟩:=uY f v r
  rw[show bD f v ((k,x)::r)=(if k=f then (k,v)::r else (k,x)::bD f v r) from rfl]
  by_cases hk:k=f
  ·rw[if_pos hk]
   subst hk
   exact ⟨by simp,fun g h=>by simpa using h⟩
  ·rw[if_neg hk]
   refine ⟨?_,fun g h=>?_⟩
   ·rw[List.map_cons]
    exact List.mem_cons_of_mem _ i1
   ·rw[List.map_cons] at h⊢
    rcases List.mem_cons.mp h with e|e
    ·exact List.mem_cons.mpr (.inl e)
    ·exact List.mem_cons_of_mem _ (i2 g e)
theorem zh (f:Str) (v:V): ∀fs:List (Str×V),(bD f v fs).length≤fs.length+1
 | []=>by simp [bD]
 |(k,x)::r=>by
  have ih:=zh f v r
  rw[show bD f v ((k,x)::r)=(if k=f then (k,v)::r else (k,x)::bD f v r) from rfl]
  by_cases hk:k=f
  ·rw[if_pos hk,List.length_cons,List.length_cons];lia
  ·rw[if_neg hk,List.length_cons,List.length_cons];lia
theorem cB.some_of {v:V} {o:Option Value} (r:cB (some v) o): ∃u,o=some u∧RelV v u:=by
 cases o with
 |none=>exact (show False from r).elim
 |some u=>exact ⟨u,rfl,r⟩
theorem cB.none_of {o:Option Value} (r:cB none o):o=none:=by
 cases o with
 |none=>rfl
 |some u=>exact (show False from r).elim
theorem P1 {v:V} {u:Value} (r:RelV v u):PySem.W.handedIn u=true:=by
 cases v with
 |au=>cases (show u=Value.none from r);rfl
 |bl b=>cases (show u=Value.bool b from r);rfl
 |int i=>obtain ⟨t,e⟩:=(show∃t,u=Value.int i t from r);cases e;rfl
 |str x=>obtain ⟨t,e⟩:=(show∃t,u=Value.str x t from r);cases e;rfl
 |cR b=>obtain ⟨t,e⟩:=(show∃t,u=Value.bytes b t from r);cases e;rfl
 |pC b=>obtain ⟨t,e⟩:=(show∃t,u=Value.float b t from r);cases e;rfl
 |ref a=>cases (show u=Value.ref a from r);rfl
 |ty n=>cases (show u=Value.type n from r);rfl
section
variable {P:Program} {w:World} {H H':Hp} {h h':Heap} {a C dx:Addr} {fs fs':List (Str×V)}
theorem tY (ag:bh P w H h) (e:H a=some (.ins C dx fs)): ∃mA,jy h a dx C mA∧(∀f,cB (fs.lookup f) (mA f))∧PySem.Within mA (fs.map (·.1))∧fs.length≤1000∧H dx=some (.own a):=by
 obtain ⟨d,z,ne,ob,mA,n,r,q⟩:=(show bJ P w H h a (.ins C dx fs) from ag a _ e)
 exact ⟨mA,⟨ob,n,ne⟩,r,q,z,d⟩
end
structure cT (K:PySem.W.Frag) (C:Addr):Prop where
 pg:PySem.W.plainGet K C Str.empty=true
 hd:PySem.W.hasDictIn K C=true
 po:PySem.W.plainOver K C=true
 sa:PySem.W.findIn K (.ref C) "__setattr__" =some (some (.builtin "object.__setattr__"))
theorem cT.get {K:PySem.W.Frag} {C:Addr} (c:cT K C) (f:Str):PySem.W.plainGet K C f=true:=c.pg
def ba (K:PySem.W.Frag) (C:Addr) (f:Str):Prop:=PySem.W.findIn K (.ref C) f=some none
theorem ba.Kn {K:PySem.W.Frag} {C:Addr} {f:Str} (n:ba K C f):PySem.W.takerIn K C f=some none:=by
 unfold PySem.W.takerIn
 rw[show PySem.W.findIn K (.ref C) f=some none from n]
 rfl
structure Meth (K:PySem.W.Frag) (C:Addr) (m:Str) (f:Addr):Prop where
 at_:PySem.W.findIn K (.ref C) m=some (some (.ref f))
 fn:PySem.W.isFn K (.ref f)=true
 kp:PySem.W.keepIn K (.ref f)=true
section
variable {X:Cx} {pins:List (Addr×Obj)} {σ:St} {H:Hp} {s:Shared} {a C dx:Addr} {fs:List (Str×V)} {f:Str} {v:V} {A:Around} {E:Value→Shared→Prop}
theorem R4 {b:Bool} {Q:Value→Shared→Prop} (I:Inv X pins σ H s) (e:H a=some (.ins C dx fs)) (c:cT X.K C) (n:ba X.K C f) (l:fs.lookup f=some v)
  (h: ∀u s',Inv X pins σ H s'→RelV v u→Q u s'):wpAny (model X.prog X.w) A (getAttr (.ref a) f b) Q E s:=by
 obtain ⟨mA,O,r,_,_,_⟩:=tY I.ag e
 obtain ⟨u,hu,ru⟩:=cB.some_of (v:=v) (o:=mA f) (by rw[←l];exact r f)
 exact get_map I.cy O (c.get f) c.hd n hu (P1 ru) (h u _ (I.tok _) ru)
theorem Ji {m:Str} {g:Addr} {pl:Sem Bool} {Q:Value×List Value→Shared→Prop} (I:Inv X pins σ H s) (e:H a=some (.ins C dx fs)) (c:cT X.K C) (k:Meth X.K C m g) (l:fs.lookup m=none)
  (h:Q (.ref g, [.ref a]) s):wpAny (model X.prog X.w) A (getMethod (.ref a) m pl) Q E s:=by
 obtain ⟨mA,O,r,_,_,_⟩:=tY I.ag e
 have hn:mA m=none:=cB.none_of (by rw[←l];exact r m)
 exact J3 I.cy O (c.get m) k.at_ k.fn hn h
theorem Gi {y:V} {u:Value} {Q:Unit→Shared→Prop} (I:Inv X pins σ H s) (e:H a=some (.ins C dx fs)) (c:cT X.K C) (n:ba X.K C f) (hl:fs.length<1000) (ry:RelV y u)
  (h: ∀s',Inv X pins σ (upd H a (.ins C dx (bD f y fs))) s'→Q () s'):wpAny (model X.prog X.w) A (setAttr (.ref a) f u) Q E s:=by
 obtain ⟨mA,O,r,wi,_,ho⟩:=tY I.ag e
 have hz:(fs.map (·.1)).length≤sizeLine:=by rw[List.length_map,sizeLine_eq];lia
 refine LO I.cy O c.sa c.po n.Kn c.hd wi hz fun h' O' sb=>h _ ?_
 have hd: ∃o,h'.get? dx=some o:=let ⟨o,_,_,e',_⟩:=O'.ns;⟨o,e'⟩
 refine I.write (x:=a) (e:=dx) (by rw[e];exact True.intro) (.inr ho) (fun b q hb z=>(sb.2 b hb).trans z) hd ?_
 refine ⟨by rw[ay O.ne];exact ho,?_,O.ne,O'.obj,_,O'.ns,fun g=>?_,fun g hg=>?_⟩
 ·have:=zh f y fs;lia
 ·show cB ((bD f y fs).lookup g) (if g=f then some u else mA g)
  rw[yc]
  by_cases q:g=f
  ·rw[if_pos q,if_pos q];exact ry
  ·rw[if_neg q,if_neg q];exact r g
 ·by_cases q:g=f
  ·rw[q];exact (uY f y fs).1
  ·refine (uY f y fs).2 g (wi g fun z=>hg ?_)
   show (if g=f then some u else mA g)=none
   rw[if_neg q];exact z
theorem Inv.made (I:Inv X pins σ H s):Inv X pins σ (upd (upd H s.heap.objs.size (.own (s.heap.objs.size+1))) (s.heap.objs.size+1) (.ins C s.heap.objs.size []))
  {s with heap:=(s.heap.push PySem.W.emptyDict).push (PySem.W.instObj C s.heap.objs.size)}:=by
 have e1:(s.heap.push PySem.W.emptyDict).get? s.heap.objs.size=some PySem.W.emptyDict:=Heap.get?_push_size s.heap rfl
 have e2:((s.heap.push PySem.W.emptyDict).push (PySem.W.instObj C s.heap.objs.size)).get? (s.heap.objs.size+1)=some (PySem.W.instObj C s.heap.objs.size):=by
  have:=Heap.get?_push_size (s.heap.push PySem.W.emptyDict) (o:=PySem.W.instObj C s.heap.objs.size) rfl
  rwa [Heap.size_push] at this
 have e3:(s.heap.push PySem.W.emptyDict).Ns s.heap.objs.size (fun _=>none):=⟨PySem.W.emptyDict, #[],_,e1,rfl,(fun e he=>absurd he (by simp)),fun _=>rfl⟩
 have I1:=I.laid (a:=s.heap.objs.size) (o:= .own (s.heap.objs.size+1)) (h':=s.heap.push PySem.W.emptyDict) (t':=s.toks) (fun b u q=>Heap.get?_push_of_some _ q) (Nat.le_refl _) ⟨_,e1⟩
 refine I1.laid (a:=s.heap.objs.size+1) (o:= .ins C s.heap.objs.size []) (t':=s.toks) (fun b u q=>Heap.get?_push_of_some _ q) (Nat.le_of_eq (Heap.size_push _ _)) ?_
 have ne:s.heap.objs.size≠s.heap.objs.size+1:=Nat.ne_of_lt (Nat.lt_succ_self _)
 refine ⟨by rw[ay ne,ak],Nat.zero_le _,ne,e2,fun _=>none,(Heap.Ns1.of_empty e3).at fun o q=>Heap.get?_push_of_some _ q,fun _=>True.intro,fun y hy=>absurd rfl hy⟩
theorem Jh {prog:Program} {w:World} {env:Env} {e:Expr} {f:Str} {pos:Pos} {s:Shared} {Q:Value→Shared→Prop} (hb:attributeBase e f env (eval e env)=eval e env)
  (h:wpAny (model prog w) A (eval e env) (fun o s₁=>wpAny (model prog w) A (getAttr o f true) Q E s₁) E s):wpAny (model prog w) A (eval (.Attribute e f pos) env) Q E s:=
 Attribute_any_ h (by rw[arm_eval_Attribute,hb])
end
inductive rS (K:PySem.W.Frag) (f:Str) (Q:VK) (x:V) (H:Hp):Prop
 |mk (a C dx:Addr) (fs:List (Str×V)) (v:V) (e:x= .ref a) (h:H a=some (.ins C dx fs)) (c:cT K C) (n:ba K C f) (l:fs.lookup f=some v) (q:Q v H):rS K f Q x H
def kc (K:PySem.W.Frag) (ta:TE) (f:Str):TE:=fun σ H Q=>ta σ H (rS K f Q)
inductive Bi (K:PySem.W.Frag) (f:Str) (y:V) (N:Hp→Prop) (x:V) (H:Hp):Prop
 |mk (a C dx:Addr) (fs:List (Str×V)) (e:x= .ref a) (h:H a=some (.ins C dx fs)) (c:cT K C) (n:ba K C f) (l:fs.length<1000) (q:N (upd H a (.ins C dx (bD f y fs)))):Bi K f y N x H
def DE (K:PySem.W.Frag) (ta tv:TE) (f:Str):TS:=fun D σ H=>tv σ H fun y H1=>ta σ H1 (Bi K f y (D.nx σ))
section
variable {X:Cx} {o e value:Expr} {f:Str} {pos pos' tpos:Pos} {ta tv:TE}
theorem bI (he:PE X e ta) (hb:attributeBase e f X.env (eval e X.env)=eval e X.env):PE X (.Attribute e f pos) (kc X.K ta f):=by
 intro pins s σ H Q I h
 refine Jh hb (aw (he pins s σ H _ I h) fun u s1 ⟨x,H1,I1,rx,a,C,dx,fs,v,ex,ea,c,n,l,q⟩=>?_)
 subst ex
 obtain rfl:u=Value.ref a:=rx
 exact R4 I1 ea c n l fun u' s2 I2 ru=>⟨v,H1,I2,ru,q⟩
theorem bY (ha:PE X o ta) (hv:PE X value tv) (hs:swapsWith value (some (.Attribute o f pos')) pos.line X.env=pure false):PS X (.Assign [.Attribute o f pos'] value pos) (DE X.K ta tv f):=by
 intro pins s σ H D I h
 refine plainObj_wpAny_Assign_Attribute (aw (hv pins s σ H _ I h) fun u s1 ⟨y,H1,I1,ry,q⟩=>aw (ha pins s1 σ H1 _ I1 q) fun ov s2 ⟨x,H2,I2,rx,a,C,dx,fs,ex,ea,c,n,l,q2⟩=>?_) hs
 subst ex
 obtain rfl:ov=Value.ref a:=rx
 exact Gi I2 ea c n l ry fun s3 I3=>⟨σ,_,I3,q2⟩
end
section
variable {X:Cx} {pins:List (Addr×Obj)} {σ:St} {H:Hp} {s:Shared} {A:Around} {E:Value→Shared→Prop} {Q:Value→Shared→Prop} {c:Value} {b:Bool}
end
end L2
namespace L2
open PySem PySem.Spec PyProof.Rows
structure aF (k:Nat) (A:Around):Prop where
 hd:A.handled=none
 dp:A.depth+3*k+5<recursionLimit
 un:A.units+16*k+200<cLine
theorem aF.mono {j k:Nat} {A:Around} (r:aF k A) (h:j≤k):aF j A:=⟨r.hd,by have:=r.dp;lia,by have:=r.un;lia⟩
theorem aF.deeper {k:Nat} {A:Around} (r:aF (k+1) A) (env:Env):aF k (A.deeper env):=
 ⟨r.hd,by have:=r.dp;show A.depth+1+3*k+5<_;lia,by have:=r.un;show A.units+3+16*k+200<_;lia⟩
theorem Iw {A:Around} {C:Addr} {us:List Value} {kw:List (Str×Value)}:(A.under (.builtin "type.__call__" ⟨.ref C::us,kw⟩)).depth=A.depth+1:=by
 first|rfl|simp [Around.under,Code.weight,Code.isCreation,Code.isGuard,Code.isCaller,Code.frames,Code.isFrame,guardIds]
theorem Qm {A:Around} {C:Addr} {us:List Value} {kw:List (Str×Value)}:(A.under (.builtin "type.__call__" ⟨.ref C::us,kw⟩)).units=A.units+1:=by
 first|rfl|simp [Around.under,Code.cUnits,Code.frames,Code.isFrame]
theorem aF.make {k:Nat} {A:Around} (r:aF (k+1) A) (C:Addr) (us:List Value) (kw:List (Str×Value)):aF k (A.under (.builtin "type.__call__" ⟨.ref C::us,kw⟩)):=
 ⟨r.hd,by have:=r.dp;rw[Iw];lia,by have:=r.un;rw[Qm];lia⟩
theorem aF.depth {k:Nat} {A:Around} (r:aF k A):A.depth<recursionLimit:=by have:=r.dp;lia
theorem aF.units {k:Nat} {A:Around} (r:aF k A):A.units+64<cLine:=by have:=r.un;lia
def zt:TA:=fun _ H Q=>Q [] H
def D0 (ta:TE) (tr:TA):TA:=fun σ H Q=>ta σ H fun x H1=>tr σ H1 fun xs H2=>Q (x::xs) H2
section
variable {X:Cx} {e:Expr} {es:List Expr} {te:TE} {t:TA} {pos:Pos}
theorem ah:PA X [] zt:=fun _ _ _ _ H Q I h=>Calls.spliced_nil ⟨[],H,I, .nil,h⟩
theorem aa (ha:PE X e te) (hr:PA X es t) (hs:starEach (e::es) X.env=(false,eval e X.env)::starEach es X.env:=by rfl):PA X (e::es) (D0 te t):=by
 intro pos pins s σ H Q I h
 rw[hs]
 show wpAny _ _ (spliced ((false,eval e X.env)::backTo pos (starEach es X.env))) _ _ s
 refine Calls.spliced_cons (aw (ha pins s σ H _ I h) fun u s1 ⟨x,H1,I1,r1,q1⟩=>?_)
 exact aw (hr pos pins s1 σ H1 _ I1 q1) fun us s2 ⟨xs,H2,I2,r2,q2⟩=>⟨x::xs,H2,I2, .cons r1 r2,q2⟩
def IK (t:TA):TE:=fun σ H Q=>t σ H fun xs H1=>xs.length≤sizeLine∧ ∀p,H1 p=none→Q (.ref p) (upd H1 p (.tup xs))
inductive yN (Q:VK) (xs:List V) (H:Hp):Prop
 |mk (l:xs.length≤sizeLine) (q: ∀p,H p=none→Q (.ref p) (upd H p (.lst xs))):yN Q xs H
def Kt (t:TA):TE:=fun σ H Q=>t σ H (yN Q)
theorem kf {x1} (h:PA X es t):PE X (.Tuple es x1 pos) (IK t):=by
 intro pins s σ H Q I hq
 refine wpAny_Tuple_spliced (aw (h pos pins s σ H _ I hq) fun us s1 ⟨xs,H1,I1,r,z,q⟩=>⟨by rw[←r.length];exact z,?_⟩)
 have hf:H1 s1.heap.objs.size=none:=I1.ag.fresh (Nat.le_refl _)
 refine ⟨.ref s1.heap.objs.size,upd H1 s1.heap.objs.size (.tup xs),I1.laid (t':=s1.toks) (fun b u e=>Heap.get?_push_of_some _ e) (Nat.le_refl _) ?_,rfl,q _ hf⟩
 exact ⟨z,us,r,⟨_,Heap.get?_push_size _ rfl,rfl,_,rfl⟩⟩
theorem dy (h:PA X es t):PE X (.List es pos) (Kt t):=by
 intro pins s σ H Q I hq
 refine wpAny_List_spliced (aw (h pos pins s σ H _ I hq) fun us s1 ⟨xs,H1,I1,r,z,q⟩=>⟨by rw[←r.length];exact z,?_⟩)
 have hf:H1 s1.heap.objs.size=none:=I1.ag.fresh (Nat.le_refl _)
 refine ⟨.ref s1.heap.objs.size,upd H1 s1.heap.objs.size (.lst xs),I1.laid (t':=s1.toks) (fun b u e=>Heap.get?_push_of_some _ e) (Nat.le_refl _) ?_,rfl,q _ hf⟩
 exact ⟨z,us,0,r,Heap.get?_push_size _ rfl⟩
end
abbrev Sp:=List V→Hp→VK→XK→Prop
abbrev eI:=List Env→Hp→Shared→XK→Value→Shared→Prop
structure jd (P:Program) (w:World) (K:PySem.W.Frag) (mg:Str→Option Value) (base:Heap) (A:Around) (outer:List Env) (s:Shared) (H:Hp):Prop where
 frames:A.frames=some outer
 mod:Mod K mg base
 bs: ∀b o,base.get? b=some o→s.heap.get? b=some o∧H b=none
 fz:base.objs.size≤s.heap.objs.size
 dv:s.heap.FunFrames base outer
 fT: ∀b∈aX outer,H b=none
 ag:bh P w H s.heap
 bare:AllBare s.gens
def CE (outer:List Env) (P:Program) (w:World) (H:Hp) (s:Shared) (Q:VK) (u:Value) (s':Shared):Prop:=
 ∃v H',s'.os=s.os∧AllBare s'.gens∧Un (aX outer) [] H H' s.heap s'.heap∧bh P w H' s'.heap∧RelV v u∧Q v H'
def CR (CX:eI) (outer:List Env) (P:Program) (w:World) (H:Hp) (s:Shared) (Q:VK) (E:XK) (r:Result) (s':Shared):Prop:=
 match r with
 | .ok (.ret u)=>CE outer P w H s Q u s'
 | .ok _=>False
 | .error e=>CX outer H s E e s'
structure aA (P:Program) (w:World) (K:PySem.W.Frag) (mg:Str→Option Value) (base:Heap) (CX:eI) (k:Nat) (f:Addr) (fd:FuncData) (ps:List Str) (sp:Sp):Prop where
 len: ∀vs H Q E,sp vs H Q E→vs.length=ps.length
 run: ∀(A:Around) (outer:List Env) (s:Shared) (H:Hp) (args:Args) (us:List Value) (vs:List V) (Q:VK) (E:XK),aF k A→jd P w K mg base A outer s H→BindsTo s fd args (ps.zip us)→Vals vs us→sp vs H Q E→
  codeAny (model P w) A (.call (.ref f) args) (CR CX outer P w H s Q E) s
theorem jd.make {P:Program} {w:World} {K:PySem.W.Frag} {mg:Str→Option Value} {base:Heap} {A:Around} {outer:List Env} {s:Shared} {H:Hp} (e:jd P w K mg base A outer s H) (C:Addr) (us:List Value) (kw:List (Str×Value)):
  jd P w K mg base (A.under (.builtin "type.__call__" ⟨.ref C::us,kw⟩)) outer s H:=⟨by first|exact e.frames|(simpa [Around.under,Code.envs,Code.isFrame,pushEnvs] using e.frames),e.mod,e.bs,e.fz,e.dv,e.fT,e.ag,e.bare⟩
section
variable {X:Cx} {pins:List (Addr×Obj)} {σ:St} {H:Hp} {s s':Shared}
theorem Inv.uO (I:Inv X pins σ H s):jd X.prog X.w X.K X.mg X.base X.A X.stack s H:=
 ⟨I.ok.frames,I.ok.mod,I.bs,Nat.le_trans I.ok.fz I.sz,I.stack,I.qg,I.ag,I.bare⟩
theorem Inv.after {Q:VK} {u:Value} (I:Inv X pins σ H s) (h:CE X.stack X.prog X.w H s Q u s'):EP X pins σ Q u s':=by
 obtain ⟨v,H',os,bare,un,ag,r,q⟩:=h
 obtain ⟨hh,g,d,t,os'⟩:=s'
 obtain rfl:os'=s.os:=os
 exact ⟨v,H',I.call (h':=hh) (g':=g) (d':=d) (t':=t) (ch:= []) un ag bare (fun b z=>absurd z (by simp)),r,q⟩
end
def G2 (sp:Sp) (dvs:List V) (E:XK) (t:TA):TE:=fun σ H Q=>t σ H fun vs H1=>sp (vs++dvs) H1 Q E
inductive rD (C:Addr) (m:Str) (F:V→Hp→Prop) (x:V) (H:Hp):Prop
 |mk (a dx:Addr) (fs:List (Str×V)) (e:x= .ref a) (h:H a=some (.ins C dx fs)) (l:fs.lookup m=none) (q:F x H):rD C m F x H
def QT (C:Addr) (m:Str) (sp:Sp) (dvs:List V) (E:XK) (ta:TE) (t:TA):TE:=fun σ H Q=>ta σ H (rD C m fun x H1=>t σ H1 fun vs H2=>sp (x::(vs++dvs)) H2 Q E)
def Fi (C:Addr) (sp:Sp) (dvs:List V) (E:XK) (t:TA):TE:=fun σ H Q=>t σ H fun vs H1=> ∀x dx,H1 x=none→H1 dx=none→dx≠x→
 sp (.ref x::(vs++dvs)) (upd (upd H1 dx (.own x)) x (.ins C dx [])) (fun v H2=>v= .au∧Q (.ref x) H2) E
def Binds (K:PySem.W.Frag) (fd:FuncData) (ps:List Str) (ds:List Value):Prop:=
 ∀(s:Shared) (us:List Value),K.In s.heap→(us++ds).length=ps.length→BindsTo s fd ⟨us, []⟩ (ps.zip (us++ds))
theorem Binds.all {K:PySem.W.Frag} {fd:FuncData} {ps:List Str} (h: ∀us:List Value,us.length=ps.length→bindArgs fd ⟨us, []⟩=pure (ps.zip us)):Binds K fd ps []:=fun s us _ hl=>by
 rw[List.append_nil] at hl⊢
 exact .of_eq (h us hl)
def Passes (CX:eI) (X:Cx) (E:XK):Prop:= ∀(pins:List (Addr×Obj)) (σ:St) (H:Hp) (s:Shared) (e:Value) (s':Shared),Inv X pins σ H s→CX X.stack H s E e s'→X.xe e s'
section
variable {X:Cx} {CX:eI} {k:Nat} {f C:Addr} {fd:FuncData} {ps:List Str} {sp:Sp} {dvs:List V} {ds:List Value} {E:XK} {x m:Str} {p pos apos:Pos} {e o:Expr} {es:List Expr} {ta:TE} {t:TA}
theorem yC {pins:List (Addr×Obj)} {σ:St} {H:Hp} {s:Shared} {Q:VK} {us:List Value} {vs:List V} (F:aA X.prog X.w X.K X.mg X.base CX k f fd ps sp) (hr:aF k X.A) (hb:Binds X.K fd ps ds) (hd:Vals dvs ds) (hx:Passes CX X E)
  (I:Inv X pins σ H s) (r:Vals vs us) (h:sp (vs++dvs) H Q E):wpAny (model X.prog X.w) X.A (call (.ref f) us) (EP X pins σ Q) X.xe s:=by
 have r2:Vals (vs++dvs) (us++ds):=r.append hd
 have hl:(us++ds).length=ps.length:=by rw[←r2.length];exact F.len _ _ _ _ h
 refine wpAny_call (codeAny_mono (F.run X.A X.stack s H ⟨us, []⟩ (us++ds) (vs++dvs) Q E hr I.uO (hb s us I.cy hl) r2 h) fun r s' hq=>?_)
 cases r with
 |error e=>exact hx pins σ H s e s' I hq
 |ok fl=>
  cases fl with
  |ret u=>exact I.after hq
  |next=>exact False.elim hq
  |brk=>exact False.elim hq
  |cont=>exact False.elim hq
theorem aL (F:aA X.prog X.w X.K X.mg X.base CX k f fd ps sp) (hr:aF k X.A) (hg:Gl X x) (hm:X.mg x=some (.ref f)) (hk:PySem.W.keepIn X.K (.ref f)=true) (hb:Binds X.K fd ps ds) (hd:Vals dvs ds) (hx:Passes CX X E)
  (ha:PA X (e::es) t) (hdb:(x==("__debug__" :Str))=false:=by decide) (he:starEach (e::es) X.env=(false,eval e X.env)::starEach es X.env:=by rfl) (hpl:(backTo pos (starEach es X.env)).any (·.1)=false:=by rfl):
  PE X (.Call (.Name x p) (e::es) [] pos) (G2 sp dvs E t):=by
 intro pins s σ H Q I h
 refine wpAny_Call_Name_kw (jz I hg hm ?_ hdb)
 refine PySem.W.callWith_K (h₀:=X.base) I.ok.mod.ke hk (aw (ha pos pins s σ H _ I h) fun us s1 ⟨vs,H1,I1,r,q⟩=>⟨I1.cy,?_⟩) he hpl
 exact yC F hr hb hd hx I1 r q
theorem bf {pl:Sem Bool} (he:PE X o ta) (c:cT X.K C) (hm:Meth X.K C m f) (F:aA X.prog X.w X.K X.mg X.base CX k f fd ps sp) (hr:aF k X.A) (hb:Binds X.K fd ps ds) (hd:Vals dvs ds) (hx:Passes CX X E) (ha:PA X (e::es) t)
  (hst:starEach (e::es) X.env=(false,eval e X.env)::starEach es X.env:=by rfl) (hpl:(backTo pos (starEach es X.env)).any (·.1)=false:=by rfl)
  (ht:eval (.Call (.Attribute o m apos) (e::es) [] pos) X.env=(do
   let ov←eval o X.env
   standAt apos.atName
   let (f,first)←holding [ov] (getMethod ov m pl)
   callWith pos f first (backTo pos (starEach (e::es) X.env)) (backToKw pos (keywordEach [] X.env))):=by rfl):
  PE X (.Call (.Attribute o m apos) (e::es) [] pos) (QT C m sp dvs E ta t):=by
 intro pins s σ H Q I h
 refine PySem.W.methodCall_KW (pl:=pl) (aw (he pins s σ H _ I h) fun u s1 ⟨x,H1,I1,rx,a,dx,fs,ex,ea,l,q⟩=>?_) ht
 subst ex
 obtain rfl:u=Value.ref a:=rx
 refine Ji I1 ea c hm l ?_
 refine PySem.W.callWith_K (first:= [.ref a]) (h₀:=X.base) I.ok.mod.ke hm.kp (aw (ha pos pins s1 σ H1 _ I1 q) fun us s2 ⟨vs,H2,I2,r,q2⟩=>⟨I2.cy,?_⟩) hst hpl
 exact yC (us:= .ref a::us) (vs:= .ref a::vs) F hr hb hd hx I2 (.cons rfl r) q2
structure Mk (K:PySem.W.Frag) (C f:Addr):Prop where
 makes:PySem.W.makesIn K C=true
 init:PySem.W.findIn K (.ref C) "__init__" =some (some (.ref f))
 fn:PySem.W.isFn K (.ref f)=true
 kp:PySem.W.keepIn K (.ref C)=true
theorem Ol {pins:List (Addr×Obj)} {σ:St} {H:Hp} {s:Shared} {Q:VK} {us:List Value} {vs:List V} (M:Mk X.K C f) (F:aA X.prog X.w X.K X.mg X.base CX k f fd ps sp) (hr:aF (k+1) X.A) (hb:Binds X.K fd ps ds) (hd:Vals dvs ds)
  (hx:Passes CX X E) (I:Inv X pins σ H s) (r:Vals vs us)
  (h: ∀x dx,H x=none→H dx=none→dx≠x→sp (.ref x::(vs++dvs)) (upd (upd H dx (.own x)) x (.ins C dx [])) (fun v H2=>v= .au∧Q (.ref x) H2) E):
  wpAny (model X.prog X.w) X.A (call (.ref C) us) (EP X pins σ Q) X.xe s:=by
 have hq:=h (s.heap.objs.size+1) s.heap.objs.size (I.ag.fresh (Nat.le_succ _)) (I.ag.fresh (Nat.le_refl _)) (Nat.ne_of_lt (Nat.lt_succ_self _))
 have I2:=Inv.made (C:=C) I
 have r2:Vals (V.ref (s.heap.objs.size+1)::(vs++dvs)) (Value.ref (s.heap.objs.size+1)::(us++ds)):= .cons rfl (r.append hd)
 have hl:(Value.ref (s.heap.objs.size+1)::us++ds).length=ps.length:=by
  have e:=r2.length
  rw[F.len _ _ _ _ hq] at e
  exact e.symm
 refine wpAny_call (E3 (f:=f) I.cy M.makes M.init (beq_iff_eq.mp M.fn) (codeAny_mono (F.run _ X.stack _ _ ⟨Value.ref (s.heap.objs.size+1)::us, []⟩ (Value.ref (s.heap.objs.size+1)::(us++ds)) _ _ E (hr.make C us [])
  (I2.uO.make C us []) (hb _ (Value.ref (s.heap.objs.size+1)::us) I2.cy hl) r2 hq) fun r s' hq'=>?_))
 cases r with
 |error e=>exact hx pins σ _ _ e s' I2 hq'
 |ok fl=>
  cases fl with
  |ret u=>
   obtain ⟨v,H',I3,rv,ev,q3⟩:=I2.after hq'
   subst ev
   exact ⟨rv,⟨V.ref (s.heap.objs.size+1),H',I3,rfl,q3⟩⟩
  |next=>exact False.elim hq'
  |brk=>exact False.elim hq'
  |cont=>exact False.elim hq'
theorem gN (M:Mk X.K C f) (F:aA X.prog X.w X.K X.mg X.base CX k f fd ps sp) (hr:aF (k+1) X.A) (hg:Gl X x) (hm:X.mg x=some (.ref C)) (hb:Binds X.K fd ps ds) (hd:Vals dvs ds) (hx:Passes CX X E)
  (ha:PA X (e::es) t) (hdb:(x==("__debug__" :Str))=false:=by decide) (he:starEach (e::es) X.env=(false,eval e X.env)::starEach es X.env:=by rfl) (hpl:(backTo pos (starEach es X.env)).any (·.1)=false:=by rfl):
  PE X (.Call (.Name x p) (e::es) [] pos) (Fi C sp dvs E t):=by
 intro pins s σ H Q I h
 refine wpAny_Call_Name_kw (jz I hg hm ?_ hdb)
 refine PySem.W.callWith_K (h₀:=X.base) I.ok.mod.ke M.kp (aw (ha pos pins s σ H _ I h) fun us s1 ⟨vs,H1,I1,r,q⟩=>⟨I1.cy,?_⟩) he hpl
 exact Ol M F hr hb hd hx I1 r q
end
section
variable {X:Cx} {CX:eI} {k:Nat} {f C:Addr} {fd:FuncData} {ps ks:List Str} {sp:Sp} {E:XK} {x m:Str} {p pos apos kpos:Pos} {e o:Expr} {es:List Expr} {kws:List Keyword} {te ta:TE} {t tk:TA} {nm:Option Str}
variable {g:List Value→List Value→List Value} {gV:List V→List V→List V}
end
structure aG (N P:List Str) (sc:Scope):Prop where
 kind:sc.kind= .function
 co:sc.isCoroutine=false
 gen:sc.isGenerator=false
 nd:N.Nodup
 pre:N.take P.length=P
 par: ∀x∈P,sc.names.lookup x=some .local∨sc.names.lookup x=some .cell
 JX: ∀y∈sc.names,y.2≠ .free
theorem Eg {kindOf:Str→Option NameKind} {x:Str}: ∀{binds:List (Str×Value)} {m:Str→Option Value},(∀v,(x,v)∉binds)→bindL kindOf binds m x=m x
 | [],_,_=>rfl
 |(n,v)::r,m,h=>by
  unfold bindL
  rw[Eg fun w hw=>h w (List.mem_cons_of_mem _ hw)]
  split
  ·have:x≠n:=by rintro rfl;exact h v List.mem_cons_self
   simp [this]
  ·rfl
theorem xk {kindOf:Str→Option NameKind} {x:Str}: ∀{binds:List (Str×Value)} {m:Str→Option Value},(∀v,(x,v)∉binds)→bindC kindOf binds m x=m x
 | [],_,_=>rfl
 |(n,v)::r,m,h=>by
  unfold bindC
  rw[xk fun w hw=>h w (List.mem_cons_of_mem _ hw)]
  split
  ·rfl
  ·have:x≠n:=by rintro rfl;exact h v List.mem_cons_self
   simp [this]
theorem CI {kindOf:Str→Option NameKind} {x:Str} {v:Value}: ∀{P:List Str} {vs:List Value} {i:Nat} {m:Str→Option Value},P.Nodup→P[i]?=some x→vs[i]?=some v→kindOf x=some .local→
  bindL kindOf (P.zip vs) m x=some v
 | [],_,_,_,_,h,_,_=>by simp at h
 |_::_, [],_,_,_,_,h,_=>by simp at h
 |p::P,w::vs,0,m,nd,h1,h2,hk=>by
  simp at h1 h2;subst h1;subst h2
  show bindL kindOf ((p,w)::P.zip vs) m p=_
  unfold bindL
  rw[Eg fun v hv=>(List.nodup_cons.mp nd).1 (List.of_mem_zip hv).1,if_pos hk]
  simp
 |p::P,w::vs,i+1,m,nd,h1,h2,hk=>by
  show bindL kindOf ((p,w)::P.zip vs) m x=_
  unfold bindL
  exact CI (i:=i) (List.nodup_cons.mp nd).2 (by simpa using h1) (by simpa using h2) hk
theorem Bo {kindOf:Str→Option NameKind} {x:Str} {v:Value}: ∀{P:List Str} {vs:List Value} {i:Nat} {m:Str→Option Value},P.Nodup→P[i]?=some x→vs[i]?=some v→kindOf x≠some .local→
  bindC kindOf (P.zip vs) m x=some v
 | [],_,_,_,_,h,_,_=>by simp at h
 |_::_, [],_,_,_,_,h,_=>by simp at h
 |p::P,w::vs,0,m,nd,h1,h2,hk=>by
  simp at h1 h2;subst h1;subst h2
  show bindC kindOf ((p,w)::P.zip vs) m p=_
  unfold bindC
  rw[xk fun v hv=>(List.nodup_cons.mp nd).1 (List.of_mem_zip hv).1,if_neg hk]
  simp
 |p::P,w::vs,i+1,m,nd,h1,h2,hk=>by
  show bindC kindOf ((p,w)::P.zip vs) m x=_
  unfold bindC
  exact Bo (i:=i) (List.nodup_cons.mp nd).2 (by simpa using h1) (by simpa using h2) hk
def start (N:List Str) (vs:List V):St:=vs.map some++List.replicate (N.length-vs.length) none
def fE (CX:eI) (P:Program) (w:World) (K:PySem.W.Frag) (mg:Str→Option Value) (base:Heap) (N:List Str) (qual:Str) (scope:Scope) (f:Addr) (cd:Value) (A:Around) (outer:List Env) (s:Shared) (H:Hp) (E:XK):Cx where
 prog:=P
 w:=w
 K:=K
 mg:=mg
 base:=base
 A:=A.deeper (envOfC qual scope s.heap.objs.size f cd)
 N:=N
 a8:=s
 kg:=H
 env:=envOfC qual scope s.heap.objs.size f cd
 outer:=outer
 stack:=envOfC qual scope s.heap.objs.size f cd::outer
 ex:= []
 calm:=true
 fn:=fun _=>true
 pn:= []
 xe:=fun e s'=>wpAny (model P w) (A.deeper (envOfC qual scope s.heap.objs.size f cd)) (leaving (envOfC qual scope s.heap.objs.size f cd) e) (fun _ s''=>CX outer H s E e s'') (fun e' s''=>CX outer H s E e' s'') s'
theorem zx {sc:Scope} {n:Nat} {x:Str} (h:sc.names.lookup x=some .cell): ∃c,(cellsFrom n sc.names []).lookup x=some c:=by
 have q:=PySem.W.cellsFrom_some sc.names n [] (.inl h)
 exact Option.isSome_iff_exists.mp q
theorem Mm {CX:eI} {P:Program} {w:World} {K:PySem.W.Frag} {mg:Str→Option Value} {base:Heap} {N ps:List Str} {qual:Str} {scope:Scope} {f:Addr} {cd:Value} {A:Around} {outer:List Env} {s s1:Shared} {H:Hp} {E:XK} {us:List Value} {vs:List V}
  (S:aG N ps scope) (hd:A.handled=none) (e0:jd P w K mg base A outer s H) (hl:vs.length=ps.length) (r:Vals vs us)
  (x:InCallC s s.heap.objs.size (bindL (envOfC qual scope s.heap.objs.size f cd).kindOf (ps.zip us) fun _=>none) (cellsFrom (s.heap.objs.size+1) scope.names []) (bindC (envOfC qual scope s.heap.objs.size f cd).kindOf (ps.zip us) fun _=>none) s1):
  Inv (fE CX P w K mg base N qual scope f cd A outer s H E) [] (start N vs) H s1:=by
 have hpl:ps.length≤N.length:=by have:=congrArg List.length S.pre;rw[List.length_take] at this;lia
 obtain ⟨h1,tk,rfl,hk⟩:=x.done
 have noA: ∀b:Addr,b∉(fE CX P w K mg base N qual scope f cd A outer s H E).ex:=fun b z=>absurd (show b∈([]:List Addr) from z) (by simp)
 refine ⟨⟨e0.mod,S.kind,rfl,rfl,Nat.le_refl _,fun y z c h1 h2=>?_,fun y hy=>?_,fun y c _ h=>?_,fun _=>hd,Around.frames_deeper e0.frames, .inr ⟨rfl,rfl⟩,fun b z=>absurd z (noA b),e0.bs,e0.fz,fun b _ _=>noA b,fun b z=>absurd z (noA b),e0.dv,e0.fT⟩,
  rfl,e0.bare,Un.kept hk,⟨_,x.toInCall.ns,fun i y v h1 h2 h3=>?_⟩,fun y c h=>⟨_,x.cell y c h⟩,e0.ag.fresh (Nat.le_refl _),fun y c h=>?_,fun p hp=>absurd (show p∈([]:List (Addr×Obj)) from hp) (by simp),e0.ag.kept hk,?_⟩
 ·exact name_of_addr x.apart (PySem.mem_of_lookup h1) (PySem.mem_of_lookup h2)
 ·have hy:scope.names.lookup y=some .cell∨scope.names.lookup y=some .free:=hy
  rcases hy with hy|hy
  ·exact zx hy
  ·exact absurd rfl (S.JX _ (PySem.mem_of_lookup hy))
 ·exact Nat.le_of_lt (x.above y c (PySem.mem_of_lookup h))
 ·have hi:i<vs.length:=by
   unfold start at h2
   by_cases hi:i<vs.length
   ·exact hi
   ·rw[List.getElem?_append_right (by simpa using hi)] at h2
    rw[List.getElem?_replicate] at h2
    split at h2<;>cases h2
  have ha:vs[i]?=some v:=by
   unfold start at h2
   rw[List.getElem?_append_left (by simpa using hi),List.getElem?_map] at h2
   cases e:vs[i]? with
   |none=>rw[e] at h2;cases h2
   |some a=>rw[e] at h2;cases h2;rfl
  obtain ⟨u,hu,rv⟩:=r.get ha
  have hp:ps[i]?=some y:=by
   rw[←S.pre,List.getElem?_take_of_lt (by lia)];exact h1
  have ndP:ps.Nodup:=by rw[←S.pre];exact S.nd.sublist (List.take_sublist _ _)
  refine ⟨u,rv,?_⟩
  rcases S.par y (List.mem_of_getElem? hp) with k|k
  ·exact .inl ⟨k,CI ndP hp hu k⟩
  ·obtain ⟨c,e⟩:=zx (n:=s.heap.objs.size+1) k
   refine .inr ⟨.inl k,c,e,?_⟩
   have q:=x.cell y c e
   rw[Bo ndP hp hu (by show scope.names.lookup y≠_;rw[k];decide)] at q
   exact q
 ·exact e0.ag.fresh (Nat.le_of_lt (x.above y c (PySem.mem_of_lookup h)))
 ·unfold start
  show _=N.length
  rw[List.length_append,List.length_map,List.length_replicate]
  lia
theorem zN {CX:eI} {P:Program} {w:World} {K:PySem.W.Frag} {mg:Str→Option Value} {base:Heap} {k:Nat} {f:Addr} {name qual:Str} {params:Arguments} {body:List Stmt} {scope:Scope} {dV kV doc pm cdv ct oc:Value} {an od:Option Addr}
  {osl:Array (Option Value)} {N ps:List Str} {sp:Sp} (lk:K.lookup f=some ⟨oc,od, .func (PySem.W.fnOf name qual params body scope dV kV doc pm an cdv ct),osl⟩) (hcd:PySem.W.codeIn K cdv qual=true) (S:aG N ps scope)
  (len: ∀vs H Q E,sp vs H Q E→vs.length=ps.length)
  (hbody: ∀(A:Around) (outer:List Env) (s:Shared) (H:Hp) (vs:List V) (Q:VK) (E:XK),aF k (A.deeper (envOfC qual scope s.heap.objs.size f cdv))→sp vs H Q E→
   ∃t,cO (fE CX P w K mg base N qual scope f cdv A outer s H E) body t∧t {nx:=fun _ H'=>Q .au H',rt:=Q} (start N vs) H):
  aA P w K mg base CX (k+1) f (PySem.W.fnOf name qual params body scope dV kV doc pm an cdv ct) ps sp:=by
 refine ⟨len,fun A outer s H args us vs Q E hr e0 hb r hsp=>?_⟩
 have hl:=len _ _ _ _ hsp
 have KX:K.In s.heap:=e0.mod.ke.keeps fun b o e=>(e0.bs b o e).1
 have lim:s.heap.NoLimit:=e0.mod.nolimit.keeps fun b o e=>(e0.bs b o e).1
 have hkind: ∀y∈ps.zip us,scope.names.lookup y.1=some .local∨(scope.names.lookup y.1=some .cell∧((cellsFrom (s.heap.objs.size+1) scope.names []).lookup y.1).isSome=true):=fun ⟨n,v⟩ hy=>by
  rcases S.par n (List.of_mem_zip hy).1 with q|q
  ·exact .inl q
  ·exact .inr ⟨q,PySem.W.cellsFrom_some _ _ _ (.inl q)⟩
 refine codeAny_call_function hr.depth (KX _ _ lk) rfl S.co S.gen rfl (PySem.W.codeRec_of KX hcd) (hb _ _ _ _ ?_)
 refine wpAny_newFunctionEnv_cells S.kind hkind fun env he s1 x=>?_
 subst he
 refine ⟨lim.keeps x.toInCall.keep,codeAny_func ?_⟩
 obtain ⟨t,ht,hq⟩:=hbody A outer s H vs Q E (hr.deeper _) hsp
 have I:Inv (fE CX P w K mg base N qual scope f cdv A outer s H E) [] (start N vs) H s1:=Mm S hr.hd e0 hl r x
 refine wpAny_mono (ht [] s1 (start N vs) H _ I hq) (fun fl s' hs=>?_) fun e s' hs=>hs
 have fin: ∀{σ':St} {H':Hp} {v:V} {u:Value},Inv (fE CX P w K mg base N qual scope f cdv A outer s H E) [] σ' H' s'→RelV v u→Q v H'→CE outer P w H s Q u s':=
  fun {σ' H' v u} J rv q=>⟨v,H',J.os,J.bare,J.base,J.ag,rv,q⟩
 cases fl with
 |ret u=>
  obtain ⟨v,σ',H',J,rv,q⟩:=hs
  exact fin J rv q
 |next=>
  obtain ⟨σ',H',J,q⟩:=hs
  exact fin (v:=V.au) (u:=Value.none) J rfl q
 |brk=>
  obtain ⟨_,_,_,q⟩:=hs
  exact False.elim q
 |cont=>
  obtain ⟨_,_,_,q⟩:=hs
  exact False.elim q
end L2
namespace L2
open PySem PySem.Spec PyProof.Rows
section
variable {X:Cx} {x:Str} {p pos:Pos} {e:Expr} {es:List Expr} {t:TA} {id T:String} {r:List V→Hp→VK→Prop}
def Am (r:List V→Hp→VK→Prop) (t:TA):TE:=fun σ H Q=>t σ H fun vs H1=>r vs H1 Q
theorem bQ (hc:eY X (.builtin id) r) (hg:Gl X x) (hm:X.mg x=none) (hv:bootBuiltins x=some (.builtin id)) (ha:PA X (e::es) t) (hn:x≠ "__name__" :=by decide) (hdb:(x==("__debug__" :Str))=false:=by decide)
  (he:starEach (e::es) X.env=(false,eval e X.env)::starEach es X.env:=by rfl) (hpl:(backTo pos (starEach es X.env)).any (·.1)=false:=by rfl):PE X (.Call (.Name x p) (e::es) [] pos) (Am r t):=by
 intro pins s σ H Q I h
 refine wpAny_Call_Name_kw (iC I hg hm hv ?_ hn hdb)
 exact PyProof.Rows.callWith_builtin1 (aw (ha pos pins s σ H _ I h) fun us s1 ⟨vs,H1,I1,r1,q1⟩=>hc pins s1 σ H1 vs us Q I1 r1 q1) he hpl
theorem xa (hc:eY X (.type T) r) (hg:Gl X x) (hm:X.mg x=none) (hv:bootBuiltins x=some (.type T)) (ha:PA X (e::es) t) (hn:x≠ "__name__" :=by decide) (hdb:(x==("__debug__" :Str))=false:=by decide)
  (he:starEach (e::es) X.env=(false,eval e X.env)::starEach es X.env:=by rfl) (hpl:(backTo pos (starEach es X.env)).any (·.1)=false:=by rfl):PE X (.Call (.Name x p) (e::es) [] pos) (Am r t):=by
 intro pins s σ H Q I h
 refine wpAny_Call_Name_kw (iC I hg hm hv ?_ hn hdb)
 exact PyProof.Rows.callWith_type1 (aw (ha pos pins s σ H _ I h) fun us s1 ⟨vs,H1,I1,r1,q1⟩=>hc pins s1 σ H1 vs us Q I1 r1 q1) he hpl
end
end L2
namespace HT
open PySem PyProof.Rows
section
open PySem.SeqAt
open PySem.AutoSeq1 (wpAny_loadPart')
open PySem.MeetsSeq PySem.MeetsSeq2 PySem.MeetsSeq3
end
section
variable {prog:Program} {w:World} {A:Around} {E:Value→Shared→Prop} {s:Shared}
def c8 (n d:Nat):Option Int→Nat
 |none=>d
 |some v=>if v<0 then (v+(n:Int)).toNat else min v.toNat n
end
end HT
namespace L2
open PySem PySem.Spec PyProof.Rows
abbrev TO:=St→Hp→(Option Int→Hp→Prop)→Prop
def PO (X:Cx) (e:Option Expr) (t:TO):Prop:=
 ∀(pins:List (Addr×Obj)) (s:Shared) (σ:St) (H:Hp) (Q:Option Int→Hp→Prop),Inv X pins σ H s→t σ H Q→
  wpAny (model X.prog X.w) X.A (evalPart e X.env) (fun u s'=> ∃o H',Inv X pins σ H' s'∧IsPart u o∧Q o H') X.xe s
def RI:TO:=fun _ H Q=>Q none H
inductive xE (Q:Option Int→Hp→Prop) (x:V) (H:Hp):Prop
 |mk (i:Int) (e:x= .int i) (q:Q (some i) H):xE Q x H
def Mq (t:TE):TO:=fun σ H Q=>t σ H (xE Q)
section
variable {X:Cx} {e:Expr} {te:TE} {lo hi:Option Expr} {tl th:TO} {pos p2:Pos}
theorem iz:PO X none RI:=by
 intro pins s σ H Q I h
 rw[evalPart_none]
 exact wpAny_pure ⟨none,H,I, .none,h⟩
theorem bV (h:PE X e te):PO X (some e) (Mq te):=by
 intro pins s σ H Q I hw
 rw[evalPart_some]
 refine aw (h pins s σ H _ I hw) fun u s1 ⟨x,H1,I1,r1,q1⟩=>?_
 obtain ⟨i,rfl,q⟩:=q1
 obtain ⟨t,rfl⟩:=r1
 exact ⟨some i,H1,I1, .int i t,q⟩
def mz (X:Cx) (r:V→Option Int→Option Int→Hp→VK→Prop):Prop:=
 ∀(pins:List (Addr×Obj)) (s:Shared) (σ:St) (H:Hp) (x:V) (v vl vu:Value) (lo hi:Option Int) (sl:Addr) (Q:VK),Inv X pins σ H s→RelV x v→s.heap.IsSliceOf sl vl vu .none→IsPart vl lo→IsPart vu hi→r x lo hi H Q→
  ∃T id,typeLookup (.type T) "__getitem__" =pure (some (.builtin id))∧s.TypeIs v T∧wpAny (model X.prog X.w) X.A (getItem v (.ref sl)) (EP X pins σ Q) X.xe s
def LY (r:V→Option Int→Option Int→Hp→VK→Prop) (te:TE) (tl th:TO):TE:=fun σ H Q=>te σ H fun x H1=>tl σ H1 fun l H2=>th σ H2 fun u H3=>r x l u H3 Q
theorem di {r:V→Option Int→Option Int→Hp→VK→Prop} (hr:mz X r) (he:PE X e te) (hl:PO X lo tl) (hu:PO X hi th):PE X (.Subscript e (.Slice lo hi none p2) pos) (LY r te tl th):=by
 intro pins s σ H Q I h
 refine Subscript_ (aw (he pins s σ H _ I h) fun v s1 ⟨x,H1,I1,r1,q1⟩=>?_)
 refine wpAny_Slice (aw (hl pins s1 σ H1 _ I1 q1) fun vl s2 ⟨l,H2,I2,pl,q2⟩=>aw (hu pins s2 σ H2 _ I2 q2) fun vu s3 ⟨u,H3,I3,pu,q3⟩=>?_)
 rw[evalPart_none]
 refine wpAny_pure ?_
 have I4:Inv X pins σ H3 {s3 with heap:=s3.heap.push {cls:= .type "slice",data:= .fields #[vl,vu, .none]}}:=I3.kept (t':=s3.toks) fun b ob q=>Heap.get?_push_of_some _ q
 obtain ⟨T,id,hT,ht,hg⟩:=hr pins {s3 with heap:=s3.heap.push {cls:= .type "slice",data:= .fields #[vl,vu, .none]}} σ H3 x v vl vu l u s3.heap.objs.size Q I4 r1 (Heap.IsSliceOf.new ..) pl pu q3
 show wpAny (model X.prog X.w) X.A (subscriptTail e (.Slice lo hi none p2) v (.ref s3.heap.objs.size)) (EP X pins σ Q) X.xe {s3 with heap:=s3.heap.push {cls:= .type "slice",data:= .fields #[vl,vu, .none]}}
 exact tail_any (ops:= [.ref s3.heap.objs.size,v]) ht hT hg (by with_unfolding_all rfl)
def dS (xs:List V) (lo hi:Option Int):List V:=(xs.drop (HT.c8 xs.length 0 lo)).take (HT.c8 xs.length xs.length hi-HT.c8 xs.length 0 lo)
theorem Od (xs:List V) (lo hi:Option Int):(dS xs lo hi).length≤xs.length:=by
 unfold dS
 rw[List.length_take,List.length_drop]
 lia
end
end L2
namespace L2
open PySem PySem.Spec PyProof.Rows
def fN (n:Nat) (i:Int):Option Nat:=if 0≤i then (if i<n then some i.toNat else none) else if-(n:Int)≤i then some (i+n).toNat else none
def fC {α:Type} (xs:List α) (i:Int):Option α:=(fN xs.length i).bind fun j=>xs[j]?
theorem AY {n:Nat} {i:Int} {j:Nat} (h:fN n i=some j):seqIndex? i n=some j∧j<n∧ -(n:Int)≤i∧i<n:=by
 unfold fN at h
 by_cases h0:0≤i
 ·rw[if_pos h0] at h
  by_cases h1:i<n
  ·rw[if_pos h1] at h
   have e:i.toNat=j:=Option.some.inj h
   exact ⟨by rw[seqIndex_of h0 h1,e],by lia,by lia,h1⟩
  ·rw[if_neg h1] at h;cases h
 ·rw[if_neg h0] at h
  by_cases h1: -(n:Int)≤i
  ·rw[if_pos h1] at h
   have e:(i+n).toNat=j:=Option.some.inj h
   exact ⟨by rw[seqIndex_neg (by lia) h1,e],by lia,h1,by lia⟩
  ·rw[if_neg h1] at h;cases h
theorem zG {α:Type} {xs:List α} {i:Int} {v:α} (h:fC xs i=some v): ∃j,seqIndex? i xs.length=some j∧xs[j]?=some v∧j<xs.length∧ -(xs.length:Int)≤i∧i<xs.length:=by
 unfold fC at h
 cases e:fN xs.length i with
 |none=>rw[e] at h;cases h
 |some j=>
  rw[e] at h
  obtain ⟨h1,h2,h3,h4⟩:=AY e
  exact ⟨j,h1,h,h2,h3,h4⟩
theorem bL {α:Type} {xs:List α} {j:Nat} {v:α} (h:xs[j]?=some v):fC xs (j:Int)=some v:=by
 have hj:j<xs.length:=(List.getElem?_eq_some_iff.mp h).1
 have e:fN xs.length (j:Int)=some j:=by
  unfold fN
  rw[if_pos (by lia),if_pos (by lia)];simp
 unfold fC;rw[e];exact h
theorem LA {α:Type} (xs:List α) (v:α):fC (xs++ [v]) (-1)=some v:=by
 have hl:(xs++ [v]).length=xs.length+1:=by simp
 have e:fN (xs++ [v]).length (-1)=some xs.length:=by
  unfold fN
  rw[hl,if_neg (by decide),if_pos (by lia)]
  congr 1
  lia
 unfold fC
 rw[e]
 show (xs++ [v])[xs.length]?=some v
 simp
def GX (b:Expr):Prop:= ∀o i,subscripted b false o i=operate [o,i] (getItem o i)
def i7 (X:Cx) (r:R2):Prop:=
 ∀(value slice:Expr) (pins:List (Addr×Obj)) (s:Shared) (σ:St) (H:Hp) (x y:V) (v u:Value) (Q:VK),Inv X pins σ H s→RelV x v→RelV y u→r x y H Q→
  subscripted slice false v u=operate [v,u] (getItem v u)→wpAny (model X.prog X.w) X.A (subscriptTail value slice v u) (EP X pins σ Q) X.xe s
def wQ (X:Cx) (id:String) (r:V→List V→Hp→VK→Prop):Prop:=
 ∀(pins:List (Addr×Obj)) (s:Shared) (σ:St) (H:Hp) (x:V) (xs:List V) (v:Value) (us:List Value) (Q:VK),Inv X pins σ H s→RelV x v→Vals xs us→r x xs H Q→
  wpAny (model X.prog X.w) X.A (call (.builtin id) (v::us)) (EP X pins σ Q) X.xe s
section
variable {X:Cx} {a b:Expr} {ta tb:TE} {pos:Pos}
theorem bS {r:R2} (hr:i7 X r) (ha:PE X a ta) (hb:PE X b tb) (hs:GX b):PE X (.Subscript a b pos) (gw r ta tb):=by
 intro pins s σ H Q I h
 exact Subscript_ (vq ha hb I h fun v u s2 x y H2 I2 rx ry q=>hr a b pins s2 σ H2 x y v u Q I2 rx ry q (hs _ _))
inductive su (K:PySem.W.Frag) (x y:V) (H:Hp) (Q:VK):Prop
 |mk (p:Addr) (xs:List V) (i:Int) (v:V) (e1:x= .ref p) (e2:y= .int i) (h:af K H p xs) (e:fC xs i=some v) (q:Q v H):su K x y H Q
inductive k9 (K:PySem.W.Frag) (x y:V) (H:Hp) (Q:VK):Prop
 |mk (p:Addr) (xs:List V) (i:Int) (v:V) (e1:x= .ref p) (e2:y= .int i) (h:aP K H p xs) (e:fC xs i=some v) (q:Q v H):k9 K x y H Q
theorem fR:i7 X (su X.K):=by
 intro value slice pins s σ H x y v u Q I rx ry h hs
 obtain ⟨p,xs,i,z,rfl,rfl,hq,he,q⟩:=h
 cases rx
 obtain ⟨t,rfl⟩:=ry
 obtain ⟨its,r,pl,hz⟩:=I.list hq
 obtain ⟨j,h1,h2,h3,h4,h5⟩:=zG he
 obtain ⟨w,ew,rw'⟩:=r.get h2
 have hl:=r.length
 have hn:=mV
 have fin:EP X pins σ Q w s:=⟨z,H,I,rw',q⟩
 by_cases h0:0≤i
 ·have hj:i.toNat=j:=by
   rw[seqIndex_of h0 h5] at h1
   exact Option.some.inj h1
  exact item_listR pl.isList h0 (by lia) (by rw[hj];simpa using ew) fin hs
 ·have hj:(i+(its.toArray.size:Int)).toNat=j:=by
   rw[seqIndex_neg (by lia) h4] at h1
   rw[List.size_toArray,←hl]
   exact Option.some.inj h1
  exact subscriptTail_builtinR (x:=w) pl.isList.typeIs slot_list_getitem.lookup
   (wpAny_getItem_list_neg (Q:=fun r s'=>r=w∧EP X pins σ Q r s') pl.isList (by lia) (by rw[List.size_toArray]<;>lia) (by lia) (by rw[hj];simpa using ew) ⟨rfl,fin⟩) hs
theorem vF:i7 X (k9 X.K):=by
 intro value slice pins s σ H x y v u Q I rx ry h hs
 obtain ⟨p,xs,i,z,rfl,rfl,hq,he,q⟩:=h
 cases rx
 obtain ⟨t,rfl⟩:=ry
 obtain ⟨its,r,pl,hz⟩:=I.tuple hq
 obtain ⟨j,h1,h2,h3,h4,h5⟩:=zG he
 obtain ⟨w,ew,rw'⟩:=r.get h2
 have hl:=r.length
 have hn:=mV
 have fin:EP X pins σ Q w s:=⟨z,H,I,rw',q⟩
 exact subscriptTail_builtinR (x:=w) pl.typeIs slot_tuple_getitem.lookup
  (getItem_tuple (j:=j) (Q:=fun r s'=>r=w∧EP X pins σ Q r s') pl (by lia) (by lia) (by rw[List.size_toArray,←hl];exact h1) (by simpa using ew) ⟨rfl,fin⟩) hs
theorem EZ (its:List Value) (n j:Nat) (u:Value):Obj.mapSeq (·.setIfInBounds j u) {cls:= .type "list",data:= .seq its.toArray n}={cls:= .type "list",data:= .seq (its.set j u).toArray n}:=by
 simp [Obj.mapSeq]
theorem Inv.lst {pins:List (Addr×Obj)} {σ:St} {H:Hp} {s:Shared} {p:Addr} {xs:List V} (I:Inv X pins σ H s) (h:H p=some (.lst xs)):
  ∃(its:List Value) (n:Nat),Vals xs its∧s.heap.get? p=some {cls:= .type "list",data:= .seq its.toArray n}∧xs.length≤sizeLine:=by
 obtain ⟨z,its,n,r,e⟩:=I.ag p _ h
 exact ⟨its,n,r,e,z⟩
theorem Inv.M3 {pins:List (Addr×Obj)} {σ:St} {H:Hp} {s:Shared} {p:Addr} {xs ys:List V} {its its':List Value} {n n':Nat} {f:Obj→Obj} (I:Inv X pins σ H s) (h:H p=some (.lst xs))
  (ho:s.heap.get? p=some {cls:= .type "list",data:= .seq its.toArray n}) (hf:f {cls:= .type "list",data:= .seq its.toArray n}={cls:= .type "list",data:= .seq its'.toArray n'}) (r:Vals ys its') (hz:ys.length≤sizeLine) (t:Nat):
  Inv X pins σ (upd H p (.lst ys)) {s with heap:=s.heap.update p f,toks:=t}:=by
 have e:(s.heap.update p f).get? p=some {cls:= .type "list",data:= .seq its'.toArray n'}:=by
  rw[Heap.get?_update_self f ho (by rw[hf]<;>rfl),hf]
 refine I.write (x:=p) (e:=p) (by rw[h];trivial) (.inl rfl) (fun b u hb q=>(Heap.get?_update_other _ _ (Ne.symm hb)).trans q) ⟨_,e⟩ ?_
 exact ⟨hz,its',n',r,e⟩
def LZ:V→V→V→Hp→(Hp→Prop)→Prop:=fun o i v H Q=> ∃p xs k j,o= .ref p∧i= .int k∧H p=some (.lst xs)∧fN xs.length k=some j∧Q (upd H p (.lst (xs.set j v)))
theorem set_list:tI X LZ:=by
 intro pins s σ H o i v ov iv u Q I ro ri rv h
 obtain ⟨p,xs,k,j,rfl,rfl,hp,hj,q⟩:=h
 cases ro
 obtain ⟨t,rfl⟩:=ri
 obtain ⟨its,n,r,ho,hz⟩:=I.lst hp
 obtain ⟨h1,h2,h3,h4⟩:=AY hj
 have hl:=r.length
 have hn:=mV
 have I':Inv X pins σ (upd H p (.lst (xs.set j v))) {s with heap:=s.heap.update p (Obj.mapSeq (·.setIfInBounds j u))}:=
  I.M3 hp ho (EZ its n j u) (r.set rv j) (by rw[List.length_set];exact hz) s.toks
 by_cases h0:0≤k
 ·have hk:k.toNat=j:=by
   rw[seqIndex_of h0 h4] at h1
   exact Option.some.inj h1
  exact PySem.W.ki_setAt ho h0 (by lia) (by rw[List.size_toArray,←hl];exact h4) (by rw[hk];exact ⟨_,I',q⟩)
 ·have hk:(k+(its.toArray.size:Int)).toNat=j:=by
   rw[seqIndex_neg (by lia) h3] at h1
   rw[List.size_toArray,←hl]
   exact Option.some.inj h1
  exact PySem.W.ki_setBack ho (by lia) (by rw[List.size_toArray,←hl];exact h3) (by lia) (by rw[hk];exact ⟨_,I',q⟩)
theorem FZ (lo hi:Option Int) (n:Nat):(sliceBounds lo hi none n).1=((HT.c8 n 0 lo:Nat):Int)∧(sliceBounds lo hi none n).2.1=((HT.c8 n n hi:Nat):Int)∧(sliceBounds lo hi none n).2.2=1:=by
 refine ⟨?_,?_,rfl⟩
 ·cases lo with
  |none=>simp [sliceBounds,HT.c8]
  |some i=>
   simp only [sliceBounds,HT.c8,Option.getD_none,show (1:Int)>0 by decide,if_true]
   by_cases h:i<0
   ·simp only [h,if_true]<;>lia
   ·simp only [h,if_false]<;>lia
 ·cases hi with
  |none=>simp [sliceBounds,HT.c8]
  |some i=>
   simp only [sliceBounds,HT.c8,Option.getD_none,show (1:Int)>0 by decide,if_true]
   by_cases h:i<0
   ·simp only [h,if_true]<;>lia
   ·simp only [h,if_false]<;>lia
theorem Nf (its:List Value) (lo hi:Option Int):slicePick its.toArray lo hi none=((its.drop (HT.c8 its.length 0 lo)).take (HT.c8 its.length its.length hi-HT.c8 its.length 0 lo)).toArray:=by
 obtain ⟨h1,h2,h3⟩:=FZ lo hi its.toArray.size
 unfold slicePick
 rw[h1,h2,h3]
 simp only [sliceRange_one,pick_run,List.size_toArray]<;>rfl
inductive oA (K:PySem.W.Frag) (x:V) (lo hi:Option Int) (H:Hp) (Q:VK):Prop
 |mk (a:Addr) (xs:List V) (e:x= .ref a) (h:af K H a xs) (q: ∀p,H p=none→Q (.ref p) (upd H p (.lst (dS xs lo hi)))):oA K x lo hi H Q
theorem pf:mz X (oA X.K):=by
 intro pins s σ H x v vl vu lo hi sl Q I rx hs pl pu h
 obtain ⟨a,xs,rfl,hx,q⟩:=h
 cases rx
 obtain ⟨its,r,ht,hz⟩:=I.list hx
 have hlen:=r.length
 refine ⟨"list",_,slot_list_getitem.lookup,ht.isList.typeIs,?_⟩
 refine wpAny_getItem_list_slice ht.isList hs pl pu .none (by simp) ?_ (by rw[List.size_toArray]<;>lia)
 rw[Nf,←hlen]
 refine ⟨.ref s.heap.objs.size,_,I.laid (t':=s.toks) (o:= .lst (dS xs lo hi)) (fun b ob q=>Heap.get?_push_of_some _ q) (Nat.le_refl _) ?_,rfl,q _ (I.ag.fresh (Nat.le_refl _))⟩
 exact ⟨Nat.le_trans (Od xs lo hi) hz,_,0,(r.drop (HT.c8 xs.length 0 lo)).take (HT.c8 xs.length xs.length hi-HT.c8 xs.length 0 lo),Heap.get?_push_size _ rfl⟩
def fZ:V→Bool
 | .au=>true
 | .bl _=>true
 | .int _=>true
 | .str _=>true
 |_=>false
def fB:V→V→Bool
 | .au, .au=>true
 | .bl a, .bl b=>a==b
 | .bl a, .int b=>(if a then 1 else 0)==b
 | .int a, .bl b=>a==(if b then 1 else 0)
 | .int a, .int b=>a==b
 | .str a, .str b=>a==b
 |_,_=>false
theorem Iz {A:Around} {s:Shared} {y x:V} {u v:Value} (ry:RelV y u) (rx:RelV x v) (fy:fZ y=true) (fx:fZ x=true):SeqAt.EqAt A s u v (fB y x):=by
 cases y with
 |au=>
  cases ry
  cases x with
  |au=>cases rx;exact SeqAt.EqAt.same _
  |bl b=>cases rx;exact SeqAt.EqAt.none_bool b
  |int b=>obtain ⟨t,rfl⟩:=rx;exact SeqAt.EqAt.none_int b t
  |str b=>obtain ⟨t,rfl⟩:=rx;exact SeqAt.EqAt.none_str b t
  |_=>exact absurd (show false=true from fx) Bool.false_ne_true
 |bl a=>
  cases ry
  cases x with
  |au=>cases rx;exact SeqAt.EqAt.bool_none a
  |bl b=>cases rx;exact SeqAt.EqAt.bool_bool a b
  |int b=>obtain ⟨t,rfl⟩:=rx;exact SeqAt.EqAt.bool_int a b t
  |str b=>obtain ⟨t,rfl⟩:=rx;exact SeqAt.EqAt.bool_str a b t
  |_=>exact absurd (show false=true from fx) Bool.false_ne_true
 |int a=>
  obtain ⟨t',rfl⟩:=ry
  cases x with
  |au=>cases rx;exact SeqAt.EqAt.int_none a t'
  |bl b=>cases rx;exact SeqAt.EqAt.int_bool a t' b
  |int b=>obtain ⟨t,rfl⟩:=rx;exact SeqAt.EqAt.int_int a t' b t
  |str b=>obtain ⟨t,rfl⟩:=rx;exact SeqAt.EqAt.int_str a t' b t
  |_=>exact absurd (show false=true from fx) Bool.false_ne_true
 |str a=>
  obtain ⟨t',rfl⟩:=ry
  cases x with
  |au=>cases rx;exact SeqAt.EqAt.str_none a t'
  |bl b=>cases rx;exact SeqAt.EqAt.str_bool a t' b
  |int b=>obtain ⟨t,rfl⟩:=rx;exact SeqAt.EqAt.str_int a t' b t
  |str b=>obtain ⟨t,rfl⟩:=rx;exact SeqAt.EqAt.str_str a t' b t
  |_=>exact absurd (show false=true from fx) Bool.false_ne_true
 |_=>exact absurd (show false=true from fy) Bool.false_ne_true
def wB (x:V) (u:Value):Bool:=match u with
 | .none=>fB .au x
 | .bool b=>fB (.bl b) x
 | .int i _=>fB (.int i) x
 | .str z _=>fB (.str z) x
 |_=>false
theorem w9 {x y:V} {u:Value} (r:RelV y u) (f:fZ y=true):wB x u=fB y x:=by
 cases y with
 |au=>cases r;rfl
 |bl b=>cases r;rfl
 |int i=>obtain ⟨t,rfl⟩:=r;rfl
 |str z=>obtain ⟨t,rfl⟩:=r;rfl
 |_=>exact absurd (show false=true from f) Bool.false_ne_true
theorem yH {A:Around} {s:Shared} {x:V} {v:Value} (rx:RelV x v) (fx:fZ x=true): ∀{xs:List V} {us:List Value},Vals xs us→xs.all fZ=true→ ∀u∈us,SeqAt.EqAt A s u v (wB x u)
 |_,_, .nil,_=>fun u hu=>by cases hu
 |y::xs,u::us, .cons r t,f=>fun u' hu=>by
  rw[List.all_cons,Bool.and_eq_true] at f
  rcases List.mem_cons.mp hu with rfl|hu
  ·rw[w9 r f.1];exact Iz r rx f.1 fx
  ·exact yH rx fx t f.2 u' hu
inductive rW (K:PySem.W.Frag) (xs:List V) (H:Hp) (Q:VK):Prop
 |mk (p:Addr) (ys:List V) (e:xs= [.ref p]) (h:af K H p ys∨aP K H p ys) (q:Q (.int ys.length) H):rW K xs H Q
theorem jA:eY X (.builtin "len") (rW X.K):=by
 intro pins s σ H xs us Q I r h
 obtain ⟨p,ys,rfl,hq,q⟩:=h
 obtain ⟨u,rfl,rx⟩:=vals1 r
 cases rx
 have hn:=mV
 rcases hq with hq|hq
 ·obtain ⟨its,r',pl,hz⟩:=I.list hq
  have hlen:=r'.length
  exact Calls.call_len_list pl.isList (by simp only [List.size_toArray]<;>lia) ⟨.int ys.length,H,I.tok _,⟨s.toks+1,by rw[List.size_toArray,hlen]⟩,q⟩
 ·obtain ⟨its,r',pl,hz⟩:=I.tuple hq
  have hlen:=r'.length
  exact len_tuple pl (by simp only [List.size_toArray]<;>lia) ⟨.int ys.length,H,I.tok _,⟨s.toks+1,by rw[List.size_toArray,hlen]⟩,q⟩
theorem zX:eY X (.type "list") (fun xs H Q=> ∃p ys,xs= [.ref p]∧(af X.K H p ys∨aP X.K H p ys)∧ ∀l,H l=none→Q (.ref l) (upd H l (.lst ys))):=by
 intro pins s σ H xs us Q I r h
 obtain ⟨p,ys,rfl,hq,q⟩:=h
 obtain ⟨u,rfl,rx⟩:=vals1 r
 cases rx
 have fin: ∀(its:List Value),Vals ys its→ys.length≤sizeLine→ ∀(h':Heap) (c':Nat),(∀b o',s.heap.get? b=some o'→h'.get? b=some o')→
   h'.get? s.heap.objs.size=some {cls:= .type "list",dict:=none,data:= .seq its.toArray c',slots:= #[]}→EP X pins σ Q (.ref s.heap.objs.size) {s with heap:=h'}:=fun its r' hz h' c' kp e=>
  ⟨.ref s.heap.objs.size,_,I.laid (t':=s.toks) kp (Nat.le_refl _) (show bJ X.prog X.w _ h' _ (.lst ys) from ⟨hz,its,c',r',e⟩),rfl,q _ (I.ag.fresh (Nat.le_refl _))⟩
 rcases hq with hq|hq
 ·obtain ⟨its,r',pl,hz⟩:=I.list hq
  have hlen:=r'.length
  obtain ⟨o,ho,hc,n,hd⟩:=pl.isList
  exact call_list_seq p (.inl rfl) ho hc hd (fun h' c' kp e=>fin its r' hz h' c' kp e) (by simp only [List.size_toArray]<;>lia)
 ·obtain ⟨its,r',pl,hz⟩:=I.tuple hq
  have hlen:=r'.length
  obtain ⟨o,ho,hc,n,hd⟩:=pl
  exact call_list_seq p (.inr rfl) ho hc hd (fun h' c' kp e=>fin its r' hz h' c' kp e) (by simp only [List.size_toArray]<;>lia)
def zU (K:PySem.W.Frag) (T:String) (x:V) (H:Hp):Prop:=match x with
 | .str _=>T= "str"
 | .int _=>T= "int"
 | .ref p=>(T= "list" ∧ ∃xs,af K H p xs)∨(T= "tuple" ∧ ∃o,K.lookup p=some o∧o.cls= .type "tuple" ∧o.dict=none)∨
   (T= "dict" ∧((∃kvs,H p=some (.dK kvs))∨ ∃kvs,H p=some (.dT kvs)))∨(T= "set" ∧ ∃S n,H p=some (.set S n))
 |_=>False
theorem Ry {pins:List (Addr×Obj)} {σ:St} {H:Hp} {s:Shared} {T:String} {x:V} {v:Value} (I:Inv X pins σ H s) (r:RelV x v) (ty:zU X.K T x H):
  s.TypeIs v T∧ ∀a,v= .ref a→ ∃ob,s.heap.get? a=some ob∧ob.dict=none:=by
 cases x with
 |str z=>
  obtain ⟨t,rfl⟩:=r
  cases (show T= "str" from ty)
  exact ⟨typeIs_str s z t,fun _ e=>nomatch e⟩
 |int i=>
  obtain ⟨t,rfl⟩:=r
  cases (show T= "int" from ty)
  exact ⟨typeIs_int s i t,fun _ e=>nomatch e⟩
 |ref p=>
  cases r
  rcases ty with ⟨rfl,xs,hq⟩|⟨rfl,o,hk,hc,hd⟩|⟨rfl,hk⟩|⟨rfl,S,n,hk⟩
  ·obtain ⟨its,_,pl,_⟩:=I.list hq
   refine ⟨pl.isList.typeIs,fun a e=>?_⟩
   cases e
   obtain ⟨o,n,e,c,hd,_⟩:=pl
   exact ⟨o,e,hd⟩
  ·refine ⟨⟨o,I.cy p o hk,hc⟩,fun a e=>?_⟩
   cases e
   exact ⟨o,I.cy _ o hk,hd⟩
  ·have z: ∃o,s.heap.get? p=some o∧o.ExactDict:=by
    rcases hk with ⟨kvs,hk⟩|⟨kvs,hk⟩
    ·obtain ⟨_,_,_,_,o,_,_,e,ex,_⟩:=I.ag p _ hk
     exact ⟨o,e,ex⟩
    ·obtain ⟨_,_,_,_,o,_,_,e,ex,_⟩:=I.ag p _ hk
     exact ⟨o,e,ex⟩
   obtain ⟨o,e,ex⟩:=z
   refine ⟨⟨o,e,ex.1⟩,fun a e2=>?_⟩
   cases e2
   exact ⟨o,e,ex.2.1⟩
  ·obtain ⟨o,_,_,_,e,ex,_⟩:=I.ag p _ hk
   refine ⟨⟨o,e,ex.1⟩,fun a e2=>?_⟩
   cases e2
   exact ⟨o,e,ex.2.1⟩
 |_=>exact False.elim ty
inductive A8 (K:PySem.W.Frag) (T:String) (F:V→Hp→Prop) (x:V) (H:Hp):Prop
 |mk (e:zU K T x H) (q:F x H):A8 K T F x H
def vb (K:PySem.W.Frag) (T:String) (r:V→List V→Hp→VK→Prop) (to:TE) (t:TA):TE:=fun σ H Q=>to σ H (A8 K T fun x H1=>t σ H1 fun xs H2=>r x xs H2 Q)
variable {o e:Expr} {es:List Expr} {to:TE} {t:TA} {name:Str} {apos cpos:Pos} {T id:String} {r:V→List V→Hp→VK→Prop}
theorem pq (pa:PlainAttrs T) (slot:Slot T name id) (hty:typeOf (.builtin id)=pure (.type "method_descriptor")) (hm:wQ X id r) (ho:PE X o to) (ha:PA X (e::es) t)
  (hbase:attributeBase o name X.env (eval o X.env)=eval o X.env:=by rfl)
  (hfew:((backTo cpos (starEach (e::es) X.env)).all (fun x=>!x.1)&&(backToKw cpos (keywordEach [] X.env)).all (fun x=>x.1.isSome)
   &&decide ((e::es).length+([]:List Keyword).length+(if ([]:List Keyword).isEmpty then 0 else 1)<30))=true:=by rfl)
  (hline:(apos.endLine==cpos.line)=true:=by rfl) (hs:starEach (e::es) X.env=(false,eval e X.env)::starEach es X.env:=by rfl) (hplain:(backTo cpos (starEach es X.env)).any (·.1)=false:=by rfl):
  PE X (.Call (.Attribute o name apos) (e::es) [] cpos) (vb X.K T r to t):=by
 intro pins s σ H Q I h
 refine wpAny_Call_method_late hbase hfew hline rfl (aw (ho pins s σ H _ I h) fun v s1 ⟨x,H1,I1,r1,ty,q1⟩=>?_)
 obtain ⟨h1,h2⟩:=Ry I1 r1 ty
 refine ⟨T,id,pa,slot,hty,h1,h2,?_⟩
 have hA:=ha cpos pins s1 σ H1 _ I1 q1
 rw[hs] at hA⊢
 refine Calls.callWith_builtin (by show (false||(backTo cpos (starEach es X.env)).any (·.1))=false;rw[hplain]<;>rfl) (Calls.evalArgs_plain ?_)
 exact aw hA fun us s2 ⟨vs,H2,I2,r2,q2⟩=>hm pins s2 σ H2 x vs v us Q I2 r1 r2 q2
end
end L2
namespace L2
open PySem PySem.Spec PyProof.Rows
def ym (X:Cx) (id:String) (r:V→List V→Hp→VK→Prop):Prop:=
 ∀(pins:List (Addr×Obj)) (s:Shared) (σ:St) (H:Hp) (x:V) (xs:List V) (v:Value) (us:List Value) (Q:VK),Inv X pins σ H s→RelV x v→Vals xs us→r x xs H Q→
  wpAny (model X.prog X.w) X.A (call (.builtin id) (v::us)) (EP X pins σ Q) X.xe s
theorem Vals.one: ∀{x:V} {us:List Value},Vals [x] us→ ∃u,us= [u]∧RelV x u
 |_,_, .cons r .nil=>⟨_,rfl,r⟩
theorem Vals.rep {xs:List V} {us:List Value} (h:Vals xs us): ∀k:Nat,Vals (List.replicate k xs).flatten (List.replicate k us).flatten
 |0=> .nil
 |k+1=>by
  rw[List.replicate_succ,List.replicate_succ,List.flatten_cons,List.flatten_cons]
  exact Vals.append h (Vals.rep h k)
theorem foldl_rep (its:List Value): ∀(k:Nat) (acc:List Value),
  List.foldl (fun x1 x2=>x1++x2) acc.toArray (List.replicate k its.toArray)=(acc++(List.replicate k its).flatten).toArray
 |0,acc=>by simp
 |k+1,acc=>by
  have e:acc.toArray++its.toArray=(acc++its).toArray:=by simp
  have e2:(acc++its)++(List.replicate k its).flatten=acc++(List.replicate (k+1) its).flatten:=by
   rw[List.replicate_succ,List.flatten_cons,List.append_assoc]
  rw[←e2,←foldl_rep its k (acc++its),←e,List.replicate_succ,List.foldl_cons]
section
variable {X:Cx} {pins:List (Addr×Obj)} {σ:St} {H:Hp} {s:Shared} {l b:Addr} {xs ys zs:List V}
theorem Inv.yQ {its its':List Value} {n:Nat} {f:Array Value→Array Value} {t':Nat} (I:Inv X pins σ H s) (hH:H l=some (.lst xs))
  (e:s.heap.get? l=some {cls:= .type "list",data:= .seq its.toArray n}) (hf:f its.toArray=its'.toArray) (hv:Vals ys its') (hz:ys.length≤sizeLine):
  Inv X pins σ (upd H l (.lst ys)) {s with heap:=s.heap.update l (Obj.mapSeq f),toks:=t'}:=by
 have q:=PySem.IsL.update e f
 rw[hf] at q
 refine I.write (x:=l) (e:=l) (by rw[hH];exact trivial) (.inl rfl) (fun b' u hb hu=>(Heap.get?_update_other s.heap (Obj.mapSeq f) (Ne.symm hb)).trans hu) ⟨_,q⟩ ?_
 exact ⟨hz,its',_,hv,q⟩
theorem Inv.vk {its:List Value} {t':Nat} (I:Inv X pins σ H s) (hv:Vals ys its) (hz:ys.length≤sizeLine):
  Inv X pins σ (upd H s.heap.objs.size (.lst ys)) {s with heap:=s.heap.push {cls:= .type "list",data:= .seq its.toArray},toks:=t'}:=
 I.laid (fun _ _ q=>Heap.get?_push_of_some _ q) (Nat.le_refl _) ⟨hz,its,0,hv,Heap.get?_push_size _ rfl⟩
theorem Inv.fresh (I:Inv X pins σ H s):H s.heap.objs.size=none:=I.ag.fresh (Nat.le_refl _)
theorem Inv.j9 (I:Inv X pins σ H s) (hH:H l=some (.lst xs)):xs.length≤sizeLine∧ ∃(its:List Value) (n:Nat),Vals xs its∧xs.length=its.length∧s.heap.get? l=some {cls:= .type "list",data:= .seq its.toArray n}:=by
 obtain ⟨z,its,n,r,e⟩:=I.ag l _ hH
 exact ⟨z,its,n,r,r.length,e⟩
theorem yp {n:Nat} (h:n≤sizeLine):Builtin.List.listTooLong n=false:=by
 unfold Builtin.List.listTooLong
 exact decide_eq_false (by lia)
end
section
variable {X:Cx}
inductive tK (x:V) (vs:List V) (H:Hp) (Q:VK):Prop
 |mk (l:Addr) (xs:List V) (y:V) (e1:x= .ref l) (e2:vs= [y]) (h:H l=some (.lst xs)) (z:xs.length<sizeLine) (q:Q .au (upd H l (.lst (xs++ [y])))):tK x vs H Q
theorem rn:ym X "list.append" tK:=by
 intro pins s σ H x vs v us Q I rx rv h
 obtain ⟨l,xs,y,rfl,rfl,hH,hz,q⟩:=h
 cases rx
 obtain ⟨u,rfl,ru⟩:=rv.one
 obtain ⟨z,its,n,r,hl,e⟩:=I.j9 hH
 refine call_meets F.slot_list_append ⟨_,e,rfl⟩ F.entry_list_append (F.args_list_append_2 _ _) (PySem.list_append l its.toArray n u (by rw[List.size_toArray];lia)) ⟨e,?_⟩
 refine ⟨.au,_,I.yQ (its':=its++ [u]) hH e (by simp) (r.append (.cons ru .nil)) ?_,rfl,q⟩
 rw[List.length_append,List.length_singleton]
 lia
inductive Ej (x:V) (vs:List V) (H:Hp) (Q:VK):Prop
 |mk (l b:Addr) (xs zs:List V) (e1:x= .ref l) (e2:vs= [.ref b]) (h:H l=some (.lst xs)) (h2:H b=some (.lst zs)) (z:xs.length+zs.length≤sizeLine) (q:Q .au (upd H l (.lst (xs++zs)))):Ej x vs H Q
theorem r6:ym X "list.extend" Ej:=by
 intro pins s σ H x vs v us Q I rx rv h
 obtain ⟨l,b,xs,zs,rfl,rfl,hH,hB,hz,q⟩:=h
 cases rx
 obtain ⟨u,rfl,ru⟩:=rv.one
 cases ru
 obtain ⟨z,its,n,r,hl,e⟩:=I.j9 hH
 obtain ⟨z2,its2,n2,r2,hl2,e2⟩:=I.j9 hB
 have hsz:its.toArray.size+its2.toArray.size≤sizeLine:=by rw[List.size_toArray,List.size_toArray];lia
 have hlong: ¬(!its.toArray.isEmpty&&Builtin.List.listTooLong (its.toArray.size+its2.toArray.size))=true:=by
  rw[yp hsz,Bool.and_false]
  exact Bool.false_ne_true
 refine call_meets F.slot_list_extend ⟨_,e,rfl⟩ F.entry_list_extend (F.args_list_extend_2 _ _)
  (AutoSeq1.list_extend_list_list_0 l its.toArray n b its2.toArray n2 hlong (by rw[List.size_toArray];lia) (by lia)) ⟨e,e2,?_⟩
 refine ⟨.au,_,I.yQ (its':=its++its2) hH e (by simp) (r.append r2) ?_,rfl,q⟩
 rw[List.length_append]
 lia
inductive Bk (x y:V) (H:Hp) (Q:VK):Prop
 |mk (l b:Addr) (xs zs:List V) (e1:x= .ref l) (e2:y= .ref b) (h:H l=some (.lst xs)) (h2:H b=some (.lst zs)) (z:xs.length+zs.length≤sizeLine) (q: ∀p,H p=none→Q (.ref p) (upd H p (.lst (xs++zs)))):Bk x y H Q
theorem vU:bq X (binaryOp .Add) Bk:=by
 intro pins s σ H x y v u Q I rx ry h
 obtain ⟨l,b,xs,zs,rfl,rfl,hH,hB,hz,q⟩:=h
 cases rx
 cases ry
 obtain ⟨z,its,n,r,hl,e⟩:=I.j9 hH
 obtain ⟨z2,its2,n2,r2,hl2,e2⟩:=I.j9 hB
 refine PySem.P.add_list e e2 ?_ (by rw[List.size_toArray,List.size_toArray];lia)
 have ea:its.toArray++its2.toArray=(its++its2).toArray:=by simp
 rw[ea]
 exact ⟨.ref _,_,I.vk (t':=s.toks) (r.append r2) (by rw[List.length_append];lia),rfl,q _ I.fresh⟩
inductive DK (x y:V) (H:Hp) (Q:VK):Prop
 |mk (l:Addr) (k:Int) (xs:List V) (e1:x= .ref l) (e2:y= .int k) (h:H l=some (.lst xs)) (h1: -(2^63)≤k) (h2:k<2^63) (z:xs.length*k.toNat≤sizeLine) (q: ∀p,H p=none→Q (.ref p) (upd H p (.lst (List.replicate k.toNat xs).flatten))):DK x y H Q
theorem len_rep {α:Type} (xs:List α) (k:Nat):(List.replicate k xs).flatten.length=k*xs.length:=by
 induction k with
 |zero=>simp
 |succ k ih=>rw[List.replicate_succ,List.flatten_cons,List.length_append,ih,Nat.succ_mul,Nat.add_comm]
theorem uZ:bq X (binaryOp .Mult) DK:=by
 intro pins s σ H x y v u Q I rx ry h
 obtain ⟨l,k,xs,rfl,rfl,hH,h1,h2,hz,q⟩:=h
 cases rx
 obtain ⟨t,rfl⟩:=ry
 obtain ⟨z,its,n,r,hl,e⟩:=I.j9 hH
 have hlen:its.toArray.size*k.toNat≤sizeLine:=by rw[List.size_toArray,←hl];exact hz
 have hcap: ¬its.toArray.size*k.toNat>(2^63-1)/8:=by
  have:(sizeLine:Nat)≤(2^63-1)/8:=by decide
  lia
 have hfit: ¬(!Builtin.List.listFitsIndex k)=true:=by
  rw[fitsIndex_both h1 h2]
  exact Bool.false_ne_true
 have hlong: ¬Builtin.List.listTooLong (its.toArray.size*k.toNat)=true:=by
  rw[yp hlen]
  exact Bool.false_ne_true
 have hnew:List.foldl (fun x1 x2=>x1++x2) #[] (List.replicate (if its.toArray.isEmpty=true then 0 else k.toNat) its.toArray)=(List.replicate k.toNat its).flatten.toArray:=by
  have f0: ∀m:Nat,List.foldl (fun x1 x2=>x1++x2) #[] (List.replicate m its.toArray)=(List.replicate m its).flatten.toArray:=fun m=>by
   have:=foldl_rep its m []
   rw[List.nil_append] at this
   exact this
  rw[f0]
  cases its with
  |nil=>simp
  |cons a r'=>rw[if_neg (by simp)]
 refine wpAny_binaryOp_repeat_ref (T:= "list") (U:= "int") (by decide) ⟨_,e,rfl⟩ (fun s'=>typeIs_int s' k t) noFill_list_mul F.fills_int_mul F.slot_int_rmul repeat_list F.slot_int_index.lookup
  (call_meets F.slot_int_rmul (typeIs_int s k t) F.entry_int_rmul (F.args_int_rmul_2 _ _) (int___rmul___int_list k t l its.toArray n)
   ⟨e,rfl,⟨_,e,rfl⟩,call_meets F.slot_list_mul ⟨_,e,rfl⟩ F.entry_list_mul (F.args_list_mul_2 _ _) (AutoListH.list___mul___list_int_3 l its.toArray n k t hfit hcap hlong) ⟨e,?_⟩⟩)
 rw[hnew]
 exact ⟨.ref _,_,I.vk (t':=s.toks) (r.rep k.toNat) (by rw[len_rep,Nat.mul_comm];exact hz),rfl,q _ I.fresh⟩
end
section
variable {prog:Program} {w:World} {A:Around} {E:Value→Shared→Prop} {s:Shared}
end
section
variable {X:Cx}
end
end L2
namespace L2
open PySem PySem.Spec PyProof.Rows
theorem Vals.ints: ∀{ns:List Int} {us:List Value},Vals (ns.map V.int) us→IntsAre us ns
 | [],us,h=>by
  rw[List.map_nil] at h
  cases h
  exact IntsAre.nil
 |n::ns,us,h=>by
  rw[List.map_cons] at h
  cases h with
  |cons r t=>
   obtain ⟨k,rfl⟩:=r
   exact IntsAre.cons n k (Vals.ints t)
theorem Vals.xZ: ∀{bs:List Bool} {us:List Value},Vals (bs.map V.bl) us→us=bs.map Value.bool
 | [],us,h=>by
  rw[List.map_nil] at h
  cases h
  rfl
 |b::bs,us,h=>by
  rw[List.map_cons] at h
  cases h with
  |cons r t=>
   cases r
   rw[Vals.xZ t,List.map_cons]
theorem Vals.qN {a:Addr} {us:List Value} (r:Vals [V.ref a] us):us= [Value.ref a]:=by
 cases r with
 |cons r t=>
  cases t
  cases r
  rfl
section
variable {prog:Program} {w:World} {A:Around} {E:Value→Shared→Prop} {s:Shared} {l:Addr} {its:List Value} {ns:List Int} {Q:Value→Shared→Prop}
theorem Mw (hh:A.handled=none) (hl:s.heap.IsList l its.toArray) (hi:IntsAre its ns)
  (h: ∀h' tk t',(∀b o,s.heap.get? b=some o→h'.get? b=some o)→Q (.int ns.sum t') {s with heap:=h',toks:=tk}):wpAny (model prog w) A (call (.builtin "sum") [.ref l]) Q E s:=by
 obtain ⟨xs,e⟩:=hi.allInts.items
 have hn:numsOf (intItems xs).toList=ns:=by rw[←e];exact hi.numsOf
 rw[nums_intItems] at hn
 rw[e] at hl
 refine PySem.sum_intListG hh hl fun h' tk t' hk=>?_
 have:=h h' tk t' hk
 rw[preSum_eq,List.take_of_length_le (by simp),hn];exact this
theorem Ri (hh:A.handled=none) (hl:s.heap.IsList l its.toArray) (hi:IntsAre its ns) (hne:0<ns.length)
  (h: ∀h' tk M t',(∀b o,s.heap.get? b=some o→h'.get? b=some o)→M∈ns→(∀a,a∈ns→a≤M)→Q (.int M t') {s with heap:=h',toks:=tk}):wpAny (model prog w) A (call (.builtin "max") [.ref l]) Q E s:=by
 obtain ⟨xs,e⟩:=hi.allInts.items
 have hn:numsOf (intItems xs).toList=ns:=by rw[←e];exact hi.numsOf
 rw[nums_intItems] at hn
 subst hn
 rw[e] at hl
 have hsz:0<xs.size:=by simpa using hne
 refine PySem.max_intList hh hl hsz fun v h' tk hv hk=>?_
 obtain ⟨t,rfl⟩:=intItems_at hv
 obtain ⟨h1,h2⟩:=argBest_gt (numAt xs) (xs.size-1)
 refine h h' tk _ t hk ?_ fun a ha=>?_
 ·rw[numAt_eq];exact PySem.getD_mem (by rw[List.length_map,Array.length_toList];lia)
 ·obtain ⟨j,hj,rfl⟩:=mem_getD ha
  rw[List.length_map,Array.length_toList] at hj
  rw[←numAt_eq];exact h2 j (by lia)
end
section
variable {X:Cx}
def Lm (K:PySem.W.Frag):List V→Hp→VK→Prop:=fun vs H Q=> ∃(a:Addr) (ns:List Int),vs= [V.ref a]∧af K H a (ns.map V.int)∧Q (.int ns.sum) H
def PY (K:PySem.W.Frag):List V→Hp→VK→Prop:=fun vs H Q=> ∃(a:Addr) (ns:List Int),vs= [V.ref a]∧af K H a (ns.map V.int)∧0<ns.length∧ ∀m,m∈ns→(∀y,y∈ns→y≤m)→Q (.int m) H
theorem LH (hc:X.calm=true):eY X (.builtin "sum") (Lm X.K):=by
 intro pins s σ H vs us Q I r h
 obtain ⟨a,ns,rfl,hs,q⟩:=h
 obtain ⟨its,rv,hl,_⟩:=I.list hs
 rw[Vals.qN r]
 exact Mw (I.ok.hd hc) hl.isList rv.ints fun h' tk t' hk=>⟨.int _,H,I.kept hk,⟨_,rfl⟩,q⟩
theorem Mh (hc:X.calm=true):eY X (.builtin "max") (PY X.K):=by
 intro pins s σ H vs us Q I r h
 obtain ⟨a,ns,rfl,hs,hne,q⟩:=h
 obtain ⟨its,rv,hl,_⟩:=I.list hs
 rw[Vals.qN r]
 exact Ri (I.ok.hd hc) hl.isList rv.ints hne fun h' tk m t' hk h1 h2=>⟨.int _,H,I.kept hk,⟨_,rfl⟩,q m h1 h2⟩
end
section
variable {X:Cx}
def ED (K:PySem.W.Frag):V→List V→Hp→VK→Prop:=fun x xs H Q=> ∃(a:Addr) (ys:List V) (y:V) (j:Nat) (z:V),x=V.ref a∧xs= [y]∧af K H a ys∧fZ y=true∧ys.all fZ=true∧ys[j]?=some z∧fB z y=true∧
 (∀(m:Nat) (z':V),m<j→ys[m]?=some z'→fB z' y=false)∧Q (.int (j:Nat)) H
theorem xQ {ys:List V} (f:ys.all fZ=true) {j:Nat} {z:V} (h:ys[j]?=some z):fZ z=true:=List.all_eq_true.mp f z (List.mem_of_getElem? h)
theorem PQ:wQ X "list.index" (ED X.K):=by
 intro pins s σ H x xs v us Q I rx rxs h
 obtain ⟨a,ys,y,j,z,rfl,rfl,hs,fy,fys,hz,hzj,hno,q⟩:=h
 cases rx
 cases rxs with
 |cons ry rt=>
  rename_i uy ut
  cases rt
  obtain ⟨its,rv,⟨⟨cls,dd,data,sl⟩,n,ho,hc,hdn,hd⟩,hlen⟩:=I.list hs
  simp only at hc hd
  subst hc hd
  obtain ⟨u,hu,ru⟩:=rv.get hz
  obtain ⟨hjl,hje⟩:=List.getElem?_eq_some_iff.mp hu
  have hvl:=rv.length
  have hj:j<its.toArray.size:=by simpa using hjl
  have hsl:=sizeLine_eq
  refine call_meets PySem.F.slot_list_index ⟨_,ho,rfl⟩ PySem.F.entry_list_index (PySem.F.args_list_index_2 _ _)
   (SeqAt.list_indexAt a its.toArray n dd sl uy (wB y) j hj (by lia) ?_ ?_) ⟨ho,fun u' hu'=>yH ry fy rv fys u' (by simpa using hu'),?_⟩
  ·have e1:its.toArray[j]=u:=by simpa using hje
   rw[e1,w9 ru (xQ fys hz)]
   exact hzj
  ·intro m hm hmj
   have hml:m<its.length:=by simpa using hm
   have hmy:m<ys.length:=by lia
   have hy':ys[m]?=some ys[m]:=List.getElem?_eq_getElem hmy
   obtain ⟨u2,hu2,ru2⟩:=rv.get hy'
   obtain ⟨_,hme⟩:=List.getElem?_eq_some_iff.mp hu2
   have e1:its.toArray[m]=u2:=by simpa using hme
   rw[e1,w9 ru2 (xQ fys hy')]
   exact hno m _ hmj hy'
  ·exact ⟨.int (j:Nat),H,I.tok _,⟨_,rfl⟩,q⟩
end
section
variable {X:Cx}
end
theorem yL {prog:Program} {w:World} {A:Around} {E:Value→Shared→Prop} {s:Shared} {l:Addr} {items:Array Value} {Q:Value→Shared→Prop} (hl:s.heap.IsList l items)
  (h: ∀s₂:Shared,s₂={s with heap:=s.heap.push {cls:= .type "list_iterator",data:= .fields #[.ref l, .int 0 0]}}→
   (s₂.heap.IsListIter s.heap.objs.size l 0∧s₂.heap.IsList l items)→l≠s.heap.objs.size→Q (.ref s.heap.objs.size) s₂):wpAny (model prog w) A (pyIter (.ref l)) Q E s:=by
 have hlt:l<s.heap.objs.size:=by obtain ⟨_,e,_⟩:=hl;exact Heap.lt_size e
 exact wpAny_pyIter_list hl (h _ rfl ⟨⟨_,Heap.get?_push_size _ rfl,rfl,rfl⟩,hl.push _⟩ (Nat.ne_of_lt hlt))
theorem LS {prog:Program} {w:World} {A:Around} {bs:List Bool} {its:List Value} (e:its=bs.map Value.bool):
  TruthOf prog w A (fun i v=>its.toArray[i]?=some v) (fun i=>bs.getD i false):=fun i v s Q E hv hq=>by
 have hv':its[i]?=some v:=by simpa using hv
 rw[e,List.getElem?_map] at hv'
 obtain ⟨b,hb,rfl⟩:=Option.map_eq_some_iff.mp hv'
 have hg:bs.getD i false=b:=by rw[List.getD_eq_getElem?_getD,hb]<;>rfl
 have hq':Q (bs.getD i false) s:=hq
 rw[hg] at hq'
 exact wpAny_truthy_bool hq'
theorem all_range: ∀bs:List Bool,(List.range bs.length).all (fun i=>bs.getD i false)=bs.all id
 | []=>rfl
 |b::bs=>by
  rw[List.length_cons,List.range_succ_eq_map,List.all_cons,List.all_map,List.all_cons,←all_range bs]
  all_goals rfl
section
variable {X:Cx}
def O5 (K:PySem.W.Frag):List V→Hp→VK→Prop:=fun vs H Q=> ∃(a:Addr) (bs:List Bool),vs= [V.ref a]∧af K H a (bs.map V.bl)∧Q (.bl (bs.all id)) H
theorem FV (hc:X.calm=true):eY X (.builtin "all") (O5 X.K):=by
 intro pins s σ H vs us Q I r h
 obtain ⟨a,bs,rfl,hs,q⟩:=h
 obtain ⟨its,rv,hl,_⟩:=I.list hs
 rw[Vals.qN r]
 have hb:=rv.xZ
 refine call_all_walk (yL hl.isList fun s₂ e2 st hne=>?_)
 subst e2
 refine ⟨_,_,_,_,_,_,_,rfl,Walks.list (A:=X.A.in1) (I.ok.hd hc) _ a hne its.toArray,st,LS hb,fun h' tk hk=>?_⟩
 refine ⟨.bl _,H,I.kept fun b o eo=>hk b o (fun hmem=>?_) (Heap.get?_push_of_some _ eo),?_,q⟩
 ·rcases List.mem_cons.mp hmem with e1|hmem
  ·exact absurd (e1▸Heap.lt_size eo) (Nat.lt_irrefl _)
  ·cases hmem
 ·show Value.bool _=Value.bool _
  rw[←all_range,hb,List.size_toArray,List.length_map]
end
mutual
inductive Dp (K:PySem.W.Frag) (H:Hp):V→PyData→Prop
 |au:Dp K H .au .none
 |bl (b:Bool):Dp K H (.bl b) (.bool b)
 |int (i:Int):Dp K H (.int i) (.int i)
 |str (x:Str):Dp K H (.str x) (.str x)
 |lst {a:Addr} {xs:List V} {ds:List PyData}:af K H a xs→kl K H xs ds→Dp K H (.ref a) (.list ds)
 |tup {a:Addr} {xs:List V} {ds:List PyData}:aP K H a xs→kl K H xs ds→Dp K H (.ref a) (.tuple ds)
inductive kl (K:PySem.W.Frag) (H:Hp):List V→List PyData→Prop
 |nil:kl K H [] []
 |cons {v:V} {vs:List V} {d:PyData} {ds:List PyData}:Dp K H v d→kl K H vs ds→kl K H (v::vs) (d::ds)
end
section
variable {X:Cx} {pins:List (Addr×Obj)} {σ:St} {H:Hp} {s:Shared}
mutual
theorem Dp.reads (I:Inv X pins σ H s): ∀(d:PyData) (v:V) (u:Value),Dp X.K H v d→RelV v u→ ∃as,Reads s.heap u d as
 | .none,_,_,h,r=>by
  cases h
  cases r
  exact ⟨_,Reads.none⟩
 | .bool b,_,_,h,r=>by
  cases h
  cases r
  exact ⟨_,Reads.bool b⟩
 | .int i,_,_,h,r=>by
  cases h
  obtain ⟨t,rfl⟩:=r
  exact ⟨_,Reads.int i t⟩
 | .str x,_,_,h,r=>by
  cases h
  obtain ⟨t,rfl⟩:=r
  exact ⟨_,Reads.str x t⟩
 | .list ds,_,_,h,r=>by
  cases h with
  |lst hs ha=>
   cases r
   obtain ⟨its,rv,⟨o,n,ho,hc,_,hd⟩,_⟩:=I.list hs
   obtain ⟨as,hr⟩:=Dp.readsAll I ds _ its ha rv
   exact ⟨_,Reads.list ho hc hd hr⟩
 | .tuple ds,_,_,h,r=>by
  cases h with
  |tup hs ha=>
   cases r
   obtain ⟨its,rv,⟨o,ho,hc,n,hd⟩,_⟩:=I.tuple hs
   obtain ⟨as,hr⟩:=Dp.readsAll I ds _ its ha rv
   exact ⟨_,Reads.tuple ho hc hd hr⟩
 | .dict _,_,_,h,_=>by cases h
theorem Dp.readsAll (I:Inv X pins σ H s): ∀(ds:List PyData) (vs:List V) (us:List Value),kl X.K H vs ds→Vals vs us→ ∃as,ReadsAll s.heap us ds as
 | [],_,_,h,r=>by
  cases h
  cases r
  exact ⟨_,ReadsAll.nil⟩
 |d::ds,_,_,h,r=>by
  cases h with
  |cons h1 h2=>
   cases r with
   |cons r1 r2=>
    obtain ⟨as,q1⟩:=Dp.reads I d _ _ h1 r1
    obtain ⟨bs,q2⟩:=Dp.readsAll I ds _ _ h2 r2
    exact ⟨_,ReadsAll.cons q1 q2⟩
end
end
section
variable {X:Cx}
end
end L2
namespace L2
open PySem PySem.Spec PyProof.Rows
abbrev yS (h:Heap) (c:Addr) (v:Option Value):Prop:=h.IsCell c v
def Mr (scope sc:Scope):Scope:=
 {scope with names:=scope.names.map fun (n,k)=>if (k== .free&&sc.kind== .function&&sc.names.lookup n==some .cell) then (n, .cell) else (n,k)}
def bN (cells:List (Str×Addr)):List (Str×NameKind)→List (Str×Addr)→List (Str×Addr)
 | [],acc=>acc
 |(n,k)::r,acc=>if k== .free then bN cells r ((n,(cells.lookup n).getD 0)::acc) else bN cells r acc
theorem Bh (env:Env) (f:Str×NameKind→List (Str×Addr)→Sem (ForInStep (List (Str×Addr))))
  (hf: ∀n k c,f (n,k) c=if k== .free then (do let a←cellOf env n;pure (.yield ((n,a)::c))) else pure (.yield c)):
  ∀(names:List (Str×NameKind)) (acc:List (Str×Addr)),(∀y∈names,y.2= .free→ ∃c,env.cells.lookup y.1=some c)→forIn names acc f=pure (bN env.cells names acc)
 | [],acc,_=>by rw[List.forIn_nil];rfl
 |(n,k)::r,acc,h=>by
  rw[List.forIn_cons,hf]
  have ih:=fun acc=>Bh env f hf r acc fun y hy=>h y (List.mem_cons_of_mem _ hy)
  unfold bN
  by_cases hk:(k==NameKind.free)=true
  ·rw[if_pos hk,if_pos hk]
   obtain ⟨c,hc⟩:=h (n,k) List.mem_cons_self (by simpa using hk)
   have e:cellOf env n=pure c:=by unfold cellOf;rw[hc]
   rw[e]
   have e2:(env.cells.lookup n).getD 0=c:=by rw[hc];rfl
   rw[e2]
   exact ih _
  ·rw[if_neg hk,if_neg hk]
   exact ih _
theorem BM {scope:Scope} {env:Env} (h: ∀y∈scope.names,y.2= .free→ ∃c,env.cells.lookup y.1=some c):closureFor scope env=pure (bN env.cells scope.names []):=by
 simp only [closureFor]
 rw[Bh env _ (fun n k c=>rfl) scope.names [] h]
 rfl
theorem mem_lookup {α:Type}: ∀{l:List (Str×α)} {n:Str} {c:α},(n,c)∈l→ ∃c',l.lookup n=some c'
 |(k,v)::r,n,c,h=>by
  rw[List.lookup_cons]
  cases hb:n==k with
  |true=>exact ⟨_,rfl⟩
  |false=>
   rcases List.mem_cons.mp h with e|h
   ·cases e;simp at hb
   ·exact mem_lookup h
theorem qU {cells:List (Str×Addr)}: ∀{names:List (Str×NameKind)} {acc:List (Str×Addr)} {n:Str} {c:Addr},(n,c)∈bN cells names acc→(n,c)∈acc∨((n, .free)∈names∧c=(cells.lookup n).getD 0)
 | [],_,_,_,h=> .inl h
 |(m,k)::r,acc,n,c,h=>by
  unfold bN at h
  split at h
  ·rename_i hk
   have hk:k= .free:=by simpa using hk
   rcases qU h with h|⟨h1,h2⟩
   ·rcases List.mem_cons.mp h with e|h
    ·cases e;exact .inr ⟨hk▸List.mem_cons_self,rfl⟩
    ·exact .inl h
   ·exact .inr ⟨List.mem_cons_of_mem _ h1,h2⟩
  ·rcases qU h with h|⟨h1,h2⟩
   ·exact .inl h
   ·exact .inr ⟨List.mem_cons_of_mem _ h1,h2⟩
theorem wK {cells:List (Str×Addr)}: ∀{names:List (Str×NameKind)} {acc:List (Str×Addr)} {p:Str×Addr},p∈acc→p∈bN cells names acc
 | [],_,_,h=>h
 |(m,k)::r,acc,p,h=>by
  unfold bN
  split
  ·exact wK (List.mem_cons_of_mem _ h)
  ·exact wK h
theorem vv {cells:List (Str×Addr)}: ∀{names:List (Str×NameKind)} {acc:List (Str×Addr)} {n:Str},(n, .free)∈names→(n,(cells.lookup n).getD 0)∈bN cells names acc
 |(m,k)::r,acc,n,h=>by
  unfold bN
  rcases List.mem_cons.mp h with e|h
  ·cases e
   exact wK List.mem_cons_self
  ·split
   ·exact vv h
   ·exact vv h
theorem nZ: ∀{names:List (Str×NameKind)} {h:Heap} {acc:List (Str×Addr)} {x:Str} {c:Addr},(x,c)∈cellsFrom h.objs.size names acc→
  (x,c)∈acc∨((x, .cell)∈names∧h.objs.size≤c∧yS (pushCells h names) c none)
 | [],_,_,_,_,h=> .inl h
 |(n,k)::r,h,acc,x,c,hm=>by
  unfold cellsFrom at hm
  unfold pushCells
  split at hm
  ·rename_i hk
   rw[if_pos hk]
   have hk:k= .cell:=by simpa using hk
   rw[←Heap.size_push h {cls:= .type "cell",data:= .cell none}] at hm
   rcases nZ hm with hm|⟨h1,h2,h3⟩
   ·rcases List.mem_cons.mp hm with e|hm
    ·cases e
     exact .inr ⟨hk▸List.mem_cons_self,Nat.le_refl _,_,pushCells_keeps r _ _ _ (Heap.get?_push_size _ rfl),rfl⟩
    ·exact .inl hm
   ·rw[Heap.size_push] at h2
    exact .inr ⟨List.mem_cons_of_mem _ h1,Nat.le_of_succ_le h2,h3⟩
  ·rename_i hk
   rw[if_neg hk]
   rcases nZ hm with hm|⟨h1,h2,h3⟩
   ·exact .inl hm
   ·exact .inr ⟨List.mem_cons_of_mem _ h1,h2,h3⟩
theorem qQ: ∀{names:List (Str×NameKind)} {n:Nat} {acc:List (Str×Addr)} {p:Str×Addr},p∈acc→p∈cellsFrom n names acc
 | [],_,_,_,h=>h
 |(m,k)::r,n,acc,p,h=>by
  unfold cellsFrom
  split
  ·exact qQ (List.mem_cons_of_mem _ h)
  ·exact qQ h
theorem wb: ∀{names:List (Str×NameKind)} {n:Nat} {acc:List (Str×Addr)} {x:Str},(x, .cell)∈names→ ∃c,(x,c)∈cellsFrom n names acc
 |(m,k)::r,n,acc,x,h=>by
  unfold cellsFrom
  rcases List.mem_cons.mp h with e|h
  ·cases e
   exact ⟨n,qQ List.mem_cons_self⟩
  ·split
   ·exact wb h
   ·exact wb h
theorem tm: ∀{names:List (Str×NameKind)} {h:Heap} {acc:List (Str×Addr)} {x y:Str} {c:Addr},(∀p∈acc,p.2<h.objs.size)→(∀x y c,(x,c)∈acc→(y,c)∈acc→x=y)→
  (x,c)∈cellsFrom h.objs.size names acc→(y,c)∈cellsFrom h.objs.size names acc→x=y
 | [],_,_,_,_,_,_,hi,h1,h2=>hi _ _ _ h1 h2
 |(n,k)::r,h,acc,x,y,c,hl,hi,h1,h2=>by
  unfold cellsFrom at h1 h2
  split at h1
  ·rename_i hk
   rw[if_pos hk] at h2
   rw[←Heap.size_push h {cls:= .type "cell",data:= .cell none}] at h1 h2
   refine tm (h:=h.push _) (fun p hp=>?_) (fun x y c a b=>?_) h1 h2
   ·rw[Heap.size_push]
    rcases List.mem_cons.mp hp with rfl|hp
    ·exact Nat.lt_succ_self _
    ·exact Nat.lt_succ_of_lt (hl p hp)
   ·rcases List.mem_cons.mp a with e|a<;>rcases List.mem_cons.mp b with e'|b
    ·cases e;cases e';rfl
    ·cases e;exact absurd (hl _ b) (Nat.lt_irrefl _)
    ·cases e';exact absurd (hl _ a) (Nat.lt_irrefl _)
    ·exact hi _ _ _ a b
  ·rename_i hk
   rw[if_neg hk] at h2
   exact tm hl hi h1 h2
theorem Cu {M:Model} {A:Around} {E:Value→Shared→Prop} {s:Shared} {scope:Scope} {globals:Addr} {closure:List (Str×Addr)} {qual:Str} {func:Option Addr} {code:Value} {around:Env} {builtins:Addr} {Q:Env→Shared→Prop}
  (h:Q (newEnv scope s.heap.objs.size globals (cellsFrom (s.heap.objs.size+1) scope.names closure) qual func code (some around) builtins)
   {s with heap:=pushCells (s.heap.push {cls:= .type "dict",data:= .dict #[]}) scope.names}):
  wpAny M A (newFunctionEnv scope globals closure [] qual func code (some around) builtins) Q E s:=by
 simp only [newFunctionEnv,Option.isSome_some,if_true]
 refine wpAny_bind (wpAny_alloc ?_)
 refine wpAny_bind (wpAny_layCells _ (fun n k c=>rfl) scope.names closure _ _ ?_)
 rw[show ({s with heap:=s.heap.push {cls:= .type "dict",data:= .dict #[]}}:Shared).heap.objs.size=s.heap.objs.size+1 from Heap.size_push ..]
 rw[List.forIn_nil]
 exact wpAny_bind (wpAny_pure (wpAny_pure h))
theorem wc {sc:Scope}: ∀{names:List (Str×NameKind)} {x:Str} {k:NameKind},
  (names.map fun (n,k)=>if (k==NameKind.free&&sc.kind== .function&&sc.names.lookup n==some .cell) then (n,NameKind.cell) else (n,k)).lookup x=some k→
  ∃k',names.lookup x=some k'∧(k=k'∨(k'= .free∧k= .cell))
 | [],_,_,h=>by simp at h
 |(n,k₀)::r,x,k,h=>by
  have ih:= @wc sc r x k
  have h':List.lookup x ((if (k₀==NameKind.free&&sc.kind== .function&&sc.names.lookup n==some .cell)=true then (n,NameKind.cell) else (n,k₀))::(r.map _))=some k:=h
  cases hx:x==n with
  |true=>
   simp only [List.lookup_cons,hx]
   by_cases hc:(k₀==NameKind.free&&sc.kind== .function&&sc.names.lookup n==some .cell)=true
   ·rw[if_pos hc] at h'
    simp only [List.lookup_cons,hx] at h'
    cases h'
    simp only [Bool.and_eq_true,beq_iff_eq] at hc
    exact ⟨k₀,rfl, .inr ⟨hc.1.1,rfl⟩⟩
   ·rw[if_neg hc] at h'
    simp only [List.lookup_cons,hx] at h'
    cases h'
    exact ⟨_,rfl, .inl rfl⟩
  |false=>
   simp only [List.lookup_cons,hx]
   by_cases hc:(k₀==NameKind.free&&sc.kind== .function&&sc.names.lookup n==some .cell)=true
   ·rw[if_pos hc] at h'
    simp only [List.lookup_cons,hx] at h'
    exact ih h'
   ·rw[if_neg hc] at h'
    simp only [List.lookup_cons,hx] at h'
    exact ih h'
structure iE (N:List Str) (sc scope:Scope) (own:List (Str×Nat)):Prop where
 kind:scope.kind= .function
 uniq: ∀y∈scope.names,scope.names.lookup y.1=some y.2
 ix: ∀p∈own,N[p.2]?=some p.1
 free: ∀y∈scope.names,y.2= .free→sc.names.lookup y.1=some .cell∨sc.names.lookup y.1=some .free
 own: ∀y∈scope.names,y.2= .local∨y.2= .cell→y.1∈own.map (·.1)∨y.1∉N
def wipe (σ:St):List Nat→St
 | []=>σ
 |v::vs=>(wipe σ vs).set v none
theorem qw (σ:St): ∀vs:List Nat,(wipe σ vs).length=σ.length
 | []=>rfl
 |v::vs=>by unfold wipe;rw[List.length_set,qw σ vs]
theorem qD {σ:St} {i:Nat} {x:V}: ∀{vs:List Nat},(wipe σ vs)[i]?=some (some x)→σ[i]?=some (some x)∧i∉vs
 | [],h=>⟨h,by simp⟩
 |v::vs,h=>by
  unfold wipe at h
  by_cases hi:v=i
  ·subst hi
   by_cases hv:v<(wipe σ vs).length
   ·rw[List.getElem?_set_self hv] at h;cases h
   ·rw[List.getElem?_eq_none (by simpa using hv)] at h;cases h
  ·rw[List.getElem?_set_ne hi] at h
   obtain ⟨h1,h2⟩:=qD h
   exact ⟨h1,by simp only [List.mem_cons,not_or];exact ⟨fun e=>hi e.symm,h2⟩⟩
abbrev Cx.a9 (X:Cx) (s:Shared) (H:Hp) (scope:Scope) (cenv:Env) (fp:List Addr):Cx:={X with a8:=s,kg:=H,env:=cenv,outer:=X.stack,ex:=fp,fn:=fun x=>scope.names.lookup x==some .cell,pn:= [],xe:=fun _ _=>False}
section
variable {X:Cx} {pins:List (Addr×Obj)} {σ:St} {H:Hp} {s:Shared}
theorem Cc {scope:Scope} {own:List (Str×Nat)} {fp:List Addr} (I:Inv X pins σ H s) (ok:iE X.N X.env.scope scope own) (hN:X.N.Nodup) (hfp: ∀b∈fp,dN X pins H b∧b<s.heap.objs.size):
  Inv (X.a9 s H scope (compEnvC scope (cellsFrom (s.heap.objs.size+1) scope.names (bN X.env.cells scope.names [])) s.heap.objs.size X.env) fp) [] (wipe σ (own.map (·.2))) H {s with heap:=pushCells (s.heap.push {cls:= .type "dict",data:= .dict #[]}) scope.names}:=by
 have hfree: ∀y∈scope.names,y.2= .free→ ∃c,X.env.cells.lookup y.1=some c:=fun y hy e=>by
  rcases ok.free y hy e with k|k
  ·exact I.ok.has _ (.inl k)
  ·exact I.ok.has _ (.inr k)
 generalize hcenv:compEnvC scope (cellsFrom (s.heap.objs.size+1) scope.names (bN X.env.cells scope.names [])) s.heap.objs.size X.env=cenv
 have kp: ∀b o,s.heap.get? b=some o→(pushCells (s.heap.push {cls:= .type "dict",data:= .dict #[]}) scope.names).get? b=some o:=fun b o e=>pushCells_keeps _ _ _ _ (Heap.get?_push_of_some _ e)
 have hL:cenv.locals=s.heap.objs.size:=by rw[←hcenv];rfl
 have hcl:cenv.cells=cellsFrom (s.heap.objs.size+1) scope.names (bN X.env.cells scope.names []):=by rw[←hcenv];rfl
 have hsc:cenv.scope=Mr scope X.env.scope:=by rw[←hcenv];rfl
 rw[←Heap.size_push s.heap {cls:= .type "dict",data:= .dict #[]}] at hcl
 have cm: ∀{y c},(y,c)∈bN X.env.cells scope.names []→X.env.cells.lookup y=some c∧c<s.heap.objs.size:=fun {y c} hm=>by
  rcases qU hm with hm|⟨h1,rfl⟩
  ·cases hm
  ·obtain ⟨c,hc⟩:=hfree _ h1 rfl
   rw[hc]
   obtain ⟨w,z⟩:=I.cell _ _ hc
   exact ⟨rfl,z.lt⟩
 have mem: ∀{y c},cenv.cells.lookup y=some c→(X.env.cells.lookup y=some c∧c<s.heap.objs.size)∨(s.heap.objs.size+1≤c∧yS (pushCells (s.heap.push {cls:= .type "dict",data:= .dict #[]}) scope.names) c none):=fun {y c} e=>by
  rw[hcl] at e
  rcases nZ (PySem.mem_of_lookup e) with hm|⟨_,h2,h3⟩
  ·exact .inl (cm hm)
  ·rw[Heap.size_push] at h2;exact .inr ⟨h2,h3⟩
 have look: ∀{y},scope.names.lookup y=some .free→ ∃c,cenv.cells.lookup y=some c∧X.env.cells.lookup y=some c:=fun {y} hl=>by
  have hy:(y,NameKind.free)∈scope.names:=PySem.mem_of_lookup hl
  obtain ⟨c',e'⟩:=mem_lookup (qQ (names:=scope.names) (n:=(s.heap.push {cls:= .type "dict",data:= .dict #[]}).objs.size) (vv (cells:=X.env.cells) (acc:= []) hy))
  rw[←hcl] at e'
  refine ⟨c',e',?_⟩
  rw[hcl] at e'
  rcases nZ (PySem.mem_of_lookup e') with hm|⟨h1,_,_⟩
  ·exact (cm hm).1
  ·have:=ok.uniq _ h1
   rw[hl] at this;cases this
 have okB:(X.a9 s H scope cenv fp).Ok:=by
  refine ⟨I.ok.mod,by show cenv.scope.kind=_;rw[hsc];exact ok.kind,by show cenv.globals=_;rw[←hcenv];exact I.ok.glob,by show cenv.builtins=_;rw[←hcenv];exact I.ok.blt,by show s.heap.objs.size≤cenv.locals;rw[hL];exact Nat.le_refl _,
   fun y z c e1 e2=>?_,fun y hy=>?_,fun y c z e=>?_,I.ok.hd,I.ok.frames, .inl rfl,fun b hb=>⟨?_,fun y c e z=>?_⟩,I.bs,Nat.le_trans I.ok.fz I.sz,fun b o e hb=>?_,fun b hb z=>?_,I.stack,I.qg⟩
  ·have e1:cenv.cells.lookup y=some c:=e1
   have e2:cenv.cells.lookup z=some c:=e2
   rw[hcl] at e1 e2
   refine tm (fun p hp=>?_) (fun y z c a b=>I.ok.inj y z c (cm a).1 (cm b).1) (PySem.mem_of_lookup e1) (PySem.mem_of_lookup e2)
   rw[Heap.size_push]
   exact Nat.lt_succ_of_lt (cm (y:=p.1) (c:=p.2) hp).2
  ·show∃c,cenv.cells.lookup y=some c
   have key: ∀k,cenv.kindOf y=some k→(k= .cell∨k= .free)→ ∃c,cenv.cells.lookup y=some c:=fun k hk hk'=>by
    unfold Env.kindOf at hk
    rw[hsc] at hk
    obtain ⟨k',e,r⟩:=wc hk
    have:k'= .cell∨k'= .free:=by
     rcases r with rfl|⟨rfl,_⟩
     ·exact hk'
     ·exact .inr rfl
    rcases this with rfl|rfl
    ·obtain ⟨c,hm⟩:=wb (n:=(s.heap.push {cls:= .type "dict",data:= .dict #[]}).objs.size) (acc:=bN X.env.cells scope.names []) (PySem.mem_of_lookup e)
     obtain ⟨c',e'⟩:=mem_lookup hm
     exact ⟨c',by rw[hcl];exact e'⟩
    ·obtain ⟨c,h1,_⟩:=look e
     exact ⟨c,h1⟩
   rcases hy with hy|hy
   ·exact key _ hy (.inl rfl)
   ·exact key _ hy (.inr rfl)
  ·have z:(scope.names.lookup y==some NameKind.cell)=true:=z
   have z:scope.names.lookup y=some .cell:=by simpa using z
   have e:cenv.cells.lookup y=some c:=e
   rw[hcl] at e
   rcases nZ (PySem.mem_of_lookup e) with hm|⟨_,h2,_⟩
   ·rcases qU hm with hm|⟨h1,_⟩
    ·cases hm
    ·have q:=ok.uniq _ h1
     rw[z] at q;cases q
   ·rw[Heap.size_push] at h2
    exact Nat.le_of_succ_le h2
  ·show b≠cenv.locals
   rw[hL];exact Nat.ne_of_lt (hfp b hb).2
  ·have e:cenv.cells.lookup y=some c:=e
   rcases mem e with ⟨h1,_⟩|⟨h1,_⟩
   ·exact (hfp b hb).1.2.2.2.2.1 y c h1 z
   ·have h2:s.heap.objs.size+1≤b:=by rw[←z];exact h1
    exact absurd (Nat.lt_of_lt_of_le (hfp b hb).2 (Nat.le_of_succ_le h2)) (Nat.lt_irrefl _)
  ·rcases (hfp b hb).1.2.2.2.1 with z|z
   ·exact I.ok.eK b o e z
   ·exact absurd (Nat.lt_of_lt_of_le (Heap.lt_size e) (Nat.le_trans I.ok.fz z)) (Nat.lt_irrefl _)
  ·rcases List.mem_cons.mp (I.l7 b z) with z|z
   ·exact (hfp b hb).1.2.1 z
   ·exact (hfp b hb).1.2.2.1 z
 refine ⟨okB,rfl,I.bare,Un.kept kp,⟨fun _=>none,?_,fun i y av e1 e2 e3=>?_⟩,fun y c e=>?_,?_,fun y c e=>?_,fun p hp=>?_,I.ag.kept kp,by rw[qw];exact I.len⟩
 ·show Heap.Ns _ cenv.locals _
  rw[hL]
  exact Heap.Ns.keeps (Heap.Ns.new ..) fun b o e=>pushCells_keeps _ _ _ _ e
 ·obtain ⟨e2,hne⟩:=qD e2
  have hfr:scope.names.lookup y=some .free∧(cenv.kindOf y=some .cell∨cenv.kindOf y=some .free):=by
   have key: ∀k,cenv.scope.names.lookup y=some k→k= .local∨k= .cell∨k= .free→scope.names.lookup y=some .free∧(cenv.kindOf y=some .cell∨cenv.kindOf y=some .free):=fun k hk hk'=>by
    have hk0:=hk
    rw[hsc] at hk
    obtain ⟨k',e,r⟩:=wc hk
    have no: ¬(k'= .local∨k'= .cell):=fun hh=>by
     rcases ok.own _ (PySem.mem_of_lookup e) hh with e'|e'
     ·obtain ⟨p,hp,hpy⟩:=List.mem_map.mp e'
      have e3:=ok.ix p hp
      have:p.1=y:=hpy
      rw[this] at e3
      exact hne (List.mem_map.mpr ⟨p,hp,sY hN e3 e1⟩)
     ·exact e' (List.mem_of_getElem? e1)
    rcases r with rfl|⟨rfl,rfl⟩
    ·rcases hk' with rfl|rfl|rfl
     ·exact absurd (.inl rfl) no
     ·exact absurd (.inr rfl) no
     ·exact ⟨e, .inr hk0⟩
    ·exact ⟨e, .inl hk0⟩
   have e3:jO cenv.scope y:=e3
   rcases e3 with e3|e3|e3
   ·exact key _ e3 (.inl rfl)
   ·exact key _ e3 (.inr (.inl rfl))
   ·exact key _ e3 (.inr (.inr rfl))
  obtain ⟨m,hn,hl⟩:=I.loc
  have hvis:jO X.env.scope y:=(ok.free _ (PySem.mem_of_lookup hfr.1) rfl).elim (fun k=> .inr (.inl k)) (fun k=> .inr (.inr k))
  obtain ⟨w,r,q⟩:=hl i y av e1 e2 hvis
  refine ⟨w,r, .inr ⟨hfr.2,?_⟩⟩
  obtain ⟨c,h1,h2⟩:=look hfr.1
  rcases q with ⟨k,_⟩|⟨_,c',e',z⟩
  ·have k:X.env.scope.names.lookup y=some .local:=k
   rcases ok.free _ (PySem.mem_of_lookup hfr.1) rfl with k'|k'<;>rw[show X.env.scope.names.lookup y=_ from k'] at k<;>cases k
  ·rw[h2] at e';cases e'
   exact ⟨c,h1,z.keeps kp⟩
 ·have e:cenv.cells.lookup y=some c:=e
  rcases mem e with ⟨h1,_⟩|⟨_,z⟩
  ·obtain ⟨w,z⟩:=I.cell y c h1
   exact ⟨w,z.keeps kp⟩
  ·exact ⟨_,z⟩
 ·show H cenv.locals=none
  rw[hL];exact I.ag.fresh (Nat.le_refl _)
 ·have e:cenv.cells.lookup y=some c:=e
  rcases mem e with ⟨h1,_⟩|⟨h1,_⟩
  ·exact I.dC y c h1
  ·exact I.ag.fresh (Nat.le_of_succ_le h1)
 ·exact absurd (show p∈([]:List (Addr×Obj))++ [] from hp) (by simp)
theorem BW {E:Value→Shared→Prop} {D:Addr} {xs:List V} {y:V} {v:Value} {Q:Value→Shared→Prop} (I:Inv X pins σ H s) (hD:H D=some (.lst xs)) (hz:xs.length<sizeLine) (r:RelV y v)
  (h: ∀s',Inv X pins σ (upd H D (.lst (xs++ [y]))) s'→Q .none s'):wpAny (model X.prog X.w) X.A (call (.builtin "list.append") [.ref D,v]) Q E s:=by
 obtain ⟨hz',its,n,ri,e⟩:=I.ag D _ hD
 have hl:=ri.length
 refine append_at (hsz:=by rw[List.size_toArray];lia) e fun h' sb ho'=>?_
 refine h {s with heap:=h'} (I.write (t':=s.toks) (by rw[hD];trivial) (.inl rfl) (fun b u hb q=>(sb.2 b hb).trans q) ⟨_,ho'⟩ ⟨by rw[List.length_append];exact hz,its++ [v],n+1,ri.append (.cons r .nil),?_⟩)
 rw[ho']
 simp
def iA (X:Cx) (ifs:List Expr) (t:TT):Prop:=
 ∀(pins:List (Addr×Obj)) (s:Shared) (σ:St) (H:Hp) (Q:Bool→Hp→Prop),Inv X pins σ H s→t σ H Q→
  wpAny (model X.prog X.w) X.A (forIn ifs true fun c r=>if r=true then do let ok←isTrue c X.env (eval c X.env);pure (ForInStep.yield ok) else pure (ForInStep.yield r)) (TP X pins σ Q) X.xe s
def pj:TT:=fun _ H Q=>Q true H
theorem c9:iA X [] pj:=fun _ _ _ H _ I h=>wpAny_tests_nil ⟨H,I,h⟩
theorem qA {c:Expr} {t:TT} (h:PT X c t):iA X [c] t:=fun pins s σ H Q I hw=>wpAny_tests_one (h pins s σ H Q I hw)
end
theorem gW {α:Type} {t:Sem α} {Q Q':α→Shared→Prop} {M:Model} {A:Around} {E:Value→Shared→Prop} {s:Shared} (h:wpAny M A t Q (fun _ _=>False) s) (hQ: ∀a s,Q a s→Q' a s):wpAny M A t Q' E s:=wpAny_mono h hQ fun _ _ z=>False.elim z
theorem xu {prog:Program} {w:World} {A:Around} {R:Result→Shared→Prop} {s:Shared} {elt target iter:Expr} {ifs:List Expr} {scope:Scope} {pos:Pos} {it acc:Value} {env:Env} (I:Nat→Shared→Prop)
  (turn: ∀n s,I n s→wpAny (model prog w) A (pyNext it) (fun r s₁=>match r with
   |none=>R (.ok .next) s₁
   |some v=>wpAny (model prog w) A (letOwnedTupleGo target it v) (fun _ s₁'=>wpAny (model prog w) A (assign target env v) (fun _ s₂=>
     wpAny (model prog w) A (forIn ifs true fun c r=>if r=true then do let ok←isTrue c env (eval c env);pure (ForInStep.yield ok) else pure (ForInStep.yield r)) (fun ok s₃=>
      if ok=true then wpAny (model prog w) A (eval elt env) (fun x s₄=>
       wpAny (model prog w) A (call (.builtin "list.append") [acc,x]) (fun _ s₅=> ∃m,m<n∧I m s₅) (notedBy (model prog w) A env fun e s'=>R (.error e) s') s₄) (notedBy (model prog w) A env fun e s'=>R (.error e) s') s₃
      else∃m,m<n∧I m s₃) (notedBy (model prog w) A env fun e s'=>R (.error e) s') s₂) (notedBy (model prog w) A env fun e s'=>R (.error e) s') s₁') (notedBy (model prog w) A env fun e s'=>R (.error e) s') s₁) (notedBy (model prog w) A env fun e s'=>R (.error e) s') s)
  (n:Nat) (h:I n s):
  codeAny (model prog w) A (.compLoop (.ListComp elt [⟨target,iter,ifs,0⟩] scope pos) 0 it acc env) R s:=by
 refine codeAny_loop rfl I (fun n s hI=>?_) n h
 show wpAny _ A ((compTurn (.ListComp elt [⟨target,iter,ifs,0⟩] scope pos) 0 it acc env).onRaise (fun x=>do noteFrame x env;theTreesLotGoes x)) _ _ s
 refine wpAny_noted ?_
 rw[compTurn_list]
 refine wpAny_bind (wpAny_standAt (wpAny_bind (wpAny_mono (turn n s hI) (fun r s₁ h₁=>?_) fun _ _ h'=>h')))
 cases r with
 |none=>exact wpAny_pure h₁
 |some v=>
  refine wpAny_bind (wpAny_mono h₁ (fun _ s₁' h₁'=>?_) fun _ _ h'=>h')
  refine wpAny_bind (wpAny_mono h₁' (fun _ s₂ h₂=>wpAny_bind (wpAny_mono h₂ (fun ok s₃ h₃=>?_) fun _ _ h'=>h')) fun _ _ h'=>h')
  cases ok with
  |false=>exact wpAny_pure ⟨rfl,h₃⟩
  |true=>
   exact wpAny_bind (wpAny_bind (wpAny_mono h₃ (fun x s₄ h₄=>wpAny_bind (wpAny_mono h₄ (fun _ s₅ h₅=>wpAny_pure (wpAny_pure ⟨rfl,h₅⟩)) fun _ _ h'=>h')) fun _ _ h'=>h'))
section
variable {X:Cx}
def gQ (wi:TI) (g:TG) (tt:TT) (te:TE) (vs:List Nat):TE:=fun σ H Q=>wi σ H fun J H1=> ∀D,H1 D=none→ ∃W:Nat→Nat→Hp→Prop,(∃m,W 0 m (upd H1 D (.lst [])))∧ ∀i m H,W i m H→
 (J.stop i H∧Q (.ref D) H)∨(J.go i H∧ ∃Nx:Hp→Prop,(∀H',Nx H'→ ∃m',m'<m∧W (i+1) m' H')∧ ∀x H',J.dw i H x H'→g x (wipe σ vs) H' fun σ2 H2=>wipe σ2 vs=wipe σ vs∧tt σ2 H2 fun b H3=>
  if b=true then te σ2 H3 fun y H4=> ∃acc,H4 D=some (.lst acc)∧acc.length<sizeLine∧Nx (upd H4 D (.lst (acc++ [y]))) else Nx H3)
theorem As {pins:List (Addr×Obj)} {s:Shared} {σ:St} {H:Hp} {Q:VK} {elt tg iter:Expr} {ifs:List Expr} {scope:Scope} {own:List (Str×Nat)} {pos pos':Pos} {wi:TI} {g:TG} {tt:TT} {te:TE} {use:Option (Value→Sem Unit)} {Qf:Value→Shared→Prop}
  (hc:X.calm=true) (hN:X.N.Nodup) (I:Inv X pins σ H s) (hi:PI X tg iter wi) (ok:iE X.N X.env.scope scope own)
  (hg: ∀(s:Shared) (H:Hp) (C:Addr) (cl:List (Str×Addr)) (fp:List Addr),PG (X.a9 s H scope (compEnvC scope cl C X.env) fp) tg g) (ht: ∀(s:Shared) (H:Hp) (C:Addr) (cl:List (Str×Addr)) (fp:List Addr),iA (X.a9 s H scope (compEnvC scope cl C X.env) fp) ifs tt)
  (he: ∀(s:Shared) (H:Hp) (C:Addr) (cl:List (Str×Addr)) (fp:List Addr),PE (X.a9 s H scope (compEnvC scope cl C X.env) fp) elt te) (hs: ∀x,foldedSetIterable iter X.env x=pure x)
  (h:gQ wi g tt te (own.map (·.2)) σ H Q)
  (hRR: ∀D C s' m H',Inv X pins σ H' s'→Q (.ref D) H'→s'.heap.Ns C m→dN X pins H' C→compPost (model X.prog X.w) X.A X.xe use Qf (.ref D) C (.ok .next) s'):
  wpAny (model X.prog X.w) X.A (comprehension (.ListComp elt [⟨tg,iter,ifs,0⟩] scope pos) scope X.env pos' (newList []) false (eval iter X.env) use) Qf X.xe s:=by
 have hfree: ∀y∈scope.names,y.2= .free→ ∃c,X.env.cells.lookup y.1=some c:=fun y hy e=>by
  rcases ok.free y hy e with k|k
  ·exact I.ok.has _ (.inl k)
  ·exact I.ok.has _ (.inr k)
 refine wpAny_comprehension_free (use:=use) rfl hs (BM hfree) ok.kind (fun y hy e=>by rw[ok.uniq y hy,e])
  (aw (hi pins s σ H _ I h) fun xv s1 hx=>aw hx fun itv s2 h2=>?_)
 obtain ⟨it,fp,tn,J,H2,e,I2,T,st2,f2,q⟩:=h2
 subst e
 refine wpAny_newObj_type (Cu ?_) (by show 0≤sizeLine;decide)
 generalize hD:s2.heap.objs.size=D
 have hDn:H2 D=none:=I2.ag.fresh (Nat.le_of_eq hD)
 obtain ⟨W,⟨m0,w0⟩,turn⟩:=q D hDn
 generalize hs3:({s2 with heap:=s2.heap.push {cls:= .type "list",data:= .seq ([]:List Value).toArray}}:Shared)=s3
 have I3:Inv X pins σ (upd H2 D (.lst [])) s3:=by
  rw[←hs3]
  refine I2.laid (t':=s2.toks) (fun b o e=>Heap.get?_push_of_some _ e) (Nat.le_of_eq hD) ⟨Nat.zero_le _, [],0, .nil,?_⟩
  rw[←hD]
  exact Heap.get?_push_size _ rfl
 have h3:s3.heap=s2.heap.push {cls:= .type "list",data:= .seq ([]:List Value).toArray}:=by rw[←hs3]
 have sz: ∀b∈fp,b<s2.heap.objs.size:=fun b hb=>by
  obtain ⟨o,e,_⟩:=T.obj _ _ st2 b hb
  exact Heap.lt_size e
 have f3: ∀b∈fp,dN X pins (upd H2 D (.lst [])) b∧b<s3.heap.objs.size:=fun b hb=>by
  have hlt:=sz b hb
  refine ⟨⟨?_,(f2 b hb).2⟩,by rw[h3,Heap.size_push];exact Nat.lt_succ_of_lt hlt⟩
  rw[ay (by rw[←hD];exact Nat.ne_of_lt hlt)]
  exact (f2 b hb).1
 have st3:tn 0 s3.heap:=T.keep _ _ _ st2 fun b _ o e=>by rw[h3];exact Heap.get?_push_of_some _ e
 have I4:=Cc I3 ok hN f3
 have pg:=hg s3 (upd H2 D (.lst [])) s3.heap.objs.size (cellsFrom (s3.heap.objs.size+1) scope.names (bN X.env.cells scope.names [])) fp
 have pt:=ht s3 (upd H2 D (.lst [])) s3.heap.objs.size (cellsFrom (s3.heap.objs.size+1) scope.names (bN X.env.cells scope.names [])) fp
 have pe:=he s3 (upd H2 D (.lst [])) s3.heap.objs.size (cellsFrom (s3.heap.objs.size+1) scope.names (bN X.env.cells scope.names [])) fp
 show codeAny _ _ (.compStart (.ListComp elt [⟨tg,iter,ifs,0⟩] scope pos) 0 (.ref it) (.ref D) (compEnvC scope (cellsFrom (s3.heap.objs.size+1) scope.names (bN X.env.cells scope.names [])) s3.heap.objs.size X.env)) (compPost (model X.prog X.w) X.A X.xe use Qf (.ref D) s3.heap.objs.size) {s3 with heap:=pushCells (s3.heap.push {cls:= .type "dict",data:= .dict #[]}) scope.names}
 have nfp: ∀b∈fp,(upd H2 D (.lst [])) b=none:=fun b hb=>(f3 b hb).1.1
 generalize hce:compEnvC scope (cellsFrom (s3.heap.objs.size+1) scope.names (bN X.env.cells scope.names [])) s3.heap.objs.size X.env=ce at I4 pg pt pe⊢
 have cL:ce.locals=s3.heap.objs.size:=by subst hce;rfl
 generalize hH3:upd H2 D (.lst [])=H3 at I3 I4 pg pt pe w0 nfp f3
 generalize hs4:({s3 with heap:=pushCells (s3.heap.push {cls:= .type "dict",data:= .dict #[]}) scope.names}:Shared)=s4 at I4⊢
 have st4:tn 0 s4.heap:=T.keep _ _ _ st3 fun b _ o e=>by rw[←hs4];exact pushCells_keeps _ _ _ _ (Heap.get?_push_of_some _ e)
 have stat: ∀{σ':St} {H':Hp} {s':Shared},Inv (X.a9 s3 H3 scope ce fp) [] σ' H' s'→(∀b∈fp,H' b=none)→ ∀b∈fp,dN (X.a9 s3 H3 scope ce fp) [] H' b:=fun {σ' H' s'} I' hn b hb=>
  ⟨hn b hb,(I'.ok.gM b hb).1,I'.ok.gJ b hb, .inl hb,fun x c e=>(I'.ok.gM b hb).2 x c e,fun p hp=>absurd (show p∈([]:List (Addr×Obj))++ [] from hp) (by simp)⟩
 have loop:codeAny (model X.prog X.w) X.A (.compLoop (.ListComp elt [⟨tg,iter,ifs,0⟩] scope pos) 0 (.ref it) (.ref D) ce) (compPost (model X.prog X.w) X.A X.xe use Qf (.ref D) s3.heap.objs.size) s4:=by
  refine xu (fun n s'=> ∃i H',Inv (X.a9 s3 H3 scope ce fp) [] (wipe σ (own.map (·.2))) H' s'∧tn i s'.heap∧(∀b∈fp,H' b=none)∧W i n H') ?_ m0 ⟨0,H3,I4,st4,nfp,w0⟩
  rintro n s5 ⟨i,H5,I5,st5,n5,w5⟩
  rcases turn i n H5 w5 with ⟨stop,qq⟩|⟨go,Nx,hNx,step⟩
  ·have td:=T.done (X.a9 s3 H3 scope ce fp) rfl rfl rfl hc i [] s5 _ H5 (fun _ _=>False) I5 (stat I5 n5) st5 stop
   refine gW td fun r s6 ⟨hr,I6⟩=>?_
   subst hr
   have I7:Inv X pins σ H5 s6:=I3.jx (ch:=fp) I6.os I6.base I6.ag I6.bare fun b hb=>⟨(f3 b hb).1.2.2.2.1,(f3 b hb).1.2.1,(f3 b hb).1.2.2.2.2.1,(f3 b hb).1.2.2.2.2.2⟩
   have nC:H5 s3.heap.objs.size=none:=by
    have z:H5 ce.locals=none:=I6.free
    rw[cL] at z
    exact z
   obtain ⟨m,hn,_⟩:=I6.loc
   have hn:s6.heap.Ns ce.locals m:=hn
   rw[cL] at hn
   exact hRR D s3.heap.objs.size s6 m H5 I7 qq hn (I3.gm (Nat.le_refl _) nC)
  ·have ti:=T.item (X.a9 s3 H3 scope ce fp) rfl rfl rfl hc i [] s5 _ H5 (fun _ _=>False) I5 (stat I5 n5) st5 go
   refine gW ti fun r s6 ⟨u,hr,h6⟩=>?_
   subst hr
   refine gW h6 fun _ s7 ⟨x,H7,I7,r7,y7,st7,n7⟩=>?_
   have I7':=I7.pinned (stat I7 n7) (T.obj _ _ st7)
   refine gW (pg _ s7 _ H7 x u _ I7' r7 (step x H7 y7)) fun _ s8 ⟨σ8,H8,I8,hw8,q8⟩=>?_
   refine gW (pt _ s8 σ8 H8 _ I8 q8) fun b s9 ⟨H9,I9,q9⟩=>?_
   have fin: ∀{s':Shared} {H':Hp},Inv (X.a9 s3 H3 scope ce fp) ([]++jK fp s7.heap) σ8 H' s'→Nx H'→ ∃m,m<n∧ ∃i H',Inv (X.a9 s3 H3 scope ce fp) [] (wipe σ (own.map (·.2))) H' s'∧tn i s'.heap∧(∀b∈fp,H' b=none)∧W i m H':=fun {s' H'} I' nx=>by
    obtain ⟨m',hm,w'⟩:=hNx H' nx
    have pin': ∀b∈fp,∀o,s7.heap.get? b=some o→s'.heap.get? b=some o∧H' b=none:=fun b hb o e=>
     let z:=I'.pin (b,o) (List.mem_append_right _ (List.mem_append_right _ (sN hb e)))
     ⟨z.1,z.2.1⟩
    have hl:(wipe σ (own.map (·.2))).length=σ8.length:=by rw[←hw8,qw]
    refine ⟨m',hm,i+1,H',(I'.mi (pins:= [])).weak hl (fun j v e=>?_),T.keep _ _ _ st7 fun b hb o e=>(pin' b hb o e).1,fun b hb=>?_,w'⟩
    ·rw[←hw8] at e
     exact (qD e).1
    ·obtain ⟨o,e,_⟩:=T.obj _ _ st7 b hb
     exact (pin' b hb o e).2
   cases b with
   |false=>
    simp only [Bool.false_eq_true,if_false] at q9⊢
    exact fin I9 q9
   |true=>
    simp only [if_true] at q9⊢
    refine gW (pe _ s9 σ8 H9 _ I9 q9) fun z s10 ⟨yv,H10,I10,r10,acc,hD10,hz10,nx⟩=>?_
    exact BW (X:=X.a9 s3 H3 scope ce fp) I10 hD10 hz10 r10 fun s11 I11=>fin I11 nx
 exact codeAny_compStart_list loop (T.self X.A 0 _ _ _ st4 loop)
theorem dB {elt tg iter:Expr} {ifs:List Expr} {scope:Scope} {own:List (Str×Nat)} {pos:Pos} {wi:TI} {g:TG} {tt:TT} {te:TE} (hc:X.calm=true) (hN:X.N.Nodup) (hi:PI X tg iter wi) (ok:iE X.N X.env.scope scope own)
  (hg: ∀(s:Shared) (H:Hp) (C:Addr) (cl:List (Str×Addr)) (fp:List Addr),PG (X.a9 s H scope (compEnvC scope cl C X.env) fp) tg g) (ht: ∀(s:Shared) (H:Hp) (C:Addr) (cl:List (Str×Addr)) (fp:List Addr),iA (X.a9 s H scope (compEnvC scope cl C X.env) fp) ifs tt)
  (he: ∀(s:Shared) (H:Hp) (C:Addr) (cl:List (Str×Addr)) (fp:List Addr),PE (X.a9 s H scope (compEnvC scope cl C X.env) fp) elt te) (hs: ∀x,foldedSetIterable iter X.env x=pure x:=by intro _;rfl):
  PE X (.ListComp elt [⟨tg,iter,ifs,0⟩] scope pos) (gQ wi g tt te (own.map (·.2))):=by
 intro pins s σ H Q I h
 rw[eval_ListComp]
 refine As hc hN I hi ok hg ht he hs h fun D C s' m H' I' q hn f=>⟨m,hn,fun h'' sb=>?_⟩
 obtain ⟨f0,f1,f2,f3,f4,f5⟩:=f
 exact ⟨.ref D,H',I'.turned (t':=s'.toks) (fun b o hb e=>(sb.2 b hb).trans e) f0 f1 f3 f4 f5,rfl,q⟩
theorem mj {i:Nat} {y:Str} {py:Pos} {elt tg iter:Expr} {ifs:List Expr} {scope:Scope} {own:List (Str×Nat)} {pos spos:Pos} {wi:TI} {g:TG} {tt:TT} {te:TE} (hc:X.calm=true) (hN:X.N.Nodup) (hy:X.N[i]?=some y) (hyl:X.env.scope.names.lookup y=some .local)
  (hsw:swapsWith (.ListComp elt [⟨tg,iter,ifs,0⟩] scope pos) (some (.Name y py)) spos.line X.env=pure true) (hi:PI X tg iter wi) (ok:iE X.N X.env.scope scope own)
  (hg: ∀(s:Shared) (H:Hp) (C:Addr) (cl:List (Str×Addr)) (fp:List Addr),PG (X.a9 s H scope (compEnvC scope cl C X.env) fp) tg g) (ht: ∀(s:Shared) (H:Hp) (C:Addr) (cl:List (Str×Addr)) (fp:List Addr),iA (X.a9 s H scope (compEnvC scope cl C X.env) fp) ifs tt)
  (he: ∀(s:Shared) (H:Hp) (C:Addr) (cl:List (Str×Addr)) (fp:List Addr),PE (X.a9 s H scope (compEnvC scope cl C X.env) fp) elt te) (hs: ∀x,foldedSetIterable iter X.env x=pure x:=by intro _;rfl):
  PS X (.Assign [.Name y py] (.ListComp elt [⟨tg,iter,ifs,0⟩] scope pos) spos) (pY (gQ wi g tt te (own.map (·.2))) (iX i)):=by
 intro pins s σ H D I h
 rw[exec_Assign_Name_used _ _ _ _ hsw]
 refine wpAny_bind (wpAny_standAt (wpAny_bind ?_))
 show wpAny _ X.A (do let _←comprehension (.ListComp elt [⟨tg,iter,ifs,0⟩] scope pos) scope X.env (firstIterPos [⟨tg,iter,ifs,0⟩] pos) (newList []) false (eval iter X.env) (some (assign (.Name y py) X.env))) _ _ s
 have h:gQ wi g tt te (own.map (·.2)) σ H (fun x H1=>iX i x σ H1 D.nx):=h
 refine wpAny_bind (aw (As (Qf:=fun _ s'=>SP X pins D .next s') hc hN I hi ok hg ht he hs h fun L C s' m H' I' q hn f=>?_) fun _ s' hq=>wpAny_pure (wpAny_pure hq))
 show wpAny _ _ (assign (.Name y py) X.env (.ref L)) _ _ _
 refine wpAny_assign_Name (tJ (v:=V.ref L) I' hN hy (.inl hyl) rfl (fun s2 I2 ⟨a,sb,ha⟩=>?_) (.inr hyl))
 obtain ⟨f0,f1,f2,f3,f4,f5⟩:=f
 have haC:C≠a:=by
  rcases ha with z|z
  ·rw[z];exact f1
  ·exact fun e=>f4 y a z e.symm
 refine ⟨m,hn.sameBut sb haC,fun h3 sb3=>?_⟩
 exact ⟨_,H',I2.turned (t':=s2.toks) (fun b o hb e=>(sb3.2 b hb).trans e) f0 f1 f3 f4 f5,q⟩
end
def Bf (N:List Str) (sc scope:Scope) (own:List (Str×Nat)):Bool:=
 (match scope.kind with| .function=>true|_=>false)&&(scope.names.all fun y=>decide (scope.names.lookup y.1=some y.2))&&(own.all fun p=>decide (N[p.2]?=some p.1))&&
  (scope.names.all fun y=>match y.2 with
   | .free=>(match sc.names.lookup y.1 with|some .cell=>true|some .free=>true|_=>false)
   | .local=>decide (y.1∈own.map (·.1))||decide (y.1∉N)
   | .cell=>decide (y.1∈own.map (·.1))||decide (y.1∉N)
   |_=>true)
theorem cv {N:List Str} {sc scope:Scope} {own:List (Str×Nat)} (h:Bf N sc scope own=true):iE N sc scope own:=by
 unfold Bf at h
 simp only [Bool.and_eq_true,List.all_eq_true,decide_eq_true_eq] at h
 obtain ⟨⟨⟨h1,h2⟩,h3⟩,h4⟩:=h
 refine ⟨?_,h2,h3,fun y hy e=>?_,fun y hy e=>?_⟩
 ·split at h1
  ·assumption
  ·cases h1
 ·have q:=h4 y hy
  simp only [e] at q
  split at q<;>first|exact .inl (by assumption)|exact .inr (by assumption)|cases q
 ·have q:=h4 y hy
  rcases e with e|e<;>(simp only [e,Bool.or_eq_true,decide_eq_true_eq] at q;exact q)
end L2
namespace L2
open PySem PySem.Spec PyProof.Rows
section
variable {prog:Program} {w:World} {A:Around} {R:Result→Shared→Prop} {s:Shared} {elt t0 i0 t1 i1:Expr} {ifs0 ifs1:List Expr} {scope:Scope} {pos:Pos} {it acc:Value} {env:Env}
end
section
variable {X:Cx}
end
end L2
namespace L2
open PySem PySem.Spec PyProof.Rows
section
variable {κ:Type} [DecidableEq κ]
def cI (kvs:List (κ×V)) (k:κ):Option V:=(kvs.find? fun kv=>decide (kv.1=k)).map (·.2)
def putK (kvs:List (κ×V)) (k:κ) (v:V):List (κ×V):=
 if (kvs.any fun kv=>decide (kv.1=k))=true then kvs.map (fun kv=>if kv.1=k then (kv.1,v) else kv) else kvs++ [(k,v)]
theorem qb {p:κ×V} {r:List (κ×V)} {k:κ} (e:p.1=k):cI (p::r) k=some p.2:=by simp [cI,List.find?_cons,e]
theorem qo {p:κ×V} {r:List (κ×V)} {k:κ} (e: ¬p.1=k):cI (p::r) k=cI r k:=by simp [cI,List.find?_cons,e]
theorem wW (k:κ): ∀kvs:List (κ×V),(kvs.any fun kv=>decide (kv.1=k))=(cI kvs k).isSome
 | []=>rfl
 |p::r=>by
  rw[List.any_cons]
  by_cases e:p.1=k
  ·simp only [qb e,decide_eq_true e,Bool.true_or,Option.isSome_some]
  ·rw[qo e,decide_eq_false e,Bool.false_or];exact wW k r
theorem AQ (kvs:List (κ×V)) (k:κ) (v:V):(putK kvs k v).length≤kvs.length+1:=by
 unfold putK
 split
 ·rw[List.length_map];lia
 ·rw[List.length_append,List.length_cons,List.length_nil];lia
theorem vS {kvs:List (κ×V)} {k:κ} (v:V) (h:cI kvs k=none):putK kvs k v=kvs++ [(k,v)]:=by
 unfold putK
 rw[wW,h]
 exact if_neg (by decide)
theorem cB.oh {o:Option V} {u:Option Value} (r:cB o u):o.isSome=u.isSome:=by
 cases o with
 |none=>cases u with
  |none=>rfl
  |some _=>exact (show False from r).elim
 |some _=>cases u with
  |none=>exact (show False from r).elim
  |some _=>rfl
theorem cB.getD {o:Option V} {u:Option Value} {d:V} {d':Value} (r:cB o u) (rd:RelV d d'):RelV (o.getD d) (u.getD d'):=by
 cases o with
 |none=>cases u with
  |none=>exact rd
  |some _=>exact (show False from r).elim
 |some _=>cases u with
  |none=>exact (show False from r).elim
  |some _=>exact r
theorem KV.val {kvs:List (κ×V)} {vs:List (κ×Value)} (r:KV kvs vs) (k:κ):cB (cI kvs k) (valueAt vs k):=by
 unfold KV at r
 induction r with
 |nil=>exact True.intro
 | @cons p q ps qs h t ih=>
  obtain ⟨h1,h2⟩:=h
  by_cases e:p.1=k
  ·have e':q.1=k:=h1.symm.trans e
   have b:valueAt (q::qs) k=some q.2:=by simp [valueAt,List.find?_cons,e']
   rw[qb e,b];exact h2
  ·have e': ¬q.1=k:=fun z=>e (h1.trans z)
   have b:valueAt (q::qs) k=valueAt qs k:=by simp [valueAt,List.find?_cons,e']
   rw[qo e,b];exact ih
theorem KV.any {kvs:List (κ×V)} {vs:List (κ×Value)} (r:KV kvs vs) (k:κ):(kvs.any fun kv=>decide (kv.1=k))=vs.any fun kv=>decide (kv.1=k):=by
 unfold KV at r
 induction r with
 |nil=>rfl
 |cons h t ih=>rw[List.any_cons,List.any_cons,ih,h.1]
theorem KV.ue {kvs:List (κ×V)} {vs:List (κ×Value)} (r:KV kvs vs) (k:κ) {y:V} {u:Value} (ry:RelV y u):
  KV (kvs.map fun kv=>if kv.1=k then (kv.1,y) else kv) (vs.map fun kv=>if kv.1=k then (kv.1,u) else kv):=by
 unfold KV at r⊢
 induction r with
 |nil=>exact .nil
 | @cons p q ps qs h t ih=>
  rw[List.map_cons,List.map_cons]
  refine .cons ?_ ih
  obtain ⟨h1,h2⟩:=h
  by_cases e:p.1=k
  ·rw[if_pos e,if_pos (h1.symm.trans e)];exact ⟨h1,ry⟩
  ·rw[if_neg e,if_neg (fun z=>e (h1.trans z))];exact ⟨h1,h2⟩
theorem KV.put {kvs:List (κ×V)} {vs:List (κ×Value)} (r:KV kvs vs) (k:κ) {y:V} {u:Value} (ry:RelV y u):KV (putK kvs k y) (stored vs k u):=by
 unfold putK stored
 rw[r.any k]
 by_cases e:(vs.any fun kv=>decide (kv.1=k))=true
 ·rw[if_pos e,if_pos e];exact r.ue k ry
 ·rw[if_neg e,if_neg e];exact Paired.snoc r ⟨rfl,ry⟩
theorem KV.length {kvs:List (κ×V)} {vs:List (κ×Value)} (r:KV kvs vs):kvs.length=vs.length:=Paired.length r
end
theorem jf {P:Program} {w:World} {k:Key} {u:Value} (r:RelV (kV k) u):(cW P w).is k u=true:=by
 cases k with
 |inl i=>obtain ⟨t,e⟩:=(show∃t,u=Value.int i t from r);subst e;exact KJ P w i t
 |inr x=>obtain ⟨t,e⟩:=(show∃t,u=Value.str x t from r);subst e;exact EO P w x t
theorem yV {a b:Key} (e:kV a=kV b):a=b:=by
 cases a with
 |inl i=>cases b with
  |inl j=>have e':V.int i=V.int j:=e;injection e' with e';rw[e']
  |inr y=>exact nomatch (show V.int i=V.str y from e)
 |inr x=>cases b with
  |inl j=>exact nomatch (show V.str x=V.int j from e)
  |inr y=>have e':V.str x=V.str y:=e;injection e' with e';rw[e']
theorem AW: ∀{a b:List Key},a.map kV=b.map kV→a=b
 | [], [],_=>rfl
 | [],_::_,e=>by simp at e
 |_::_, [],e=>by simp at e
 |x::xs,y::ys,e=>by
  rw[List.map_cons,List.map_cons] at e
  injection e with e1 e2
  rw[yV e1,AW e2]
theorem Bg {P:Program} {w:World}: ∀{ks:List Key} {us:List Value},Vals (ks.map kV) us→ItemsAre (cW P w) ks us
 | [],_,r=>by rw[List.map_nil] at r;cases r;exact .nil
 |k::ks,_,r=>by
  rw[List.map_cons] at r
  cases r with
  |cons h t=>exact .cons (jf h) (Bg t)
abbrev KT (H:Hp):List (List Key×V)→List (List Key×Addr×Value)→Prop:=Paired fun p q=>p.1=q.1∧H q.2.1=some (.tup (p.1.map kV))∧RelV p.2 q.2.2
theorem KT.val {H:Hp} {kvs:List (List Key×V)} {xs:List (List Key×Addr×Value)} (r:KT H kvs xs) (k:List Key):cB (cI kvs k) ((atKey xs k).map (·.2)):=by
 induction r with
 |nil=>exact True.intro
 | @cons p q ps qs h t ih=>
  obtain ⟨h1,_,h2⟩:=h
  by_cases e:p.1=k
  ·have e':q.1=k:=h1.symm.trans e
   have b:atKey (q::qs) k=some q.2:=by simp [atKey,List.find?_cons,e']
   rw[qb e,b];exact h2
  ·have e': ¬q.1=k:=fun z=>e (h1.trans z)
   have b:atKey (q::qs) k=atKey qs k:=by simp [atKey,List.find?_cons,e']
   rw[qo e,b];exact ih
theorem KT.ue {H:Hp} {kvs:List (List Key×V)} {xs:List (List Key×Addr×Value)} (r:KT H kvs xs) (k:List Key) {y:V} {u:Value} (ry:RelV y u):
  KT H (kvs.map fun kv=>if kv.1=k then (kv.1,y) else kv) (xs.map (putAt k u)):=by
 induction r with
 |nil=>exact .nil
 | @cons p q ps qs h t ih=>
  rw[List.map_cons,List.map_cons]
  refine .cons ?_ ih
  obtain ⟨h1,h2,h3⟩:=h
  unfold putAt
  by_cases e:p.1=k
  ·rw[if_pos e,if_pos (h1.symm.trans e)];exact ⟨h1,h2,ry⟩
  ·rw[if_neg e,if_neg (fun z=>e (h1.trans z))];exact ⟨h1,h2,h3⟩
theorem KT.put {H:Hp} {kvs:List (List Key×V)} {xs:List (List Key×Addr×Value)} (r:KT H kvs xs) (k:List Key) {b:Addr} {y:V} {u:Value} (hb:H b=some (.tup (k.map kV))) (ry:RelV y u):
  KT H (putK kvs k y) (storedH xs k b u):=by
 have e:(kvs.any fun kv=>decide (kv.1=k))=(atKey xs k).isSome:=by
  rw[wW,(r.val k).oh,Option.isSome_map]
 unfold putK storedH
 rw[e]
 by_cases q:(atKey xs k).isSome=true
 ·rw[if_pos q,if_pos q];exact r.ue k ry
 ·rw[if_neg q,if_neg q];exact Paired.snoc r ⟨rfl,hb,ry⟩
theorem KT.keeps {H H':Hp} {kvs:List (List Key×V)} {xs:List (List Key×Addr×Value)} (r:KT H kvs xs) (ht: ∀b ys,H b=some (.tup ys)→H' b=some (.tup ys)):KT H' kvs xs:=
 Paired.vw r fun _ _ z=>⟨z.1,ht _ _ z.2.1,z.2.2⟩
section
variable {P:Program} {w:World} {H:Hp} {h:Heap} {a:Addr}
theorem xn {u:HO} (ok:bh P w H h) (e:Rd H a u):bJ P w H h a u:=e.ok ok
theorem iH {kvs:List (Key×V)} (ok:bh P w H h) (e:Rd H a (.dK kvs)):kvs.length≤sizeLine∧(a==sysModules)=false∧ ∃vs,KV kvs vs∧h.DictOf (cW P w) a vs:=
 show bJ P w H h a (.dK kvs) from xn ok e
theorem Mz {kvs:List (Key×V)} (ok:bh P w H h) (e:H a=some (.dK kvs)):kvs.length≤sizeLine∧(a==sysModules)=false∧ ∃vs,KV kvs vs∧h.DictOf (cW P w) a vs:=iH ok (.inl e)
theorem jg {ks:List Key} (ok:bh P w H h) (e:H a=some (.tup (ks.map kV))):(tupleKind (cW P w)).is h ks a:=by
 obtain ⟨_,its,r,o,h1,h2,n,h3⟩:=(show bJ P w H h a (.tup (ks.map kV)) from ok a _ e)
 exact ⟨o,its.toArray,n,h1,h2,h3,by simpa using Bg r⟩
theorem iL {kvs:List (List Key×V)} (ok:bh P w H h) (e:Rd H a (.dT kvs)):kvs.length≤sizeLine∧(a==sysModules)=false∧
  ∃xs,KT H kvs xs∧h.DictOfH (tupleKind (cW P w)) a xs:=by
 obtain ⟨z,y,xs,r,o,es,ep,h1,h2,h3,h4,h5⟩:=(show bJ P w H h a (.dT kvs) from xn ok e)
 refine ⟨z,y,xs,r,o,es,ep,h1,h2,h3,h4,fun x hx=>?_,h5⟩
 have all: ∀{l:List (List Key×V)} {m:List (List Key×Addr×Value)},KT H l m→ ∀x∈m,(tupleKind (cW P w)).is h x.1 x.2.1:=by
  intro l m q
  induction q with
  |nil=>intro x hx;exact nomatch hx
  | @cons p q ps qs hq t ih=>
   intro x hx
   rcases List.mem_cons.mp hx with e|hx
   ·subst e
    exact jg ok (by rw[←hq.1];exact hq.2.1)
   ·exact ih x hx
 exact all r x hx
theorem Qc {kvs:List (List Key×V)} (ok:bh P w H h) (e:H a=some (.dT kvs)):kvs.length≤sizeLine∧(a==sysModules)=false∧
  ∃xs,KT H kvs xs∧h.DictOfH (tupleKind (cW P w)) a xs:=iL ok (.inl e)
end
def cg (H:Hp) (a:Addr) (y:V) (r:Option V):Prop:=
 (∃kvs k,Rd H a (.dK kvs)∧y=kV k∧r=cI kvs k)∨ ∃kvs k b,Rd H a (.dT kvs)∧y= .ref b∧H b=some (.tup (k.map kV))∧r=cI kvs k
def iB (H:Hp) (a:Addr) (y v:V) (H':Hp):Prop:=
 (∃kvs k,H a=some (.dK kvs)∧y=kV k∧kvs.length<sizeLine∧H'=upd H a (.dK (putK kvs k v)))∨
 ∃kvs k b,H a=some (.dT kvs)∧y= .ref b∧H b=some (.tup (k.map kV))∧kvs.length<sizeLine∧H'=upd H a (.dT (putK kvs k v))
theorem cg.k {H:Hp} {a:Addr} {kvs:List (Key×V)} {k:Key} (e:H a=some (.dK kvs)):cg H a (kV k) (cI kvs k):= .inl ⟨kvs,k, .inl e,rfl,rfl⟩
theorem cg.t {H:Hp} {a b:Addr} {kvs:List (List Key×V)} {k:List Key} (e:H a=some (.dT kvs)) (eb:H b=some (.tup (k.map kV))):cg H a (.ref b) (cI kvs k):= .inr ⟨kvs,k,b, .inl e,rfl,eb,rfl⟩
theorem iB.k {H:Hp} {a:Addr} {kvs:List (Key×V)} {k:Key} {v:V} (e:H a=some (.dK kvs)) (hl:kvs.length<sizeLine):iB H a (kV k) v (upd H a (.dK (putK kvs k v))):= .inl ⟨kvs,k,e,rfl,hl,rfl⟩
theorem iB.t {H:Hp} {a b:Addr} {kvs:List (List Key×V)} {k:List Key} {v:V} (e:H a=some (.dT kvs)) (eb:H b=some (.tup (k.map kV))) (hl:kvs.length<sizeLine):
  iB H a (.ref b) v (upd H a (.dT (putK kvs k v))):= .inr ⟨kvs,k,b,e,rfl,eb,hl,rfl⟩
section
variable {X:Cx} {pins:List (Addr×Obj)} {σ:St} {H:Hp} {s:Shared} {a:Addr} {y v:V} {u r:Value} {o:Option V} {A:Around} {E:Value→Shared→Prop}
theorem Inv.big (I:Inv X pins σ H s):sysModules<s.heap.objs.size:=by
 have h:mainGlobals<s.heap.objs.size:=(I.mod.glob.keeps I.bk).lt
 exact Nat.lt_trans (by decide) h
theorem Nc {Q:Value→Shared→Prop} (hu:A.units+1<cLine) (I:Inv X pins σ H s) (g:cg H a y (some v)) (ry:RelV y u) (h: ∀w' s',Inv X pins σ H s'→RelV v w'→Q w' s'):
  wpAny (model X.prog X.w) A (getItem (.ref a) u) Q E s:=by
 rcases g with ⟨kvs,k,e,ey,l⟩|⟨kvs,k,b,e,ey,eb,l⟩
 ·subst ey
  obtain ⟨z,hd,vs,rel,dd⟩:=iH I.ag e
  obtain ⟨w',hw,rw'⟩:=cB.some_of (v:=v) (o:=valueAt vs k) (by rw[l];exact rel.val k)
  exact wpAny_getItem_of (jf ry) dd.mapOf hw (h w' _ (I.tok _) rw')
 ·subst ey
  cases (show u=Value.ref b from ry)
  obtain ⟨z,hd,xs,rel,dd⟩:=iL I.ag e
  obtain ⟨w',hw,rw'⟩:=cB.some_of (v:=v) (o:=(atKey xs k).map (·.2)) (by rw[l];exact rel.val k)
  obtain ⟨p,hp,hp2⟩:=Option.map_eq_some_iff.mp hw
  refine wpAny_getItem_heap (tupleKind_room_in1 hu) (jg I.ag eb) dd hp ?_
  rw[hp2]
  exact h w' _ (I.tok _) rw'
theorem EL {Q:Value→Shared→Prop} (hu:A.units+1<cLine) (I:Inv X pins σ H s) (g:cg H a y o) (ry:RelV y u) (h: ∀s',Inv X pins σ H s'→Q (.bool o.isSome) s'):
  wpAny (model X.prog X.w) A (compareOp .In u (.ref a)) Q E s:=by
 rcases g with ⟨kvs,k,e,ey,l⟩|⟨kvs,k,b,e,ey,eb,l⟩
 ·subst ey
  obtain ⟨z,hd,vs,rel,dd⟩:=iH I.ag e
  refine wpAny_in_of (jf ry) hd dd.mapOf ?_
  rw[←(rel.val k).oh,←l]
  exact h _ (I.tok _)
 ·subst ey
  cases (show u=Value.ref b from ry)
  obtain ⟨z,hd,xs,rel,dd⟩:=iL I.ag e
  refine wpAny_in_heap (tupleKind_room_in1 hu) (jg I.ag eb) hd dd ?_
  have q:=(rel.val k).oh
  rw[Option.isSome_map] at q
  rw[←q,←l]
  exact h _ (I.tok _)
theorem Jv {Q:Value→Shared→Prop} (hu:A.units+1<cLine) (I:Inv X pins σ H s) (g:cg H a y o) (ry:RelV y u) (h: ∀s',Inv X pins σ H s'→Q (.bool (!o.isSome)) s'):
  wpAny (model X.prog X.w) A (compareOp .NotIn u (.ref a)) Q E s:=by
 rcases g with ⟨kvs,k,e,ey,l⟩|⟨kvs,k,b,e,ey,eb,l⟩
 ·subst ey
  obtain ⟨z,hd,vs,rel,dd⟩:=iH I.ag e
  refine wpAny_notIn_of (jf ry) hd dd.mapOf ?_
  rw[←(rel.val k).oh,←l]
  exact h _ (I.tok _)
 ·subst ey
  cases (show u=Value.ref b from ry)
  obtain ⟨z,hd,xs,rel,dd⟩:=iL I.ag e
  refine wpAny_notIn_heap (tupleKind_room_in1 hu) (jg I.ag eb) hd dd ?_
  have q:=(rel.val k).oh
  rw[Option.isSome_map] at q
  rw[←q,←l]
  exact h _ (I.tok _)
theorem BS {h':Heap} {t':Nat} {ob:HO} (I:Inv X pins σ H s) (mu:l9 (H a)) (hs:Heap.SameBut a s.heap h') (he: ∃q,h'.get? a=some q) (new:bJ X.prog X.w (upd H a ob) h' a ob):
  Inv X pins σ (upd H a ob) {s with heap:=h',toks:=t'}:=
 I.write (x:=a) (e:=a) mu (.inl rfl) (fun b q hb z=>(hs.2 b hb).trans z) he new
theorem EI {P:Program} {w:World} {H':Hp} {h':Heap} {kvs:List (Key×V)} {vs:List (Key×Value)} (z:kvs.length≤sizeLine) (hd:(a==sysModules)=false) (rel:KV kvs vs) (dd:h'.DictOf (cW P w) a vs):
  bJ P w H' h' a (.dK kvs):=⟨z,hd,vs,rel,dd⟩
end
section
variable {X:Cx} {pins:List (Addr×Obj)} {σ:St} {H:Hp} {s:Shared} {a:Addr} {kvs:List (Key×V)} {k:Key} {u:Value} {A:Around} {E:Value→Shared→Prop}
end
def yb (i:Expr):Prop:= ∀ov iv,subscripted i false ov iv=operate [ov,iv] (getItem ov iv)
theorem Gx {prog:Program} {w:World} {A:Around} {E:Value→Shared→Prop} {s:Shared} {env:Env} {value slice:Expr} {pos:Pos} {T id:String} {Q:Value→Shared→Prop}
  (hl:typeLookup (.type T) "__getitem__" =pure (some (.builtin id))) (hs:yb slice)
  (h:wpAny (model prog w) A (eval value env) (fun o s₁=>wpAny (model prog w) A (eval slice env) (fun i s₂=>s₂.TypeIs o T∧wpAny (model prog w) A (getItem o i) Q E s₂) E s₁) E s):
  wpAny (model prog w) A (eval (.Subscript value slice pos) env) Q E s:=by
 refine Subscript_ (wpAny_mono h (fun o s₁ h₁=>wpAny_mono h₁ (fun i s₂ h₂=>?_) fun _ _ x=>x) fun _ _ x=>x)
 obtain ⟨hT,h₂⟩:=h₂
 unfold subscriptTail
 refine wpAny_bind ?_
 rw[getitemInPython_of_ne hT.not_modules]
 refine wpAny_bind (wpAny_specialOf hT hl ?_)
 have fin:wpAny (model prog w) A (subscripted slice false o i) (fun r s₃=>wpAny (model prog w) A (letTemporaryGo value o r>>=fun _=>pure r) Q E s₃) E s₂:=by
  rw[hs o i]
  exact wpAny_operating (wpAny_mono h₂ (fun r s₃ h₃=>wpAny_bind (wpAny_letTemporaryGo (wpAny_pure h₃))) fun _ _ x=>x)
 first
  |exact wpAny_pure (wpAny_bind fin)
  |exact wpAny_bind (wpAny_pure (wpAny_bind fin))
  |exact wpAny_bind fin
theorem Qh {X:Cx} {pins:List (Addr×Obj)} {σ:St} {H:Hp} {s:Shared} {a:Addr} {y:V} {o:Option V} (I:Inv X pins σ H s) (g:cg H a y o):s.TypeIs (.ref a) "dict" :=by
 rcases g with ⟨kvs,k,e,_,_⟩|⟨kvs,k,b,e,_,_,_⟩
 ·obtain ⟨_,_,vs,_,dd⟩:=iH I.ag e
  exact dd.typeIs
 ·obtain ⟨_,_,xs,_,dd⟩:=iL I.ag e
  exact dd.typeIs
def G7 (td ty:TE):TE:=fun σ H Q=>td σ H fun x H1=>ty σ H1 fun y H2=> ∃a v,x= .ref a∧cg H2 a y (some v)∧Q v H2
def MH (ty td:TE):TE:=fun σ H Q=>ty σ H fun y H1=>td σ H1 fun x H2=> ∃a o,x= .ref a∧cg H2 a y o∧Q (.bl o.isSome) H2
def NR (ty td:TE):TE:=fun σ H Q=>ty σ H fun y H1=>td σ H1 fun x H2=> ∃a o,x= .ref a∧cg H2 a y o∧Q (.bl (!o.isSome)) H2
section
variable {X:Cx} {o i e value:Expr} {pos pos' tpos:Pos} {td ty tv:TE}
theorem Ep (hu:X.A.units+1<cLine) (ho:PE X o td) (hi:PE X i ty) (hs:yb i):PE X (.Subscript o i pos) (G7 td ty):=by
 intro pins s σ H Q I h
 refine Gx PySem.F.slot_dict_getitem.lookup hs (aw (ho pins s σ H _ I h) fun u s1 ⟨x,H1,I1,rx,q1⟩=>aw (hi pins s1 σ H1 _ I1 q1) fun iv s2 ⟨y,H2,I2,ry,a,v,ex,g,q2⟩=>?_)
 subst ex
 obtain rfl:u=Value.ref a:=rx
 exact ⟨Qh I2 g,Nc hu I2 g ry fun w' s3 I3 rw'=>⟨v,H2,I3,rw',q2⟩⟩
theorem Et (hu:X.A.units+1<cLine) (hi:PE X i ty) (ho:PE X o td):PC X .In i o (MH ty td):=by
 intro pins s σ H Q I h
 refine aw (hi pins s σ H _ I h) fun iv s1 ⟨y,H1,I1,ry,q1⟩=>aw (ho pins s1 σ H1 _ I1 q1) fun u s2 ⟨x,H2,I2,rx,a,ov,ex,g,q2⟩=>?_
 subst ex
 obtain rfl:u=Value.ref a:=rx
 exact EL hu I2 g ry fun s3 I3=>⟨.bl ov.isSome,H2,I3,rfl,q2⟩
theorem zT (hu:X.A.units+1<cLine) (hi:PE X i ty) (ho:PE X o td):PC X .NotIn i o (NR ty td):=by
 intro pins s σ H Q I h
 refine aw (hi pins s σ H _ I h) fun iv s1 ⟨y,H1,I1,ry,q1⟩=>aw (ho pins s1 σ H1 _ I1 q1) fun u s2 ⟨x,H2,I2,rx,a,ov,ex,g,q2⟩=>?_
 subst ex
 obtain rfl:u=Value.ref a:=rx
 exact Jv hu I2 g ry fun s3 I3=>⟨.bl (!ov.isSome),H2,I3,rfl,q2⟩
end
theorem Qy {P:Program} {w:World} {H:Hp} (h:Heap) (hb:sysModules<h.objs.size):bJ P w H (h.push {cls:= .type "dict",data:= .dict #[]}) h.objs.size (.dK []):=
 ⟨Nat.zero_le _,beq_eq_false_iff_ne.mpr (Ne.symm (Nat.ne_of_lt hb)), [], .nil,Heap.DictOf.new h⟩
theorem E5 {P:Program} {w:World} {H:Hp} (h:Heap) (hb:sysModules<h.objs.size):bJ P w H (h.push {cls:= .type "dict",data:= .dict #[]}) h.objs.size (.dT []):=
 ⟨Nat.zero_le _,beq_eq_false_iff_ne.mpr (Ne.symm (Nat.ne_of_lt hb)), [], .nil,_, #[],0,Heap.get?_push_size _ rfl,⟨rfl,rfl,rfl⟩,rfl,rfl,List.nodup_nil⟩
def NX:TE:=fun _ H Q=> ∀p,H p=none→Q (.ref p) (upd H p (.dK []))
def Mi:TE:=fun _ H Q=> ∀p,H p=none→Q (.ref p) (upd H p (.dT []))
section
variable {X:Cx} {pos:Pos}
theorem zq:PE X (.Dict [] [] pos) NX:=fun pins s σ H Q I h=>
 wpAny_Dict_empty ⟨.ref s.heap.objs.size,_,I.laid (a:=s.heap.objs.size) (o:= .dK []) (t':=s.toks) (fun _ _ q=>Heap.get?_push_of_some _ q) (Nat.le_refl _) (Qy s.heap I.big),rfl,h _ (I.ag.fresh (Nat.le_refl _))⟩
theorem Ph:PE X (.Dict [] [] pos) Mi:=fun pins s σ H Q I h=>
 wpAny_Dict_empty ⟨.ref s.heap.objs.size,_,I.laid (a:=s.heap.objs.size) (o:= .dT []) (t':=s.toks) (fun _ _ q=>Heap.get?_push_of_some _ q) (Nat.le_refl _) (E5 s.heap I.big),rfl,h _ (I.ag.fresh (Nat.le_refl _))⟩
end
structure M2 (X:Cx) (o:Expr) (m:Str) (apos:Pos) (e f:Expr) (cpos:Pos):Prop where
 base:attributeBase o m X.env (eval o X.env)=eval o X.env
 xP:((backTo cpos (starEach [e,f] X.env)).all (fun x=>!x.1)&&(backToKw cpos (keywordEach [] X.env)).all (fun x=>x.1.isSome)
  &&decide (([e,f]:List Expr).length+([]:List Keyword).length+(if ([]:List Keyword).isEmpty then 0 else 1)<30))=true
 line:(apos.endLine==cpos.line)=true
 trees:backTo cpos (starEach [e,f] X.env)= [(false,eval e X.env),(false,eval f X.env)]
def uB (H:Hp) (a:Addr):Prop:=(∃kvs,Rd H a (.dK kvs))∨ ∃kvs,Rd H a (.dT kvs)
theorem x8 {X:Cx} {pins:List (Addr×Obj)} {σ:St} {H:Hp} {s:Shared} {a:Addr} (I:Inv X pins σ H s) (d:uB H a):
  s.TypeIs (.ref a) "dict" ∧(∀b,Value.ref a= .ref b→ ∃ob,s.heap.get? b=some ob∧ob.dict=none)∧(a==sysModules)=false:=by
 rcases d with ⟨kvs,e⟩|⟨kvs,e⟩
 ·obtain ⟨_,hd,vs,_,dd⟩:=iH I.ag e
  refine ⟨dd.typeIs,fun b q=>?_,hd⟩
  cases q
  obtain ⟨ob,_,_,h1,h2,_⟩:=dd
  exact ⟨ob,h1,h2.2.1⟩
 ·obtain ⟨_,hd,xs,_,dd⟩:=iL I.ag e
  refine ⟨dd.typeIs,fun b q=>?_,hd⟩
  cases q
  obtain ⟨ob,_,_,h1,h2,_⟩:=dd
  exact ⟨ob,h1,h2.2.1⟩
section
variable {X:Cx} {pins:List (Addr×Obj)} {σ:St} {H:Hp} {s:Shared} {a:Addr} {y d:V} {u r:Value} {o:Option V} {A:Around} {E:Value→Shared→Prop}
theorem Ey {Q:Value→Shared→Prop} (hu:A.units+1<cLine) (I:Inv X pins σ H s) (g:cg H a y o) (ry:RelV y u) (rd:RelV d r) (h: ∀w' s',Inv X pins σ H s'→RelV (o.getD d) w'→Q w' s'):
  wpAny (model X.prog X.w) A (call (.builtin "dict.get") [.ref a,u,r]) Q E s:=by
 rcases g with ⟨kvs,k,e,ey,l⟩|⟨kvs,k,b,e,ey,eb,l⟩
 ·subst ey
  obtain ⟨z,hd,vs,rel,dd⟩:=iH I.ag e
  refine call_meetsIn PySem.F.slot_dict_get dd.typeIs PySem.F.entry_dict_get (PySem.F.args_dict_get_3 _ _ _) (meets_dict_get_default (cW X.prog X.w) a (jf ry) hd r) ⟨_,dd.mapOf,h _ _ (I.tok _) ?_⟩
  rw[l]
  exact (rel.val k).getD rd
 ·subst ey
  cases (show u=Value.ref b from ry)
  obtain ⟨z,hd,xs,rel,dd⟩:=iL I.ag e
  refine call_meetsIn PySem.F.slot_dict_get dd.typeIs PySem.F.entry_dict_get (PySem.F.args_dict_get_3 _ _ _) (meetsH_dict_get_default (tupleKind (cW X.prog X.w)) a b hd r) ⟨tupleKind_room_in1 hu,k,xs,jg I.ag eb,dd,h _ _ (I.tok _) ?_⟩
  rw[l]
  exact (rel.val k).getD rd
end
def Of (td ty tx:TE):TE:=fun σ H Q=>td σ H fun x H1=> ∃a,x= .ref a∧uB H1 a∧ty σ H1 fun y H2=>tx σ H2 fun z H3=> ∃o,cg H3 a y o∧Q (o.getD z) H3
section
variable {X:Cx} {o e f:Expr} {apos cpos:Pos} {td ty tx:TE}
theorem Ck (hu:X.A.units+1<cLine) (ho:PE X o td) (he:PE X e ty) (hf:PE X f tx) (m:M2 X o "get" apos e f cpos):PE X (.Call (.Attribute o "get" apos) [e,f] [] cpos) (Of td ty tx):=by
 intro pins s σ H Q I h
 refine wpAny_Call_method m.base m.xP m.line PySem.F.plainAttrs_dict PySem.F.slot_dict_get PySem.F.type_dict_get (aw (ho pins s σ H _ I h) fun u s1 ⟨x,H1,I1,rx,a,ex,d,q1⟩=>?_)
 subst ex
 obtain rfl:u=Value.ref a:=rx
 obtain ⟨t1,t2,_⟩:=x8 I1 d
 refine ⟨t1,t2,?_⟩
 rw[m.trees]
 refine Calls.callWith_builtin rfl (Calls.evalArgs_plain (Calls.spliced_cons (aw (he pins s1 σ H1 _ I1 q1) fun iv s2 ⟨y,H2,I2,ry,q2⟩=>
  Calls.spliced_cons (aw (hf pins s2 σ H2 _ I2 q2) fun fv s3 ⟨z,H3,I3,rz,ov,g,q3⟩=>Calls.spliced_nil ?_))))
 exact Ey hu I3 g ry rz fun w' s4 I4 rw'=>⟨_,H3,I4,rw',q3⟩
end
section
variable {X:Cx} {pins:List (Addr×Obj)} {σ:St} {H:Hp} {s:Shared} {a:Addr} {kvs:List (Key×V)} {A:Around} {E:Value→Shared→Prop}
end
section
variable {X:Cx} {pins:List (Addr×Obj)} {σ:St} {H:Hp} {s:Shared} {a:Addr} {y:V} {u:Value} {A:Around} {E:Value→Shared→Prop}
end
end L2
namespace L2
open PySem PySem.Spec PyProof.Rows
section
variable {prog:Program} {w:World} {A:Around} {E:Value→Shared→Prop}
end
section
variable {X:Cx}
end
end L2
namespace L2
open PySem PySem.Spec PyProof.Rows
section
variable {X:Cx} {pins:List (Addr×Obj)} {σ:St} {H:Hp} {s:Shared} {h':Heap}
theorem Inv.CC {t':Nat} {ch:List Addr} (I:Inv X pins σ H s) (k: ∀b o,b∉ch→s.heap.get? b=some o→h'.get? b=some o) (hf: ∀b∈ch,dN X pins H b):Inv X pins σ H {s with heap:=h',toks:=t'}:=by
 have nit: ∀b u,H b=some u→b∉ch:=fun b u e z=>by
  have q:=(hf b z).1
  rw[q] at e;cases e
 refine I.step (g':=s.gens) (d':=s.drawn) (ch:=ch) (fun b hb=>⟨(hf b hb).2.2.2.1,(hf b hb).2.1,(hf b hb).2.2.2.2.1,(hf b hb).2.2.2.2.2⟩) (fun b o _ _ hc e _=>k b o hc e) (fun b o _ _ hc e _=>⟨o.slots,k b o hc e⟩)
  (fun _ _ _ _ n=>n) (fun b o hc e=>⟨o,k b o hc e⟩) (fun _ _ e=>e) (fun _ _ _ e=>e) (fun b ps e=>⟨#[],by rw[e];simp⟩) (fun m hm=>?_) (fun b u e=>?_) I.bare
 ·obtain ⟨o,es,ep,ho,r⟩:=hm
  exact ⟨o,es,ep,k _ o (fun z=>(hf _ z).2.1 rfl) ho,r⟩
 ·refine (I.ag b u e).eW (fun c v hc q=>k c v ?_ q) (fun _ q=>q) fun _ _ q=>q
  rcases hc with z|z
  ·rw[z];exact nit b u e
  ·exact nit c _ z
theorem Inv.ux {t':Nat} {ch:List Addr} {T:Addr} {ob:HO} (I:Inv X pins σ H s) (k: ∀b o,b∉ch→s.heap.get? b=some o→h'.get? b=some o) (hf: ∀b∈ch,dN X pins H b) (hT:s.heap.objs.size≤T)
  (new:bJ X.prog X.w (upd H T ob) h' T ob):Inv X pins σ (upd H T ob) {s with heap:=h',toks:=t'}:=by
 have hn:H T=none:=I.ag.fresh hT
 have nit: ∀b u,H b=some u→b∉ch:=fun b u e z=>by
  have q:=(hf b z).1
  rw[q] at e;cases e
 refine I.step (g':=s.gens) (d':=s.drawn) (ch:=ch) (fun b hb=>⟨(hf b hb).2.2.2.1,(hf b hb).2.1,(hf b hb).2.2.2.2.1,(hf b hb).2.2.2.2.2⟩) (fun b o _ _ hc e _=>k b o hc e) (fun b o _ _ hc e _=>⟨o.slots,k b o hc e⟩)
  (fun b o _ e n=>?_) (fun b o hc e=>⟨o,k b o hc e⟩) (fun b xs e=>?_) (fun b o u e=>?_) (fun b ps e=>⟨#[],?_⟩) (fun m hm=>?_) (fun b u e=>?_) I.bare
 ·rw[ay (Nat.ne_of_lt (Nat.lt_of_lt_of_le (Heap.lt_size e) hT))];exact n
 ·rw[ay (bZ e hn)];exact e
 ·rw[ay (bZ e hn)];exact e
 ·rw[ay (bZ e hn),e];simp
 ·obtain ⟨o,es,ep,ho,r⟩:=hm
  exact ⟨o,es,ep,k _ o (fun z=>(hf _ z).2.1 rfl) ho,r⟩
 ·by_cases hb:b=T
  ·subst hb
   rw[ak] at e
   cases e
   exact new
  ·rw[ay hb] at e
   refine (I.ag b u e).eW (fun c v hc q=>k c v ?_ q) (fun c q=>by rw[ay (bZ q hn)];exact q) fun c xs q=>by rw[ay (bZ q hn)];exact q
   rcases hc with z|z
   ·rw[z];exact nit b u e
   ·exact nit c _ z
end
section
variable {X:Cx}
theorem Jq {tg:Expr} {pins:List (Addr×Obj)} {σ:St} {H:Hp} {s:Shared} {R:It→Hp→Prop} {J:It} {tn:Nat→Heap→Prop} {tk:Nat} (I:Inv X pins σ H s) (o:Obj)
  (T:Turn X.prog X.w X.K tg J [s.heap.objs.size] s.heap.objs.size tn) (st:tn 0 (s.heap.push o)) (q:R J H):um X pins σ tg R (.ref s.heap.objs.size) {s with heap:=s.heap.push o,toks:=tk}:=by
 refine ⟨s.heap.objs.size, [s.heap.objs.size],tn,J,H,rfl,I.kept fun b ob e=>Heap.get?_push_of_some _ e,T,st,fun b hb=>?_,q⟩
 have e:b=s.heap.objs.size:=by simpa using hb
 subst e
 exact I.gm (Nat.le_refl _) (I.ag.fresh (Nat.le_refl _))
end
def vn (lo c:Int) (n:Nat):It:=⟨fun i _=>i<n,fun i H x H'=>H'=H∧x= .int (lo+(i:Nat)*c),fun i _=>n≤i⟩
theorem Kh {P:Program} {w:World} {K:PySem.W.Frag} {tg:Expr} (it:Addr) (lo c:Int) (n:Nat):Turn P w K tg (vn lo c n) [it] it (fun i h=>IsRangeIter h it (lo+(i:Nat)*c) ((n:Int)-(i:Nat)) c) where
 mem:=by simp
 obj:=fun i h st b hb=>by
  have e:b=it:=by simpa using hb
  subst e
  exact ⟨_,st,fun v z=>nomatch z⟩
 keep:=fun i h h' st k=>k it (by simp) _ st
 item:=by
  intro X hP hw hK hc i pins s σ H E I hf st hg
  subst hP hw hK
  obtain ⟨f0,f1,f2,f3,f4,f5⟩:=hf it (by simp)
  have W:=Walks.range (prog:=X.prog) (w:=X.w) (I.ok.hd hc) it lo c n
  refine W.item i s _ _ hg st fun v h' tk hv st' kk=>?_
  obtain ⟨t,rfl⟩:=hv
  have I1:Inv X pins σ H {s with heap:=h',toks:=tk}:=I.turned (fun b o hb e=>kk b o (by simpa using hb) e) f0 f1 f3 f4 f5
  exact ⟨_,rfl,rJ (s:={s with heap:=h',toks:=tk}) (n:= "range_iterator") st' rfl rfl (by decide) ⟨.int (lo+(i:Nat)*c),H,I1,⟨t,rfl⟩,⟨rfl,rfl⟩,st',fun b hb=>(hf b hb).1⟩⟩
 done:=by
  intro X hP hw hK hc i pins s σ H E I hf st hg
  subst hP hw hK
  obtain ⟨f0,f1,f2,f3,f4,f5⟩:=hf it (by simp)
  exact wpAny_pyNext_range_end (I.ok.hd hc) st (by have:n≤i:=hg;lia) fun h' eb=>⟨rfl,I.turned (t':=s.toks) (fun b o hb e=>eb b o hb e) f0 f1 f3 f4 f5⟩
 self:=fun A i s Q E st h=>wpAny_pyIter_rangeiter st h
def zk (i j c:Int) (n:Nat):Prop:=c≠0∧c.natAbs<1073741824∧Builtin.Range.small i j c=true∧Builtin.Range.rangeSize i j c=n
inductive De (R:It→Hp→Prop) (vs:List V) (H:Hp):Prop
 |mk (i j c:Int) (n:Nat) (e:vs= [.int i, .int j, .int c]) (h:zk i j c n) (q:R (vn i c n) H):De R vs H
def QR (ta:TA):TI:=fun σ H R=>ta σ H (De R)
section
variable {X:Cx} {tg:Expr}
theorem Q4 {a b c:Expr} {ta:TA} {p pos:Pos} (hg:Gl X "range") (hm:X.mg "range" =none) (ha:PA X [a,b,c] ta)
  (hs:starEach [a,b,c] X.env=(false,eval a X.env)::starEach [b,c] X.env:=by rfl) (hpl:(backTo pos (starEach [b,c] X.env)).any (·.1)=false:=by rfl):
  PI X tg (.Call (.Name "range" p) [a,b,c] [] pos) (QR ta):=by
 intro pins s σ H R I h
 refine Call_ (iC I hg hm boot_range (PyProof.Rows.callWith_type1 (aw (ha pos pins s σ H _ I h) fun us s1 ⟨vs,H1,I1,r1,q1⟩=>?_) hs hpl))
 obtain ⟨i,j,k,n,e,⟨c0,c1,c2,c3⟩,q⟩:=q1
 subst e
 cases r1 with
 |cons r rr=>
  cases rr with
  |cons r' rr=>
   cases rr with
   |cons r'' rr=>
    cases rr
    obtain ⟨t,rfl⟩:=r
    obtain ⟨t',rfl⟩:=r'
    obtain ⟨t'',rfl⟩:=r''
    refine call_range_3 c0 ?_ (.inl (PyProof.noPylong_small c1))
    refine wpAny_pyIter_range (IsRange.new ..) c2 ?_
    have I2:Inv X pins σ H1 {s1 with heap:=s1.heap.push {cls:= .type "range",data:= .fields #[.int i t, .int j t', .int k t'']}}:=I1.kept (t':=s1.toks) fun b o e=>Heap.get?_push_of_some _ e
    refine Jq (tk:=s1.toks) I2 _ (Kh _ i k n) ?_ q
    have e1:i+((0:Nat):Int)*k=i:=by simp
    have e2:(n:Int)-((0:Nat):Int)=Builtin.Range.rangeSize i j k:=by rw[c3];simp
    show IsRangeIter _ _ (i+((0:Nat):Int)*k) ((n:Int)-((0:Nat):Int)) k
    rw[e1,e2]
    exact Heap.get?_push_size _ rfl
end
section
variable {X:Cx} {tg:Expr}
end
section
variable {prog:Program} {w:World} {A:Around} {E:Value→Shared→Prop} {s:Shared}
end
section
variable {X:Cx} {pins:List (Addr×Obj)} {σ:St} {H:Hp} {s:Shared} {d:Addr} {o:Obj}
end
section
variable {P:Program} {w:World} {K:PySem.W.Frag} {tg:Expr} {d:Addr} {o:Obj} {es:Array DictEntry} {ep:Nat}
end
section
variable {X:Cx} {tg e:Expr} {td:TE} {apos cpos:Pos}
end
def oU (K:PySem.W.Frag) (a:Addr):It:=
 ⟨fun i H=> ∃(xs:List V) (x:V),af K H a xs∧xs[i]?=some x,fun i H v H'=> ∃T x,v= .ref T∧H T=none∧H'=upd H T (.tup [.int (i:Nat),x])∧ ∀xs,af K H a xs→xs[i]?=some x,fun i H=> ∃xs:List V,af K H a xs∧xs.length≤i⟩
theorem NV {P:Program} {w:World} {K:PySem.W.Frag} {elts:List Expr} {kk:Nat} {tpos:Pos} (a e it:Addr):
  Turn P w K (.Tuple elts kk tpos) (oU K a) [e,it] e (fun i h=>(∃old,IsEnum h e it ((i:Nat):Int) old)∧h.IsListIter it a i∧e≠it) where
 mem:=by simp
 obj:=fun i h st b hb=>by
  obtain ⟨⟨old,he⟩,⟨o,ho,hc,hd⟩,_⟩:=st
  have e':b=e∨b=it:=by simpa using hb
  rcases e' with z|z
  ·rw[z];exact ⟨_,he,fun v q=>nomatch q⟩
  ·rw[z];exact ⟨o,ho,fun v q=>by rw[hd] at q;cases q⟩
 keep:=fun i h h' st k=>let ⟨⟨old,he⟩,hi,hne⟩:=st;⟨⟨old,k e (by simp) _ he⟩,hi.at fun o q=>k it (by simp) o q,hne⟩
 item:=by
  intro X hP hw hK hc i pins s σ H E I hf st hg
  subst hP hw hK
  obtain ⟨⟨old,he⟩,hit,hne⟩:=st
  obtain ⟨xs,x,hq,hx⟩:=hg
  obtain ⟨its,rv,p,hz⟩:=I.list hq
  obtain ⟨u,hu,ru⟩:=rv.get hx
  have hel:e<s.heap.objs.size:=Heap.lt_size he
  have hil:it<s.heap.objs.size:=by obtain ⟨_,q,_⟩:=hit;exact Heap.lt_size q
  refine wpAny_pyNext_enum_item he hit p.isList (x:=u) (by simpa using hu) hne fun h' ho hit' hT hsz hk=>?_
  refine ⟨_,rfl,wpAny_letOwnedTupleGo_enum (s:={s with heap:=h',toks:=s.toks+1}) ho fun h'' he' sb=>?_⟩
  have hT2:h''.get? s.heap.objs.size=some {cls:= .type "tuple",data:= .seq #[.int i s.toks,u]}:=(sb.2 _ (Nat.ne_of_gt hel)).trans hT
  have new:bJ X.prog X.w (upd H s.heap.objs.size (.tup [.int (i:Nat),x])) h'' s.heap.objs.size (.tup [.int (i:Nat),x]):=
   ⟨by show 2≤sizeLine;decide, [.int i s.toks,u], .cons ⟨_,rfl⟩ (.cons ru .nil),⟨_,hT2,rfl,_,rfl⟩⟩
  have I1:Inv X pins σ (upd H s.heap.objs.size (.tup [.int (i:Nat),x])) {s with heap:=h'',toks:=s.toks+1}:=
   I.ux (ch:= [e,it]) (fun b ob hb q=>(sb.2 b (fun z=>hb (by simp [z]))).trans (hk b ob (fun z=>hb (by simp [z])) (fun z=>hb (by simp [z])) q)) hf (Nat.le_refl _) new
  refine ⟨.ref s.heap.objs.size,_,I1,rfl,⟨_,x,rfl,I.ag.fresh (Nat.le_refl _),rfl,fun ys hy=>by rw[I.pO hy hq];exact hx⟩,⟨⟨u,?_⟩,hit'.at fun o q=>(sb.2 it (Ne.symm hne)).trans q,hne⟩,fun b hb=>?_⟩
  ·have e1:((i+1:Nat):Int)=(i:Int)+1:=by lia
   rw[e1];exact he'
  ·have hb':b<s.heap.objs.size:=by
    have e':b=e∨b=it:=by simpa using hb
    rcases e' with z|z
    ·rw[z];exact hel
    ·rw[z];exact hil
   rw[ay (Nat.ne_of_lt hb')]
   exact (hf b hb).1
 done:=by
  intro X hP hw hK hc i pins s σ H E I hf st hg
  subst hP hw hK
  obtain ⟨⟨old,he⟩,hit,hne⟩:=st
  obtain ⟨xs,hq,hx⟩:=hg
  obtain ⟨its,rv,p,hz⟩:=I.list hq
  obtain ⟨f0,f1,f2,f3,f4,f5⟩:=hf it (by simp)
  have hl:=rv.length
  exact wpAny_pyNext_enum_end (I.ok.hd hc) he hit p.isList (by simp;lia) fun h' eb=>⟨rfl,I.turned (t':=s.toks) (fun b o hb q=>eb b o hb q) f0 f1 f3 f4 f5⟩
 self:=fun A i s Q E st h=>let ⟨⟨_,he⟩,_⟩:=st;wpAny_pyIter_enum he h
inductive BI (K:PySem.W.Frag) (R:It→Hp→Prop) (vs:List V) (H:Hp):Prop
 |mk (a:Addr) (xs:List V) (e:vs= [.ref a]) (h:af K H a xs) (q:R (oU K a) H):BI K R vs H
def zj (K:PySem.W.Frag) (ta:TA):TI:=fun σ H R=>ta σ H (BI K R)
theorem RE {X:Cx} {e:Expr} {ta:TA} {p pos tpos:Pos} {elts:List Expr} {kk:Nat} (hg:Gl X "enumerate") (hm:X.mg "enumerate" =none) (ha:PA X [e] ta) (hs:starEach [e] X.env= [(false,eval e X.env)]:=by rfl):
  PI X (.Tuple elts kk tpos) (.Call (.Name "enumerate" p) [e] [] pos) (zj X.K ta):=by
 intro pins s σ H R I h
 refine Call_ (iC I hg hm boot_enumerate (PyProof.Rows.callWith_type1 (aw (ha pos pins s σ H _ I h) fun us s1 ⟨vs,H1,I1,r1,q1⟩=>?_) hs rfl))
 obtain ⟨a,xs,ex,hq,q⟩:=q1
 subst ex
 cases r1 with
 |cons r rr=>
  cases rr
  cases r
  obtain ⟨its,rv,p',hz⟩:=I1.list hq
  refine call_enumerate_list p'.isList fun h' he hit hsz hk=>wpAny_pyIter_enum he ?_
  have I2:Inv X pins σ H1 {s1 with heap:=h'}:=I1.kept (t':=s1.toks) hk
  refine ⟨s1.heap.objs.size+1, [s1.heap.objs.size+1,s1.heap.objs.size],_,_,H1,rfl,I2,NV a (s1.heap.objs.size+1) s1.heap.objs.size,⟨⟨.none,he⟩,hit,Nat.succ_ne_self _⟩,fun b hb=>?_,q⟩
  have e':b=s1.heap.objs.size+1∨b=s1.heap.objs.size:=by simpa using hb
  have hle:s1.heap.objs.size≤b:=by
   rcases e' with z|z
   ·rw[z];exact Nat.le_add_right _ _
   ·rw[z];exact Nat.le_refl _
  exact I1.gm hle (I1.ag.fresh hle)
theorem C9:bootBuiltins "zip" =some (.type "zip"):=by decide+kernel
def lq (K:PySem.W.Frag) (a b:Addr):It:=
 ⟨fun i H=> ∃(xs ys:List V) (x y:V),af K H a xs∧af K H b ys∧xs[i]?=some x∧ys[i]?=some y,
  fun i H v H'=> ∃T x y,v= .ref T∧H T=none∧H'=upd H T (.tup [x,y])∧(∀xs,af K H a xs→xs[i]?=some x)∧ ∀ys,af K H b ys→ys[i]?=some y,
  fun i H=> ∃xs ys:List V,af K H a xs∧af K H b ys∧(xs.length≤i∨ys.length≤i)⟩
theorem J6 {P:Program} {w:World} {K:PySem.W.Frag} {elts:List Expr} {kk:Nat} {tpos:Pos} {a b z TI TO i1 i2:Addr} (D:ZipApart z TI TO i1 i2 a b):
  Turn P w K (.Tuple elts kk tpos) (lq K a b) [z,TI,TO,i1,i2] z (fun i h=>IsZip h z TI TO .none∧IsPair h TI (.ref i1) (.ref i2)∧(∃x y,IsPair h TO x y)∧h.IsListIter i1 a i∧h.IsListIter i2 b i) where
 mem:=by simp
 obj:=fun i h st c hc=>by
  obtain ⟨hz,hTI,⟨x,y,hTO⟩,⟨o1,e1,_,d1⟩,⟨o2,e2,_,d2⟩⟩:=st
  have e':c=z∨c=TI∨c=TO∨c=i1∨c=i2:=by simpa using hc
  rcases e' with q|q|q|q|q
  ·rw[q];exact ⟨_,hz,fun v q=>nomatch q⟩
  ·rw[q];exact ⟨_,hTI,fun v q=>nomatch q⟩
  ·rw[q];exact ⟨_,hTO,fun v q=>nomatch q⟩
  ·rw[q];exact ⟨o1,e1,fun v q=>by rw[d1] at q;cases q⟩
  ·rw[q];exact ⟨o2,e2,fun v q=>by rw[d2] at q;cases q⟩
 keep:=fun i h h' st k=>by
  obtain ⟨hz,hTI,⟨x,y,hTO⟩,h1,h2⟩:=st
  exact ⟨k z (by simp) _ hz,k TI (by simp) _ hTI,⟨x,y,k TO (by simp) _ hTO⟩,h1.at fun o q=>k i1 (by simp) o q,h2.at fun o q=>k i2 (by simp) o q⟩
 item:=by
  intro X hP hw hK hc i pins s σ H E I hf st hg
  subst hP hw hK
  obtain ⟨hz,hTI,⟨x0,y0,hTO⟩,h1,h2⟩:=st
  obtain ⟨xs,ys,x,y,hqx,hqy,hx,hy⟩:=hg
  obtain ⟨its,rv,p,_⟩:=I.list hqx
  obtain ⟨its2,rv2,p2,_⟩:=I.list hqy
  obtain ⟨u,hu,ru⟩:=rv.get hx
  obtain ⟨u2,hu2,ru2⟩:=rv2.get hy
  have hzl:z<s.heap.objs.size:=Heap.lt_size hz
  refine wpAny_pyNext_zip_item D hz hTI hTO h1 h2 p.isList p2.isList (x:=u) (y:=u2) (by simpa using hu) (by simpa using hu2) fun h' z' TO' h1' h2' hT hsz hk=>?_
  refine ⟨_,rfl,wpAny_letOwnedTupleGo_zip (s:={s with heap:=h'}) z' fun h'' z'' sb=>?_⟩
  have hT2:h''.get? s.heap.objs.size=some {cls:= .type "tuple",data:= .seq #[u,u2]}:=(sb.2 _ (Nat.ne_of_gt hzl)).trans hT
  have new:bJ X.prog X.w (upd H s.heap.objs.size (.tup [x,y])) h'' s.heap.objs.size (.tup [x,y]):=
   ⟨by show 2≤sizeLine;decide, [u,u2], .cons ru (.cons ru2 .nil),⟨_,hT2,rfl,_,rfl⟩⟩
  have I1:Inv X pins σ (upd H s.heap.objs.size (.tup [x,y])) {s with heap:=h''}:=
   I.ux (t':=s.toks) (ch:= [z,TI,TO,i1,i2]) (fun c o hb q=>(sb.2 c (fun q'=>hb (by simp [q']))).trans (hk c o (fun q'=>hb (by simp [q'])) (fun q'=>hb (by simp [q'])) (fun q'=>hb (by simp [q'])) (fun q'=>hb (by simp [q'])) q)) hf (Nat.le_refl _) new
  refine ⟨.ref s.heap.objs.size,_,I1,rfl,⟨_,x,y,rfl,I.ag.fresh (Nat.le_refl _),rfl,fun l hl=>by rw[I.pO hl hqx];exact hx,fun l hl=>by rw[I.pO hl hqy];exact hy⟩,⟨z'',?_,⟨u,u2,?_⟩,?_,?_⟩,fun c hcm=>?_⟩
  ·exact (sb.2 _ D.TIz).trans (hk _ _ D.TIz D.TITO D.TIi1 D.TIi2 hTI)
  ·exact (sb.2 _ D.TOz).trans TO'
  ·exact h1'.at fun o q=>(sb.2 _ D.i1z).trans q
  ·exact h2'.at fun o q=>(sb.2 _ D.i2z).trans q
  ·have hlt:c<s.heap.objs.size:=by
    have e':c=z∨c=TI∨c=TO∨c=i1∨c=i2:=by simpa using hcm
    rcases e' with q|q|q|q|q
    ·rw[q];exact hzl
    ·rw[q];exact Heap.lt_size hTI
    ·rw[q];exact Heap.lt_size hTO
    ·rw[q];obtain ⟨_,e1,_⟩:=h1;exact Heap.lt_size e1
    ·rw[q];obtain ⟨_,e2,_⟩:=h2;exact Heap.lt_size e2
   rw[ay (Nat.ne_of_lt hlt)]
   exact (hf c hcm).1
 done:=by
  intro X hP hw hK hc i pins s σ H E I hf st hg
  subst hP hw hK
  obtain ⟨hz,hTI,⟨x0,y0,hTO⟩,h1,h2⟩:=st
  obtain ⟨xs,ys,hqx,hqy,hend⟩:=hg
  obtain ⟨its,rv,p,_⟩:=I.list hqx
  obtain ⟨its2,rv2,p2,_⟩:=I.list hqy
  have l1:=rv.length
  have l2:=rv2.length
  have he:its.toArray[i]?=none∨its2.toArray[i]?=none:=by
   rcases hend with q|q
   ·exact .inl (by simp;lia)
   ·exact .inr (by simp;lia)
  exact wpAny_pyNext_zip_end (I.ok.hd hc) D hz hTI hTO h1 h2 p.isList p2.isList he fun h' hk=>⟨rfl,I.CC (t':=s.toks) (ch:= [z,TI,TO,i1,i2]) (fun c o hb q=>
   hk c o (fun q'=>hb (by simp [q'])) (fun q'=>hb (by simp [q'])) (fun q'=>hb (by simp [q'])) (fun q'=>hb (by simp [q'])) q) hf⟩
 self:=fun A i s Q E st h=>wpAny_pyIter_zip st.1 h
def Om (K:PySem.W.Frag) (ta:TA):TI:=fun σ H R=>ta σ H fun vs H1=> ∃a b xs ys,vs= [.ref a, .ref b]∧af K H1 a xs∧af K H1 b ys∧R (lq K a b) H1
theorem wZ {X:Cx} {e e2:Expr} {ta:TA} {p pos tpos:Pos} {elts:List Expr} {kk:Nat} (hg:Gl X "zip") (hm:X.mg "zip" =none) (ha:PA X [e,e2] ta)
  (hs:starEach [e,e2] X.env=(false,eval e X.env)::starEach [e2] X.env:=by rfl) (hpl:(backTo pos (starEach [e2] X.env)).any (·.1)=false:=by rfl):
  PI X (.Tuple elts kk tpos) (.Call (.Name "zip" p) [e,e2] [] pos) (Om X.K ta):=by
 intro pins s σ H R I h
 refine Call_ (iC I hg hm C9 (PyProof.Rows.callWith_type1 (aw (ha pos pins s σ H _ I h) fun us s1 ⟨vs,H1,I1,r1,q1⟩=>?_) hs hpl))
 obtain ⟨a,b,xs,ys,ex,hqx,hqy,q⟩:=q1
 subst ex
 cases r1 with
 |cons r rr=>
  cases rr with
  |cons r' rr=>
   cases rr
   cases r
   cases r'
   obtain ⟨its,rv,p1,_⟩:=I1.list hqx
   obtain ⟨its2,rv2,p2,_⟩:=I1.list hqy
   have la:a<s1.heap.objs.size:=p1.lt
   have lb:b<s1.heap.objs.size:=p2.lt
   refine call_zip_2 p1.isList p2.isList fun h' hz hTI hTO h1 h2 hsz hk=>wpAny_pyIter_zip hz ?_
   have I2:Inv X pins σ H1 {s1 with heap:=h'}:=I1.kept (t':=s1.toks) hk
   refine ⟨s1.heap.objs.size+4, [s1.heap.objs.size+4,s1.heap.objs.size+2,s1.heap.objs.size+3,s1.heap.objs.size,s1.heap.objs.size+1],_,_,H1,rfl,I2,J6 (PySem.W.ktu_apart s1.heap.objs.size a b la lb),⟨hz,hTI,⟨_,_,hTO⟩,h1,h2⟩,fun c hcm=>?_,q⟩
   have e':c=s1.heap.objs.size+4∨c=s1.heap.objs.size+2∨c=s1.heap.objs.size+3∨c=s1.heap.objs.size∨c=s1.heap.objs.size+1:=by simpa using hcm
   have hle:s1.heap.objs.size≤c:=by
    rcases e' with z|z|z|z|z
    ·rw[z];exact Nat.le_add_right _ _
    ·rw[z];exact Nat.le_add_right _ _
    ·rw[z];exact Nat.le_add_right _ _
    ·rw[z];exact Nat.le_refl _
    ·rw[z];exact Nat.le_add_right _ _
   exact I1.gm hle (I1.ag.fresh hle)
end L2
section
namespace Bits
open PySem PyProof.Rows
end Bits
end
section
namespace TL
open PySem PySem.Builtin PySem.Builtin.Str PySem.StrLaws
end TL
end
namespace L2
open PySem PySem.Spec PyProof.Rows
section
variable {X:Cx} {pins:List (Addr×Obj)} {σ:St} {H:Hp} {s:Shared} {Q:VK}
end
section
variable {X:Cx}
end
section
variable {X:Cx} {o e:Expr} {to te:TE}
end
end L2
namespace L2
open PySem PySem.Spec PyProof.Rows
section
variable {X:Cx}
end
end L2
namespace Att
open PySem PySem.W PySem.Calls PyProof.Rows
section
variable {prog:Program} {w:World} {A:Around} {E:Value→Shared→Prop} {s:Shared} {K:Frag}
end
end Att
namespace L2
open PySem PySem.Spec PyProof.Rows
end L2
namespace L2
open PySem PySem.Spec PyProof.Rows
abbrev C1 {K:PySem.W.Frag} {h:Heap} (_:K.In h):PySem.W.Frag:=K
end L2
namespace L2
open PySem PySem.Spec PyProof.Rows
def inClass (s:Stmt) (j:Nat):Stmt:=match s with
 | .ClassDef _ _ _ body _ _ _ _ _ _ _=>body.getD j (.Pass ⟨0,0,0,0⟩)
 |_=> .Pass ⟨0,0,0,0⟩
def uE (s:Stmt):Arguments:=match s with
 | .FunctionDef _ a _ _ _ _ _ _ _ _=>a
 |_=>{posonlyargs:= [],args:= [],vararg:=none,kwonlyargs:= [],kw_defaults:= [],kwarg:=none,defaults:= []}
def o8 (s:Stmt):List Stmt:=match s with
 | .FunctionDef _ _ b _ _ _ _ _ _ _=>b
 |_=> []
def aB (s:Stmt):Scope:=match s with
 | .FunctionDef _ _ _ _ _ _ sc _ _ _=>sc
 |_=>{kind:= .function,names:= [],isGenerator:=false,isCoroutine:=false}
abbrev aQ:eI:=fun _ _ _ _ _ _=>False
abbrev E0:XK:=fun _ _ _=>False
theorem aI {X:Cx}:Passes aQ X E0:=fun _ _ _ _ _ _ _ h=>h.elim
structure aD (K:PySem.W.Frag) (x qual:Str) (st:Stmt) (f:Addr) (fd:FuncData):Prop where
 ex: ∃(oc:Value) (od:Option Addr) (kV doc pm:Value) (an:Option Addr) (cdv ct:Value) (osl:Array (Option Value)),
  fd=PySem.W.fnOf x qual (uE st) (o8 st) (aB st) .none kV doc pm an cdv ct∧K.lookup f=some ⟨oc,od, .func fd,osl⟩∧PySem.W.codeIn K cdv qual=true
 kp:PySem.W.keepIn K (.ref f)=true
section
variable {P:Program} {w:World} {K:PySem.W.Frag} {mg:Str→Option Value} {base:Heap}
theorem aD.ok {x qual:Str} {st:Stmt} {f:Addr} {fd:FuncData} {N ps:List Str} {k:Nat} {sp:Sp} (F:aD K x qual st f fd) (S:aG N ps (aB st)) (len: ∀vs H Q E,sp vs H Q E→vs.length=ps.length)
  (hbody: ∀(cdv:Value) (A:Around) (outer:List Env) (s:Shared) (H:Hp) (vs:List V) (Q:VK) (E:XK),aF k (A.deeper (envOfC qual (aB st) s.heap.objs.size f cdv))→sp vs H Q E→
   ∃t,cO (fE aQ P w K mg base N qual (aB st) f cdv A outer s H E).rC (o8 st) t∧t {nx:=fun _ H'=>Q .au H',rt:=Q} (start N vs) H):aA P w K mg base aQ (k+1) f fd ps sp:=by
 obtain ⟨oc,od,kV,doc,pm,an,cdv,ct,osl,rfl,lk,hcd⟩:=F.ex
 refine zN lk hcd S len fun A outer s H vs Q E hr hsp=>?_
 obtain ⟨t,h,q⟩:=hbody cdv A outer s H vs Q E hr hsp
 exact ⟨t,h.rC,q⟩
theorem RG {x qual:Str} {st:Stmt} {f:Addr} {oc:Value} {od an:Option Addr} {osl:Array (Option Value)} {kV doc pm cdv ct:Value} (l:K.lookup f=some ⟨oc,od, .func (PySem.W.fnOf x qual (uE st) (o8 st) (aB st) .none kV doc pm an cdv ct),osl⟩)
  (c:PySem.W.codeIn K cdv qual=true) (k:PySem.W.keepIn K (.ref f)=true):aD K x qual st f (PySem.W.fnOf x qual (uE st) (o8 st) (aB st) .none kV doc pm an cdv ct):=⟨⟨oc,od,kV,doc,pm,an,cdv,ct,osl,rfl,l,c⟩,k⟩
end
theorem gP {A:Around} {k:Nat} (hr:aF k A):A.units+1<cLine:=Nat.lt_of_le_of_lt (Nat.add_le_add_left (by decide:1≤64) _) hr.units
section
variable {X:Cx}
theorem pv (i:Nat) {x:Str} {pos:Pos} (hN:X.N[i]?=some x:=by rfl) (hv:jO X.env.scope x:=by first|exact Or.inl rfl|exact Or.inr (Or.inl rfl)|exact Or.inr (Or.inr rfl)) (hd:(x==("__debug__" :Str))=false:=by decide)
  (hcd:(x==("__classdict__" :Str))=false:=by decide):PE X (.Name x pos) (fi i):=Py hN hv hd hcd
end
theorem aZ {A B:Prop} (h:B):if false=true then A else B:=by
 rw[if_neg Bool.false_ne_true]
 exact h
theorem aW {A B:Prop} (h:A):if true=true then A else B:=by
 rw[if_pos rfl]
 exact h
theorem bX {c A B:Prop} [Decidable c] (h1:c→A) (h2: ¬c→B):if c then A else B:=by
 by_cases h:c
 ·rw[if_pos h]
  exact h1 h
 ·rw[if_neg h]
  exact h2 h
def ae (H H':Hp):Prop:= ∀b o,H b=some o→H' b=some o
theorem ae.refl (H:Hp):ae H H:=fun _ _ h=>h
theorem ae.trans {H H1 H2:Hp} (a:ae H H1) (b:ae H1 H2):ae H H2:=fun c o h=>b c o (a c o h)
theorem ae.seq {K:PySem.W.Frag} {H H':Hp} {a:Addr} {xs:List V} (e:ae H H') (h:af K H a xs):af K H' a xs:=by
 rcases h with (h|⟨o,h⟩)|h
 ·exact .inl (.inl (e _ _ h))
 ·exact .inl (.inr ⟨o,e _ _ h⟩)
 ·exact .inr h
section
variable {κ:Type} [DecidableEq κ]
end
theorem at_of {xs:List V} {z:Int} {j:Nat} {v:V} (e:z=(j:Int)) (h:xs[j]?=some v):fC xs z=some v:=by
 rw[e]
 exact bL h
end L2
set_option maxHeartbeats 2000000
namespace L2
open PySem PySem.Spec PyProof.Rows
open PySem.W (WData Codec OpenSpec Well WellAll ReadsW ReadsAllW)
mutual
inductive Dw (K:PySem.W.Frag) (H:Hp):V→WData→Prop
 |au:Dw K H .au .none
 |bl (b:Bool):Dw K H (.bl b) (.bool b)
 |int (i:Int):Dw K H (.int i) (.int i)
 |str (x:Str):Dw K H (.str x) (.str x)
 |cR (b:Array UInt8):Dw K H (.cR b) (.bytes b.toList)
 |lst {a:Addr} {xs:List V} {ds:List WData}:af K H a xs→fk K H xs ds→Dw K H (.ref a) (.list ds)
 |tup {a:Addr} {xs:List V} {ds:List WData}:aP K H a xs→fk K H xs ds→Dw K H (.ref a) (.tuple ds)
inductive fk (K:PySem.W.Frag) (H:Hp):List V→List WData→Prop
 |nil:fk K H [] []
 |cons {v:V} {vs:List V} {d:WData} {ds:List WData}:Dw K H v d→fk K H vs ds→fk K H (v::vs) (d::ds)
end
theorem DT {K:PySem.W.Frag} {H:Hp}: ∀ns:List Int,fk K H (ns.map V.int) (ns.map WData.int)
 | []=> .nil
 |n::r=> .cons (.int n) (DT r)
theorem va {K:PySem.W.Frag} {H:Hp}: ∀(ns:List Int) (xs:List V),fk K H xs (ns.map WData.int)→xs=ns.map V.int
 | [],xs,h=>by
  cases h
  rfl
 |n::r,xs,h=>by
  cases h with
  |cons h1 h2=>
   cases h1
   rw[va r _ h2]<;>rfl
section
variable {P:Program} {w:World} {K:PySem.W.Frag} {H:Hp} {h:Heap} {R:PySem.W.WRecords} {cl:Str→Option Addr}
theorem Il {a:Addr} {xs:List V} (ag:bh P w H h) (KX:K.In h) (q:af K H a xs): ∃(its:List Value) (o:Obj) (n:Nat),Vals xs its∧h.get? a=some o∧o.cls= .type "list" ∧o.data= .seq its.toArray n:=by
 rcases q with q|⟨o,its,n,e,hc,_,hd,_,hv⟩
 ·obtain ⟨_,its,n,hv,e⟩:=(show bJ P w H h a (.lst xs) from q.ok ag)
  exact ⟨its,_,n,hv,e,rfl,rfl⟩
 ·exact ⟨its.toList,o,n,hv,KX _ _ e,hc,by simp [hd]⟩
theorem Kr {a:Addr} {xs:List V} (ag:bh P w H h) (KX:K.In h) (q:aP K H a xs): ∃(its:List Value) (o:Obj) (n:Nat),Vals xs its∧h.get? a=some o∧o.cls= .type "tuple" ∧o.data= .seq its.toArray n:=by
 rcases q with q|⟨o,its,n,e,hc,hd,_,hv⟩
 ·obtain ⟨_,its,hv,o,e,hc,n,hd⟩:=(show bJ P w H h a (.tup xs) from q.ok ag)
  exact ⟨its,o,n,hv,e,hc,hd⟩
 ·exact ⟨its.toList,o,n,hv,KX _ _ e,hc,by simp [hd]⟩
mutual
theorem Dw.reads (ag:bh P w H h) (KX:K.In h): ∀(d:WData) (v:V) (u:Value),Dw K H v d→RelV v u→ ∃as,ReadsW R cl h u d as
 | .none,_,_,x,r=>by
  cases x
  cases r
  exact ⟨_,ReadsW.none⟩
 | .bool b,_,_,x,r=>by
  cases x
  cases r
  exact ⟨_,ReadsW.bool b⟩
 | .int i,_,_,x,r=>by
  cases x
  obtain ⟨t,rfl⟩:=r
  exact ⟨_,ReadsW.int i t⟩
 | .str s,_,_,x,r=>by
  cases x
  obtain ⟨t,rfl⟩:=r
  exact ⟨_,ReadsW.str s t⟩
 | .bytes b,_,_,x,r=>by
  cases x
  obtain ⟨t,rfl⟩:=r
  exact ⟨_,ReadsW.bytes _ t⟩
 | .list ds,_,_,x,r=>by
  cases x with
  |lst hs ha=>
   cases r
   obtain ⟨its,o,n,rv,ho,hc,hd⟩:=Il ag KX hs
   obtain ⟨as,hr⟩:=Dw.readsAll ag KX ds _ its ha rv
   exact ⟨_,ReadsW.list ho hc hd hr⟩
 | .tuple ds,_,_,x,r=>by
  cases x with
  |tup hs ha=>
   cases r
   obtain ⟨its,o,n,rv,ho,hc,hd⟩:=Kr ag KX hs
   obtain ⟨as,hr⟩:=Dw.readsAll ag KX ds _ its ha rv
   exact ⟨_,ReadsW.tuple ho hc hd hr⟩
 | .float _,_,_,x,_=>by cases x
 | .dict _,_,_,x,_=>by cases x
 | .bytearray _,_,_,x,_=>by cases x
 | .set _,_,_,x,_=>by cases x
 | .frozenset _,_,_,x,_=>by cases x
 | .obj _ _,_,_,x,_=>by cases x
theorem Dw.readsAll (ag:bh P w H h) (KX:K.In h): ∀(ds:List WData) (vs:List V) (us:List Value),fk K H vs ds→Vals vs us→ ∃as,ReadsAllW R cl h us ds as
 | [],_,_,x,r=>by
  cases x
  cases r
  exact ⟨_,ReadsAllW.nil⟩
 |d::ds,_,_,x,r=>by
  cases x with
  |cons h1 h2=>
   cases r with
   |cons r1 r2=>
    obtain ⟨as,q1⟩:=Dw.reads ag KX d _ _ h1 r1
    obtain ⟨bs,q2⟩:=Dw.readsAll ag KX ds _ _ h2 r2
    exact ⟨_,ReadsAllW.cons q1 q2⟩
end
end
mutual
def d8:WData→Bool
 | .none=>true
 | .bool _=>true
 | .int _=>true
 | .str _=>true
 | .bytes _=>true
 | .list xs=>eV xs
 | .tuple xs=>eV xs
 |_=>false
def eV:List WData→Bool
 | []=>true
 |x::r=>d8 x&&eV r
end
theorem AA {α:Type} {f:α→WData} (h: ∀a,d8 (f a)=true): ∀l:List α,eV (l.map f)=true
 | []=>rfl
 |x::r=>by
  show (d8 (f x)&&eV (r.map f))=true
  rw[h x,AA h r]<;>rfl
theorem ic: ∀(c:Codec) (a:c.denote),d8 (c.enc a)=true
 | .unit,_=>rfl
 | .bool,_=>rfl
 | .int _ _,_=>rfl
 | .nat _ _,_=>rfl
 | .u8,_=>rfl
 | .bytes _ _,_=>rfl
 | .text _ _ _ _,_=>rfl
 | .list _ _ c,a=>AA (fun x=>ic c x) a
 | .pair c d,a=>by
  show (d8 (c.enc a.1)&&(d8 (d.enc a.2)&&true))=true
  rw[ic c a.1,ic d a.2]<;>rfl
 | .triple c d e,a=>by
  show (d8 (c.enc a.1)&&(d8 (d.enc a.2.1)&&(d8 (e.enc a.2.2)&&true)))=true
  rw[ic c a.1,ic d a.2.1,ic e a.2.2]<;>rfl
 | .option c,none=>rfl
 | .option c,some x=>ic c x
theorem Ai: ∀(cs:List Codec) (a:Codec.denoteAll cs),eV (Codec.encAll cs a)=true
 | [],_=>rfl
 |c::cs,a=>by
  show (d8 (c.enc a.1)&&eV (Codec.encAll cs a.2))=true
  rw[ic c a.1,Ai cs a.2]<;>rfl
theorem vd: ∀{xs:List WData} {d:WData},d∈xs→d.weight≤WData.weightAll xs
 | [],d,h=>absurd h (by simp)
 |x::r,d,h=>by
  show d.weight≤x.weight+1+WData.weightAll r
  rcases List.mem_cons.mp h with e|m
  ·rw[e]
   omega
  ·have z:=vd m
   omega
def toV:Value→V
 | .none=> .au
 | .bool b=> .bl b
 | .int i _=> .int i
 | .str x _=> .str x
 | .bytes b _=> .cR b
 | .ref a=> .ref a
 |_=> .au
def eR (A:List Addr):Value→Prop
 | .none=>True
 | .bool _=>True
 | .int _ _=>True
 | .str _ _=>True
 | .bytes _ _=>True
 | .ref a=>a∈A
 |_=>False
theorem eR.mono {A B:List Addr} (h: ∀a∈A,a∈B): ∀{u:Value},eR A u→eR B u:=fun {u} x=>by
 cases u with
 |ref a=>exact h a x
 |none=>trivial
 |bool b=>trivial
 |int i t=>trivial
 |str s t=>trivial
 |bytes b t=>trivial
 |_=>exact False.elim x
theorem Ky {A:List Addr} {u:Value} (x:eR A u):RelV (toV u) u:=by
 cases u with
 |ref a=>rfl
 |none=>rfl
 |bool b=>rfl
 |int i t=>exact ⟨t,rfl⟩
 |str s t=>exact ⟨t,rfl⟩
 |bytes b t=>exact ⟨t,rfl⟩
 |_=>exact False.elim x
theorem jF {A:List Addr}: ∀{vs:List Value},(∀u∈vs,eR A u)→Vals (vs.map toV) vs
 | [],_=> .nil
 |u::r,h=> .cons (Ky (h u (List.mem_cons_self ..))) (jF fun x hx=>h x (List.mem_cons_of_mem _ hx))
def eS (h:Heap) (A:List Addr) (a:Addr):Prop:= ∃vs:List Value,vs.length≤sizeLine∧(∀u∈vs,eR A u)∧
 (h.get? a=some {cls:= .type "list",data:= .seq vs.toArray}∨h.get? a=some {cls:= .type "tuple",data:= .seq vs.toArray})
theorem eS.mono {h:Heap} {A B:List Addr} {a:Addr} (k: ∀a∈A,a∈B) (x:eS h A a):eS h B a:=by
 obtain ⟨vs,h1,h2,h3⟩:=x
 exact ⟨vs,h1,fun u hu=>(h2 u hu).mono k,h3⟩
theorem p8 {P:Params} {h:Heap}: ∀{vs:List Value} {ds:List WData},WellAll P h vs ds→vs.length=ds.length
 |_,_, .nil=>rfl
 |_,_, .cons _ b=>by
  show _+1=_+1
  rw[p8 b]
theorem xR {P:Params} {h:Heap} {v:Value} {ds:List WData} (x:Well P h v (.list ds)): ∃(a:Addr) (vs:List Value),v= .ref a∧h.get? a=some {cls:= .type "list",data:= .seq vs.toArray}∧WellAll P h vs ds:=by
 cases x with
 |list ho hall=>exact ⟨_,_,rfl,ho,hall⟩
theorem DA {P:Params} {h:Heap} {v:Value} {ds:List WData} (x:Well P h v (.tuple ds)): ∃(a:Addr) (vs:List Value),v= .ref a∧h.get? a=some {cls:= .type "tuple",data:= .seq vs.toArray}∧WellAll P h vs ds:=by
 cases x with
 |tuple ho hall=>exact ⟨_,_,rfl,ho,hall⟩
theorem z0 {P:Params} {h:Heap} {us:List Value} {d:WData} {ds:List WData} (x:WellAll P h us (d::ds)): ∃(v:Value) (vs:List Value),us=v::vs∧Well P h v d∧WellAll P h vs ds:=by
 cases x with
 |cons a b=>exact ⟨_,_,rfl,a,b⟩
theorem yJ {n:Nat} (h:n≤1048576):n≤sizeLine:=Nat.le_trans h (by decide)
section
variable {P:Params} {h:Heap}
mutual
theorem GB: ∀(d:WData) (v:Value),Well P h v d→d8 d=true→d.weight≤1048576→ ∃A:List Addr,eR A v∧ ∀a∈A,eS h A a
 | .none,_,x,_,_=>by
  cases x
  exact ⟨[],trivial,fun a m=>absurd m (by simp)⟩
 | .bool b,_,x,_,_=>by
  cases x
  exact ⟨[],trivial,fun a m=>absurd m (by simp)⟩
 | .int i,_,x,_,_=>by
  cases x
  exact ⟨[],trivial,fun a m=>absurd m (by simp)⟩
 | .str s,_,x,_,_=>by
  cases x
  exact ⟨[],trivial,fun a m=>absurd m (by simp)⟩
 | .bytes b,_,x,_,_=>by
  cases x
  exact ⟨[],trivial,fun a m=>absurd m (by simp)⟩
 | .list ds,_,x,p,z=>by
  obtain ⟨a,vs,rfl,ho,hall⟩:=xR x
  have z2:WData.weightAll ds≤1048576:=z
  obtain ⟨A,h1,h2⟩:=qM ds _ hall p fun d hd=>Nat.le_trans (vd hd) z2
  have k: ∀b∈A,b∈a::A:=fun b hb=>List.mem_cons_of_mem _ hb
  refine ⟨a::A,List.mem_cons_self ..,fun b hb=>?_⟩
  rcases List.mem_cons.mp hb with e|m
  ·rw[e]
   exact ⟨vs,yJ (by rw[p8 hall];exact Nat.le_trans (PySem.W.length_le_weightAllW ds) z2),fun u hu=>(h1 u hu).mono k, .inl ho⟩
  ·exact (h2 b m).mono k
 | .tuple ds,_,x,p,z=>by
  obtain ⟨a,vs,rfl,ho,hall⟩:=DA x
  have z2:WData.weightAll ds≤1048576:=z
  obtain ⟨A,h1,h2⟩:=qM ds _ hall p fun d hd=>Nat.le_trans (vd hd) z2
  have k: ∀b∈A,b∈a::A:=fun b hb=>List.mem_cons_of_mem _ hb
  refine ⟨a::A,List.mem_cons_self ..,fun b hb=>?_⟩
  rcases List.mem_cons.mp hb with e|m
  ·rw[e]
   exact ⟨vs,yJ (by rw[p8 hall];exact Nat.le_trans (PySem.W.length_le_weightAllW ds) z2),fun u hu=>(h1 u hu).mono k, .inr ho⟩
  ·exact (h2 b m).mono k
 | .float _,_,_,p,_=>Bool.noConfusion (show false=true from p)
 | .dict _,_,_,p,_=>Bool.noConfusion (show false=true from p)
 | .bytearray _,_,_,p,_=>Bool.noConfusion (show false=true from p)
 | .set _,_,_,p,_=>Bool.noConfusion (show false=true from p)
 | .frozenset _,_,_,p,_=>Bool.noConfusion (show false=true from p)
 | .obj _ _,_,_,p,_=>Bool.noConfusion (show false=true from p)
theorem qM: ∀(ds:List WData) (vs:List Value),WellAll P h vs ds→eV ds=true→(∀d∈ds,d.weight≤1048576)→ ∃A:List Addr,(∀u∈vs,eR A u)∧ ∀a∈A,eS h A a
 | [],_,x,_,_=>by
  cases x
  exact ⟨[],fun u m=>absurd m (by simp),fun a m=>absurd m (by simp)⟩
 |d::ds,_,x,p,z=>by
  obtain ⟨v,vs,rfl,x1,x2⟩:=z0 x
  have q:d8 d=true∧eV ds=true:=Bool.and_eq_true_iff.mp p
  obtain ⟨A,a1,a2⟩:=GB d v x1 q.1 (z d (List.mem_cons_self ..))
  obtain ⟨B,b1,b2⟩:=qM ds vs x2 q.2 fun e he=>z e (List.mem_cons_of_mem _ he)
  have kA: ∀b∈A,b∈A++B:=fun b hb=>List.mem_append.mpr (.inl hb)
  have kB: ∀b∈B,b∈A++B:=fun b hb=>List.mem_append.mpr (.inr hb)
  refine ⟨A++B,fun u hu=>?_,fun b hb=>?_⟩
  ·rcases List.mem_cons.mp hu with e|m
   ·rw[e]
    exact a1.mono kA
   ·exact (b1 u m).mono kB
  ·rcases List.mem_append.mp hb with m|m
   ·exact (a2 b m).mono kA
   ·exact (b2 b m).mono kB
end
end
def rL (o:Obj):Option HO:=match o.data with
 | .seq vs _=>if (o.cls==Value.type "list")=true then some (.cK o (.lst (vs.toList.map toV))) else some (.cK o (.tup (vs.toList.map toV)))
 |_=>none
def cX (K:PySem.W.Frag) (h:Heap) (A:List Addr):Hp:=fun b=>if b∈A then (if (K.lookup b).isNone=true then (h.get? b).bind rL else none) else none
def kO (H:Hp):Prop:= ∀b,H b=none∨ ∃o u,H b=some (.cK o u)
theorem yn (vs:List Value):rL {cls:= .type "list",data:= .seq vs.toArray}=some (.cK {cls:= .type "list",data:= .seq vs.toArray} (.lst (vs.map toV))):=by
 show (if (Value.type "list" ==Value.type "list")=true then some (HO.cK {cls:= .type "list",data:= .seq vs.toArray} (.lst (vs.toArray.toList.map toV))) else some (HO.cK {cls:= .type "list",data:= .seq vs.toArray} (.tup (vs.toArray.toList.map toV))))=_
 rw[if_pos (beq_self_eq_true _)]
theorem Eh (vs:List Value):rL {cls:= .type "tuple",data:= .seq vs.toArray}=some (.cK {cls:= .type "tuple",data:= .seq vs.toArray} (.tup (vs.map toV))):=by
 show (if (Value.type "tuple" ==Value.type "list")=true then some (HO.cK {cls:= .type "tuple",data:= .seq vs.toArray} (.lst (vs.toArray.toList.map toV))) else some (HO.cK {cls:= .type "tuple",data:= .seq vs.toArray} (.tup (vs.toArray.toList.map toV))))=_
 rw[if_neg (by decide)]
section
variable {P:Program} {w:World} {K:PySem.W.Frag} {h:Heap} {A:List Addr}
theorem r9 {b:Addr} {o:Obj} (hb:b∈A) (hk:K.lookup b=none) (e:h.get? b=some o):cX K h A b=rL o:=by
 unfold cX
 rw[if_pos hb,hk,if_pos (show (none:Option Obj).isNone=true from rfl),e]<;>rfl
theorem E7 {b:Addr} {u:HO} (q:cX K h A b=some u):b∈A∧K.lookup b=none:=by
 unfold cX at q
 by_cases hb:b∈A
 ·rw[if_pos hb] at q
  cases hk:K.lookup b with
  |none=>exact ⟨hb,rfl⟩
  |some o=>
   rw[hk,if_neg (by simp)] at q
   cases q
 ·rw[if_neg hb] at q
  cases q
theorem sI (ar: ∀a∈A,eS h A a) {b:Addr} {u:HO} (q:cX K h A b=some u):K.lookup b=none∧ ∃vs:List Value,vs.length≤sizeLine∧(∀u∈vs,eR A u)∧
  ((h.get? b=some {cls:= .type "list",data:= .seq vs.toArray}∧u= .cK {cls:= .type "list",data:= .seq vs.toArray} (.lst (vs.map toV)))∨
   (h.get? b=some {cls:= .type "tuple",data:= .seq vs.toArray}∧u= .cK {cls:= .type "tuple",data:= .seq vs.toArray} (.tup (vs.map toV)))):=by
 obtain ⟨hb,hk⟩:=E7 q
 obtain ⟨vs,h1,h2,h3⟩:=ar b hb
 refine ⟨hk,vs,h1,h2,?_⟩
 rcases h3 with e|e
 ·rw[r9 hb hk e,yn] at q
  exact .inl ⟨e,(Option.some.inj q).symm⟩
 ·rw[r9 hb hk e,Eh] at q
  exact .inr ⟨e,(Option.some.inj q).symm⟩
theorem Iq (ar: ∀a∈A,eS h A a):kO (cX K h A):=fun b=>by
 cases q:cX K h A b with
 |none=>exact .inl rfl
 |some u=>
  obtain ⟨_,vs,_,_,⟨_,e⟩|⟨_,e⟩⟩:=sI ar q
  ·exact .inr ⟨_,_,by rw[e]⟩
  ·exact .inr ⟨_,_,by rw[e]⟩
theorem QG (ar: ∀a∈A,eS h A a):bh P w (cX K h A) h:=fun b u q=>by
 obtain ⟨_,vs,h1,h2,⟨e,rfl⟩|⟨e,rfl⟩⟩:=sI ar q
 ·exact ⟨e,by rw[List.length_map];exact h1,vs,_,jF h2,e⟩
 ·exact ⟨e,by rw[List.length_map];exact h1,vs,jF h2,_,e,rfl,_,rfl⟩
theorem sP {c c':Value} {vs us:List Value} (e:(some {cls:=c,data:= .seq vs.toArray}:Option Obj)=some {cls:=c',data:= .seq us.toArray}):c=c'∧vs=us:=by
 have e1:=Option.some.inj e
 have e2:c=c':=congrArg Obj.cls e1
 have e3:Data.seq vs.toArray=Data.seq us.toArray:=congrArg Obj.data e1
 injection e3 with e4
 refine ⟨e2,?_⟩
 have e5:=congrArg Array.toList e4
 simpa using e5
theorem Mn (KX:K.In h) (ar: ∀a∈A,eS h A a) {a:Addr} {vs:List Value} (ha:a∈A) (e:h.get? a=some {cls:= .type "list",data:= .seq vs.toArray}):(∀u∈vs,eR A u)∧af K (cX K h A) a (vs.map toV):=by
 obtain ⟨us,h1,h2,h3⟩:=ar a ha
 have hu:us=vs:=by
  rcases h3 with q|q
  ·rw[e] at q
   exact (sP q).2.symm
  ·rw[e] at q
   exact absurd (Value.type.inj (sP q).1) (by decide)
 subst hu
 refine ⟨h2,?_⟩
 cases hk:K.lookup a with
 |none=>exact .inl (.inr ⟨_,by rw[r9 ha hk e,yn]⟩)
 |some o=>
  have e2:=KX a o hk
  rw[e] at e2
  obtain rfl:=Option.some.inj e2
  exact .inr ⟨_,us.toArray,_,hk,rfl,rfl,rfl,by rw[List.size_toArray];exact h1,by simpa using jF h2⟩
theorem G9 (KX:K.In h) (ar: ∀a∈A,eS h A a) {a:Addr} {vs:List Value} (ha:a∈A) (e:h.get? a=some {cls:= .type "tuple",data:= .seq vs.toArray}):(∀u∈vs,eR A u)∧aP K (cX K h A) a (vs.map toV):=by
 obtain ⟨us,h1,h2,h3⟩:=ar a ha
 have hu:us=vs:=by
  rcases h3 with q|q
  ·rw[e] at q
   exact absurd (Value.type.inj (sP q).1) (by decide)
  ·rw[e] at q
   exact (sP q).2.symm
 subst hu
 refine ⟨h2,?_⟩
 cases hk:K.lookup a with
 |none=>exact .inl (.inr ⟨_,by rw[r9 ha hk e,Eh]⟩)
 |some o=>
  have e2:=KX a o hk
  rw[e] at e2
  obtain rfl:=Option.some.inj e2
  exact .inr ⟨_,us.toArray,_,hk,rfl,rfl,by rw[List.size_toArray];exact h1,by simpa using jF h2⟩
mutual
theorem Lv {Pm:Params} (KX:K.In h) (ar: ∀a∈A,eS h A a): ∀(d:WData) (v:Value),Well Pm h v d→d8 d=true→eR A v→Dw K (cX K h A) (toV v) d
 | .none,_,x,_,_=>by
  cases x
  exact .au
 | .bool b,_,x,_,_=>by
  cases x
  exact .bl b
 | .int i,_,x,_,_=>by
  cases x
  exact .int i
 | .str s,_,x,_,_=>by
  cases x
  exact .str s
 | .bytes b,_,x,_,_=>by
  cases x
  have z:=Dw.cR (K:=K) (H:=cX K h A) b.toArray
  exact z
 | .list ds,_,x,p,hu=>by
  obtain ⟨a,vs,rfl,ho,hall⟩:=xR x
  obtain ⟨h2,hs⟩:=Mn KX ar hu ho
  exact .lst hs (rh KX ar ds _ hall p h2)
 | .tuple ds,_,x,p,hu=>by
  obtain ⟨a,vs,rfl,ho,hall⟩:=DA x
  obtain ⟨h2,hs⟩:=G9 KX ar hu ho
  exact .tup hs (rh KX ar ds _ hall p h2)
 | .float _,_,_,p,_=>Bool.noConfusion (show false=true from p)
 | .dict _,_,_,p,_=>Bool.noConfusion (show false=true from p)
 | .bytearray _,_,_,p,_=>Bool.noConfusion (show false=true from p)
 | .set _,_,_,p,_=>Bool.noConfusion (show false=true from p)
 | .frozenset _,_,_,p,_=>Bool.noConfusion (show false=true from p)
 | .obj _ _,_,_,p,_=>Bool.noConfusion (show false=true from p)
theorem rh {Pm:Params} (KX:K.In h) (ar: ∀a∈A,eS h A a): ∀(ds:List WData) (vs:List Value),WellAll Pm h vs ds→eV ds=true→(∀u∈vs,eR A u)→fk K (cX K h A) (vs.map toV) ds
 | [],_,x,_,_=>by
  cases x
  exact .nil
 |d::ds,_,x,p,hu=>by
  obtain ⟨v,vs,rfl,x1,x2⟩:=z0 x
  have q:d8 d=true∧eV ds=true:=Bool.and_eq_true_iff.mp p
  exact .cons (Lv KX ar d v x1 q.1 (hu _ (List.mem_cons_self ..))) (rh KX ar ds vs x2 q.2 fun u m=>hu u (List.mem_cons_of_mem _ m))
end
end
theorem FO {P:Program} {w:World} {K:PySem.W.Frag} {mg mb:Str→Option Value} {CX:eI} {k:Nat} {fa:Addr} {fd:FuncData} {ps:List Str} {sp:Sp} {s₁:Shared} {vals:List Value} {ds:List WData} {R:PySem.W.WRecords} {cl:Str→Option Addr} {d0:WData}
  (KX:K.In s₁.heap) (hns:s₁.heap.Ns mainGlobals mg) (hb:s₁.heap.Ns builtinsNs mb) (hbb: ∀x:Str,x≠ "__name__" →mb x=bootBuiltins x) (hlim:s₁.heap.NoLimit) (hg:s₁.gens= #[])
  (hwl:WellAll w.params s₁.heap vals ds) (hpl:eV ds=true) (hwt: ∀d∈ds,d.weight≤1048576) (hr:aF k callerA)
  (F: ∀base:Heap,K.In base→base.Ns mainGlobals mg→aA P w K mg base CX k fa fd ps sp) (hbind: ∀(s:Shared) (us:List Value),us.length=ps.length→BindsTo s fd ⟨us, []⟩ (ps.zip us)) (hlen:ds.length=ps.length)
  (hsp: ∀(H:Hp) (xs:List V),kO H→fk K H xs ds→sp xs H (fun v H'=>Dw K H' v d0) fun _ _ _=>False)
  (hCX: ∀H e s',CX [] H s₁ (fun _ _ _=>False) e s'→False):
  codeAny (model P w) callerA (.call (.ref fa) ⟨vals, []⟩) (fun r s'=> ∃u as,r= .ok (.ret u)∧ReadsW R cl s'.heap u d0 as∧OldK s₁.heap s'.heap∧s'.os=s₁.os∧AllBare s'.gens) s₁:=by
 obtain ⟨A,ho,ar⟩:=qM ds vals hwl hpl hwt
 have hO:kO (cX K s₁.heap A):=Iq ar
 have ag:bh P w (cX K s₁.heap A) s₁.heap:=QG ar
 have hS:=rh KX ar ds vals hwl hpl ho
 have hV:=jF ho
 have hK: ∀b u,cX K s₁.heap A b=some u→K.lookup b=none:=fun b u q=>(sI ar q).1
 have noA: ∀{b:Addr} {o:Obj} {es:Array DictEntry} {ep:Nat},s₁.heap.get? b=some o→o.data= .dict es ep→cX K s₁.heap A b=none:=fun {b o es ep} e d=>by
  cases q:cX K s₁.heap A b with
  |none=>rfl
  |some u=>
   obtain ⟨_,vs,_,_,⟨e2,_⟩|⟨e2,_⟩⟩:=sI ar q
   ·rw[e2] at e
    cases e
    have d':Data.seq vs.toArray _=Data.dict es ep:=d
    cases d'
   ·rw[e2] at e
    cases e
    have d':Data.seq vs.toArray _=Data.dict es ep:=d
    cases d'
 generalize cX K s₁.heap A=H at hO ag hS hK noA
 have base_of: ∀{b:Addr} {o:Obj},s₁.heap.get? b=some o→H b=none→(gA s₁.heap H).get? b=some o:=fun e n=>KW e n
 have nsK: ∀{b:Addr} {m:Str→Option Value},s₁.heap.Ns b m→(gA s₁.heap H).Ns b m:=fun {b m} ⟨o,es,ep,e,d,r⟩=>⟨o,es,ep,base_of e (noA e d),d,r⟩
 have nK: ∀b o,K.lookup b=some o→H b=none:=fun b o e=>by
  cases q:H b with
  |none=>rfl
  |some u=>
   rw[hK b u q] at e
   cases e
 have hKb:K.In (gA s₁.heap H):=fun b o e=>base_of (KX b o e) (nK b o e)
 have hM:Mod K mg (gA s₁.heap H):=⟨hKb,nsK hns,⟨mb,nsK hb,hbb⟩,let ⟨mc,h1,h2⟩:=hlim;⟨mc,nsK h1,h2⟩⟩
 have e0:jd P w K mg (gA s₁.heap H) callerA [] s₁ H:=⟨rfl,hM,fun b o e=>NW e,Nat.le_of_eq (Rh _ _),trivial,fun b hb=>absurd (show b∈([]:List Addr) from hb) (by simp),ag, .of_eq hg⟩
 have hl:vals.length=ps.length:=by rw[p8 hwl];exact hlen
 refine codeAny_mono ((F _ hKb (nsK hns)).run callerA [] s₁ H ⟨vals, []⟩ vals (vals.map toV) _ _ hr e0 (hbind s₁ vals hl) hV (hsp H _ hO hS)) fun r s' x=>?_
 cases r with
 |error e=>exact (hCX H e s' x).elim
 |ok fl=>
  cases fl with
  |next=>exact False.elim x
  |brk=>exact False.elim x
  |cont=>exact False.elim x
  |ret u=>
   obtain ⟨v,H',os,bare,un,hok',r',q⟩:=x
   have kept: ∀b o,s₁.heap.get? b=some o→s'.heap.get? b=some o:=fun b o e=>by
    cases q2:H b with
    |none=>exact un.keep b o e q2 (by intro z;exact absurd (show b∈([]:List Addr) from z) (by simp)) (by simp)
    |some u2=>
     rcases hO b with z|⟨ob,u3,z⟩
     ·rw[q2] at z
      cases z
     ·have z2:=un.fG b ob _ z
      obtain ⟨e1,_⟩:=ag b _ z
      obtain ⟨e2,_⟩:=hok' b _ z2
      rw[e] at e1
      cases e1
      exact e2
   have KX':K.In s'.heap:=fun b o e=>kept b o (KX b o e)
   obtain ⟨as,hrd⟩:=Dw.reads (R:=R) (cl:=cl) hok' KX' d0 v u q r'
   exact ⟨u,as,rfl,hrd,OldK.of_keep kept,os,bare⟩
theorem Gk {ds:List WData} (h:WData.layableAll ds=true): ∀d∈ds,d.weight≤1048576:=fun d hd=>
 (PySem.W.layableW_iff.mp (List.all_eq_true.mp h d hd)).2.2
theorem Aw: ∀(cs:List Codec) (a:Codec.denoteAll cs),(Codec.encAll cs a).length=cs.length
 | [],_=>rfl
 |c::cs,a=>by
  show (Codec.encAll cs a.2).length+1=cs.length+1
  rw[Aw cs a.2]
theorem L5 {r:OpenSpec} {k:Nat} {q:Program} {loose:List Str} {XP:(Str→Option Value)→Heap→Prop} {YP:World→Heap→Prop} {d:DefRec} {K:Params→PySem.W.Frag} {CX:World→eI} {ps:List Str} {sp:World→Sp}
  (hwell:r.wellSaid=true) (hdf:d.params.defaults= []) (hlen:r.args.length=ps.length) (hr:aF k callerA)
  (hY: ∀(w:World) (h:Heap),YP w h→(K w.params).In h)
  (F: ∀(w:World) (mg:Str→Option Value) (fa:Addr) (h:Heap),YP w h→(K w.params).In h→h.Ns mainGlobals mg→mg d.name=some (.ref fa)→
   ∃fd:FuncData,(∀(s:Shared) (us:List Value),us.length=ps.length→BindsTo s fd ⟨us, []⟩ (ps.zip us))∧
    ∀base:Heap,(K w.params).In base→base.Ns mainGlobals mg→aA r.prog w (K w.params) mg base (CX w) k fa fd ps (sp w))
  (hsp: ∀(w:World) (H:Hp) (xs:List V) (a:Codec.denoteAll r.args),kO H→Codec.withinAll r.args a=true→Codec.app r.args r.asked a=true→fk (K w.params) H xs (Codec.encAll r.args a)→
   sp w xs H (fun v H'=>Dw (K w.params) H' v (r.ret.enc (Codec.app r.args r.f a))) fun _ _ _=>False)
  (hCX: ∀(w:World) (H:Hp) (s:Shared) (e:Value) (s':Shared),CX w [] H s (fun _ _ _=>False) e s'→False):
  PySem.W.WalkOS q loose XP YP r d [] (fun f vs=>PySem.call f vs):=by
 intro w a8 s₁ mg mb G Y fa o pm cd doc dV kV ho hd hcd hD hmg hg args vals as hpre hlay hrd hwl hlo
 obtain ⟨a,e1,e2⟩:=PySem.W.os_pre_some hpre
 obtain ⟨e3,hwi⟩:=Codec.encAll_of_decAll r.args args a e1
 subst e3
 have KX:=hY w _ Y
 obtain ⟨fd,hb,hF⟩:=F w mg fa _ Y KX G.T.g hmg
 refine PySem.W.enter_call (codeAny_mono (FO (R:= []) (cl:=classAt a8.heap) (d0:=r.ret.enc (Codec.app r.args r.f a)) KX G.T.g G.T.b G.T.builtins G.T.nolimit hg hwl (Ai _ _) (Gk hlay) hr hF hb (by rw[Aw];exact hlen)
  (fun H xs hO hS=>hsp w H xs a hO hwi e2 hS) fun H e s'=>hCX w H s₁ e s') fun r' s' hq=>?_)
 obtain ⟨u,as',rfl,h1,h2,h3,h4⟩:=hq
 exact ⟨.inl ⟨u,_,as',rfl,fun _=>rfl,h1,(OpenSpec.post_iff hwell hwi _ _).mpr rfl,fun z=>Bool.noConfusion (show false=true from z)⟩,h2,h3,h4⟩
theorem Kx {r:OpenSpec} {k:Nat} {q:Program} {loose:List Str} {XP:(Str→Option Value)→Heap→Prop} {YP:World→Heap→Prop} {d:DefRec} {K:Params→PySem.W.Frag} {CX:eI} {ps:List Str} {sp:PySem.W.Frag→Sp}
  (hwell:r.wellSaid=true) (hdf:d.params.defaults= []) (hlen:r.args.length=ps.length) (hr:aF k callerA)
  (hY: ∀(w:World) (h:Heap),YP w h→(K w.params).In h)
  (F: ∀(w:World) (mg:Str→Option Value) (fa:Addr) (h:Heap),YP w h→(K w.params).In h→h.Ns mainGlobals mg→mg d.name=some (.ref fa)→
   ∃fd:FuncData,(∀(s:Shared) (us:List Value),us.length=ps.length→BindsTo s fd ⟨us, []⟩ (ps.zip us))∧
    ∀base:Heap,(K w.params).In base→base.Ns mainGlobals mg→aA r.prog w (K w.params) mg base CX k fa fd ps (sp (K w.params)))
  (hsp: ∀(K:PySem.W.Frag) (H:Hp) (xs:List V) (a:Codec.denoteAll r.args),kO H→Codec.withinAll r.args a=true→Codec.app r.args r.asked a=true→fk K H xs (Codec.encAll r.args a)→
   sp K xs H (fun v H'=>Dw K H' v (r.ret.enc (Codec.app r.args r.f a))) fun _ _ _=>False)
  (hCX: ∀(H:Hp) (s:Shared) (e:Value) (s':Shared),CX [] H s (fun _ _ _=>False) e s'→False):
  PySem.W.WalkOS q loose XP YP r d [] (fun f vs=>PySem.call f vs):=
 L5 (K:=K) (CX:=fun _=>CX) (sp:=fun w=>sp (K w.params)) hwell hdf hlen hr hY F (fun w H xs a h1 h2 h3 h4=>hsp (K w.params) H xs a h1 h2 h3 h4) fun _ H s e s'=>hCX H s e s'
end L2
namespace Mx
open PySem
open Sem (wp)
end Mx
namespace L2
open PySem PySem.Spec PyProof.Rows
section
variable {X:Cx}
def FY (i j:Int):Prop:=0≤j∧(Builtin.Int.intBits i:Int)+j≤2^27
theorem rm:bq X (binaryOp .LShift) (rI FY fun i j=> .int (i*2^j.toNat)):=iZ fun _ _ _ _ _ _ _ hc q=>PyProof.Rows.lshift_int hc.1 hc.2 q
theorem CF: ∀{xs:List V} {us:List Value},xs.length=us.length→(∀(j:Nat) x u,xs[j]?=some x→us[j]?=some u→RelV x u)→Vals xs us
 | [], [],_,_=> .nil
 |x::xs,u::us,hl,h=> .cons (h 0 x u rfl rfl) (CF (by simpa using hl) fun j y v e1 e2=>h (j+1) y v (by simpa using e1) (by simpa using e2))
theorem Gb (hc:X.calm=true):eY X (.type "list") (fun xs H Q=> ∃p i j,xs= [.ref p]∧H p=some (.fu i j)∧(-(2^62)≤i∧i<2^62∧ -(2^62)≤j∧j<2^62)∧(j-i).toNat≤65536∧
  ∀l,H l=none→Q (.ref l) (upd H l (.lst ((List.range (j-i).toNat).map fun k=>V.int (i+(k:Nat)))))):=by
 rintro pins s σ H xs us Q I r ⟨p,i,j,rfl,hp,⟨b1,b2,b3,b4⟩,hle,q⟩
 obtain ⟨u,rfl,rx⟩:=vals1 r
 cases rx
 obtain ⟨t,u,v,e⟩:=(show bJ X.prog X.w H s.heap p (.fu i j) from I.ag p _ hp)
 have hn:Builtin.Range.rangeSize i j 1=((j-i).toNat:Int):=by rw[rangeSize_one];split<;>omega
 refine call_list_range (I.ok.hd hc) (show IsRange s.heap p i j 1 t u v from e) (small_one b1 b2 b3 b4) hn (by omega) fun h2 tk acc cap hk hS hacc=>?_
 have hv:Vals ((List.range (j-i).toNat).map fun k=>V.int (i+(k:Nat))) acc.toList:=by
  refine CF (by rw[List.length_map,List.length_range,Array.length_toList,hacc.1]) fun k x u e1 e2=>?_
  obtain ⟨t2,rfl⟩:=hacc.2 k u (by simpa using e2)
  rw[List.getElem?_map] at e1
  have hk2:k<(j-i).toNat:=by
   have:=(Array.getElem?_eq_some_iff.mp (show acc[k]?=some _ by simpa using e2)).1
   rw[hacc.1] at this;exact this
  rw[List.getElem?_range hk2] at e1
  cases e1
  exact ⟨t2,by rw[Int.mul_one]⟩
 have hz:((List.range (j-i).toNat).map fun k=>V.int (i+(k:Nat))).length≤sizeLine:=by rw[List.length_map,List.length_range];exact Nat.le_trans hle (by decide)
 exact ⟨.ref s.heap.objs.size,_,I.laid (t':=tk) hk (Nat.le_refl _) (show bJ X.prog X.w _ h2 _ (.lst _) from ⟨hz,acc.toList,cap,hv,by simpa using hS⟩),rfl,q _ (I.ag.fresh (Nat.le_refl _))⟩
end
end L2
namespace PySem
open Sem (wp)
namespace Zt
section
variable {prog:Program} {w:World} {A:Around} {E:Value→Shared→Prop} {s:Shared}
theorem Lr {j t:Addr} {n:Nat} {ys} {y:Value} {Q:Value→Shared→Prop} (hj:s.heap.IsTupleIter j t n) (ht:s.heap.IsTuple t ys) (hy:ys[n]?=some y)
  (k: ∀h',h'.IsTupleIter j t (n+1)→Heap.SameBut j s.heap h'→Q y {s with heap:=h'}):wpAny (model prog w) A (Builtin.SmallTypes.nextOf (.ref j)) Q E s:=by
 obtain ⟨o,go,gc,gd⟩:=id hj
 obtain ⟨ot,gt,_,nt,gdt⟩:=ht
 unfold Builtin.SmallTypes.nextOf
 refine wpAny_bind (wpAny_callSpecial?_slot (name:=Str.ofString "__next__") hj.typeIs F.slot_tuple_iterator_next (wpAny_call_entry F.slot_tuple_iterator_next hj.typeIs F.entry_tuple_iterator_next ?_ (F.args_tuple_iterator_next_1 _)))
 show wpAny _ _ (field (.ref j) 0>>=_) _ _ s
 refine wpAny_bind (wpAny_field go gd (x:= .ref t) rfl ?_)
 show wpAny _ _ (if (Value.ref t==Value.none)=true then _ else _) _ _ s
 rw[if_neg (by intro z;cases z)]
 show wpAny _ _ (field (.ref j) 1>>=_) _ _ s
 refine wpAny_bind (wpAny_field go gd (x:= .int n 0) rfl ?_)
 show wpAny _ _ (seqItems? (.ref t)>>=_) _ _ s
 refine wpAny_bind (wpAny_seqItems gt gdt ?_)
 simp only [Int.toNat_natCast,hy]
 refine wpAny_bind (wpAny_setField go gd (by simp) (wpAny_pure ⟨y,rfl,wpAny_pure (k _ ?_ (Heap.SameBut.update ..))⟩))
 exact ⟨_,Heap.get?_update_self _ go (Obj.isFreed_of_fields (Obj.data_mapFields gd _)),(Obj.cls_mapFields ..).trans gc,by rw[Obj.data_mapFields gd];simp [rawInt]⟩
theorem RL {j t:Addr} {n:Nat} {ys} {Q:Value→Shared→Prop} (hh:A.handled=none) (hj:s.heap.IsTupleIter j t n) (ht:s.heap.IsTuple t ys) (hy:ys[n]?=none)
  (k: ∀h' e,Heap.ExtBut j s.heap h'→(∃o,h'.get? e=some o∧o.cls= .type "StopIteration")→E (.ref e) {s with heap:=h'}):wpAny (model prog w) A (Builtin.SmallTypes.nextOf (.ref j)) Q E s:=by
 obtain ⟨o,go,gc,gd⟩:=id hj
 obtain ⟨ot,gt,_,nt,gdt⟩:=ht
 unfold Builtin.SmallTypes.nextOf
 refine wpAny_bind (wpAny_callSpecial?_slot (name:=Str.ofString "__next__") hj.typeIs F.slot_tuple_iterator_next (wpAny_call_entry F.slot_tuple_iterator_next hj.typeIs F.entry_tuple_iterator_next ?_ (F.args_tuple_iterator_next_1 _)))
 show wpAny _ _ (field (.ref j) 0>>=_) _ _ s
 refine wpAny_bind (wpAny_field go gd (x:= .ref t) rfl ?_)
 show wpAny _ _ (if (Value.ref t==Value.none)=true then _ else _) _ _ s
 rw[if_neg (by intro z;cases z)]
 show wpAny _ _ (field (.ref j) 1>>=_) _ _ s
 refine wpAny_bind (wpAny_field go gd (x:= .int n 0) rfl ?_)
 show wpAny _ _ (seqItems? (.ref t)>>=_) _ _ s
 refine wpAny_bind (wpAny_seqItems gt gdt ?_)
 simp only [Int.toNat_natCast,hy]
 refine wpAny_bind (wpAny_rule (wpAny_bind (wpAny_setField go gd (by simp) ?_)))
 show wpAny _ _ (newExc (.type "StopIteration") []>>=_) _ _ _
 refine wpAny_bind ?_
 simp only [newExc,newTuple]
 refine wpAny_bind (wpAny_newObj_type ?_ (by size_fits))
 refine wpAny_bind (m:=firstArgMember _ _) (wpAny_of_eq (a:=Value.none) (by first|rfl|(simp only [firstArgMember];rfl)) ?_)
 refine wpAny_newObj_type ?_ (by size_fits)
 simp only [raiseNew]
 refine wpAny_bind (wpAny_handled ?_)
 first|rw[show A.in1.handled=none from hh]|rw[hh]
 refine wpAny_bind (wpAny_pure (wpAny_throw ?_))
 exact k _ _ (((Heap.SameBut.update ..).extBut.push _).push _) ⟨_,Heap.get?_push_size _ rfl,rfl⟩
theorem both {z I O i j l t:Addr} {n m:Nat} {xs ys:Array Value} {x y a b:Value} {Q:Value→Shared→Prop} (D:ZipApart z I O i j l t) (qz:IsZip s.heap z I O .none) (qI:IsPair s.heap I (.ref i) (.ref j)) (qO:IsPair s.heap O a b)
  (q1:s.heap.IsListIter i l n) (q2:s.heap.IsTupleIter j t m) (ql:s.heap.IsList l xs) (qt:s.heap.IsTuple t ys) (hx:xs[n]?=some x) (hy:ys[m]?=some y)
  (k: ∀h',IsZip h' z I O (rawInt s.heap.objs.size)→IsPair h' O x y→h'.IsListIter i l (n+1)→h'.IsTupleIter j t (m+1)→IsPair h' s.heap.objs.size x y→h'.objs.size=s.heap.objs.size+1→
   (∀c o,c≠z→c≠O→c≠i→c≠j→s.heap.get? c=some o→h'.get? c=some o)→Q (.ref s.heap.objs.size) {s with heap:=h'}):
  wpAny (model prog w) A (Builtin.«zip.__next__» ⟨[.ref z], []⟩) (fun fin s'=> ∃v,fin= .done (.ret v)∧Q v s') E s:=by
 show wpAny _ _ (field (.ref z) 2>>=_) _ _ _
 refine wpAny_bind (wpAny_field qz rfl (x:= .bool false) rfl ?_)
 show wpAny _ _ (field (.ref z) 3>>=_) _ _ _
 refine wpAny_bind (wpAny_field qz rfl (x:= .ref I) rfl ?_)
 refine wpAny_bind (wpAny_seqItems qI rfl ?_)
 show wpAny _ _ (Builtin.SmallTypes.ownedTupleIsFree (.ref z)>>=_) _ _ _
 refine wpAny_bind ?_
 unfold Builtin.SmallTypes.ownedTupleIsFree
 refine wpAny_bind (wpAny_field qz rfl (x:= .none) rfl (wpAny_pure ?_))
 simp only [if_true]
 refine wpAny_bind (wpAny_rule ?_)
 refine wpAny_bind (wpAny_field qz rfl (x:= .ref O) rfl ?_)
 refine wpAny_bind (wpAny_setField_rec qz (by simp) fun h1 qz1 s1=>?_)
 replace qz1:IsZip h1 z I O .ellipsis:=qz1
 refine wpAny_bind ?_
 simp only [List.forIn_cons,List.forIn_nil,List.zipIdx_cons,List.zipIdx_nil]
 refine wpAny_bind (wpAny_bind (wpAny_onRaise ?_))
 show wpAny _ _ (Builtin.SmallTypes.nextOf (.ref i)>>=_) _ _ _
 refine wpAny_bind (wpAny_nextOf_list_item (q1.extBut s1.extBut D.i1z) (ql.extBut s1.extBut D.l1z) hx fun h2 q12 s2=>wpAny_pure ?_)
 have qO2:IsPair h2 O a b:=s2.extBut _ _ D.TOi1 (s1.extBut _ _ D.TOz qO)
 refine wpAny_bind (wpAny_seqItems qO2 rfl ?_)
 refine wpAny_bind (wpAny_updateSeq_pair qO2 fun h3 qO3 s3=>?_)
 replace qO3:IsPair h3 O x b:=qO3
 refine wpAny_bind (wpAny_letGo (wpAny_pure ?_))
 refine wpAny_bind (wpAny_bind (wpAny_onRaise ?_))
 show wpAny _ _ (Builtin.SmallTypes.nextOf (.ref j)>>=_) _ _ _
 refine wpAny_bind (Lr (((q2.extBut s1.extBut D.i2z).extBut s2.extBut D.i12.symm).extBut s3.extBut D.TOi2.symm) (((qt.extBut s1.extBut D.l2z).extBut s2.extBut D.l2i1).extBut s3.extBut D.l2TO) hy fun h4 q24 s4=>wpAny_pure ?_)
 have qO4:IsPair h4 O x b:=s4.extBut _ _ D.TOi2 qO3
 refine wpAny_bind (wpAny_seqItems qO4 rfl ?_)
 refine wpAny_bind (wpAny_updateSeq_pair qO4 fun h5 qO5 s5=>?_)
 replace qO5:IsPair h5 O x y:=qO5
 refine wpAny_bind (wpAny_letGo (wpAny_pure (wpAny_pure ?_)))
 refine wpAny_bind (wpAny_seqItems qO5 rfl ?_)
 refine wpAny_bind (wpAny_newTuple ?_)
 have hsz:h5.objs.size=s.heap.objs.size:=by rw[s5.1,s4.1,s3.1,s2.1,s1.1]
 have qz5:IsZip h5 z I O .ellipsis:=s5.extBut _ _ D.TOz.symm (s4.extBut _ _ D.i2z.symm (s3.extBut _ _ D.TOz.symm (s2.extBut _ _ D.i1z.symm qz1)))
 have old: ∀c o,c≠z→c≠O→c≠i→c≠j→s.heap.get? c=some o→h5.get? c=some o:=fun c o c1 c2 c3 c4 e=>s5.extBut _ _ c2 (s4.extBut _ _ c4 (s3.extBut _ _ c2 (s2.extBut _ _ c3 (s1.extBut _ _ c1 e))))
 have q15:h5.IsListIter i l (n+1):=((q12.extBut s3.extBut D.TOi1.symm).extBut s4.extBut D.i12).extBut s5.extBut D.TOi1.symm
 have q25:h5.IsTupleIter j t (m+1):=q24.extBut s5.extBut D.TOi2.symm
 have zl:z<h5.objs.size:=Heap.lt_size qz5
 show wpAny _ _ (Builtin.SmallTypes.ownedTupleHandOut (.ref z) (.ref h5.objs.size)>>=_) _ _ _
 refine wpAny_bind ?_
 unfold Builtin.SmallTypes.ownedTupleHandOut
 have qz6:IsZip (h5.push {cls:= .type "tuple",data:= .seq #[x,y]}) z I O .ellipsis:=Heap.get?_push_of_some _ qz5
 refine wpAny_bind (wpAny_setField_rec qz6 (by simp) fun h7 qz7 s7=>?_)
 replace qz7:IsZip h7 z I O (rawInt h5.objs.size):=qz7
 refine wpAny_setField_rec qz7 (by simp) fun h8 qz8 s8=>?_
 replace qz8:IsZip h8 z I O (rawInt h5.objs.size):=qz8
 have up: ∀c o,c≠z→h5.get? c=some o→h8.get? c=some o:=fun c o c1 e=>s8.extBut _ _ c1 (s7.extBut _ _ c1 (Heap.get?_push_of_some _ e))
 have qT:IsPair h8 h5.objs.size x y:=s8.extBut _ _ (Nat.ne_of_gt zl) (s7.extBut _ _ (Nat.ne_of_gt zl) (Heap.get?_push_size _ rfl))
 have sz8:h8.objs.size=h5.objs.size+1:=by rw[s8.1,s7.1,Heap.size_push]
 rw[hsz] at qz8 qT sz8
 refine wpAny_pure ⟨_,rfl,?_⟩
 show Q (.ref h5.objs.size) _
 rw[hsz]
 obtain ⟨oj,ej,rj⟩:=q25
 exact k h8 qz8 (up _ _ D.TOz qO5) (q15.at fun o e=>up _ o D.i1z e) ⟨oj,up _ _ D.i2z ej,rj⟩ qT sz8 fun c o c1 c2 c3 c4 e=>up c o c1 (old c o c1 c2 c3 c4 e)
theorem stop {z I O i j l t:Addr} {n m:Nat} {xs ys:Array Value} {a b:Value} {Q:Fin→Shared→Prop} (hh:A.handled=none) (D:ZipApart z I O i j l t) (qz:IsZip s.heap z I O .none) (qI:IsPair s.heap I (.ref i) (.ref j)) (qO:IsPair s.heap O a b)
  (q1:s.heap.IsListIter i l n) (q2:s.heap.IsTupleIter j t m) (ql:s.heap.IsList l xs) (qt:s.heap.IsTuple t ys) (hend:xs[n]?=none∨ys[m]?=none)
  (k: ∀h' e,(∀c o,c≠z→c≠O→c≠i→c≠j→s.heap.get? c=some o→h'.get? c=some o)→(∃o,h'.get? e=some o∧o.cls= .type "StopIteration")→E (.ref e) {s with heap:=h'}):
  wpAny (model prog w) A (Builtin.«zip.__next__» ⟨[.ref z], []⟩) Q E s:=by
 show wpAny _ _ (field (.ref z) 2>>=_) _ _ _
 refine wpAny_bind (wpAny_field qz rfl (x:= .bool false) rfl ?_)
 show wpAny _ _ (field (.ref z) 3>>=_) _ _ _
 refine wpAny_bind (wpAny_field qz rfl (x:= .ref I) rfl ?_)
 refine wpAny_bind (wpAny_seqItems qI rfl ?_)
 show wpAny _ _ (Builtin.SmallTypes.ownedTupleIsFree (.ref z)>>=_) _ _ _
 refine wpAny_bind ?_
 unfold Builtin.SmallTypes.ownedTupleIsFree
 refine wpAny_bind (wpAny_field qz rfl (x:= .none) rfl (wpAny_pure ?_))
 simp only [if_true]
 refine wpAny_bind (wpAny_rule ?_)
 refine wpAny_bind (wpAny_field qz rfl (x:= .ref O) rfl ?_)
 refine wpAny_bind (wpAny_setField_rec qz (by simp) fun h1 qz1 s1=>?_)
 replace qz1:IsZip h1 z I O .ellipsis:=qz1
 refine wpAny_bind ?_
 simp only [List.forIn_cons,List.forIn_nil,List.zipIdx_cons,List.zipIdx_nil]
 refine wpAny_bind (wpAny_bind (wpAny_onRaise ?_))
 show wpAny _ _ (Builtin.SmallTypes.nextOf (.ref i)>>=_) _ _ _
 cases hx:xs[n]? with
 |none=>
  refine wpAny_bind (wpAny_nextOf_list_end hh (q1.extBut s1.extBut D.i1z) (ql.extBut s1.extBut D.l1z) hx fun h2 e s2 he=>?_)
  obtain ⟨oe,ge,ce⟩:=he
  have qz2:IsZip h2 z I O .ellipsis:=s2 _ _ D.i1z.symm qz1
  have ez:e≠z:=fun q=>by subst q;rw[qz2] at ge;cases ge;simp at ce
  exact wpAny_setField_rec qz2 (by simp) fun h3 _ s3=>k h3 e (fun c o c1 _ c3 _ q=>s3.extBut _ _ c1 (s2 _ _ c3 (s1.extBut _ _ c1 q))) ⟨oe,s3.extBut _ _ ez ge,ce⟩
 |some x=>
  have hy:ys[m]?=none:=by
   rcases hend with q|q
   ·rw[hx] at q;cases q
   ·exact q
  refine wpAny_bind (wpAny_nextOf_list_item (q1.extBut s1.extBut D.i1z) (ql.extBut s1.extBut D.l1z) hx fun h2 q12 s2=>wpAny_pure ?_)
  have qO2:IsPair h2 O a b:=s2.extBut _ _ D.TOi1 (s1.extBut _ _ D.TOz qO)
  refine wpAny_bind (wpAny_seqItems qO2 rfl ?_)
  refine wpAny_bind (wpAny_updateSeq_pair qO2 fun h3 qO3 s3=>?_)
  refine wpAny_bind (wpAny_letGo (wpAny_pure ?_))
  refine wpAny_bind (wpAny_bind (wpAny_onRaise ?_))
  show wpAny _ _ (Builtin.SmallTypes.nextOf (.ref j)>>=_) _ _ _
  refine wpAny_bind (RL hh (((q2.extBut s1.extBut D.i2z).extBut s2.extBut D.i12.symm).extBut s3.extBut D.TOi2.symm) (((qt.extBut s1.extBut D.l2z).extBut s2.extBut D.l2i1).extBut s3.extBut D.l2TO) hy fun h4 e s4 he=>?_)
  obtain ⟨oe,ge,ce⟩:=he
  have qz4:IsZip h4 z I O .ellipsis:=s4 _ _ D.i2z.symm (s3.extBut _ _ D.TOz.symm (s2.extBut _ _ D.i1z.symm qz1))
  have ez:e≠z:=fun q=>by subst q;rw[qz4] at ge;cases ge;simp at ce
  exact wpAny_setField_rec qz4 (by simp) fun h5 _ s5=>k h5 e (fun c o c1 c2 c3 c4 q=>s5.extBut _ _ c1 (s4 _ _ c4 (s3.extBut _ _ c2 (s2.extBut _ _ c3 (s1.extBut _ _ c1 q))))) ⟨oe,s5.extBut _ _ ez ge,ce⟩
theorem nextOne {z I O i j l t:Addr} {n m:Nat} {xs ys:Array Value} {x y a b:Value} {Q:Option Value→Shared→Prop} (D:ZipApart z I O i j l t) (qz:IsZip s.heap z I O .none) (qI:IsPair s.heap I (.ref i) (.ref j)) (qO:IsPair s.heap O a b)
  (q1:s.heap.IsListIter i l n) (q2:s.heap.IsTupleIter j t m) (ql:s.heap.IsList l xs) (qt:s.heap.IsTuple t ys) (hx:xs[n]?=some x) (hy:ys[m]?=some y)
  (k: ∀h',IsZip h' z I O (rawInt s.heap.objs.size)→IsPair h' O x y→h'.IsListIter i l (n+1)→h'.IsTupleIter j t (m+1)→IsPair h' s.heap.objs.size x y→h'.objs.size=s.heap.objs.size+1→
   (∀c o,c≠z→c≠O→c≠i→c≠j→s.heap.get? c=some o→h'.get? c=some o)→Q (some (.ref s.heap.objs.size)) {s with heap:=h'}):wpAny (model prog w) A (pyNext (.ref z)) Q E s:=by
 have ty:s.TypeIs (.ref z) "zip" :=⟨_,qz,rfl⟩
 unfold pyNext
 exact wpAny_bind (wpAny_attempt (wpAny_callSpecial?_slot (name:=Str.ofString "__next__") ty F.slot_zip_next (wpAny_call_entry F.slot_zip_next ty F.entry_zip_next
  (both D qz qI qO q1 q2 ql qt hx hy fun h' a1 a2 a3 a4 a5 a6 a7=>wpAny_pure (k h' a1 a2 a3 a4 a5 a6 a7)) (F.args_zip_next_1 _))))
theorem FK {z I O i j l t:Addr} {n m:Nat} {xs ys:Array Value} {a b:Value} {Q:Option Value→Shared→Prop} (hh:A.handled=none) (D:ZipApart z I O i j l t) (qz:IsZip s.heap z I O .none) (qI:IsPair s.heap I (.ref i) (.ref j)) (qO:IsPair s.heap O a b)
  (q1:s.heap.IsListIter i l n) (q2:s.heap.IsTupleIter j t m) (ql:s.heap.IsList l xs) (qt:s.heap.IsTuple t ys) (hend:xs[n]?=none∨ys[m]?=none)
  (k: ∀h',(∀c o,c≠z→c≠O→c≠i→c≠j→s.heap.get? c=some o→h'.get? c=some o)→Q none {s with heap:=h'}):wpAny (model prog w) A (pyNext (.ref z)) Q E s:=by
 have ty:s.TypeIs (.ref z) "zip" :=⟨_,qz,rfl⟩
 unfold pyNext
 refine wpAny_bind (wpAny_attempt (wpAny_callSpecial?_slot (name:=Str.ofString "__next__") ty F.slot_zip_next (wpAny_call_entry F.slot_zip_next ty F.entry_zip_next
  (stop hh D qz qI qO q1 q2 ql qt hend fun h' e hk he=>?_) (F.args_zip_next_1 _))))
 obtain ⟨o,ho,hc⟩:=he
 refine wpAny_bind (wpAny_isInstance (T:= "StopIteration") (b:=true) ⟨o,ho,hc⟩ isSubtype_stop ?_)
 exact wpAny_pure (k _ hk)
end
abbrev m1 (h:Heap) (l:Addr):Heap:=h.push {cls:= .type "list_iterator",data:= .fields #[.ref l, .int 0 0]}
abbrev m2 (h:Heap) (l t:Addr):Heap:=(m1 h l).push {cls:= .type "tuple_iterator",data:= .fields #[.ref t, .int 0 0]}
abbrev m3 (h:Heap) (l t:Addr):Heap:=(m2 h l t).push {cls:= .type "tuple",data:= .seq #[.ref h.objs.size, .ref (m1 h l).objs.size]}
abbrev m4 (h:Heap) (l t:Addr):Heap:=(m3 h l t).push {cls:= .type "tuple",data:= .seq #[.none, .none]}
abbrev m5 (h:Heap) (l t:Addr):Heap:=(m4 h l t).push {cls:= .type "zip",data:= .fields #[.none, .bool false, .bool false, .ref (m2 h l t).objs.size, .ref (m3 h l t).objs.size]}
theorem made (l t:Addr) (xs ys:Array Value):Meets (Builtin.«zip.__new__» ⟨[.type "zip", .ref l, .ref t], []⟩) (fun _ R s=>s.heap.IsList l xs∧s.heap.IsTuple t ys∧R (.ok (.ret (.ref (m4 s.heap l t).objs.size))) {s with heap:=m5 s.heap l t}):=
 .of_wp fun prog w A R s h=>by
  obtain ⟨hp,g,d,tk,os⟩:=s
  obtain ⟨ql,qt,h⟩:=h
  have hsub:=sub_zip
  have hL1:Heap.IsList (Shared.heap ⟨hp,g,d,tk,os⟩) l xs:=ql
  have hL2:Heap.IsTuple (Shared.heap ⟨hp.push {cls:= .type "list_iterator",data:= .fields #[.ref l, .int 0 0]},g,d,tk,os⟩) t ys:=Heap.IsTuple.push qt _
  wp_walk using wpAny_pyIter_list hL1,wpAny_pyIter_tuple hL2
  exact ⟨_,rfl,h⟩
theorem called {prog:Program} {w:World} {A:Around} {E:Value→Shared→Prop} {s:Shared} {l t:Addr} {xs ys:Array Value} {Q:Value→Shared→Prop} (ql:s.heap.IsList l xs) (qt:s.heap.IsTuple t ys)
  (k: ∀h',IsZip h' (s.heap.objs.size+4) (s.heap.objs.size+2) (s.heap.objs.size+3) .none→IsPair h' (s.heap.objs.size+2) (.ref s.heap.objs.size) (.ref (s.heap.objs.size+1))→IsPair h' (s.heap.objs.size+3) .none .none→
   h'.IsListIter s.heap.objs.size l 0→h'.IsTupleIter (s.heap.objs.size+1) t 0→h'.objs.size=s.heap.objs.size+5→(∀c o,s.heap.get? c=some o→h'.get? c=some o)→Q (.ref (s.heap.objs.size+4)) {s with heap:=h'}):
  wpAny (model prog w) A (call (.type "zip") [.ref l, .ref t]) Q E s:=by
 refine callType_new F.called_zip (by decide) (F.typeCall_zip_2 _ _) (F.newCall_zip_2 _ _) (fun obj=>F.args_object_init_3 obj _ _) F.entry_zip_new (made l t xs ys) ⟨ql,qt,?_⟩
 have n1:(m1 s.heap l).objs.size=s.heap.objs.size+1:=Heap.size_push ..
 have n2:(m2 s.heap l t).objs.size=s.heap.objs.size+2:=by rw[Heap.size_push,n1]
 have n3:(m3 s.heap l t).objs.size=s.heap.objs.size+3:=by rw[Heap.size_push,n2]
 have n4:(m4 s.heap l t).objs.size=s.heap.objs.size+4:=by rw[Heap.size_push,n3]
 have n5:(m5 s.heap l t).objs.size=s.heap.objs.size+5:=by rw[Heap.size_push,n4]
 have up:=fun (h:Heap) (o:Obj) (c:Addr) (x:Obj) (e:h.get? c=some x)=>Heap.get?_push_of_some o e
 have g5:(m5 s.heap l t).get? (m4 s.heap l t).objs.size=some _:=Heap.get?_push_size _ rfl
 have g4:(m5 s.heap l t).get? (m3 s.heap l t).objs.size=some _:=up _ _ _ _ (Heap.get?_push_size _ rfl)
 have g3:(m5 s.heap l t).get? (m2 s.heap l t).objs.size=some _:=up _ _ _ _ (up _ _ _ _ (Heap.get?_push_size _ rfl))
 have g2:(m5 s.heap l t).get? (m1 s.heap l).objs.size=some _:=up _ _ _ _ (up _ _ _ _ (up _ _ _ _ (Heap.get?_push_size _ rfl)))
 have g1:(m5 s.heap l t).get? s.heap.objs.size=some _:=up _ _ _ _ (up _ _ _ _ (up _ _ _ _ (up _ _ _ _ (Heap.get?_push_size _ rfl))))
 show _∧_
 rw[n2,n3,n4] at g5
 rw[n1,n2] at g3
 rw[n3] at g4
 rw[n1] at g2
 rw[n4]
 exact ⟨⟨_,g5,rfl⟩,k _ g5 g3 g4 ⟨_,g1,rfl,rfl⟩ ⟨_,g2,rfl,rfl⟩ n5 fun c o x=>up _ _ _ _ (up _ _ _ _ (up _ _ _ _ (up _ _ _ _ (up _ _ _ _ x))))⟩
end Zt
end PySem
namespace L2
open PySem PySem.Spec PyProof.Rows
def tu (K:PySem.W.Frag) (a b:Addr):It:=
 ⟨fun i H=> ∃(xs ys:List V) (x y:V),af K H a xs∧aP K H b ys∧xs[i]?=some x∧ys[i]?=some y,
  fun i H v H'=> ∃p x y,v= .ref p∧H p=none∧H'=upd H p (.tup [x,y])∧(∀xs,af K H a xs→xs[i]?=some x)∧ ∀ys,aP K H b ys→ys[i]?=some y,
  fun i H=> ∃xs ys:List V,af K H a xs∧aP K H b ys∧(xs.length≤i∨ys.length≤i)⟩
theorem Gz {P:Program} {w:World} {K:PySem.W.Frag} {elts:List Expr} {kk:Nat} {tpos:Pos} {a b z I O i1 i2:Addr} (D:ZipApart z I O i1 i2 a b):
  Turn P w K (.Tuple elts kk tpos) (tu K a b) [z,I,O,i1,i2] z (fun i h=>IsZip h z I O .none∧IsPair h I (.ref i1) (.ref i2)∧(∃x y,IsPair h O x y)∧h.IsListIter i1 a i∧h.IsTupleIter i2 b i) where
 mem:=by simp
 obj:=fun i h st c hc=>by
  obtain ⟨qz,qI,⟨x,y,qO⟩,⟨o1,e1,_,d1⟩,⟨o2,e2,_,d2⟩⟩:=st
  have e':c=z∨c=I∨c=O∨c=i1∨c=i2:=by simpa using hc
  rcases e' with rfl|rfl|rfl|rfl|rfl
  ·exact ⟨_,qz,fun v q=>nomatch q⟩
  ·exact ⟨_,qI,fun v q=>nomatch q⟩
  ·exact ⟨_,qO,fun v q=>nomatch q⟩
  ·exact ⟨o1,e1,fun v q=>by rw[d1] at q;cases q⟩
  ·exact ⟨o2,e2,fun v q=>by rw[d2] at q;cases q⟩
 keep:=fun i h h' st k=>by
  obtain ⟨qz,qI,⟨x,y,qO⟩,h1,o2,e2,r2⟩:=st
  exact ⟨k z (by simp) _ qz,k I (by simp) _ qI,⟨x,y,k O (by simp) _ qO⟩,h1.at fun o q=>k i1 (by simp) o q,o2,k i2 (by simp) _ e2,r2⟩
 item:=by
  intro X hP hw hK hc i pins s σ H E II hf st hg
  subst hP hw hK
  obtain ⟨qz,qI,⟨x0,y0,qO⟩,h1,h2⟩:=st
  obtain ⟨xs,ys,x,y,hqx,hqy,hx,hy⟩:=hg
  obtain ⟨its,rv,p,_⟩:=II.list hqx
  obtain ⟨its2,rv2,p2,_⟩:=II.tuple hqy
  obtain ⟨u,hu,ru⟩:=rv.get hx
  obtain ⟨u2,hu2,ru2⟩:=rv2.get hy
  have zl:z<s.heap.objs.size:=Heap.lt_size qz
  refine Zt.nextOne D qz qI qO h1 h2 p.isList p2 (x:=u) (y:=u2) (by simpa using hu) (by simpa using hu2) fun h' z' O' h1' h2' hT hsz hk=>?_
  refine ⟨_,rfl,wpAny_letOwnedTupleGo_zip (s:={s with heap:=h'}) z' fun h'' z'' sb=>?_⟩
  have hT2:h''.get? s.heap.objs.size=some {cls:= .type "tuple",data:= .seq #[u,u2]}:=(sb.2 _ (Nat.ne_of_gt zl)).trans hT
  have new:bJ X.prog X.w (upd H s.heap.objs.size (.tup [x,y])) h'' s.heap.objs.size (.tup [x,y]):=⟨by show 2≤sizeLine;decide, [u,u2], .cons ru (.cons ru2 .nil),⟨_,hT2,rfl,_,rfl⟩⟩
  have I1:Inv X pins σ (upd H s.heap.objs.size (.tup [x,y])) {s with heap:=h''}:=II.ux (t':=s.toks) (ch:= [z,I,O,i1,i2])
   (fun c o hb q=>(sb.2 c (fun q'=>hb (by simp [q']))).trans (hk c o (fun q'=>hb (by simp [q'])) (fun q'=>hb (by simp [q'])) (fun q'=>hb (by simp [q'])) (fun q'=>hb (by simp [q'])) q)) hf (Nat.le_refl _) new
  refine ⟨.ref s.heap.objs.size,_,I1,rfl,⟨_,x,y,rfl,II.ag.fresh (Nat.le_refl _),rfl,fun l hl=>by rw[II.pO hl hqx];exact hx,fun l hl=>?_⟩,⟨z'',?_,⟨u,u2,?_⟩,?_,?_⟩,fun c hcm=>?_⟩
  ·rw[II.DQ hl hqy];exact hy
  ·exact (sb.2 _ D.TIz).trans (hk _ _ D.TIz D.TITO D.TIi1 D.TIi2 qI)
  ·exact (sb.2 _ D.TOz).trans O'
  ·exact h1'.at fun o q=>(sb.2 _ D.i1z).trans q
  ·obtain ⟨o2,e2,r2⟩:=h2'
   exact ⟨o2,(sb.2 _ D.i2z).trans e2,r2⟩
  ·have hlt:c<s.heap.objs.size:=by
    have e':c=z∨c=I∨c=O∨c=i1∨c=i2:=by simpa using hcm
    rcases e' with q|q|q|q|q
    ·rw[q];exact zl
    ·rw[q];exact Heap.lt_size qI
    ·rw[q];exact Heap.lt_size qO
    ·rw[q];obtain ⟨_,e1,_⟩:=h1;exact Heap.lt_size e1
    ·rw[q];obtain ⟨_,e2,_⟩:=h2;exact Heap.lt_size e2
   rw[ay (Nat.ne_of_lt hlt)]
   exact (hf c hcm).1
 done:=by
  intro X hP hw hK hc i pins s σ H E II hf st hg
  subst hP hw hK
  obtain ⟨qz,qI,⟨x0,y0,qO⟩,h1,h2⟩:=st
  obtain ⟨xs,ys,hqx,hqy,hend⟩:=hg
  obtain ⟨its,rv,p,_⟩:=II.list hqx
  obtain ⟨its2,rv2,p2,_⟩:=II.tuple hqy
  have l1:=rv.length
  have l2:=rv2.length
  have he:its.toArray[i]?=none∨its2.toArray[i]?=none:=by
   rcases hend with q|q
   ·exact .inl (by simp;lia)
   ·exact .inr (by simp;lia)
  exact Zt.FK (II.ok.hd hc) D qz qI qO h1 h2 p.isList p2 he fun h' hk=>⟨rfl,II.CC (t':=s.toks) (ch:= [z,I,O,i1,i2])
   (fun c o hb q=>hk c o (fun q'=>hb (by simp [q'])) (fun q'=>hb (by simp [q'])) (fun q'=>hb (by simp [q'])) (fun q'=>hb (by simp [q'])) q) hf⟩
 self:=fun A i s Q E st h=>wpAny_pyIter_zip st.1 h
def L6 (K:PySem.W.Frag) (ta:TA):TI:=fun σ H R=>ta σ H fun vs H1=> ∃a b xs ys,vs= [.ref a, .ref b]∧af K H1 a xs∧aP K H1 b ys∧R (tu K a b) H1
theorem NS {X:Cx} {e e2:Expr} {ta:TA} {p pos tpos:Pos} {elts:List Expr} {kk:Nat} (hg:Gl X "zip") (hm:X.mg "zip" =none) (ha:PA X [e,e2] ta)
  (hs:starEach [e,e2] X.env=(false,eval e X.env)::starEach [e2] X.env:=by rfl) (hpl:(backTo pos (starEach [e2] X.env)).any (·.1)=false:=by rfl):
  PI X (.Tuple elts kk tpos) (.Call (.Name "zip" p) [e,e2] [] pos) (L6 X.K ta):=by
 intro pins s σ H R I h
 refine Call_ (iC I hg hm C9 (PyProof.Rows.callWith_type1 (aw (ha pos pins s σ H _ I h) fun us s1 ⟨vs,H1,I1,r1,q1⟩=>?_) hs hpl))
 obtain ⟨a,b,xs,ys,ex,hqx,hqy,q⟩:=q1
 subst ex
 cases r1 with
 |cons r rr=>
  cases rr with
  |cons r' rr=>
   cases rr;cases r;cases r'
   obtain ⟨its,rv,p1,_⟩:=I1.list hqx
   obtain ⟨its2,rv2,p2,_⟩:=I1.tuple hqy
   have la:a<s1.heap.objs.size:=p1.lt
   have lb:b<s1.heap.objs.size:=by obtain ⟨_,e2,_⟩:=id p2;exact Heap.lt_size e2
   refine Zt.called p1.isList p2 fun h' qz qI qO h1 h2 hsz hk=>wpAny_pyIter_zip qz ?_
   have I2:Inv X pins σ H1 {s1 with heap:=h'}:=I1.kept (t':=s1.toks) hk
   refine ⟨s1.heap.objs.size+4, [s1.heap.objs.size+4,s1.heap.objs.size+2,s1.heap.objs.size+3,s1.heap.objs.size,s1.heap.objs.size+1],_,_,H1,rfl,I2,Gz (PySem.W.ktu_apart s1.heap.objs.size a b la lb),⟨qz,qI,⟨_,_,qO⟩,h1,h2⟩,fun c hcm=>?_,q⟩
   have hle:s1.heap.objs.size≤c:=by
    have e':c=s1.heap.objs.size+4∨c=s1.heap.objs.size+2∨c=s1.heap.objs.size+3∨c=s1.heap.objs.size∨c=s1.heap.objs.size+1:=by simpa using hcm
    rcases e' with z|z|z|z|z
    ·rw[z];exact Nat.le_add_right _ _
    ·rw[z];exact Nat.le_add_right _ _
    ·rw[z];exact Nat.le_add_right _ _
    ·rw[z];exact Nat.le_refl _
    ·rw[z];exact Nat.le_add_right _ _
   exact I1.gm hle (I1.ag.fresh hle)
theorem qe {X:Cx} {K:PySem.W.Frag} (h:X.K=K):i7 X (k9 K):=by subst h;exact vF
end L2
namespace L2
open PySem PySem.Spec PyProof.Rows
theorem M0 {P:Program} {w:World} {H:Hp} {h:Heap} {a:Addr} {o:HO} (x:bJ P w H h a o): ∃ob,h.get? a=some ob:=by
 cases o with
 |lst xs=>obtain ⟨_,_,_,_,e⟩:=x;exact ⟨_,e⟩
 |tup xs=>obtain ⟨_,_,_,ob,e,_⟩:=x;exact ⟨ob,e⟩
 |dK kvs=>obtain ⟨_,_,_,_,o,_,_,e,_⟩:=x;exact ⟨o,e⟩
 |dT kvs=>obtain ⟨_,_,_,_,o,_,_,e,_⟩:=x;exact ⟨o,e⟩
 |set S n=>obtain ⟨o,_,_,_,e,_⟩:=x;exact ⟨o,e⟩
 |ins C dx fs=>obtain ⟨_,_,_,e,_⟩:=x;exact ⟨_,e⟩
 |own y=>exact x
 |xd fs=>obtain ⟨_,⟨o,_,_,e,_⟩,_⟩:=x;exact ⟨o,e⟩
 |fu lo hi=>obtain ⟨_,_,_,e⟩:=x;exact ⟨_,e⟩
 |cK ob u=>obtain ⟨e,_⟩:=x;exact ⟨_,e⟩
 |iq ps=>exact ⟨_,x⟩
 |met f y=>exact ⟨_,x⟩
 |ext φ=>obtain ⟨_,e,_⟩:=x;exact e
theorem kj {P:Program} {w:World} {H:Hp} {h:Heap} (x:bh P w H h) {a:Addr} (e:h.get? a=none):H a=none:=by
 cases q:H a with
 |none=>rfl
 |some o=>
  obtain ⟨ob,z⟩:=M0 (x a o q)
  rw[e] at z;cases z
inductive cx (h:Heap) (H:Hp) (av:List Addr):Nat→Value→Prop
 |nil:cx h H av 0 .none
 |cons {n:Nat} {a:Addr} {o:Obj} {vs:Array Value} {c:Value}:h.get? a=some o→o.data= .fields vs→vs[2]?=some c→H a=none→a∉av→cx h H av n c→cx h H av (n+1) (.ref a)
theorem cx.move {h h':Heap} {H H':Hp} {av av':List Addr} {n:Nat} {c:Value} (x:cx h H av n c) (k: ∀a o vs,h.get? a=some o→o.data= .fields vs→H a=none→a∉av→h'.get? a=some o∧H' a=none∧a∉av'):cx h' H' av' n c:=by
 induction x with
 |nil=>exact .nil
 |cons h1 h2 h3 h4 h5 _ ih=>
  obtain ⟨k1,k2,k3⟩:=k _ _ _ h1 h2 h4 h5
  exact .cons k1 h2 h3 k2 k3 ih
def Jj (h base:Heap) (e:Addr) (cls c fl:Value):Prop:=
 ∃oe vs T oT ts,h.get? e=some oe∧(oe.cls=cls∧vs[2]?=some c)∧oe.data= .fields vs∧vs[1]?=some (.ref T)∧base.get? T=none∧T≠e∧h.get? T=some oT∧oT.data= .fields ts∧ts[3]?=some fl
def fJ (base:Heap) (l:List Env) (e:Addr) (cls c fl:Value) (h:Heap):Prop:=base.StaysIn h∧base.get? e=none∧h.FunFrames base l∧Jj h base e cls c fl
section
variable {M:Model} {A:Around} {E:Value→Shared→Prop} {s:Shared}
theorem Cq {base:Heap} {env:Env} {outer:List Env} {L e:Addr} {oe:Obj} {vs:Array Value} {hd c:Value} {nx:Bool} {Q:Unit→Shared→Prop} (hfr:A.frames=some (env::outer)) (hl:s.heap.FunFrames base (env::outer)) (hf:env.frame=some L)
  (ge:s.heap.get? e=some oe) (st:base.StaysIn s.heap) (ne:base.get? e=none) (de:oe.data= .fields vs) (z1:1<vs.size) (h2:vs[2]?=some c) (k: ∀h',fJ base (env::outer) e oe.cls c (rawInt L) h'→s.heap.UpToSlots h'→Q () {s with heap:=h'}):
  wpAny M A (do let fo←frameOf env;let pc←entryPlaceOf L nx;let tb←EntryCells.newEntry hd fo .none (rawInt L) .none pc;setField (.ref e) 1 tb) Q E s:=by
 have nfr:e∉(env::outer).filterMap (·.frame):=fun m=>by
  obtain ⟨_,q,hq,nf⟩:=hl.mem m
  rw[ge] at hq;cases hq;exact nf vs de
 refine wpAny_bind (wpAny_frameOf_fun hfr hl hf fun g ⟨_,sg,tg⟩=>wpAny_bind (wpAny_entryPlaceOf fun pc hp=>?_))
 have e1:g.get? e=some oe:=(sg e nfr).trans ge
 have b1:base.StaysIn g:=fun b q hb=>(sg b fun m=>by rw[(hl.mem m).1] at hb;cases hb).trans (st b q hb)
 have Te:g.objs.size≠e:=Nat.ne_of_gt (Heap.lt_size e1)
 unfold EntryCells.newEntry newFields
 refine wpAny_bind (wpAny_newObj_type ?_ (hp.sizeOk5 _ _ _ _ _))
 generalize hts:([hd,Value.ref L, .none,rawInt L, .none]++(if pc.isEmpty then List.replicate 6 Value.none else pc)).toArray=ts
 have t3:ts[3]?=some (rawInt L):=by rw[←hts];simp
 have e2:(g.push {cls:= .type "traceback",data:= .fields ts}).get? e=some oe:=Heap.get?_push_of_some _ e1
 refine wpAny_setField e2 de z1 (k _ ?_ ?_)
 ·have d3:=Obj.data_mapFields de (·.setIfInBounds 1 (Value.ref g.objs.size))
  refine ⟨fun b q hb=>?_,ne,hl.of_keeps fun b q hb nf=>?_,_,_,g.objs.size,_,ts,Heap.get?_update_self _ e2 (Obj.isFreed_of_fields d3),⟨Obj.cls_mapFields _ _,?_⟩,d3,by simp [z1],b1.fresh,Te,(Heap.get?_update_other _ _ (Ne.symm Te)).trans (Heap.get?_push_size _ rfl),rfl,t3⟩
  ·rw[Heap.get?_update_other _ _ (fun z=>by rw[←z,ne] at hb;cases hb)]
   exact Heap.get?_push_of_some _ (b1 b q hb)
  ·obtain ⟨sl,hs⟩:=tg b q hb
   refine ⟨{q with slots:=sl},?_,rfl⟩
   rw[Heap.get?_update_other _ _ (fun z=>by rw[←z,ge] at hb;cases hb;exact nf vs de)]
   exact Heap.get?_push_of_some _ hs
  ·rw[Array.getElem?_setIfInBounds_ne (by decide)];exact h2
 ·intro b q hb nf
  obtain ⟨sl,hs⟩:=tg b q hb
  refine ⟨sl,?_⟩
  rw[Heap.get?_update_other _ _ (fun z=>by rw[←z,ge] at hb;cases hb;exact nf vs de)]
  exact Heap.get?_push_of_some _ hs
theorem zc {base:Heap} {env:Env} {outer:List Env} {L e:Addr} {oe:Obj} {vs:Array Value} {c:Value} {Q:Unit→Shared→Prop} (hfr:A.frames=some (env::outer)) (hf:env.frame=some L) (hl:s.heap.FunFrames base (env::outer)) (ge:s.heap.get? e=some oe) (st:base.StaysIn s.heap) (ne:base.get? e=none) (de:oe.data= .fields vs) (h1:vs[1]?=some .none) (h2:vs[2]?=some c)
  (k: ∀h',fJ base (env::outer) e oe.cls c (rawInt L) h'→s.heap.UpToSlots h'→Q () {s with heap:=h'}):wpAny M A (noteFrame (.ref e) env) Q E s:=by
 unfold noteFrame
 simp only [hf]
 refine wpAny_bind (wpAny_field ge de h1 ?_)
 rw[if_neg (by decide)]
 exact Cq hfr hl hf ge st ne de (Array.getElem?_eq_some_iff.mp h1).1 h2 k
theorem uj {base:Heap} {env:Env} {outer:List Env} {L e:Addr} {cls c fl:Value} {Q:Unit→Shared→Prop} (hfr:A.frames=some (env::outer)) (hf:env.frame=some L) (h:fJ base (env::outer) e cls c fl s.heap)
  (k: ∀h',fJ base (env::outer) e cls c (rawInt L) h'→s.heap.UpToSlots h'→Q () {s with heap:=h'}):wpAny M A (noteFrame (.ref e) env) Q E s:=by
 obtain ⟨st,ne,hl,oe,vs,T,oT,ts,ge,⟨hcls,h2⟩,de,h1,nT,Te,gT,dT,h3⟩:=id h
 subst hcls
 unfold noteFrame
 simp only [hf]
 refine wpAny_bind (wpAny_field ge de h1 ?_)
 rw[if_pos (by simp)]
 refine wpAny_bind (wpAny_field gT dT h3 ?_)
 by_cases q:fl=rawInt L
 ·subst q
  rw[if_pos (by simp)]
  exact wpAny_pure (k s.heap h (.refl _))
 ·rw[if_neg (by simpa using q)]
  refine wpAny_bind (wpAny_setField gT dT (Array.getElem?_eq_some_iff.mp h3).1 ?_)
  have oth: ∀b,b≠T→(s.heap.update T (Obj.mapFields (·.setIfInBounds 3 Value.none))).get? b=s.heap.get? b:=fun b hb=>Heap.get?_update_other _ _ (Ne.symm hb)
  have nrec: ∀b o,s.heap.get? b=some o→(∀vs,o.data≠ .fields vs)→b≠T:=fun b o hb hnf z=>by
   rw[z,gT] at hb;cases hb;exact hnf ts dT
  refine Cq hfr (hl.of_keeps fun b o hb hnf=>⟨o,(oth b (nrec b o hb hnf)).trans hb,rfl⟩) hf ((oth e (Ne.symm Te)).trans ge)
   (fun b o hbo=>(oth b fun z=>by rw[z,nT] at hbo;cases hbo).trans (st b o hbo)) ne de (Array.getElem?_eq_some_iff.mp h1).1 h2 fun h' x up=>k h' x fun b o hb hnf=>up b o ((oth b (nrec b o hb hnf)).trans hb) hnf
theorem uP {base:Heap} {l:List Env} {e:Addr} {cls c fl:Value} {fo:Option Addr} {Q:Unit→Shared→Prop} (h:fJ base l e cls c fl s.heap) (k: ∀h',fJ base l e cls c (fo.elim Value.none fun f=>rawInt f) h'→s.heap.UpToSlots h'→Q () {s with heap:=h'}):wpAny M A (setFlight (.ref e) fo) Q E s:=by
 obtain ⟨st,ne,hl,oe,vs,T,oT,ts,ge,hc,de,h1,nT,Te,gT,dT,h3⟩:=h
 have z3:3<ts.size:=(Array.getElem?_eq_some_iff.mp h3).1
 have oth: ∀b,b≠T→(s.heap.update T (Obj.mapFields (·.setIfInBounds 3 (fo.elim Value.none fun f=>rawInt f)))).get? b=s.heap.get? b:=fun b hb=>Heap.get?_update_other _ _ (Ne.symm hb)
 have nrec: ∀b o,s.heap.get? b=some o→(∀vs,o.data≠ .fields vs)→b≠T:=fun b o hb hnf z=>by
  rw[z,gT] at hb;cases hb;exact hnf ts dT
 unfold setFlight
 refine wpAny_bind (wpAny_field ge de h1 ?_)
 rw[if_pos (by simp)]
 refine wpAny_setField gT dT z3 (k _ ⟨fun b o hb=>(oth b fun z=>by rw[z,nT] at hb;cases hb).trans (st b o hb),ne,hl.of_keeps fun b o hb nf=>⟨o,(oth b (nrec b o hb nf)).trans hb,rfl⟩,oe,vs,T,_,_,(oth e (Ne.symm Te)).trans ge,hc,de,h1,nT,Te,Heap.get?_update_self _ gT (Obj.isFreed_of_fields (Obj.data_mapFields dT _)),Obj.data_mapFields dT _,by simp [z3]⟩ fun b o hb nf=>⟨o.slots,(oth b (nrec b o hb nf)).trans hb⟩)
theorem My {base:Heap} {env:Env} {outer:List Env} {L e:Addr} {cls c fl:Value} {Q:Unit→Shared→Prop} (hfr:A.frames=some (env::outer)) (hf:env.frame=some L) (h:fJ base (env::outer) e cls c fl s.heap)
  (k: ∀h',fJ base outer e cls c .none h'→s.heap.UpToSlots h'→Q () {s with heap:=h'}):wpAny M A (leaving env (.ref e)) Q E s:=by
 unfold leaving
 refine wpAny_bind (uj hfr hf h fun h1 hh up=>?_)
 refine uP (s:={s with heap:=h1}) hh fun h2 fl2 up2=>?_
 obtain ⟨k1,k2,⟨_,_,k3⟩,k4⟩:=fl2
 exact k h2 ⟨k1,k2,k3,k4⟩ (up.trans up2)
theorem OY {e:Value} {env env':Env} (h:env.frame=env'.frame):noteFrame e env=noteFrame e env':=by
 unfold noteFrame PySem.frameOf
 rw[h]
end
def sd (h:Heap) (x T:Addr) (cls c fl:Value):Prop:= ∃oe vs oT ts,h.get? x=some oe∧(oe.cls=cls∧vs[2]?=some c)∧oe.data= .fields vs∧vs[1]?=some (.ref T)∧T≠x∧h.get? T=some oT∧oT.data= .fields ts∧ts[3]?=some fl
def bu (P:Program) (w:World):eI:=fun outer H s E e s'=> ∃(x T:Addr) (cls c:Value) (n:Nat) (H':Hp),e= .ref x∧s'.os=s.os∧AllBare s'.gens∧Un (aX outer) [] H H' s.heap s'.heap∧bh P w H' s'.heap∧
 (s.heap.get? x=none∧s.heap.get? T=none∧H' x=none∧H' T=none)∧(sd s'.heap x T cls c .none∧cx s'.heap H' [x,T] n c)∧E cls none H'
section
variable {X:Cx} {pins:List (Addr×Obj)} {σ:St} {H:Hp} {s:Shared} {h':Heap}
theorem Inv.i6 (I:Inv X pins σ H s) (hex:X.ex= []) {b:Addr} (e:s.heap.get? b=none):X.a8.heap.get? b=none:=by
 cases q:X.a8.heap.get? b with
 |none=>rfl
 |some o=>
  obtain ⟨o',z⟩:=I.base.there b o q (by rw[hex];simp)
  rw[e] at z;cases z
theorem Inv.apart (I:Inv X pins σ H s) (hex:X.ex= []) {b:Addr} (e:s.heap.get? b=none):X.a8.heap.get? b=none∧b≠X.env.locals∧(∀x c,X.env.cells.lookup x=some c→c≠b)∧ ∀p∈X.pn++pins,p.1≠b:=by
 refine ⟨I.i6 hex e,fun z=>?_,fun x c q z=>?_,fun p hp z=>?_⟩
 ·obtain ⟨m,⟨o,_,_,ho,_⟩,_⟩:=I.loc
  rw[←z,e] at ho;cases ho
 ·obtain ⟨v,o,ho,_⟩:=I.cell x c q
  rw[z,e] at ho;cases ho
 ·have:=(I.pin p hp).1
  rw[z,e] at this;cases this
theorem xX (I:Inv X pins σ H s) (hex:X.ex= []) (hs:X.stack=X.env::X.outer) (hfr:X.env.frame=some X.env.locals) (hd:List Addr) (hh: ∀b∈hd,X.a8.heap.get? b=none∧H b=none)
  (keep: ∀b o,s.heap.get? b=some o→b∉aX X.stack→b∉hd→h'.get? b=some o) (slot: ∀b o,s.heap.get? b=some o→b∈aX X.stack→ ∃sl,h'.get? b=some {o with slots:=sl}):
  Un X.fs [] X.kg H X.a8.heap h'∧bh X.prog X.w H h':=by
 have eK: ∀b:Addr,b∉X.ex:=fun b=>by rw[hex];simp
 have est:aX X.stack=X.env.locals::X.fs:=by rw[hs];unfold aX;rw[List.filterMap_cons,hfr];rfl
 have hL:X.a8.heap.get? X.env.locals=none:=Heap.get?_none_of_le I.ok.above
 have nst: ∀b o,X.a8.heap.get? b=some o→b∉X.fs→b∉aX X.stack:=fun b o e hb hm=>by
  rw[est] at hm
  rcases List.mem_cons.mp hm with z|z
  ·rw[z,hL] at e;cases e
  ·exact hb z
 have nhd: ∀b o,X.a8.heap.get? b=some o→b∉hd:=fun b o e hm=>by rw[(hh b hm).1] at e;cases e
 refine ⟨⟨fun b o e n hb _=>keep b o (I.base.keep b o e n hb (eK b)) (nst b o e hb) (nhd b o e),fun b o e n hb _=>?_,fun b o e n _=>I.base.free b o e n (eK b),fun b o e _=>?_,I.base.fO,I.base.fG,I.base.gb⟩,fun a o e=>?_⟩
 ·obtain ⟨sl,q⟩:=I.base.slot b o e n hb (eK b)
  obtain ⟨sl',q'⟩:=slot b _ q (by rw[est];exact List.mem_cons_of_mem _ hb)
  exact ⟨sl',q'⟩
 ·obtain ⟨o',q⟩:=I.base.there b o e (eK b)
  by_cases hm:b∈aX X.stack
  ·obtain ⟨sl,z⟩:=slot b _ q hm
   exact ⟨_,z⟩
  ·exact ⟨o',keep b o' q hm (nhd b o e)⟩
 ·have tracked: ∀b u,H b=some u→b∉aX X.stack∧b∉hd:=fun b u q=>⟨fun hm=>(by rw[I.qg b hm] at q;cases q),fun hm=>(by rw[(hh b hm).2] at q;cases q)⟩
  refine (I.ag a o e).eW (fun b u hb q=>?_) (fun _ q=>q) fun _ _ q=>q
  rcases hb with rfl|hb
  ·exact keep _ _ q (tracked _ _ e).1 (tracked _ _ e).2
  ·exact keep _ _ q (tracked _ _ hb).1 (tracked _ _ hb).2
theorem vj {l:List Env} {env:Env} (he:env∈l) {a:Addr} (ha:env.frame=some a):a∈aX l:=List.mem_filterMap.mpr ⟨env,he,ha⟩
theorem lg {P:Addr→Prop} {x T:Addr} (h1:P x) (h2:P T): ∀b∈ [x,T],P b:=fun b hb=>by
 rcases List.mem_cons.mp hb with rfl|hb
 ·exact h1
 ·rcases List.mem_cons.mp hb with rfl|hb
  ·exact h2
  ·cases hb
theorem Inv.moved (I:Inv X pins σ H s) (ch:List Addr) (hch: ∀b∈ch,X.a8.heap.get? b=none∧b≠X.env.locals∧(∀x c,X.env.cells.lookup x=some c→c≠b)∧(∀p∈X.pn++pins,p.1≠b)∧H b=none)
  (keep: ∀b o,s.heap.get? b=some o→b∉aX X.stack→b∉ch→h'.get? b=some o) (slot: ∀b o,s.heap.get? b=some o→b∈aX X.stack→ ∃sl,h'.get? b=some {o with slots:=sl}):Inv X pins σ H {s with heap:=h'}:=by
 have neL: ∀b o,X.a8.heap.get? b=some o→b≠X.env.locals:=fun b o e=>Nat.ne_of_lt (Nat.lt_of_lt_of_le (Heap.lt_size e) I.ok.above)
 have neC: ∀b o,X.a8.heap.get? b=some o→b∉ch:=fun b o e hb=>by rw[(hch b hb).1] at e;cases e
 have nst: ∀b o,X.a8.heap.get? b=some o→b∉X.fs→b∉aX X.stack:=fun b o e hb hm=>(List.mem_cons.mp (I.l7 b hm)).elim (neL b o e) hb
 have any: ∀b o,s.heap.get? b=some o→b∉ch→ ∃sl,h'.get? b=some {o with slots:=sl}:=fun b o e hb=>by
  by_cases hm:b∈aX X.stack
  ·exact slot b o e hm
  ·exact ⟨o.slots,keep b o e hm hb⟩
 have cellK: ∀x c,X.env.cells.lookup x=some c→ ∀v,s.heap.IsCell c v→h'.IsCell c v:=fun x c e v ⟨o,ho,hd⟩=>by
  obtain ⟨sl,q⟩:=any c o ho fun z=>(hch c z).2.2.1 x c e rfl
  exact ⟨_,q,hd⟩
 have tracked: ∀b u,H b=some u→b∉aX X.stack∧b∉ch:=fun b u q=>⟨fun hm=>(by rw[I.qg b hm] at q;cases q),fun hm=>(by rw[(hch b hm).2.2.2.2] at q;cases q)⟩
 refine ⟨I.ok,I.os,I.bare,⟨fun b o e n hb hx=>?_,fun b o e n hb hx=>?_,fun b o e n hx=>I.base.free b o e n hx,fun b o e hx=>?_,I.base.fO,I.base.fG,I.base.gb⟩,?_,fun x c e=>?_,I.free,I.dC,fun p hp=>?_,fun a o e=>?_,I.len⟩
 ·exact keep b o (I.base.keep b o e n hb hx) (nst b o e hb) (neC b o e)
 ·obtain ⟨sl,e1⟩:=I.base.slot b o e n hb hx
  obtain ⟨sl',e2⟩:=any b _ e1 (neC b o e)
  exact ⟨sl',e2⟩
 ·obtain ⟨o',e1⟩:=I.base.there b o e hx
  obtain ⟨sl,e2⟩:=any b o' e1 (neC b o e)
  exact ⟨_,e2⟩
 ·obtain ⟨m,⟨o,es,ep,ho,r⟩,hl⟩:=I.loc
  obtain ⟨sl,q⟩:=any _ o ho fun z=>(hch _ z).2.1 rfl
  refine ⟨m,⟨_,es,ep,q,r⟩,fun i x v e1 e2 e3=>?_⟩
  obtain ⟨u,rr,l⟩:=hl i x v e1 e2 e3
  refine ⟨u,rr,?_⟩
  rcases l with l|⟨k,c,e,z⟩
  ·exact .inl l
  ·exact .inr ⟨k,c,e,cellK x c e _ z⟩
 ·obtain ⟨v,z⟩:=I.cell x c e
  exact ⟨v,cellK x c e v z⟩
 ·obtain ⟨e,n,ne,nf,d⟩:=I.pin p hp
  exact ⟨keep p.1 p.2 e (fun hm=>(List.mem_cons.mp (I.l7 _ hm)).elim ne nf) (fun z=>(hch p.1 z).2.2.2.1 p hp rfl),n,ne,nf,d⟩
 ·refine (I.ag a o e).eW (fun b u hb q=>?_) (fun _ q=>q) fun _ _ q=>q
  rcases hb with rfl|hb
  ·exact keep _ _ q (tracked _ _ e).1 (tracked _ _ e).2
  ·exact keep _ _ q (tracked _ _ hb).1 (tracked _ _ hb).2
theorem rk (I:Inv X pins σ H s) {x T:Addr} {cls c fl:Value} (ht:sd s.heap x T cls c fl):fJ (PySem.W.hideAll s.heap (x::T::aX X.stack)) X.stack x cls c fl s.heap:=by
 obtain ⟨oe,vs,oT,ts,g1,g2,g3,g4,g5,g6,g7,g8⟩:=ht
 exact ⟨fun b o q=>PySem.W.of_hideAll _ q,PySem.W.hideAll_none _ (by simp),PySem.W.funFrames_hide I.stack (fun env henv a ha=>List.mem_cons_of_mem _ (List.mem_cons_of_mem _ (vj henv ha))),oe,vs,T,oT,ts,g1,g2,g3,g4,PySem.W.hideAll_none _ (by simp),g5,g6,g7,g8⟩
theorem qy (I:Inv X pins σ H s) (up:s.heap.UpToSlots h'): ∀b o,s.heap.get? b=some o→b∈aX X.stack→(∀vs,o.data≠ .fields vs)∧ ∃sl,h'.get? b=some {o with slots:=sl}:=fun b o q hm=>by
 obtain ⟨_,o2,q2,nf⟩:=I.stack.mem hm
 rw[q] at q2;cases q2
 exact ⟨nf,up b o q nf⟩
theorem so {x T:Addr} (k1:(PySem.W.hideAll s.heap (x::T::aX X.stack)).StaysIn h'): ∀b o,s.heap.get? b=some o→b∉aX X.stack→b∉ [x,T]→h'.get? b=some o:=fun b o q nb nd=>k1 b o (PySem.W.hideAll_get _ q fun hm=>by
 rcases List.mem_cons.mp hm with z|hm
 ·exact nd (by rw[z];simp)
 ·rcases List.mem_cons.mp hm with z|hm
  ·exact nd (by rw[z];simp)
  ·exact nb hm)
theorem tH (I:Inv X pins σ H s) {x T T':Addr} {oT':Obj} {ts':Array Value} (up:s.heap.UpToSlots h') (t5:(PySem.W.hideAll s.heap (x::T::aX X.stack)).get? T'=none) (t6:T'≠x) (t7:h'.get? T'=some oT') (t8:oT'.data= .fields ts'):s.heap.get? T'=none∨T'=T:=by
 cases q:s.heap.get? T' with
 |none=>exact .inl rfl
 |some o=>
  by_cases hm:T'∈x::T::aX X.stack
  ·rcases List.mem_cons.mp hm with z|hm
   ·exact absurd z t6
   ·rcases List.mem_cons.mp hm with z|hm
    ·exact .inr z
    ·obtain ⟨nf,sl,z⟩:=qy I up T' o q hm
     rw[t7] at z
     cases z
     exact absurd t8 (nf ts')
  ·have:=PySem.W.hideAll_get _ q hm
   rw[t5] at this;cases this
theorem wJ (I:Inv X pins σ H s) {x T T':Addr} {n:Nat} {c:Value} (k1:(PySem.W.hideAll s.heap (x::T::aX X.stack)).StaysIn h') (e:s.heap.get? T'=none∨T'=T) (q:cx s.heap H [x,T] n c):cx h' H [x,T'] n c:=
 q.move fun a o vs g1 g2 g3 g4=>⟨so k1 a o g1 (fun hm=>by obtain ⟨_,o2,q2,nf⟩:=I.stack.mem hm;rw[g1] at q2;cases q2;exact nf vs g2) g4,g3,fun hm=>by
  rcases List.mem_cons.mp hm with z|hm
  ·exact g4 (by rw[z];simp)
  ·rcases List.mem_cons.mp hm with z|hm
   ·rcases e with e|e
    ·rw[←z,g1] at e;cases e
    ·exact g4 (by rw[z,e];simp)
   ·cases hm⟩
end
def gZ (X:Cx) (E:XK):Prop:= ∀(pins:List (Addr×Obj)) (σ:St) (H:Hp) (s:Shared) (x T:Addr) (cls c fl:Value) (n:Nat),Inv X pins σ H s→(X.a8.heap.get? x=none∧X.a8.heap.get? T=none∧H x=none∧H T=none)→sd s.heap x T cls c fl→cx s.heap H [x,T] n c→E cls none H→X.xe (.ref x) s
def lC (X:Cx) (E:XK):Prop:= ∀(pins:List (Addr×Obj)) (σ:St) (H:Hp) (s:Shared) (h1:Heap) (e:Addr) (oe:Obj) (vs:Array Value) (c:Value) (n:Nat),Inv X pins σ H s→(∀b o,s.heap.get? b=some o→h1.get? b=some o)→s.heap.get? e=none→h1.get? e=some oe→oe.data= .fields vs→vs[1]?=some .none→vs[2]?=some c→cx s.heap H [] n c→E oe.cls none H→X.xe (.ref e) {s with heap:=h1}
abbrev gq (P:Program) (w:World) (K:PySem.W.Frag) (mg:Str→Option Value) (base:Heap) (N:List Str) (qual:Str) (scope:Scope) (f:Addr) (cd:Value) (A:Around) (outer:List Env) (s0:Shared) (H0:Hp) (E:XK) (cb:Bool) (ps:List (Addr×Obj)):Cx:={fE (bu P w) P w K mg base N qual scope f cd A outer s0 H0 E with calm:=cb,pn:=ps}
section
variable {P:Program} {w:World} {K:PySem.W.Frag} {mg:Str→Option Value} {base:Heap} {N:List Str} {qual:Str} {scope:Scope} {f:Addr} {cd:Value} {A:Around} {outer:List Env} {s0:Shared} {H0:Hp} {E:XK} {cb:Bool} {ps:List (Addr×Obj)}
theorem zK:gZ (gq P w K mg base N qual scope f cd A outer s0 H0 E cb ps) E:=by
 intro pins σ H s x T cls c fl n I hh ht hq he
 refine My I.ok.frames rfl (rk I ht) fun h' fl up=>?_
 obtain ⟨k1,k2,k3,oe',vs',T',oT',ts',t1,t2,t3,t4,t5,t6,t7,t8,t9⟩:=fl
 have hd:=lg (P:=fun b=>s0.heap.get? b=none∧H b=none) ⟨hh.1,hh.2.2.1⟩ ⟨hh.2.1,hh.2.2.2⟩
 obtain ⟨un',hok'⟩:=xX (h':=h') I rfl rfl rfl [x,T] hd (so k1) (fun b o q hm=>(qy I up b o q hm).2)
 have ent:=tH I up t5 t6 t7 t8
 have hT':s0.heap.get? T'=none∧H T'=none:=by
  rcases id ent with q|rfl
  ·exact ⟨I.i6 rfl q,kj I.ag q⟩
  ·exact hd T' (by simp)
 exact ⟨x,T',cls,c,n,H,rfl,I.os,I.bare,un',hok',⟨hh.1,hT'.1,hh.2.2.1,hT'.2⟩,⟨⟨oe',vs',oT',ts',t1,t2,t3,t4,t6,t7,t8,t9⟩,wJ I k1 ent hq⟩,he⟩
theorem Gd:Passes (bu P w) (gq P w K mg base N qual scope f cd A outer s0 H0 E cb ps) E:=by
 intro pins σ H s e s' I hx
 obtain ⟨x,T,cls,c,n,H',rfl,hos,hbare,un,ag,⟨hx0,hT0,hxn,hTn⟩,⟨ht,hq⟩,he⟩:=hx
 have I1:Inv (gq P w K mg base N qual scope f cd A outer s0 H0 E cb ps) pins σ H' s':=I.jx (ch:= []) hos un ag hbare (fun b hb=>absurd hb (by simp))
 exact zK pins σ H' s' x T cls c .none n I1 ⟨I.i6 rfl hx0,I.i6 rfl hT0,hxn,hTn⟩ ht hq he
theorem Qd:lC (gq P w K mg base N qual scope f cd A outer s0 H0 E cb ps) E:=by
 intro pins σ H s h1 e oe vs c n I kp ne ge de f1 f2 hq he
 have hff:=I.stack
 show wpAny _ _ (leaving _ (.ref e)) _ _ _
 unfold leaving
 have nh:(PySem.W.hideAll s.heap (aX (gq P w K mg base N qual scope f cd A outer s0 H0 E cb ps).stack)).get? e=none:=by
  cases q:(PySem.W.hideAll s.heap (aX (gq P w K mg base N qual scope f cd A outer s0 H0 E cb ps).stack)).get? e with
  |none=>rfl
  |some o=>rw[PySem.W.of_hideAll _ q] at ne;cases ne
 refine wpAny_bind (zc (s:={s with heap:=h1}) (base:=PySem.W.hideAll s.heap (aX (gq P w K mg base N qual scope f cd A outer s0 H0 E cb ps).stack)) I.ok.frames rfl ((PySem.W.funFrames_hide hff (fun env henv a ha=>vj henv ha)).of_keeps fun b o q nf=>⟨o,kp b o q,rfl⟩) ge (fun b o q=>kp b o (PySem.W.of_hideAll _ q)) nh de f1 f2 fun h2 o2 up1=>?_)
 refine uP (s:={s with heap:=h2}) o2 fun h' fl up2=>?_
 obtain ⟨k1,k2,k3,oe',vs',T',oT',ts',t1,t2,t3,t4,t5,t6,t7,t8,t9⟩:=fl
 have slot: ∀b o,s.heap.get? b=some o→b∈aX (gq P w K mg base N qual scope f cd A outer s0 H0 E cb ps).stack→(∀vs,o.data≠ .fields vs)∧ ∃sl,h'.get? b=some {o with slots:=sl}:=fun b o q hm=>by
  obtain ⟨_,o2,q2,nf⟩:=hff.mem hm
  rw[q] at q2;cases q2
  exact ⟨nf,(up1.trans up2) b o (kp b o q) nf⟩
 have keep: ∀b o,s.heap.get? b=some o→b∉aX (gq P w K mg base N qual scope f cd A outer s0 H0 E cb ps).stack→h'.get? b=some o:=fun b o q nb=>k1 b o (PySem.W.hideAll_get _ q nb)
 obtain ⟨un',hok'⟩:=xX (h':=h') I rfl rfl rfl [] (fun b hb=>absurd hb (by simp)) (fun b o q nb _=>keep b o q nb) (fun b o q hm=>(slot b o q hm).2)
 have new:s.heap.get? T'=none:=by
  cases q:s.heap.get? T' with
  |none=>rfl
  |some o=>
   by_cases hm:T'∈aX (gq P w K mg base N qual scope f cd A outer s0 H0 E cb ps).stack
   ·obtain ⟨nf,sl,z⟩:=slot T' o q hm
    rw[t7] at z
    cases z
    exact absurd t8 (nf ts')
   ·have:=PySem.W.hideAll_get _ q hm
    rw[t5] at this;cases this
 exact ⟨e,T',oe.cls,c,n,H,rfl,I.os,I.bare,un',hok',⟨I.i6 rfl ne,I.i6 rfl new,kj I.ag ne,kj I.ag new⟩,⟨⟨oe',vs',oT',ts',t1,t2,t3,t4,t6,t7,t8,t9⟩,hq.move fun a o vs g1 g2 g3 g4=>⟨keep a o g1 (fun hm=>by obtain ⟨_,o2,q2,nf⟩:=hff.mem hm;rw[g1] at q2;cases q2;exact nf vs g2),g3,fun hm=>by
  rcases List.mem_cons.mp hm with z|hm
  ·rw[←z,g1] at ne;cases ne
  ·rcases List.mem_cons.mp hm with z|hm
   ·rw[←z,g1] at new;cases new
   ·cases hm⟩⟩,he⟩
end
section
variable {P:Program} {w:World} {K:PySem.W.Frag} {mg:Str→Option Value} {base:Heap} {N:List Str} {qual:Str} {scope:Scope} {f:Addr} {cd:Value} {A:Around} {outer:List Env} {s0:Shared} {H0:Hp} {E:XK}
theorem oE:gZ (fE (bu P w) P w K mg base N qual scope f cd A outer s0 H0 E) E:=zK (cb:=true) (ps:= [])
theorem bb:Passes (bu P w) (fE (bu P w) P w K mg base N qual scope f cd A outer s0 H0 E) E:=Gd (cb:=true) (ps:= [])
theorem dZ:lC (fE (bu P w) P w K mg base N qual scope f cd A outer s0 H0 E) E:=Qd (cb:=true) (ps:= [])
end
def jI:List Value:= [.type "Exception", .type "BaseException", .type "object"]
def iD (K:PySem.W.Frag) (C:Addr):Prop:=PySem.W.excIn K C jI "Exception.__new__" =true
theorem iD.obj {K:PySem.W.Frag} {h:Heap} {C:Addr} (X:K.In h) (q:iD K C): ∃bm N nm qn bs hdct sn sub ab col dd k0 k1 k2 k3 k5 mN,h.get? C=some (excClassObj nm qn C N bs bm hdct sn sub ab col dd k0 k1 k2 k3 k5 "Exception.__new__")∧h.Ns N mN∧mN "__init__" =none∧OwnTail h jI bm:=by
 unfold iD PySem.W.excIn at q
 split at q
 ·rename_i dd cd sl ho
  split at q
  ·rename_i C' bm k0 k1 k2 k3 n k5 hm hs
   simp only [Bool.and_eq_true,beq_iff_eq,Bool.not_eq_true'] at q
   obtain ⟨⟨⟨⟨⟨rfl,rfl⟩,hdel⟩,ht⟩,ag⟩,hni⟩:=q
   obtain ⟨nm,bs,mro,ns,qn,hd,sn,sub,ab,col,del⟩:=cd
   dsimp only at hm hdel ag hni
   subst hm hdel
   have hsl:sl= #[k0,k1,k2,k3,some (.builtin "Exception.__new__"),k5]:=by
    obtain ⟨l⟩:=sl
    simp only at hs
    rw[hs]
   subst hsl
   exact ⟨bm,ns,nm,qn,bs,hd,sn,sub,ab,col,dd,k0,k1,k2,k3,k5,_,X _ _ ho, .of_isNs (PySem.W.isNs_of_in X ag),PySem.W.nsMap_none_of_in X ag hni,PySem.W.tail_of_in X ht⟩
  ·cases q
 ·cases q
def BA (E:XK) (C:Addr):TS:=fun _ _ H=>E (.ref C) none H
theorem eA {X:Cx} {x:Str} {C:Addr} {E:XK} {np cpos pos:Pos} (hc:X.calm=true) (hg:Gl X x) (hm:X.mg x=some (.ref C)) (hC:iD X.K C) (hr:lC X E) (hd:(x==("__debug__" :Str))=false:=by decide):
  PS X (.Raise (some (.Call (.Name x np) [] [] cpos)) none pos) (BA E C):=by
 intro pins s σ H D I h
 obtain ⟨bm,N,nm,qn,bs,hdct,sn,sub,ab,col,dd,k0,k1,k2,k3,k5,mN,g1,g2,g3,g4⟩:=hC.obj I.cy
 exact wpAny_Raise_call_subT (C:=C) (nm:=nm) (q:=qn) (N:=N) (bs:=bs) (bm:=bm) (hdct:=hdct) (sn:=sn) (sub:=sub) (ab:=ab) (col:=col) (dd:=dd) (k0:=k0) (k1:=k1) (k2:=k2) (k3:=k3) (k5:=k5)
  F.excBase_Exception (mN:=mN) (g4.hasType F.excBase_Exception.hasBase) (I.ok.hd hc) rfl g3 (jz I hg hm ⟨rfl,evalArgs_empty ⟨rfl,Nat.zero_le _,g1,g2,g4,fun h' e hx=>by
   obtain ⟨t,ht,_⟩:=hx.there
   exact hr pins σ H s h' e _ _ .none 0 I hx.keeps hx.new ht rfl rfl rfl .nil h⟩⟩ hd)
theorem aD.bx {P:Program} {w:World} {K:PySem.W.Frag} {mg:Str→Option Value} {base:Heap} {x qual:Str} {st:Stmt} {f:Addr} {fd:FuncData} {N ps:List Str} {k:Nat} {sp:Sp} (F:aD K x qual st f fd) (S:aG N ps (aB st)) (len: ∀vs H Q E,sp vs H Q E→vs.length=ps.length)
  (hbody: ∀(cdv:Value) (A:Around) (outer:List Env) (s:Shared) (H:Hp) (vs:List V) (Q:VK) (E:XK),aF k (A.deeper (envOfC qual (aB st) s.heap.objs.size f cdv))→sp vs H Q E→
   ∃t,cO (fE (bu P w) P w K mg base N qual (aB st) f cdv A outer s H E) (o8 st) t∧t {nx:=fun _ H'=>Q .au H',rt:=Q} (start N vs) H):aA P w K mg base (bu P w) (k+1) f fd ps sp:=by
 obtain ⟨oc,od,kV,doc,pm,an,cdv,ct,osl,rfl,lk,hcd⟩:=F.ex
 exact zN lk hcd S len fun A outer s H vs Q E hr hsp=>hbody cdv A outer s H vs Q E hr hsp
end L2
namespace L2
open PySem PySem.Spec PyProof.Rows
section
variable {X:Cx} {pins:List (Addr×Obj)} {σ:St} {H:Hp} {s:Shared}
theorem GG {α:Type} {M:Model} {A:Around} {E:Value→Shared→Prop} {what:String} {s:Shared} {x T:Addr} {oe oT:Obj} {vs ts:Array Value} {cenv:Env} {Q:α→Shared→Prop} (g1:s.heap.get? x=some oe) (g3:oe.data= .fields vs) (g4:vs[1]?=some (.ref T)) (g7:s.heap.get? T=some oT) (g8:oT.data= .fields ts) (h3:3<ts.size)
  (k:E (.ref x) {s with heap:=s.heap.update T (Obj.mapFields (·.setIfInBounds 3 (cenv.frame.elim Value.none fun f=>rawInt f)))}):wpAny M A (PySem.passOn what (.ref x) cenv) Q E s:=by
 unfold PySem.passOn
 refine wpAny_bind (wpAny_field g1 g3 g4 ?_)
 rw[if_neg (by simp)]
 unfold setFlight
 refine wpAny_bind (wpAny_bind (wpAny_field g1 g3 g4 ?_))
 rw[if_pos (by simp)]
 exact wpAny_setField g7 g8 h3 (wpAny_throw k)
end
section
variable {X:Cx}
theorem DS {E:XK} {pins:List (Addr×Obj)} {s:Shared} {σ:St} {H:Hp} {Q:VK} {elt tg iter:Expr} {ifs:List Expr} {scope:Scope} {own:List (Str×Nat)} {pos pos':Pos} {wi:TI} {g:TG} {tt:TT} {te:TE} {use:Option (Value→Sem Unit)} {Qf:Value→Shared→Prop}
  (hex:X.ex= []) (hst:X.stack=X.env::X.outer) (hfr:X.env.frame=some X.env.locals) (hair:gZ X E) (hc:X.calm=true) (hN:X.N.Nodup) (I:Inv X pins σ H s) (hi:PI X tg iter wi) (ok:iE X.N X.env.scope scope own)
  (hg: ∀(s:Shared) (H:Hp) (C:Addr) (cl:List (Str×Addr)) (fp:List Addr) (xb:Value→Shared→Prop),PG ((X.a9 s H scope (compEnvC scope cl C X.env) fp).bC xb) tg g) (ht: ∀(s:Shared) (H:Hp) (C:Addr) (cl:List (Str×Addr)) (fp:List Addr) (xb:Value→Shared→Prop),iA ((X.a9 s H scope (compEnvC scope cl C X.env) fp).bC xb) ifs tt)
  (he: ∀(s:Shared) (H:Hp) (C:Addr) (cl:List (Str×Addr)) (fp:List Addr) (xb:Value→Shared→Prop),Passes (bu X.prog X.w) ((X.a9 s H scope (compEnvC scope cl C X.env) fp).bC xb) E→PE ((X.a9 s H scope (compEnvC scope cl C X.env) fp).bC xb) elt te) (hs: ∀x,foldedSetIterable iter X.env x=pure x)
  (h:gQ wi g tt te (own.map (·.2)) σ H Q)
  (hRR: ∀D C s' m H',Inv X pins σ H' s'→Q (.ref D) H'→s'.heap.Ns C m→dN X pins H' C→compPost (model X.prog X.w) X.A X.xe use Qf (.ref D) C (.ok .next) s'):
  wpAny (model X.prog X.w) X.A (comprehension (.ListComp elt [⟨tg,iter,ifs,0⟩] scope pos) scope X.env pos' (newList []) false (eval iter X.env) use) Qf X.xe s:=by
 have hfree: ∀y∈scope.names,y.2= .free→ ∃c,X.env.cells.lookup y.1=some c:=fun y hy e=>by
  rcases ok.free y hy e with k|k
  ·exact I.ok.has _ (.inl k)
  ·exact I.ok.has _ (.inr k)
 refine wpAny_comprehension_free (use:=use) rfl hs (BM hfree) ok.kind (fun y hy e=>by rw[ok.uniq y hy,e])
  (aw (hi pins s σ H _ I h) fun xv s1 hx=>aw hx fun itv s2 h2=>?_)
 obtain ⟨it,fp,tn,J,H2,e,I2,T,st2,f2,q⟩:=h2
 subst e
 refine wpAny_newObj_type (Cu ?_) (by show 0≤sizeLine;decide)
 generalize hD:s2.heap.objs.size=D
 have hDn:H2 D=none:=I2.ag.fresh (Nat.le_of_eq hD)
 obtain ⟨W,⟨m0,w0⟩,turn⟩:=q D hDn
 generalize hs3:({s2 with heap:=s2.heap.push {cls:= .type "list",data:= .seq ([]:List Value).toArray}}:Shared)=s3
 have I3:Inv X pins σ (upd H2 D (.lst [])) s3:=by
  rw[←hs3]
  refine I2.laid (t':=s2.toks) (fun b o e=>Heap.get?_push_of_some _ e) (Nat.le_of_eq hD) ⟨Nat.zero_le _, [],0, .nil,?_⟩
  rw[←hD]
  exact Heap.get?_push_size _ rfl
 have h3:s3.heap=s2.heap.push {cls:= .type "list",data:= .seq ([]:List Value).toArray}:=by rw[←hs3]
 have sz: ∀b∈fp,b<s2.heap.objs.size:=fun b hb=>by
  obtain ⟨o,e,_⟩:=T.obj _ _ st2 b hb
  exact Heap.lt_size e
 have f3: ∀b∈fp,dN X pins (upd H2 D (.lst [])) b∧b<s3.heap.objs.size:=fun b hb=>by
  have hlt:=sz b hb
  refine ⟨⟨?_,(f2 b hb).2⟩,by rw[h3,Heap.size_push];exact Nat.lt_succ_of_lt hlt⟩
  rw[ay (by rw[←hD];exact Nat.ne_of_lt hlt)]
  exact (f2 b hb).1
 have st3:tn 0 s3.heap:=T.keep _ _ _ st2 fun b _ o e=>by rw[h3];exact Heap.get?_push_of_some _ e
 have I4:=(Cc I3 ok hN f3).bC (notedBy (model X.prog X.w) X.A (compEnvC scope (cellsFrom (s3.heap.objs.size+1) scope.names (bN X.env.cells scope.names [])) s3.heap.objs.size X.env) fun e s'=>compPost (model X.prog X.w) X.A X.xe use Qf (.ref D) s3.heap.objs.size (.error e) s')
 have pg:=hg s3 (upd H2 D (.lst [])) s3.heap.objs.size (cellsFrom (s3.heap.objs.size+1) scope.names (bN X.env.cells scope.names [])) fp (notedBy (model X.prog X.w) X.A (compEnvC scope (cellsFrom (s3.heap.objs.size+1) scope.names (bN X.env.cells scope.names [])) s3.heap.objs.size X.env) fun e s'=>compPost (model X.prog X.w) X.A X.xe use Qf (.ref D) s3.heap.objs.size (.error e) s')
 have pt:=ht s3 (upd H2 D (.lst [])) s3.heap.objs.size (cellsFrom (s3.heap.objs.size+1) scope.names (bN X.env.cells scope.names [])) fp (notedBy (model X.prog X.w) X.A (compEnvC scope (cellsFrom (s3.heap.objs.size+1) scope.names (bN X.env.cells scope.names [])) s3.heap.objs.size X.env) fun e s'=>compPost (model X.prog X.w) X.A X.xe use Qf (.ref D) s3.heap.objs.size (.error e) s')
 have pe:=he s3 (upd H2 D (.lst [])) s3.heap.objs.size (cellsFrom (s3.heap.objs.size+1) scope.names (bN X.env.cells scope.names [])) fp (notedBy (model X.prog X.w) X.A (compEnvC scope (cellsFrom (s3.heap.objs.size+1) scope.names (bN X.env.cells scope.names [])) s3.heap.objs.size X.env) fun e s'=>compPost (model X.prog X.w) X.A X.xe use Qf (.ref D) s3.heap.objs.size (.error e) s')
 show codeAny _ _ (.compStart (.ListComp elt [⟨tg,iter,ifs,0⟩] scope pos) 0 (.ref it) (.ref D) (compEnvC scope (cellsFrom (s3.heap.objs.size+1) scope.names (bN X.env.cells scope.names [])) s3.heap.objs.size X.env)) (compPost (model X.prog X.w) X.A X.xe use Qf (.ref D) s3.heap.objs.size) {s3 with heap:=pushCells (s3.heap.push {cls:= .type "dict",data:= .dict #[]}) scope.names}
 have nfp: ∀b∈fp,(upd H2 D (.lst [])) b=none:=fun b hb=>(f3 b hb).1.1
 generalize hce:compEnvC scope (cellsFrom (s3.heap.objs.size+1) scope.names (bN X.env.cells scope.names [])) s3.heap.objs.size X.env=ce at I4 pg pt pe⊢
 have cL:ce.locals=s3.heap.objs.size:=by subst hce;rfl
 have cF:ce.frame=X.env.frame:=by subst hce;rfl
 generalize hH3:upd H2 D (.lst [])=H3 at I3 I4 pg pt pe w0 nfp f3
 generalize hs4:({s3 with heap:=pushCells (s3.heap.push {cls:= .type "dict",data:= .dict #[]}) scope.names}:Shared)=s4 at I4⊢
 generalize hxb:(notedBy (model X.prog X.w) X.A ce fun e s'=>compPost (model X.prog X.w) X.A X.xe use Qf (.ref D) s3.heap.objs.size (.error e) s')=xb at I4 pg pt pe
 have hp:Passes (bu X.prog X.w) ((X.a9 s3 H3 scope ce fp).bC xb) E:=by
  intro pins' σ' Hb sb e s' Ib hx
  obtain ⟨x,T0,cls,a0,n0,H',rfl,hos,hbare,un,ag,⟨hx0,hT0,hxn,hTn⟩,⟨ht,hq⟩,he'⟩:=hx
  have I1:Inv ((X.a9 s3 H3 scope ce fp).bC xb) pins' σ' H' s':=Ib.jx (ch:= []) hos un ag hbare (fun b hb=>absurd hb (by simp))
  have hfc: ∀b∈fp,(b∈X.ex∨X.a8.heap.objs.size≤b)∧b≠X.env.locals∧(∀x c,X.env.cells.lookup x=some c→c≠b)∧ ∀p∈X.pn++pins,p.1≠b:=fun b hb=>⟨(f3 b hb).1.2.2.2.1,(f3 b hb).1.2.1,(f3 b hb).1.2.2.2.2.1,(f3 b hb).1.2.2.2.2.2⟩
  have Id0:Inv X pins σ Hb sb:=I3.jx (ch:=fp) Ib.os Ib.base Ib.ag Ib.bare hfc
  have Id:Inv X pins σ H' s':=I3.jx (ch:=fp) I1.os I1.base I1.ag I1.bare hfc
  have nC:H' s3.heap.objs.size=none:=by
   have z:H' ce.locals=none:=I1.free
   rw[cL] at z
   exact z
  obtain ⟨mC,hnC,_⟩:=I1.loc
  have hnC:s'.heap.Ns ce.locals mC:=hnC
  rw[cL] at hnC
  rw[←hxb]
  show wpAny (model X.prog X.w) X.A (noteFrame (.ref x) ce) _ _ s'
  rw[OY cF]
  refine uj (by rw[Id.ok.frames,hst]) hfr (by rw[←hst];exact rk (fl:= .none) Id ht) fun h1 hh up=>?_
  obtain ⟨k1,k2,k3,oe',vs',T',oT',ts',t1,t2,t3,t4,t5,t6,t7,t8,t9⟩:=hh
  have hn1:h1.Ns s3.heap.objs.size mC:=up.ns hnC
  have hxC:x≠s3.heap.objs.size:=fun z=>by
   obtain ⟨o,es,ep,ho,hd,_⟩:=hn1
   rw[←z,t1] at ho;cases ho;rw[t3] at hd;cases hd
  have hTC:T'≠s3.heap.objs.size:=fun z=>by
   obtain ⟨o,es,ep,ho,hd,_⟩:=hn1
   rw[←z,t7] at ho;cases ho;rw[t8] at hd;cases hd
  refine ⟨mC,hn1,fun h2 sb2 cenv _=>?_⟩
  have g1:h2.get? x=some oe':=(sb2.2 x hxC).trans t1
  have g7:h2.get? T'=some oT':=(sb2.2 T' hTC).trans t7
  have hs3:3<ts'.size:=(Array.getElem?_eq_some_iff.mp t9).1
  refine GG (s:={s' with heap:=h2}) g1 t3 t4 g7 t8 hs3 ?_
  have hent:=tH Id up t5 t6 t7 t8
  have ap: ∀b∈ [x,T0,T',s3.heap.objs.size],X.a8.heap.get? b=none∧b≠X.env.locals∧(∀x c,X.env.cells.lookup x=some c→c≠b)∧(∀p∈X.pn++pins,p.1≠b)∧H' b=none:=fun b hb=>by
   have old: ∀{b:Addr},sb.heap.get? b=none→H' b=none→X.a8.heap.get? b=none∧b≠X.env.locals∧(∀x c,X.env.cells.lookup x=some c→c≠b)∧(∀p∈X.pn++pins,p.1≠b)∧H' b=none:=fun {b} q n=>by
    obtain ⟨z1,z2,z3,z4⟩:=Id0.apart hex q
    exact ⟨z1,z2,z3,z4,n⟩
   rcases List.mem_cons.mp hb with rfl|hb
   ·exact old hx0 hxn
   ·rcases List.mem_cons.mp hb with rfl|hb
    ·exact old hT0 hTn
    ·rcases List.mem_cons.mp hb with rfl|hb
     ·rcases hent with q|rfl
      ·obtain ⟨z1,z2,z3,z4⟩:=Id.apart hex q
       exact ⟨z1,z2,z3,z4,kj Id.ag q⟩
      ·exact old hT0 hTn
     ·rcases List.mem_cons.mp hb with rfl|hb
      ·obtain ⟨_,z2,_,_,z5,z6⟩:=I3.gm (Nat.le_refl _) nC
       exact ⟨I3.i6 hex (Heap.get?_none_of_le (Nat.le_refl _)),z2,z5,z6,nC⟩
      ·cases hb
  have frC: ∀b∈aX X.stack,b≠s3.heap.objs.size:=fun b hb z=>by
   obtain ⟨_,o,ho,_⟩:=I3.stack.mem hb
   rw[z] at ho
   exact absurd (Heap.lt_size ho) (Nat.lt_irrefl _)
  have Im:=Id.moved (h':=h2.update T' (Obj.mapFields (·.setIfInBounds 3 (cenv.frame.elim Value.none fun f=>rawInt f)))) [x,T0,T',s3.heap.objs.size] ap
   (fun b o q nb nd=>by
    have n1:b∉ [x,T0]:=fun z=>nd (by
     rcases List.mem_cons.mp z with rfl|z
     ·simp
     ·rcases List.mem_cons.mp z with rfl|z
      ·simp
      ·cases z)
    have n2:b≠T':=fun z=>nd (by rw[z];simp)
    have n3:b≠s3.heap.objs.size:=fun z=>nd (by rw[z];simp)
    rw[Heap.get?_update_other _ _ (Ne.symm n2),sb2.2 b n3]
    exact so k1 b o q nb n1)
   (fun b o q hm=>by
    obtain ⟨nf,sl,z⟩:=qy Id up b o q hm
    have n2:b≠T':=fun w=>by
     rw[w,t7] at z
     cases z
     exact nf ts' t8
    refine ⟨sl,?_⟩
    rw[Heap.get?_update_other _ _ (Ne.symm n2),sb2.2 b (frC b hm)]
    exact z)
  refine hair pins σ H' _ x T' cls a0 (cenv.frame.elim Value.none fun f=>rawInt f) n0 Im ⟨(ap x (by simp)).1,(ap T' (by simp)).1,hxn,(ap T' (by simp)).2.2.2.2⟩ ?_ ((wJ Id k1 hent hq).move fun a o vs q1 q2 q3 q4=>⟨?_,q3,q4⟩) he'
  rotate_left
  ·rw[Heap.get?_update_other _ _ (fun z=>q4 (by rw[z];simp)),sb2.2 a (fun z=>by
    obtain ⟨o2,es,ep,ho,hd,_⟩:=hn1
    rw[←z,q1] at ho;cases ho;rw[q2] at hd;cases hd)]
   exact q1
  exact ⟨oe',vs',_,_,(Heap.get?_update_other _ _ t6).trans g1,t2,t3,t4,t6,Heap.get?_update_self _ g7 (Obj.isFreed_of_fields (Obj.data_mapFields t8 _)),Obj.data_mapFields t8 _,by simp [hs3]⟩
 subst hxb
 have st4:tn 0 s4.heap:=T.keep _ _ _ st3 fun b _ o e=>by rw[←hs4];exact pushCells_keeps _ _ _ _ (Heap.get?_push_of_some _ e)
 have stat: ∀{σ':St} {H':Hp} {s':Shared},Inv ((X.a9 s3 H3 scope ce fp).bC (notedBy (model X.prog X.w) X.A ce fun e s'=>compPost (model X.prog X.w) X.A X.xe use Qf (.ref D) s3.heap.objs.size (.error e) s')) [] σ' H' s'→(∀b∈fp,H' b=none)→ ∀b∈fp,dN ((X.a9 s3 H3 scope ce fp).bC (notedBy (model X.prog X.w) X.A ce fun e s'=>compPost (model X.prog X.w) X.A X.xe use Qf (.ref D) s3.heap.objs.size (.error e) s')) [] H' b:=fun {σ' H' s'} I' hn b hb=>
  ⟨hn b hb,(I'.ok.gM b hb).1,I'.ok.gJ b hb, .inl hb,fun x c e=>(I'.ok.gM b hb).2 x c e,fun p hp=>absurd (show p∈([]:List (Addr×Obj))++ [] from hp) (by simp)⟩
 have loop:codeAny (model X.prog X.w) X.A (.compLoop (.ListComp elt [⟨tg,iter,ifs,0⟩] scope pos) 0 (.ref it) (.ref D) ce) (compPost (model X.prog X.w) X.A X.xe use Qf (.ref D) s3.heap.objs.size) s4:=by
  refine xu (fun n s'=> ∃i H',Inv ((X.a9 s3 H3 scope ce fp).bC (notedBy (model X.prog X.w) X.A ce fun e s'=>compPost (model X.prog X.w) X.A X.xe use Qf (.ref D) s3.heap.objs.size (.error e) s')) [] (wipe σ (own.map (·.2))) H' s'∧tn i s'.heap∧(∀b∈fp,H' b=none)∧W i n H') ?_ m0 ⟨0,H3,I4,st4,nfp,w0⟩
  rintro n s5 ⟨i,H5,I5,st5,n5,w5⟩
  rcases turn i n H5 w5 with ⟨stop,qq⟩|⟨go,Nx,hNx,step⟩
  ·have td:=T.done ((X.a9 s3 H3 scope ce fp).bC (notedBy (model X.prog X.w) X.A ce fun e s'=>compPost (model X.prog X.w) X.A X.xe use Qf (.ref D) s3.heap.objs.size (.error e) s')) rfl rfl rfl hc i [] s5 _ H5 (fun _ _=>False) I5 (stat I5 n5) st5 stop
   refine gW td fun r s6 ⟨hr,I6⟩=>?_
   subst hr
   have I7:Inv X pins σ H5 s6:=I3.jx (ch:=fp) I6.os I6.base I6.ag I6.bare fun b hb=>⟨(f3 b hb).1.2.2.2.1,(f3 b hb).1.2.1,(f3 b hb).1.2.2.2.2.1,(f3 b hb).1.2.2.2.2.2⟩
   have nC:H5 s3.heap.objs.size=none:=by
    have z:H5 ce.locals=none:=I6.free
    rw[cL] at z
    exact z
   obtain ⟨m,hn,_⟩:=I6.loc
   have hn:s6.heap.Ns ce.locals m:=hn
   rw[cL] at hn
   exact hRR D s3.heap.objs.size s6 m H5 I7 qq hn (I3.gm (Nat.le_refl _) nC)
  ·have ti:=T.item ((X.a9 s3 H3 scope ce fp).bC (notedBy (model X.prog X.w) X.A ce fun e s'=>compPost (model X.prog X.w) X.A X.xe use Qf (.ref D) s3.heap.objs.size (.error e) s')) rfl rfl rfl hc i [] s5 _ H5 (fun _ _=>False) I5 (stat I5 n5) st5 go
   refine gW ti fun r s6 ⟨u,hr,h6⟩=>?_
   subst hr
   refine gW h6 fun _ s7 ⟨x,H7,I7,r7,y7,st7,n7⟩=>?_
   have I7':=I7.pinned (stat I7 n7) (T.obj _ _ st7)
   refine aw (pg _ s7 _ H7 x u _ I7' r7 (step x H7 y7)) fun _ s8 ⟨σ8,H8,I8,hw8,q8⟩=>?_
   refine aw (pt _ s8 σ8 H8 _ I8 q8) fun b s9 ⟨H9,I9,q9⟩=>?_
   have fin: ∀{s':Shared} {H':Hp},Inv ((X.a9 s3 H3 scope ce fp).bC (notedBy (model X.prog X.w) X.A ce fun e s'=>compPost (model X.prog X.w) X.A X.xe use Qf (.ref D) s3.heap.objs.size (.error e) s')) ([]++jK fp s7.heap) σ8 H' s'→Nx H'→ ∃m,m<n∧ ∃i H',Inv ((X.a9 s3 H3 scope ce fp).bC (notedBy (model X.prog X.w) X.A ce fun e s'=>compPost (model X.prog X.w) X.A X.xe use Qf (.ref D) s3.heap.objs.size (.error e) s')) [] (wipe σ (own.map (·.2))) H' s'∧tn i s'.heap∧(∀b∈fp,H' b=none)∧W i m H':=fun {s' H'} I' nx=>by
    obtain ⟨m',hm,w'⟩:=hNx H' nx
    have pin': ∀b∈fp,∀o,s7.heap.get? b=some o→s'.heap.get? b=some o∧H' b=none:=fun b hb o e=>
     let z:=I'.pin (b,o) (List.mem_append_right _ (List.mem_append_right _ (sN hb e)))
     ⟨z.1,z.2.1⟩
    have hl:(wipe σ (own.map (·.2))).length=σ8.length:=by rw[←hw8,qw]
    refine ⟨m',hm,i+1,H',(I'.mi (pins:= [])).weak hl (fun j v e=>?_),T.keep _ _ _ st7 fun b hb o e=>(pin' b hb o e).1,fun b hb=>?_,w'⟩
    ·rw[←hw8] at e
     exact (qD e).1
    ·obtain ⟨o,e,_⟩:=T.obj _ _ st7 b hb
     exact (pin' b hb o e).2
   cases b with
   |false=>
    simp only [Bool.false_eq_true,if_false] at q9⊢
    exact fin I9 q9
   |true=>
    simp only [if_true] at q9⊢
    refine aw (pe hp _ s9 σ8 H9 _ I9 q9) fun z s10 ⟨yv,H10,I10,r10,acc,hD10,hz10,nx⟩=>?_
    exact BW (X:=(X.a9 s3 H3 scope ce fp).bC (notedBy (model X.prog X.w) X.A ce fun e s'=>compPost (model X.prog X.w) X.A X.xe use Qf (.ref D) s3.heap.objs.size (.error e) s')) I10 hD10 hz10 r10 fun s11 I11=>fin I11 nx
 exact codeAny_compStart_list loop (T.self X.A 0 _ _ _ st4 loop)
theorem Q5 {E:XK} {elt tg iter:Expr} {ifs:List Expr} {scope:Scope} {own:List (Str×Nat)} {pos:Pos} {wi:TI} {g:TG} {tt:TT} {te:TE} (hex:X.ex= []) (hst:X.stack=X.env::X.outer) (hfr:X.env.frame=some X.env.locals) (hair:gZ X E) (hc:X.calm=true) (hN:X.N.Nodup) (hi:PI X tg iter wi) (ok:iE X.N X.env.scope scope own)
  (hg: ∀(s:Shared) (H:Hp) (C:Addr) (cl:List (Str×Addr)) (fp:List Addr) (xb:Value→Shared→Prop),PG ((X.a9 s H scope (compEnvC scope cl C X.env) fp).bC xb) tg g) (ht: ∀(s:Shared) (H:Hp) (C:Addr) (cl:List (Str×Addr)) (fp:List Addr) (xb:Value→Shared→Prop),iA ((X.a9 s H scope (compEnvC scope cl C X.env) fp).bC xb) ifs tt)
  (he: ∀(s:Shared) (H:Hp) (C:Addr) (cl:List (Str×Addr)) (fp:List Addr) (xb:Value→Shared→Prop),Passes (bu X.prog X.w) ((X.a9 s H scope (compEnvC scope cl C X.env) fp).bC xb) E→PE ((X.a9 s H scope (compEnvC scope cl C X.env) fp).bC xb) elt te) (hs: ∀x,foldedSetIterable iter X.env x=pure x:=by intro _;rfl):
  PE X (.ListComp elt [⟨tg,iter,ifs,0⟩] scope pos) (gQ wi g tt te (own.map (·.2))):=by
 intro pins s σ H Q I h
 rw[eval_ListComp]
 refine DS hex hst hfr hair hc hN I hi ok hg ht he hs h fun D C s' m H' I' q hn f=>⟨m,hn,fun h'' sb=>?_⟩
 obtain ⟨f0,f1,f2,f3,f4,f5⟩:=f
 exact ⟨.ref D,H',I'.turned (t':=s'.toks) (fun b o hb e=>(sb.2 b hb).trans e) f0 f1 f3 f4 f5,rfl,q⟩
end
end L2
namespace L2
open PySem PySem.Spec PyProof.Rows
def cn (X:Cx) (pins:List (Addr×Obj)) (σ:St) (E:XK) (ev:Value) (s:Shared):Prop:= ∃(x T:Addr) (cls c fl:Value) (n:Nat) (H:Hp),ev= .ref x∧Inv X pins σ H s∧
 (∀b∈ [x,T],X.a8.heap.get? b=none∧b≠X.env.locals∧(∀y c,X.env.cells.lookup y=some c→c≠b)∧(∀p∈X.pn++pins,p.1≠b)∧H b=none)∧sd s.heap x T cls c fl∧cx s.heap H [x,T] n c∧E cls none H
section
variable {X:Cx} {pins:List (Addr×Obj)} {σ:St} {H:Hp} {s s':Shared} {E:XK}
theorem PL (I:Inv X pins σ H s) (hex:X.ex= []) {e:Value} (h:bu X.prog X.w X.stack H s E e s'):cn X pins σ E e s':=by
 obtain ⟨x,T,cls,c,n,H',rfl,hos,hbare,un,ag,⟨hx0,hT0,hxn,hTn⟩,⟨ht,hq⟩,he⟩:=h
 have I1:Inv X pins σ H' s':=I.jx (ch:= []) hos un ag hbare (fun b hb=>absurd hb (by simp))
 obtain ⟨z1,z2,z3,z4⟩:=I.apart hex hx0
 obtain ⟨y1,y2,y3,y4⟩:=I.apart hex hT0
 exact ⟨x,T,cls,c, .none,n,H',rfl,I1,lg ⟨z1,z2,z3,z4,hxn⟩ ⟨y1,y2,y3,y4,hTn⟩,ht,hq,he⟩
theorem BU {x T:Addr} {cls c fl:Value} {n:Nat} {l:List Env} {h2:Heap} (hex:X.ex= []) (I:Inv X pins σ H s) (ap: ∀b∈ [x,T],X.a8.heap.get? b=none∧b≠X.env.locals∧(∀y c,X.env.cells.lookup y=some c→c≠b)∧(∀p∈X.pn++pins,p.1≠b)∧H b=none) (hq:cx s.heap H [x,T] n c) (he:E cls none H)
  (o:fJ (PySem.W.hideAll s.heap (x::T::aX X.stack)) l x cls c fl h2) (up:s.heap.UpToSlots h2):cn X pins σ E (.ref x) {s with heap:=h2}:=by
 obtain ⟨k1,k2,k3,oe',vs',T',oT',ts',t1,t2,t3,t4,t5,t6,t7,t8,t9⟩:=o
 have hent:=tH I up t5 t6 t7 t8
 have apx:=ap x (by simp)
 have apT:=ap T (by simp)
 have apT':X.a8.heap.get? T'=none∧T'≠X.env.locals∧(∀y c,X.env.cells.lookup y=some c→c≠T')∧(∀p∈X.pn++pins,p.1≠T')∧H T'=none:=by
  rcases id hent with q|rfl
  ·obtain ⟨z1,z2,z3,z4⟩:=I.apart hex q
   exact ⟨z1,z2,z3,z4,kj I.ag q⟩
  ·exact apT
 have Im:Inv X pins σ H {s with heap:=h2}:=I.moved [x,T] (lg apx apT) (so k1) (fun b o q hm=>(qy I up b o q hm).2)
 exact ⟨x,T',cls,c,fl,n,H,rfl,Im,lg apx apT',⟨oe',vs',oT',ts',t1,t2,t3,t4,t6,t7,t8,t9⟩,wJ I k1 hent hq,he⟩
theorem Ea {M:Model} {Ee:Value→Shared→Prop} {Q:Unit→Shared→Prop} {A:Around} {ev:Value} (hex:X.ex= []) (hst:X.stack=X.env::X.outer) (hfr:X.env.frame=some X.env.locals) (hA:A.frames=X.A.frames) (h:cn X pins σ E ev s) (k: ∀s3,cn X pins σ E ev s3→Q () s3):
  wpAny M A (noteFrame ev X.env) Q Ee s:=by
 obtain ⟨x,T,cls,c,fl,n,H,rfl,I,ap,ht,hq,he⟩:=h
 exact uj (by rw[hA,I.ok.frames,hst]) hfr (by rw[←hst];exact rk I ht) fun h1 hh up=>k _ (BU hex I ap hq he hh up)
theorem sM {M:Model} {Ee:Value→Shared→Prop} {Q:Unit→Shared→Prop} {A:Around} {ev:Value} {fo:Option Addr} (hex:X.ex= []) (h:cn X pins σ E ev s) (k: ∀s3,cn X pins σ E ev s3→Q () s3):wpAny M A (setFlight ev fo) Q Ee s:=by
 obtain ⟨x,T,cls,c,fl,n,H,rfl,I,ap,ht,hq,he⟩:=h
 exact uP (rk I ht) fun h2 o up=>k _ (BU hex I ap hq he o up)
theorem Bs {M:Model} {Q:Value→Shared→Prop} {A:Around} {ev:Value} (hex:X.ex= []) (h:cn X pins σ E ev s) (k: ∀s3,cn X pins σ E ev s3→Q ev s3):cameBackBy M A X.env Q ev s:=by
 obtain ⟨x,T,cls,c,fl,n,H,rfl,I,ap,ht,hq,he⟩:=id h
 obtain ⟨oe,vs,oT,ts,g1,g2,g3,g4,_⟩:=ht
 unfold cameBackBy
 refine wpAny_bind (wpAny_field g1 g3 g4 ?_)
 rw[if_neg (by simp)]
 exact sM hex h k
theorem cn.imp {E':XK} {ev:Value} (h:cn X pins σ E ev s) (k: ∀cls d H,E cls d H→E' cls d H):cn X pins σ E' ev s:=by
 obtain ⟨x,T,cls,c,fl,n,H,e,I,ap,ht,hq,he⟩:=h
 exact ⟨x,T,cls,c,fl,n,H,e,I,ap,ht,hq,k _ _ _ he⟩
end
theorem QC {M:Model} {A:Around} {E:Value→Shared→Prop} {h:Heap} {g:Array GenState} {d:Drawn} {t:Nat} {os:OsState} {e C C2:Addr} {oe:Obj} {Q:Bool→Shared→Prop}
  {nm q:Str} {N:Addr} {bs bm:List Value} {hdct:Bool} {sn:List Str} {sub:List Value} {ab:Bool} {col:Option Bool} {dd:Option Addr} {k0 k1 k2 k3 k5:Option Value} {newId:String}
  {nm' q':Str} {N':Addr} {bs' bm':List Value} {hdct':Bool} {sn':List Str} {sub':List Value} {ab':Bool} {col':Option Bool} {dd':Option Addr} {j0 j1 j2 j3 j5:Option Value} {newId':String}
  (hC:h.get? C=some (excClassObj nm q C N bs bm hdct sn sub ab col dd k0 k1 k2 k3 k5 newId)) (hC2:h.get? C2=some (excClassObj nm' q' C2 N' bs' bm' hdct' sn' sub' ab' col' dd' j0 j1 j2 j3 j5 newId')) (he:h.get? e=some oe) (hcls:oe.cls= .ref C) (hbase:bm'.contains (.type "BaseException")=true)
  (hq:Q ((Value.ref C::bm).contains (.ref C2)) ⟨h,g,d,t,os⟩):wpAny M A (excMatches (.ref e) (.ref C2)) Q E ⟨h,g,d,t,os⟩:=by
 have hcB:(Value.ref C2::bm').contains (.type "BaseException")=true:=by rw[List.contains_cons,hbase,Bool.or_true]
 have f:=tc_notTuple
 unfold excMatches
 repeat (first|(with_reducible refine wpAny_loadPart_at he ?_;rw[hcls])|with_reducible refine wpAny_loadPart_at hC2 ?_|(with_reducible refine wpAny_isSubtype_exc hC2 ?_;rw[hcB])|with_reducible refine wpAny_isSubtype_exc hC ?_|wp_step)
 cases hb:(Value.ref C::bm).contains (.ref C2)<;>(rw[hb] at hq;wp_walk;exact hq)
def vg (K:PySem.W.Frag) (C:Addr):Bool:=match K.lookup C with
 |some ⟨_,_, .cls cd,_⟩=>cd.mro== .ref C::jI
 |_=>false
theorem yB {K:PySem.W.Frag} {h:Heap} {C:Addr} (X:K.In h) (hb:vg K C=true) {nm q:Str} {N:Addr} {bs bm:List Value} {hdct:Bool} {sn:List Str} {sub:List Value} {ab:Bool} {col:Option Bool} {dd:Option Addr} {k0 k1 k2 k3 k5:Option Value} {newId:String}
  (hC:h.get? C=some (excClassObj nm q C N bs bm hdct sn sub ab col dd k0 k1 k2 k3 k5 newId)):bm=jI:=by
 unfold vg at hb
 split at hb
 ·rename_i ho
  have:=X _ _ ho
  rw[hC] at this
  cases this
  have z:=beq_iff_eq.mp hb
  cases z
  rfl
 ·cases hb
structure Own (K:PySem.W.Frag) (C:Addr):Prop where
 exc:iD K C
 base:vg K C=true
inductive eQ:List (Addr×Obj)→Nat→Value→Prop
 |nil:eQ [] 0 .none
 |cons {a:Addr} {o:Obj} {vs:Array Value} {c:Value} {n:Nat} {ps:List (Addr×Obj)}:o.data= .fields vs→vs[2]?=some c→eQ ps n c→eQ ((a,o)::ps) (n+1) (.ref a)
theorem cx.pins {h:Heap} {H:Hp} {av:List Addr} {n:Nat} {c:Value} (x:cx h H av n c): ∃ps,eQ ps n c∧ ∀p∈ps,h.get? p.1=some p.2∧H p.1=none∧ ∃vs,p.2.data= .fields vs:=by
 induction x with
 |nil=>exact ⟨[], .nil,fun p hp=>absurd hp (by simp)⟩
 | @cons n a o vs c h1 h2 h3 h4 h5 _ ih=>
  obtain ⟨ps,k1,k2⟩:=ih
  refine ⟨(a,o)::ps, .cons h2 h3 k1,fun p hp=>?_⟩
  rcases List.mem_cons.mp hp with rfl|hp
  ·exact ⟨h1,h4,vs,h2⟩
  ·exact k2 p hp
theorem eQ.IX {ps:List (Addr×Obj)} {n:Nat} {c:Value} (x:eQ ps n c) {h:Heap} {H:Hp} {av:List Addr} (k: ∀p∈ps,h.get? p.1=some p.2∧H p.1=none∧p.1∉av):cx h H av n c:=by
 induction x with
 |nil=>exact .nil
 |cons h1 h2 _ ih=>
  obtain ⟨k1,k2,k3⟩:=k _ (List.mem_cons_self ..)
  exact .cons k1 h1 h2 k2 k3 (ih fun p hp=>k p (List.mem_cons_of_mem _ hp))
def xf (X:Cx):Prop:= ∃h ps n,X.A.handled=some (.ref h)∧eQ ps n (.ref h)∧ ∀p∈ps,p∈X.pn
abbrev Cx.dj (X:Cx) (x:Addr) (ps:List (Addr×Obj)):Cx:={X with A:=X.A.mark (some (.ref x)),calm:=false,pn:=X.pn++ps,xe:=notedBy (model X.prog X.w) (X.A.mark (some (.ref x))) X.env (cameBackBy (model X.prog X.w) X.A X.env X.xe)}
section
variable {X:Cx} {pins ps:List (Addr×Obj)} {σ:St} {H:Hp} {s:Shared} {x:Addr} {E:XK}
theorem Cx.Ok.dj (ok:X.Ok) (x:Addr) (ps:List (Addr×Obj)):(X.dj x ps).Ok:=⟨ok.mod,ok.kind,ok.glob,ok.blt,ok.above,ok.inj,ok.has,ok.iw,(fun z=>nomatch z),ok.frames,ok.iR,ok.gM,ok.bs,ok.fz,ok.eK,ok.gJ,ok.dv,ok.fT⟩
theorem Inv.dj (I:Inv X pins σ H s) (x:Addr) (hp: ∀p∈ps,s.heap.get? p.1=some p.2∧H p.1=none∧ ∃vs,p.2.data= .fields vs):Inv (X.dj x ps) pins σ H s:=by
 refine ⟨I.ok.dj x ps,I.os,I.bare,I.base,I.loc,I.cell,I.free,I.dC,fun p hm=>?_,I.ag,I.len⟩
 rcases List.mem_append.mp hm with hm|hm
 ·rcases List.mem_append.mp hm with hm|hm
  ·exact I.pin p (List.mem_append_left _ hm)
  ·obtain ⟨g1,g2,vs,g3⟩:=hp p hm
   refine ⟨g1,g2,fun z=>?_,fun z=>?_,fun v q=>by rw[g3] at q;cases q⟩
   ·obtain ⟨m,⟨o,es,ep,ho,hd,_⟩,_⟩:=I.loc
    rw[←z,g1] at ho;cases ho;rw[g3] at hd;cases hd
   ·obtain ⟨_,o,ho,nf⟩:=I.dv.mem z
    rw[g1] at ho;cases ho;exact nf vs g3
 ·exact I.pin p (List.mem_append_right _ hm)
theorem Inv.ji (ok:X.Ok) (I:Inv (X.dj x ps) pins σ H s):Inv X pins σ H s:=⟨ok,I.os,I.bare,I.base,I.loc,I.cell,I.free,I.dC,fun p hm=>I.pin p (by
 rcases List.mem_append.mp hm with hm|hm
 ·exact List.mem_append_left _ (List.mem_append_left _ hm)
 ·exact List.mem_append_right _ hm),I.ag,I.len⟩
theorem SP.ji (ok:X.Ok) {D:Ends} {f:Flow} {s':Shared} (h:SP (X.dj x ps) pins D f s'):SP X pins D f s':=by
 cases f with
 |next=>obtain ⟨σ',H',I,q⟩:=h;exact ⟨σ',H',I.ji ok,q⟩
 |brk=>obtain ⟨σ',H',I,q⟩:=h;exact ⟨σ',H',I.ji ok,q⟩
 |cont=>obtain ⟨σ',H',I,q⟩:=h;exact ⟨σ',H',I.ji ok,q⟩
 |ret u=>obtain ⟨v,σ',H',I,r,q⟩:=h;exact ⟨v,σ',H',I.ji ok,r,q⟩
theorem B6 {n:Nat} (q:eQ ps n (.ref x)):xf (X.dj x ps):=⟨x,ps,n,rfl,q,fun p hp=>List.mem_append_right _ hp⟩
theorem clause {C:Addr} {y:Str} {np pos:Pos} {b0:Stmt} {suite:List Stmt} {rest:List ExceptHandler} {t:TS} {D:Ends} {ev:Value} (hex:X.ex= []) (hC:Own X.K C) (hg:Gl X y) (hm:X.mg y=some (.ref C)) (hsu: ∀x ps n,eQ ps n (.ref x)→cO (X.dj x ps) (b0::suite) t)
  (own: ∀cls d H,E cls d H→ ∃C',cls= .ref C'∧Own X.K C') (hit: ∀d H,E (.ref C) d H→t D σ H) (h:cn X pins σ E ev s)
  (miss: ∀s3,cn X pins σ (fun cls d H=>E cls d H∧cls≠ .ref C) ev s3→wpAny (model X.prog X.w) X.A (handleBy ev X.env rest) (SP X pins D) X.xe s3) (hd:(y==("__debug__" :Str))=false:=by decide):
  wpAny (model X.prog X.w) X.A (handleBy ev X.env (.ExceptHandler (some (.Name y np)) none (b0::suite) pos::rest)) (SP X pins D) X.xe s:=by
 obtain ⟨x,T,cls,c,fl,n,H,rfl,I,ap,ht,hq,he⟩:=id h
 refine wpAny_handleBy_cons (codeAny_handlers_test (jz (X:=X.dj x []) (I.dj x fun p hp=>absurd hp (by simp)) hg hm ?_ hd)) (by intro q;cases q)
 obtain ⟨C',rfl,oC⟩:=own _ _ _ he
 obtain ⟨bm,N,nm,qn,bs,hdct,sn,sub,ab,col,dd,k0,k1,k2,k3,k5,mN,g1,g2,g3,g4⟩:=oC.exc.obj I.cy
 obtain ⟨bm',N',nm',qn',bs',hdct',sn',sub',ab',col',dd',j0,j1,j2,j3,j5,mN',g1',g2',g3',g4'⟩:=hC.exc.obj I.cy
 obtain rfl:=yB I.cy oC.base g1
 obtain rfl:=yB I.cy hC.base g1'
 obtain ⟨oe,vs,oT,ts,e1,e2,_⟩:=id ht
 obtain ⟨hh,g,d,tk,os⟩:=s
 refine QC g1 g1' e1 e2.1 (by decide) ?_
 by_cases hc:C'=C
 ·subst hc
  have:(Value.ref C'::jI).contains (.ref C')=true:=by simp
  rw[this]
  have h0:cn X pins σ (fun cls d H=>E cls d H∧cls= .ref C') (.ref x) ⟨hh,g,d,tk,os⟩:=⟨x,T,_,c,fl,n,H,rfl,I,ap,ht,hq,he,rfl⟩
  refine codeAny_handlers_suite (sM hex h0 fun s3 h3=>?_)
  obtain ⟨x3,T3,cls3,c3,fl3,n3,H3,q3,I3,ap3,ht3,hq3,he3,rfl⟩:=h3
  cases q3
  obtain ⟨oe3,vs3,_,_,z1,z2,z3,_⟩:=ht3
  have ch:cx s3.heap H3 [] (n3+1) (.ref x):= .cons z1 z3 z2.2 (ap3 x (by simp)).2.2.2.2 (by simp) (hq3.move fun a o vs q1 _ q3 _=>⟨q1,q3,by simp⟩)
  obtain ⟨ps,p1,p2⟩:=ch.pins
  exact wpAny_mono (hsu x ps _ p1 pins s3 σ H3 D (I3.dj x p2) (hit _ _ he3)) (fun f s' q=>q.ji I.ok) (fun _ _ z=>z)
 ·have:(Value.ref C'::jI).contains (.ref C)=false:=by
   have e:(Value.ref C==Value.ref C')=false:=by simp;exact fun z=>hc z.symm
   rw[List.contains_cons,e];rfl
  rw[this]
  exact miss _ ⟨x,T,_,c,fl,n,H,rfl,I,ap,ht,hq,he,fun z=>hc (by cases z;rfl)⟩
def c1 (C:Addr) (u:TS):Ends→St→XK:=fun D σ cls _ H=>cls= .ref C∧u D σ H
def c2 (C:Addr) (u:TS) (C':Addr) (u':TS):Ends→St→XK:=fun D σ cls _ H=>(cls= .ref C∧u D σ H)∨(cls= .ref C'∧u' D σ H)
abbrev Cx.tr (X:Cx) (pn:List (Addr×Obj)) (xe:Value→Shared→Prop):Cx:={X with pn:=pn,xe:=xe}
def sv (X:Cx) (E:St→XK):Prop:= ∀(pins:List (Addr×Obj)) (σ:St) (H:Hp) (s:Shared) (e:Value) (s':Shared),Inv X pins σ H s→bu X.prog X.w X.stack H s (E σ) e s'→X.xe e s'
def IQ (tb:(St→XK)→TS) (cl:Ends→St→XK):TS:=fun D σ H=>tb (cl D) D σ H
theorem Inv.tr {xe:Value→Shared→Prop} (I:Inv X pins σ H s):Inv (X.tr (X.pn++pins) xe) [] σ H s:=
 ⟨⟨I.ok.mod,I.ok.kind,I.ok.glob,I.ok.blt,I.ok.above,I.ok.inj,I.ok.has,I.ok.iw,I.ok.hd,I.ok.frames,I.ok.iR,I.ok.gM,I.ok.bs,I.ok.fz,I.ok.eK,I.ok.gJ,I.ok.dv,I.ok.fT⟩,I.os,I.bare,I.base,I.loc,I.cell,I.free,I.dC,fun p hp=>I.pin p (by rw[List.append_nil] at hp;exact hp),I.ag,I.len⟩
theorem Inv.jh {xe:Value→Shared→Prop} {pins':List (Addr×Obj)} (ok:X.Ok) (I:Inv (X.tr (X.pn++pins) xe) pins' σ H s):Inv X pins σ H s:=⟨ok,I.os,I.bare,I.base,I.loc,I.cell,I.free,I.dC,fun p hp=>I.pin p (List.mem_append_left _ hp),I.ag,I.len⟩
theorem SP.jh {xe:Value→Shared→Prop} {pins':List (Addr×Obj)} (ok:X.Ok) {D:Ends} {f:Flow} {s':Shared} (h:SP (X.tr (X.pn++pins) xe) pins' D f s'):SP X pins D f s':=by
 cases f with
 |next=>obtain ⟨σ',H',I,q⟩:=h;exact ⟨σ',H',I.jh ok,q⟩
 |brk=>obtain ⟨σ',H',I,q⟩:=h;exact ⟨σ',H',I.jh ok,q⟩
 |cont=>obtain ⟨σ',H',I,q⟩:=h;exact ⟨σ',H',I.jh ok,q⟩
 |ret u=>obtain ⟨v,σ',H',I,r,q⟩:=h;exact ⟨v,σ',H',I.jh ok,r,q⟩
theorem tD {tb:(St→XK)→TS} {cl:Ends→St→XK} {body:List Stmt} {h0:ExceptHandler} {hs:List ExceptHandler} {pos:Pos} (hex:X.ex= []) (hst:X.stack=X.env::X.outer) (hfr:X.env.frame=some X.env.locals)
  (hb: ∀(E:St→XK) (pn:List (Addr×Obj)) (xe:Value→Shared→Prop),sv (X.tr pn xe) E→PassesOwn (model X.prog X.w) X.A X.env xe→cO (X.tr pn xe) body (tb E))
  (hh: ∀(pins:List (Addr×Obj)) (σ:St) (D:Ends) (ev:Value) (s3:Shared),cn X pins σ (cl D σ) ev s3→wpAny (model X.prog X.w) X.A (handleBy ev X.env (h0::hs)) (SP X pins D) X.xe s3):
  PS X (.Try body (h0::hs) [] [] pos) (IQ tb cl):=by
 intro pins s σ H D I h
 have hp:sv (X.tr (X.pn++pins) fun ev s=> ∃σ',cn X pins σ' (cl D σ') ev s) (cl D):=fun pins' σ' H' s1 e s' I' q=>⟨σ',PL (I'.jh I.ok) hex q⟩
 have ho:PassesOwn (model X.prog X.w) X.A X.env fun ev s=> ∃σ',cn X pins σ' (cl D σ') ev s:=fun ev s1 ⟨σ',q⟩=>Ea hex hst hfr rfl q fun s2 q2=>Bs hex q2 fun s3 q3=>⟨σ',q3⟩
 refine wpAny_Try_except (wpAny_mono (hb (cl D) _ _ hp ho [] s σ H D I.tr h) (fun f s1 q=>?_) fun ev s1 ⟨σ',q⟩=>Ea hex hst hfr rfl q fun s2 q2=>sM hex q2 fun s3 q3=>hh pins σ' D ev s3 q3)
 have q:=q.jh I.ok
 cases f with
 |next=>exact wpAny_execs_nil q
 |brk=>exact q
 |cont=>exact q
 |ret u=>exact q
theorem Km {C:Addr} {y:Str} {np pos:Pos} {b0:Stmt} {suite:List Stmt} {u:TS} (hex:X.ex= []) (hC:Own X.K C) (hg:Gl X y) (hm:X.mg y=some (.ref C)) (hsu: ∀x ps n,eQ ps n (.ref x)→cO (X.dj x ps) (b0::suite) u) (hd:(y==("__debug__" :Str))=false:=by decide):
  ∀(pins:List (Addr×Obj)) (σ:St) (D:Ends) (ev:Value) (s3:Shared),cn X pins σ (c1 C u D σ) ev s3→wpAny (model X.prog X.w) X.A (handleBy ev X.env [.ExceptHandler (some (.Name y np)) none (b0::suite) pos]) (SP X pins D) X.xe s3:=fun pins σ D ev s3 h=>by
 refine clause (t:=u) hex hC hg hm hsu (fun cls d H ⟨z,_⟩=>⟨C,z,hC⟩) (fun d H ⟨_,z⟩=>z) h (fun s3 h3=>?_) hd
 obtain ⟨_,_,_,_,_,_,_,_,_,_,_,_,⟨z,_⟩,n⟩:=h3
 exact absurd z n
theorem Gv {C C':Addr} {y y':Str} {np pos np' pos':Pos} {b0 b0':Stmt} {suite suite':List Stmt} {u u':TS} (hex:X.ex= []) (hC:Own X.K C) (hg:Gl X y) (hm:X.mg y=some (.ref C)) (hsu: ∀x ps n,eQ ps n (.ref x)→cO (X.dj x ps) (b0::suite) u)
  (hC':Own X.K C') (hg':Gl X y') (hm':X.mg y'=some (.ref C')) (hsu': ∀x ps n,eQ ps n (.ref x)→cO (X.dj x ps) (b0'::suite') u') (hne:C≠C') (hd:(y==("__debug__" :Str))=false:=by decide) (hd':(y'==("__debug__" :Str))=false:=by decide):
  ∀(pins:List (Addr×Obj)) (σ:St) (D:Ends) (ev:Value) (s3:Shared),cn X pins σ (c2 C u C' u' D σ) ev s3→wpAny (model X.prog X.w) X.A (handleBy ev X.env [.ExceptHandler (some (.Name y np)) none (b0::suite) pos, .ExceptHandler (some (.Name y' np')) none (b0'::suite') pos']) (SP X pins D) X.xe s3:=fun pins σ D ev s3 h=>by
 refine clause (t:=u) hex hC hg hm hsu (fun cls d H z=>z.elim (fun z=>⟨C,z.1,hC⟩) fun z=>⟨C',z.1,hC'⟩) (fun d H z=>z.elim (fun z=>z.2) fun z=>absurd (by injection z.1) hne) h (fun s3 h3=>?_) hd
 refine clause (t:=u') hex hC' hg' hm' hsu' (fun cls d H z=>z.1.elim (fun w=>absurd w.1 z.2) fun w=>⟨C',w.1,hC'⟩) (fun d H z=>z.1.elim (fun w=>absurd w.1 z.2) fun w=>w.2) h3 (fun s4 h4=>?_) hd'
 obtain ⟨_,_,_,_,_,_,_,_,_,_,_,_,⟨z,n1⟩,n⟩:=h4
 rcases z with z|z
 ·exact absurd z.1 n1
 ·exact absurd z.1 n
end
section
variable {X:Cx} {k:Nat} {f:Addr} {fd:FuncData} {ps:List Str} {sp:Sp} {dvs:List V} {ds:List Value} {E:St→XK} {x:Str} {p pos:Pos} {e:Expr} {es:List Expr} {t:TA}
def F2 (sp:Sp) (dvs:List V) (E:St→XK) (t:TA):TE:=fun σ H Q=>t σ H fun vs H1=>sp (vs++dvs) H1 Q (E σ)
theorem MN {pins:List (Addr×Obj)} {σ:St} {H:Hp} {s:Shared} {Q:VK} {us:List Value} {vs:List V} (F:aA X.prog X.w X.K X.mg X.base (bu X.prog X.w) k f fd ps sp) (hr:aF k X.A) (hb:Binds X.K fd ps ds) (hd:Vals dvs ds) (hx:sv X E)
  (I:Inv X pins σ H s) (r:Vals vs us) (h:sp (vs++dvs) H Q (E σ)):wpAny (model X.prog X.w) X.A (call (.ref f) us) (EP X pins σ Q) X.xe s:=by
 have r2:Vals (vs++dvs) (us++ds):=r.append hd
 have hl:(us++ds).length=ps.length:=by rw[←r2.length];exact F.len _ _ _ _ h
 refine wpAny_call (codeAny_mono (F.run X.A X.stack s H ⟨us, []⟩ (us++ds) (vs++dvs) Q (E σ) hr I.uO (hb s us I.cy hl) r2 h) fun r s' hq=>?_)
 cases r with
 |error e=>exact hx pins σ H s e s' I hq
 |ok fl=>
  cases fl with
  |ret u=>exact I.after hq
  |next=>exact False.elim hq
  |brk=>exact False.elim hq
  |cont=>exact False.elim hq
theorem uI (F:aA X.prog X.w X.K X.mg X.base (bu X.prog X.w) k f fd ps sp) (hr:aF k X.A) (hg:Gl X x) (hm:X.mg x=some (.ref f)) (hk:PySem.W.keepIn X.K (.ref f)=true) (hb:Binds X.K fd ps ds) (hd:Vals dvs ds) (hx:sv X E)
  (ha:PA X (e::es) t) (hdb:(x==("__debug__" :Str))=false:=by decide) (he:starEach (e::es) X.env=(false,eval e X.env)::starEach es X.env:=by rfl) (hpl:(backTo pos (starEach es X.env)).any (·.1)=false:=by rfl):
  PE X (.Call (.Name x p) (e::es) [] pos) (F2 sp dvs E t):=by
 intro pins s σ H Q I h
 refine wpAny_Call_Name_kw (jz I hg hm ?_ hdb)
 refine PySem.W.callWith_K (h₀:=X.base) I.ok.mod.ke hk (aw (ha pos pins s σ H _ I h) fun us s1 ⟨vs,H1,I1,r,q⟩=>⟨I1.cy,?_⟩) he hpl
 exact MN F hr hb hd hx I1 r q
end
end L2
namespace L2
open PySem PySem.Spec PyProof.Rows
theorem yr:entryFor table "proto.unchain" =some Builtin.«proto.unchain»:=entryFor_of_fast (by kernel_rfl)
section
variable {prog:Program} {w:World} {A:Around} {s:Shared} {H:Hp} {a:Addr}
theorem J9 {R:Result→Shared→Prop} (hR:R (.ok (.ret .none)) s): ∀(m:Nat) (o slow:Value) (tg:Bool) (ns:Nat),cx s.heap H [a] (m+1) o→cx s.heap H [a] ns slow→m+1≤ns→codeAny (model prog w) A (.builtin "proto.unchain" ⟨[.ref a,o,slow, .bool tg], []⟩) R s:=by
 intro m
 induction m with
 |zero=>
  intro o slow tg ns ho hs hm
  cases ho with
  |cons g d f2 hn nav t=>
   cases t
   refine codeAny_builtin yr ?_
   unfold Builtin.«proto.unchain»
   refine wpAny_bind (wpAny_field g d f2 ?_)
   rw[if_pos (by decide)]
   wp_walk
   exact hR
 |succ m ih=>
  intro o slow tg ns ho hs hm
  cases ho with
  |cons g d f2 hn nav t=>
   cases id t with
   | @cons _ a2 _ _ _ g2 d2 f22 hn2 nav2 t2=>
    refine codeAny_builtin yr ?_
    unfold Builtin.«proto.unchain»
    refine wpAny_bind (wpAny_field g d f2 ?_)
    rw[if_neg (by simp)]
    have n1:(Value.ref a2==Value.ref a)=false:=by simp;intro z;exact nav2 (by rw[z];simp)
    rw[n1,if_neg (by decide)]
    by_cases q:(Value.ref a2==slow)=true
    ·rw[q,if_pos rfl]
     wp_walk
     exact hR
    ·rw[if_neg q]
     cases tg with
     |false=>
      rw[if_neg (by decide)]
      refine wpAny_bind (wpAny_pure (wpAny_pure ⟨Code.quiet_builtin _ (by decide+kernel),?_⟩))
      exact ih _ slow true ns t hs (by omega)
     |true=>
      rw[if_pos rfl]
      cases hs with
      |nil=>omega
      |cons j1 j2 j3 j4 j5 j6=>
       refine wpAny_bind (wpAny_field j1 j2 j3 (wpAny_pure ⟨Code.quiet_builtin _ (by decide+kernel),?_⟩))
       exact ih _ _ false _ t j6 (by omega)
theorem Ir {α:Type} {E:Value→Shared→Prop} {Q:α→Shared→Prop} {h:Addr} {oa:Obj} {vs:Array Value} {n:Nat} (hh:A.handled=some (.ref h)) (ga:s.heap.get? a=some oa) (da:oa.data= .fields vs) (z2:2<vs.size) (ch:cx s.heap H [a] n (.ref h)) (k:E (.ref a) {s with heap:=s.heap.update a (Obj.mapFields (·.setIfInBounds 2 (.ref h)))}):
  wpAny (model prog w) A (raiseNew (.ref a):Sem α) Q E s:=by
 unfold raiseNew
 refine wpAny_bind (wpAny_handled ?_)
 rw[hh]
 have ne:(Value.ref h !=Value.ref a)=true:=by
  cases ch with
  |cons _ _ _ _ nav _=>
   simp
   intro z
   exact nav (by rw[z];simp)
 simp only [ne,if_true]
 refine wpAny_bind (wpAny_holding (wpAny_runValue ?_))
 cases ch with
 |cons j1 j2 j3 j4 j5 j6=>
  refine J9 ?_ _ _ _ _ _ (.cons j1 j2 j3 j4 j5 j6) (.cons j1 j2 j3 j4 j5 j6) (Nat.le_refl _)
  exact wpAny_bind (wpAny_setField (x:= .ref h) ga da z2 (wpAny_throw k))
end
theorem JA {h:Heap} {a:Addr} {o:Obj} {e:Addr} (g:h.get? a=some o) (n:h.get? e=none):a∉ [e]:=fun z=>by
 rcases List.mem_cons.mp z with z|z
 ·rw[←z,g] at n;cases n
 ·cases z
section
variable {X:Cx} {E:XK}
theorem Rp {pins:List (Addr×Obj)} {σ:St} {H:Hp} {s:Shared} {x:Str} {C:Addr} {np cpos:Pos} {Q:Value→Shared→Prop} {Ee:Value→Shared→Prop} (I:Inv X pins σ H s) (hg:Gl X x) (hm:X.mg x=some (.ref C)) (hC:iD X.K C)
  (k: ∀h' e,Heap.MadeExcOf s.heap h' e (.ref C) []→Q (.ref e) {s with heap:=h'}) (hd:(x==("__debug__" :Str))=false:=by decide):wpAny (model X.prog X.w) X.A (eval (.Call (.Name x np) [] [] cpos) X.env) Q Ee s:=by
 obtain ⟨bm,N,nm,qn,bs,hdct,sn,sub,ab,col,dd,k0,k1,k2,k3,k5,mN,g1,g2,g3,g4⟩:=hC.obj I.cy
 refine wpAny_Call_ofName (jz I hg hm ?_ hd)
 unfold callWith
 refine wpAny_bind (wpAny_holding (evalArgs_empty (wpAny_bind (wpAny_standAt ?_))))
 obtain ⟨hp,g,d,tk,os⟩:=s
 simp only [starEach,backTo,List.any_nil]
 refine wpAny_bind (wpAny_keeperOf_exc g1 ?_)
 refine wpAny_bind (wpAny_call_exc_subT F.excBase_Exception g4 g1 g2 g3 fun h' e hx=>wpAny_bind (wpAny_holding (wpAny_point (wpAny_pure ?_))))
 exact k h' e hx
theorem zI {x:Str} {C:Addr} {np cpos pos cp:Pos} {j} (hh:xf X) (hg:Gl X x) (hm:X.mg x=some (.ref C)) (hC:iD X.K C) (hr:lC X E) (hd:(x==("__debug__" :Str))=false:=by decide):
  PS X (.Raise (some (.Call (.Name x np) [] [] cpos)) (some (.Constant .none j cp)) pos) (BA E C):=by
 intro pins s σ H D I h
 rw[arm_exec_Raise]
 simp only [evalOpt,Option.map]
 refine wpAny_bind (wpAny_standAt ?_)
 unfold raiseStmt
 refine wpAny_bind (wpAny_bind (Rp I hg hm hC (fun h1 e hx=>wpAny_bind (wpAny_standAt (wpAny_pure ?_))) hd))
 obtain ⟨bm,N,nm,qn,bs,hdct,sn,sub,ab,col,dd,k0,k1,k2,k3,k5,mN,g1,g2,g3,g4⟩:=hC.obj I.cy
 have hcB:(Value.ref C::bm).contains (.type "BaseException")=true:=by rw[List.contains_cons,g4.hasType F.excBase_Exception.hasBase,Bool.or_true]
 obtain ⟨t,he,htn,ht⟩:=hx.there
 have hC1:=hx.keeps _ _ g1
 obtain ⟨hp,g,d,tk,os⟩:=s
 refine wpAny_bind (wpAny_holding (wpAny_bind (Constant_none (wpAny_bind (wpAny_standAt (wpAny_pure (wpAny_bind (wpAny_pure ?_))))))))
 repeat (first|with_reducible refine wpAny_loadPart_at he ?_|with_reducible refine wpAny_loadPart_at hC1 ?_|(with_reducible refine wpAny_isSubtype_exc hC1 ?_;rw[hcB])|wp_step)
 have neC:e≠C:=fun z=>by have z3:=hx.new;rw[z,g1] at z3;cases z3
 have he2:=Heap.get?_update_self (Obj.mapFields (·.setIfInBounds 3 Value.none)) he rfl
 have hC2:=(Heap.get?_update_other h1 (Obj.mapFields (·.setIfInBounds 3 Value.none)) neC).trans hC1
 have kp2: ∀b o,hp.get? b=some o→(h1.update e (Obj.mapFields (·.setIfInBounds 3 Value.none))).get? b=some o:=fun b o z=>(Heap.get?_update_other _ _ (fun z2:e=b=>by have z3:=hx.new;rw[z2] at z3;exact absurd (z.symm.trans z3) (by simp))).trans (hx.keeps b o z)
 generalize h1.update e (Obj.mapFields (·.setIfInBounds 3 Value.none))=h2 at*
 have he3:=Heap.get?_update_self (Obj.mapFields (·.setIfInBounds 4 (Value.bool true))) he2 rfl
 have hC3:=(Heap.get?_update_other h2 (Obj.mapFields (·.setIfInBounds 4 (Value.bool true))) neC).trans hC2
 have kp3: ∀b o,hp.get? b=some o→(h2.update e (Obj.mapFields (·.setIfInBounds 4 (Value.bool true)))).get? b=some o:=fun b o z=>(Heap.get?_update_other _ _ (fun z2:e=b=>by have z3:=hx.new;rw[z2] at z3;exact absurd (z.symm.trans z3) (by simp))).trans (kp2 b o z)
 generalize h2.update e (Obj.mapFields (·.setIfInBounds 4 (Value.bool true)))=h3 at*
 repeat (first|with_reducible refine wpAny_loadPart_at he3 ?_|with_reducible refine wpAny_loadPart_at hC3 ?_|(with_reducible refine wpAny_isSubtype_exc hC3 ?_;rw[hcB])|wp_step)
 obtain ⟨hx1,ps,n,q1,q2,q3⟩:=hh
 have ch: ∀av,(∀p∈ps,p.1∉av)→cx hp H av n (.ref hx1):=fun av ha=>q2.IX fun p hp'=>⟨(I.pin p (List.mem_append_left _ (q3 p hp'))).1,(I.pin p (List.mem_append_left _ (q3 p hp'))).2.1,ha p hp'⟩
 have che:cx h3 H [e] n (.ref hx1):=(ch [e] fun p hp'=>JA (I.pin p (List.mem_append_left _ (q3 p hp'))).1 hx.new).move fun a o vs z1 _ z3 z4=>⟨kp3 _ _ z1,z3,z4⟩
 refine Ir (s:=⟨h3,g,d,tk,os⟩) q1 he3 rfl (by show 2<6;decide) che ?_
 refine hr pins σ H ⟨hp,g,d,tk,os⟩ _ e _ _ (.ref hx1) n I (fun b o z=>?_) hx.new (Heap.get?_update_self _ he3 rfl) rfl rfl rfl (ch [] fun p _=>by simp) h
 rw[Heap.get?_update_other _ _ (fun z2:e=b=>by have z3:=hx.new;rw[z2] at z3;exact absurd (z.symm.trans z3) (by simp))]
 exact kp3 b o z
end
section
variable {X:Cx} {pins ps:List (Addr×Obj)} {σ:St} {H:Hp} {s:Shared} {x:Addr} {E:XK}
theorem cn.to {ev:Value} (hair:gZ X E) (h:cn X pins σ E ev s):X.xe ev s:=by
 obtain ⟨x,T,cls,c,fl,n,H,rfl,I,ap,ht,hq,he⟩:=h
 exact hair pins σ H s x T cls c fl n I ⟨(ap x (by simp)).1,(ap T (by simp)).1,(ap x (by simp)).2.2.2.2,(ap T (by simp)).2.2.2.2⟩ ht hq he
theorem QZ {e:Addr} {cls c fl:Value} {n:Nat} {l:List Env} {h1 h2:Heap} (hex:X.ex= []) (I:Inv X pins σ H s) (kp: ∀b o,s.heap.get? b=some o→h1.get? b=some o) (ne:s.heap.get? e=none) (hq:cx s.heap H [] n c) (he:E cls none H)
  (o:fJ (PySem.W.hideAll s.heap (aX X.stack)) l e cls c fl h2) (up:h1.UpToSlots h2):cn X pins σ E (.ref e) {s with heap:=h2}:=by
 obtain ⟨k1,k2,k3,oe',vs',T',oT',ts',t1,t2,t3,t4,t5,t6,t7,t8,t9⟩:=o
 have slot: ∀b o,s.heap.get? b=some o→b∈aX X.stack→(∀vs,o.data≠ .fields vs)∧ ∃sl,h2.get? b=some {o with slots:=sl}:=fun b o q hm=>by
  obtain ⟨_,o2,q2,nf⟩:=I.stack.mem hm
  rw[q] at q2;cases q2
  exact ⟨nf,up b o (kp b o q) nf⟩
 have keep: ∀b o,s.heap.get? b=some o→b∉aX X.stack→h2.get? b=some o:=fun b o q nb=>k1 b o (PySem.W.hideAll_get _ q nb)
 have new:s.heap.get? T'=none:=by
  cases q:s.heap.get? T' with
  |none=>rfl
  |some o=>
   by_cases hm:T'∈aX X.stack
   ·obtain ⟨nf,sl,z⟩:=slot T' o q hm
    rw[t7] at z
    cases z
    exact absurd t8 (nf ts')
   ·have:=PySem.W.hideAll_get _ q hm
    rw[t5] at this;cases this
 have ap: ∀b,s.heap.get? b=none→X.a8.heap.get? b=none∧b≠X.env.locals∧(∀y c,X.env.cells.lookup y=some c→c≠b)∧(∀p∈X.pn++pins,p.1≠b)∧H b=none:=fun b q=>by
  obtain ⟨z1,z2,z3,z4⟩:=I.apart hex q
  exact ⟨z1,z2,z3,z4,kj I.ag q⟩
 have Im:Inv X pins σ H {s with heap:=h2}:=I.moved [] (fun b hb=>absurd hb (by simp)) (fun b o q nb _=>keep b o q nb) (fun b o q hm=>(slot b o q hm).2)
 refine ⟨e,T',cls,c,fl,n,H,rfl,Im,lg (ap e ne) (ap T' new),⟨oe',vs',oT',ts',t1,t2,t3,t4,t6,t7,t8,t9⟩,hq.move fun a o vs g1 g2 g3 _=>⟨keep a o g1 (fun hm=>by obtain ⟨_,o2,q2,nf⟩:=I.stack.mem hm;rw[g1] at q2;cases q2;exact nf vs g2),g3,fun hm=>?_⟩,he⟩
 rcases List.mem_cons.mp hm with z|hm
 ·rw[←z,g1] at ne;cases ne
 ·rcases List.mem_cons.mp hm with z|hm
  ·rw[←z,g1] at new;cases new
  ·cases hm
theorem gu (hh:X.A.handled=none) (ok:(X.dj x ps).Ok):X.Ok:=⟨ok.mod,ok.kind,ok.glob,ok.blt,ok.above,ok.inj,ok.has,ok.iw,(fun _=>hh),ok.frames,ok.iR,ok.gM,ok.bs,ok.fz,ok.eK,ok.gJ,ok.dv,ok.fT⟩
theorem Ei (hh:X.A.handled=none) (hex:X.ex= []) (hst:X.stack=X.env::X.outer) (hfr:X.env.frame=some X.env.locals) (hair:gZ X E):lC (X.dj x ps) E:=by
 intro pins σ H s h1 e oe vs c n I kp ne ge de f1 f2 hq he
 have I:=I.ji (gu hh I.ok)
 have nh:(PySem.W.hideAll s.heap (aX X.stack)).get? e=none:=by
  cases q:(PySem.W.hideAll s.heap (aX X.stack)).get? e with
  |none=>rfl
  |some o=>rw[PySem.W.of_hideAll _ q] at ne;cases ne
 have ff:h1.FunFrames (PySem.W.hideAll s.heap (aX X.stack)) X.stack:=(PySem.W.funFrames_hide I.stack (fun env henv a ha=>vj henv ha)).of_keeps fun b o q nf=>⟨o,kp b o q,rfl⟩
 exact zc (s:={s with heap:=h1}) (by show X.A.frames=_;rw[I.ok.frames,hst]) hfr (by rw[←hst];exact ff) ge (fun b o q=>kp b o (PySem.W.of_hideAll _ q)) nh de f1 f2 fun h2 o2 up=>
  Bs hex (QZ (s:=s) (h1:=h1) hex I kp ne hq he o2 up) fun s3 q3=>q3.to hair
end
section
variable {X:Cx} {k:Nat} {f C:Addr} {fd:FuncData} {ps:List Str} {sp:Sp} {E:XK} {x m:Str} {p pos apos:Pos} {e o:Expr} {es:List Expr} {ta:TE} {t:TA}
end
end L2
namespace L2
open PySem PySem.Spec PyProof.Rows
section
variable {X:Cx}
theorem Iy {E:XK} {i:Nat} {y:Str} {py:Pos} {elt tg iter:Expr} {ifs:List Expr} {scope:Scope} {own:List (Str×Nat)} {pos spos:Pos} {wi:TI} {g:TG} {tt:TT} {te:TE} (hex:X.ex= []) (hst:X.stack=X.env::X.outer) (hfr:X.env.frame=some X.env.locals) (hair:gZ X E) (hc:X.calm=true) (hN:X.N.Nodup) (hy:X.N[i]?=some y) (hyl:X.env.scope.names.lookup y=some .local)
  (hsw:swapsWith (.ListComp elt [⟨tg,iter,ifs,0⟩] scope pos) (some (.Name y py)) spos.line X.env=pure true) (hi:PI X tg iter wi) (ok:iE X.N X.env.scope scope own)
  (hg: ∀(s:Shared) (H:Hp) (C:Addr) (cl:List (Str×Addr)) (fp:List Addr) (xb:Value→Shared→Prop),PG ((X.a9 s H scope (compEnvC scope cl C X.env) fp).bC xb) tg g) (ht: ∀(s:Shared) (H:Hp) (C:Addr) (cl:List (Str×Addr)) (fp:List Addr) (xb:Value→Shared→Prop),iA ((X.a9 s H scope (compEnvC scope cl C X.env) fp).bC xb) ifs tt)
  (he: ∀(s:Shared) (H:Hp) (C:Addr) (cl:List (Str×Addr)) (fp:List Addr) (xb:Value→Shared→Prop),Passes (bu X.prog X.w) ((X.a9 s H scope (compEnvC scope cl C X.env) fp).bC xb) E→PE ((X.a9 s H scope (compEnvC scope cl C X.env) fp).bC xb) elt te) (hs: ∀x,foldedSetIterable iter X.env x=pure x:=by intro _;rfl):
  PS X (.Assign [.Name y py] (.ListComp elt [⟨tg,iter,ifs,0⟩] scope pos) spos) (pY (gQ wi g tt te (own.map (·.2))) (iX i)):=by
 intro pins s σ H D I h
 rw[exec_Assign_Name_used _ _ _ _ hsw]
 refine wpAny_bind (wpAny_standAt (wpAny_bind ?_))
 show wpAny _ X.A (do let _←comprehension (.ListComp elt [⟨tg,iter,ifs,0⟩] scope pos) scope X.env (firstIterPos [⟨tg,iter,ifs,0⟩] pos) (newList []) false (eval iter X.env) (some (assign (.Name y py) X.env))) _ _ s
 have h:gQ wi g tt te (own.map (·.2)) σ H (fun x H1=>iX i x σ H1 D.nx):=h
 refine wpAny_bind (aw (DS (Qf:=fun _ s'=>SP X pins D .next s') hex hst hfr hair hc hN I hi ok hg ht he hs h fun L C s' m H' I' q hn f=>?_) fun _ s' hq=>wpAny_pure (wpAny_pure hq))
 show wpAny _ _ (assign (.Name y py) X.env (.ref L)) _ _ _
 refine wpAny_assign_Name (tJ (v:=V.ref L) I' hN hy (.inl hyl) rfl (fun s2 I2 ⟨a,sb,ha⟩=>?_) (.inr hyl))
 obtain ⟨f0,f1,f2,f3,f4,f5⟩:=f
 have haC:C≠a:=by
  rcases ha with z|z
  ·rw[z];exact f1
  ·exact fun e=>f4 y a z e.symm
 refine ⟨m,hn.sameBut sb haC,fun h3 sb3=>?_⟩
 exact ⟨_,H',I2.turned (t':=s2.toks) (fun b o hb e=>(sb3.2 b hb).trans e) f0 f1 f3 f4 f5,q⟩
end
end L2
namespace L2
open PySem PySem.Spec PyProof.Rows
section
variable {X:Cx}
inductive vC (K:PySem.W.Frag) (x y:V) (H:Hp) (Q:VK):Prop
 |mk (l b:Addr) (xs zs:List V) (e1:x= .ref l) (e2:y= .ref b) (h:af K H l xs) (h2:af K H b zs) (z:xs.length+zs.length≤sizeLine) (q: ∀p,H p=none→Q (.ref p) (upd H p (.lst (xs++zs)))):vC K x y H Q
theorem Fu:bq X (binaryOp .Add) (vC X.K):=by
 intro pins s σ H x y v u Q I rx ry h
 obtain ⟨l,b,xs,zs,rfl,rfl,hl,hb,hz,q⟩:=h
 cases rx
 cases ry
 obtain ⟨its,r1,⟨⟨c1,d1,a1,s1⟩,n1,e1,k1,_,t1⟩,_⟩:=I.list hl
 obtain ⟨its2,r2,⟨⟨c2,d2,a2,s2⟩,n2,e2,k2,_,t2⟩,_⟩:=I.list hb
 simp only at k1 t1 k2 t2
 subst k1 t1 k2 t2
 have ez:its.toArray.size+its2.toArray.size≤sizeLine:=by rw[List.size_toArray,List.size_toArray,←r1.length,←r2.length];exact hz
 refine concat_meets ⟨_,e1,rfl⟩ ⟨_,e2,rfl⟩ noFill_list_add seq_list_add PySem.F.slot_list_add PySem.F.entry_list_add (PySem.F.args_list_add_2 _ _) (list_addW l b its.toArray its2.toArray n1 n2 d1 d2 s1 s2 ez) ⟨e1,e2,?_⟩
 have ea:its.toArray++its2.toArray=(its++its2).toArray:=by simp
 rw[ea]
 exact ⟨.ref _,_,I.vk (t':=s.toks) (r1.append r2) (by rw[List.length_append];omega),rfl,q _ I.fresh⟩
end
end L2
namespace L2
open PySem PySem.Spec PyProof.Rows
section
variable {X:Cx}
theorem Fd {E:XK} {pins:List (Addr×Obj)} {σ:St} {s:Shared} {ev:Value} {what:String} {α:Type} {Q:α→Shared→Prop} (hex:X.ex= []) (hair:gZ X E) (h:cn X pins σ E ev s):wpAny (model X.prog X.w) X.A (PySem.passOn what ev X.env) Q X.xe s:=by
 obtain ⟨x,T,cls,c,fl,n,H,rfl,I,ap,ht,hq,he⟩:=id h
 obtain ⟨oe,vs,oT,ts,g1,g2,g3,g4,_⟩:=ht
 unfold PySem.passOn
 refine wpAny_bind (wpAny_field g1 g3 g4 ?_)
 rw[if_neg (by simp)]
 refine wpAny_bind (sM hex h fun s3 q3=>wpAny_throw (q3.to hair))
def GJ (K:PySem.W.Frag) (C:Addr) (u:TS) (E':XK):Ends→St→XK:=fun D σ cls d H=>(cls= .ref C∧u D σ H)∨((∃C',cls= .ref C'∧Own K C')∧cls≠ .ref C∧E' cls d H)
theorem Mp {E':XK} {C:Addr} {y:Str} {np pos:Pos} {b0:Stmt} {suite:List Stmt} {u:TS} (hex:X.ex= []) (hair:gZ X E') (hC:Own X.K C) (hg:Gl X y) (hm:X.mg y=some (.ref C)) (hsu: ∀x ps n,eQ ps n (.ref x)→cO (X.dj x ps) (b0::suite) u) (hd:(y==("__debug__" :Str))=false:=by decide):
  ∀(pins:List (Addr×Obj)) (σ:St) (D:Ends) (ev:Value) (s3:Shared),cn X pins σ (GJ X.K C u E' D σ) ev s3→wpAny (model X.prog X.w) X.A (handleBy ev X.env [.ExceptHandler (some (.Name y np)) none (b0::suite) pos]) (SP X pins D) X.xe s3:=fun pins σ D ev s3 h=>by
 refine clause (t:=u) hex hC hg hm hsu (fun cls d H z=>z.elim (fun z=>⟨C,z.1,hC⟩) fun z=>z.1) (fun d H z=>z.elim (fun z=>z.2) fun z=>absurd rfl z.2.1) h (fun s3 h3=>?_) hd
 refine wpAny_handleBy_nil (Fd hex hair (h3.imp fun cls d H z=>?_))
 rcases z.1 with w|w
 ·exact absurd w.1 z.2
 ·exact w.2.2
end
end L2
set_option maxHeartbeats 2000000
namespace L2
open PySem PySem.Spec PyProof.Rows
theorem LP {ns:List Int} {us:List Value} (h:IntsAre us ns): ∀(i:Nat) (v:Value),us[i]?=some v→ ∃t,v= .int (ns.getD i 0) t:=by
 induction h with
 |nil=>intro i v e;simp at e
 |cons n t h ih=>
  intro i v e
  cases i with
  |zero=>
   simp at e
   exact ⟨t,by rw[←e];rfl⟩
  |succ i=>
   rw[List.getElem?_cons_succ] at e
   obtain ⟨t2,rfl⟩:=ih i v e
   exact ⟨t2,rfl⟩
theorem ER {ns:List Int} {us:List Value} (h:IntsAre us ns):us.length=ns.length:=by
 induction h with
 |nil=>rfl
 |cons n t h ih=>simp [ih]
theorem JC {prog:Program} {w:World} {A:Around} {ns:List Int} {its:List Value} (e:IntsAre its ns):
  TruthOf prog w A (fun i v=>its.toArray[i]?=some v) (fun i=>ns.getD i 0 !=0):=fun i v s Q E hv hq=>by
 have hv':its[i]?=some v:=by simpa using hv
 obtain ⟨t,rfl⟩:=LP e i v hv'
 exact PyProof.Rows.truthy_int hq
theorem yW: ∀ns:List Int,(List.range ns.length).any (fun i=>ns.getD i 0 !=0)=ns.any (fun z=>z !=0)
 | []=>rfl
 |b::bs=>by
  rw[List.length_cons,List.range_succ_eq_map,List.any_cons,List.any_map,List.any_cons,←yW bs]
  all_goals rfl
section
variable {X:Cx}
def Nr (K:PySem.W.Frag):List V→Hp→VK→Prop:=fun vs H Q=> ∃(a:Addr) (ns:List Int),vs= [V.ref a]∧af K H a (ns.map V.int)∧Q (.bl (ns.any fun z=>z !=0)) H
theorem ML (hc:X.calm=true):eY X (.builtin "any") (Nr X.K):=by
 intro pins s σ H vs us Q I r h
 obtain ⟨a,ns,rfl,hs,q⟩:=h
 obtain ⟨its,rv,hl,_⟩:=I.list hs
 rw[Vals.qN r]
 have hb:=rv.ints
 refine call_any_walk (yL hl.isList fun s₂ e2 st hne=>?_)
 subst e2
 refine ⟨_,_,_,_,_,_,_,rfl,Walks.list (A:=X.A.in1) (I.ok.hd hc) _ a hne its.toArray,st,JC hb,fun h' tk hk=>?_⟩
 refine ⟨.bl _,H,I.kept fun b o eo=>hk b o (fun hmem=>?_) (Heap.get?_push_of_some _ eo),?_,q⟩
 ·rcases List.mem_cons.mp hmem with e1|hmem
  ·exact absurd (e1▸Heap.lt_size eo) (Nat.lt_irrefl _)
  ·cases hmem
 ·show Value.bool _=Value.bool _
  rw[←yW,List.size_toArray,ER hb]
end
end L2
namespace L2
open PySem PySem.Spec PyProof.Rows
theorem az {K:PySem.W.Frag} {i:Nat} {f:Str} {σ:L2.St} {H:Hp} {Q:VK} {p C dx:Addr} {fs:List (Str×V)} {v:V} (e:σ[i]?=some (some (.ref p))) (h:H p=some (.ins C dx fs)) (c:cT K C) (n:ba K C f) (l:fs.lookup f=some v) (q:Q v H):fi i σ H (rS K f Q):=⟨_,e,p,C,dx,fs,v,rfl,h,c,n,l,q⟩
theorem fI {K:PySem.W.Frag} {f:Str} {H:Hp} {Q:VK} {p C dx:Addr} {fs:List (Str×V)} {v:V} (h:H p=some (.ins C dx fs)) (c:cT K C) (n:ba K C f) (l:fs.lookup f=some v) (q:Q v H):rS K f Q (.ref p) H:=⟨p,C,dx,fs,v,rfl,h,c,n,l,q⟩
theorem bE {i:Nat} {m:Str} {σ:L2.St} {H:Hp} {F:V→Hp→Prop} {p C dx:Addr} {fs:List (Str×V)} (e:σ[i]?=some (some (.ref p))) (h:H p=some (.ins C dx fs)) (l:fs.lookup m=none) (q:F (.ref p) H):fi i σ H (rD C m F):=⟨_,e,p,dx,fs,rfl,h,l,q⟩
theorem mJ {m:Str} {H:Hp} {F:V→Hp→Prop} {p C dx:Addr} {fs:List (Str×V)} (h:H p=some (.ins C dx fs)) (l:fs.lookup m=none) (q:F (.ref p) H):rD C m F (.ref p) H:=⟨p,dx,fs,rfl,h,l,q⟩
theorem aS {T0 T1:Sort _} {P:T0→T1→Prop} (a:T0) (b:T1) (hh:P a b): ∃a b,P a b:=⟨a,b,hh⟩
theorem cV {T0 T1 T2:Sort _} {P:T0→T1→T2→Prop} (a:T0) (b:T1) (c:T2) (hh:P a b c): ∃a b c,P a b c:=⟨a,b,c,hh⟩
theorem cC {T0 T1 T2 T3:Sort _} {P:T0→T1→T2→T3→Prop} (a:T0) (b:T1) (c:T2) (d:T3) (hh:P a b c d): ∃a b c d,P a b c d:=⟨a,b,c,d,hh⟩
theorem gH {T0 T1 T2 T3 T4:Sort _} {P:T0→T1→T2→T3→T4→Prop} (a:T0) (b:T1) (c:T2) (d:T3) (e:T4) (hh:P a b c d e): ∃a b c d e,P a b c d e:=⟨a,b,c,d,e,hh⟩
theorem jn {T0 T1 T2 T3 T4 T5:Sort _} {P:T0→T1→T2→T3→T4→T5→Prop} (a:T0) (b:T1) (c:T2) (d:T3) (e:T4) (f:T5) (hh:P a b c d e f): ∃a b c d e f,P a b c d e f:=⟨a,b,c,d,e,f,hh⟩
theorem yM {T0 T1 T2 T3 T4 T5 T6:Sort _} {P:T0→T1→T2→T3→T4→T5→T6→Prop} (a:T0) (b:T1) (c:T2) (d:T3) (e:T4) (f:T5) (g:T6) (hh:P a b c d e f g): ∃a b c d e f g,P a b c d e f g:=⟨a,b,c,d,e,f,g,hh⟩
theorem R3 {T0 T1 T2 T3 T4 T5 T6 T7 T8:Sort _} {P:T0→T1→T2→T3→T4→T5→T6→T7→T8→Prop} (a:T0) (b:T1) (c:T2) (d:T3) (e:T4) (f:T5) (g:T6) (h:T7) (i:T8) (hh:P a b c d e f g h i): ∃a b c d e f g h i,P a b c d e f g h i:=⟨a,b,c,d,e,f,g,h,i,hh⟩
section
variable {X:Cx} {K:PySem.W.Frag}
theorem vQ (h:X.K=K):bq X (binaryOp .Add) (vC K):=by subst h;exact Fu
theorem eP (h:X.K=K):i7 X (su K):=by subst h;exact fR
theorem Be (h:X.K=K):i7 X (k9 K):=by subst h;exact vF
theorem eD (h:X.K=K):mz X (oA K):=by subst h;exact pf
theorem dq (h:X.K=K):eY X (.builtin "len") (rW K):=by subst h;exact jA
theorem aK {e:Expr} {f:Str} {pos:Pos} {ta:TE} (h:X.K=K) (he:PE X e ta) (hb:attributeBase e f X.env (eval e X.env)=eval e X.env):PE X (.Attribute e f pos) (kc K ta f):=by subst h;exact bI he hb
theorem f9 {o value:Expr} {f:Str} {pos pos':Pos} {ta tv:TE} (h:X.K=K) (ha:PE X o ta) (hv:PE X value tv) (hs:swapsWith value (some (.Attribute o f pos')) pos.line X.env=pure false):PS X (.Assign [.Attribute o f pos'] value pos) (DE K ta tv f):=by subst h;exact bY ha hv hs
theorem dn {l:Expr} {tl:TE} {tg:Expr} (h:X.K=K) (hl:PE X l tl):PI X tg l (tF K tl):=by subst h;exact gK hl
theorem wz {e:Expr} {ta:TA} {p pos tpos:Pos} {elts:List Expr} {kk:Nat} (h:X.K=K) (hg:Gl X "enumerate") (hm:X.mg "enumerate" =none) (ha:PA X [e] ta) (hs:starEach [e] X.env= [(false,eval e X.env)]:=by rfl):PI X (.Tuple elts kk tpos) (.Call (.Name "enumerate" p) [e] [] pos) (zj K ta):=by subst h;exact RE hg hm ha hs
theorem pS {o e:Expr} {es:List Expr} {to:TE} {t:TA} {name:Str} {apos cpos:Pos} {T id:String} {r:V→List V→Hp→VK→Prop} (h:X.K=K) (pa:PlainAttrs T) (slot:Slot T name id) (hty:typeOf (.builtin id)=pure (.type "method_descriptor")) (hm:wQ X id r) (ho:PE X o to) (ha:PA X (e::es) t)
  (hbase:attributeBase o name X.env (eval o X.env)=eval o X.env:=by rfl)
  (hfew:((backTo cpos (starEach (e::es) X.env)).all (fun x=>!x.1)&&(backToKw cpos (keywordEach [] X.env)).all (fun x=>x.1.isSome)
   &&decide ((e::es).length+([]:List Keyword).length+(if ([]:List Keyword).isEmpty then 0 else 1)<30))=true:=by rfl)
  (hline:(apos.endLine==cpos.line)=true:=by rfl) (hs:starEach (e::es) X.env=(false,eval e X.env)::starEach es X.env:=by rfl) (hplain:(backTo cpos (starEach es X.env)).any (·.1)=false:=by rfl):
  PE X (.Call (.Attribute o name apos) (e::es) [] cpos) (vb K T r to t):=by subst h;exact pq pa slot hty hm ho ha hbase hfew hline hs hplain
end
end L2
namespace L2
open PySem PySem.Spec PyProof.Rows
section
variable {prog:Program} {w:World} {K:Type} [DecidableEq K] {knd:HeapKind prog w K} {A:Around} {E:Value→Shared→Prop} {s:Shared}
theorem GP {d a:Addr} {xs:List (K×Addr×Value)} {k:K} {v:Value} {Q:Value→Shared→Prop} (hu:knd.room A) (hkey:knd.is s.heap k a) (hm:s.heap.DictOfH knd d xs)
  (h1: ∀p,atKey xs k=some p→Q p.2 {s with toks:=s.toks+knd.draws k})
  (h2:atKey xs k=none→ ∀h',h'.DictOfH knd d (storedH xs k a v)→Heap.SameBut d s.heap h'→Q v {s with heap:=h',toks:=s.toks+knd.draws k})
  (hsz:xs.length≤sizeLine):wpAny (model prog w) A (dictSetDefault d (.ref a) v) Q E s:=by
 obtain ⟨o,es,ep,ho,hc,hd,he,his,hn⟩:=hm
 unfold dictSetDefault
 try with_reducible refine wpAny_holding ?_
 refine wpAny_bind (knd.pyHash hu hkey ?_)
 refine wpAny_bind (wpAny_dictFind_heap (s:={s with toks:=s.toks+knd.draws k}) hu hkey ho hd he his hn ?_ ?_)
 ·intro hno
  have hnot:k∉xs.map (·.1):=not_mem_keys_of_get hno
  refine wpAny_bind (wpAny_rule (wpAny_bind (wpAny_updateDictKeys (hz:=by have e:=size_of_entries he;omega) (s:={s with toks:=s.toks+knd.draws k}) ho hd (wpAny_pure (h2 (atKey_none_of_get hno) _ ⟨_,_,ep+1,Heap.get?_update_self _ ho (Obj.isFreed_of_dict (Obj.data_mapDictKeys hd _)),
   hc.mapDictKeys _,Obj.data_mapDictKeys hd _,?_,?_,?_⟩ (Heap.SameBut.update ..))))))
  ·rw[storedH_new (atKey_none_of_get hno)]
   simp [he,entryOfKey]
  ·rw[storedH_new (atKey_none_of_get hno)]
   intro x hx
   rcases List.mem_append.mp hx with hx|hx
   ·exact knd.keeps (his x hx) ho hd (Heap.SameBut.update ..)
   ·simp only [List.mem_singleton] at hx
    subst hx
    exact knd.keeps hkey ho hd (Heap.SameBut.update ..)
  ·rw[storedH_new (atKey_none_of_get hno)]
   rw[List.map_append,List.nodup_append]
   refine ⟨hn,by simp,?_⟩
   intro x hx y hy
   simp only [List.map_cons,List.map_nil,List.mem_singleton] at hy
   subst hy
   exact fun e=>hnot (e▸hx)
 ·intro j p hj
  have h1:=h1 p (atKey_of_get hn hj)
  refine wpAny_bind (wpAny_dictEntries (s:={s with toks:=s.toks+knd.draws k}) ho hd ?_)
  rw[entry_at he j,hj]
  exact wpAny_bind (wpAny_rule (wpAny_pure h1))
theorem x9 (knd:HeapKind prog w K) (d a:Addr) (hd:(d==sysModules)=false) (dflt:Value):
  MeetsIn prog w (Builtin.«dict.setdefault» ⟨[.ref d, .ref a,dflt], []⟩) (fun A R s=>knd.room A.in1∧ ∃k xs,knd.is s.heap k a∧s.heap.DictOfH knd d xs∧xs.length≤sizeLine∧
   (∀p,atKey xs k=some p→R (.ok (.ret p.2)) {s with toks:=s.toks+knd.draws k})∧
   (atKey xs k=none→ ∀h',h'.DictOfH knd d (storedH xs k a dflt)→Heap.SameBut d s.heap h'→R (.ok (.ret dflt)) {s with heap:=h',toks:=s.toks+knd.draws k})):=
 .of_wp fun A R s ⟨hu,k,xs,hkey,hm,hz,h1,h2⟩=>by
  unfold Builtin.«dict.setdefault»
  refine wpAny_bind ?_
  unfold Builtin.Dict.keyAndDefault
  refine wpAny_bind (wpAny_notOrdered_dict hm.typeIs ?_)
  show wpAny _ _ (pure (d,Value.ref a,some dflt)) _ _ s
  refine wpAny_pure ?_
  show wpAny _ _ (if (d==sysModules)=true then _ else (dictSetDefault d (.ref a) dflt>>=_)) _ _ s
  rw[if_neg (by rw[hd];exact Bool.false_ne_true)]
  exact wpAny_bind (GP (hsz:=hz) hu hkey hm (fun v hv=>wpAny_pure ⟨v.2,rfl,h1 v hv⟩) fun hn h' hm' hs'=>wpAny_pure ⟨dflt,rfl,h2 hn h' hm' hs'⟩)
end
section
variable {X:Cx} {pins:List (Addr×Obj)} {σ:St} {H:Hp} {s:Shared} {a:Addr} {y v:V} {u r:Value} {A:Around} {E:Value→Shared→Prop}
inductive sG (H:Hp) (a:Addr) (y v:V) (Q:VK):Prop
 |there (x:V) (g:cg H a y (some x)) (l:(∃kvs,H a=some (.dK kvs))∨ ∃kvs,H a=some (.dT kvs)) (q:Q x H):sG H a y v Q
 |new (H':Hp) (g:cg H a y none) (p:iB H a y v H') (q:Q v H'):sG H a y v Q
theorem Pf {Q:VK} {R:Value→Shared→Prop} (hu:A.units+1<cLine) (I:Inv X pins σ H s) (g:sG H a y v Q) (ry:RelV y u) (rv:RelV v r)
  (h: ∀x w' H' s',Inv X pins σ H' s'→RelV x w'→Q x H'→R w' s'):wpAny (model X.prog X.w) A (call (.builtin "dict.setdefault") [.ref a,u,r]) R E s:=by
 cases g with
 |there x g l q=>
  rcases g with ⟨kvs,k,e,ey,l⟩|⟨kvs,k,b,e,ey,eb,l⟩
  ·subst ey
   obtain ⟨z,hd,vs,rel,dd⟩:=iH I.ag e
   have hz:vs.length≤sizeLine:=by rw[←rel.length];exact z
   obtain ⟨w',hw,rw'⟩:=cB.some_of (v:=x) (o:=valueAt vs k) (by rw[l];exact rel.val k)
   refine call_meetsIn PySem.F.slot_dict_setdefault dd.typeIs PySem.F.entry_dict_setdefault (PySem.F.args_dict_setdefault_3 _ _ _) (kt_meets_setdefault (cW X.prog X.w) a (jf ry) hd r)
    ⟨vs,dd,hz,fun v' hv'=>?_,fun hn=>by rw[hw] at hn;cases hn⟩
   rw[hw] at hv'
   cases hv'
   exact h x w' H _ (I.tok _) rw' q
  ·subst ey
   cases (show u=Value.ref b from ry)
   obtain ⟨z,hd,xs,rel,dd⟩:=iL I.ag e
   have hz:xs.length≤sizeLine:=by rw[←Paired.length rel];exact z
   obtain ⟨w',hw,rw'⟩:=cB.some_of (v:=x) (o:=(atKey xs k).map (·.2)) (by rw[l];exact rel.val k)
   refine call_meetsIn PySem.F.slot_dict_setdefault dd.typeIs PySem.F.entry_dict_setdefault (PySem.F.args_dict_setdefault_3 _ _ _) (x9 (tupleKind (cW X.prog X.w)) a b hd r)
    ⟨tupleKind_room_in1 hu,k,xs,jg I.ag eb,dd,hz,fun p hp=>?_,fun hn=>by rw[hn] at hw;cases hw⟩
   rw[hp] at hw
   cases hw
   exact h x _ H _ (I.tok _) rw' q
 |new H' g p q=>
  rcases p with ⟨kvs,k,e,ey,l,eH⟩|⟨kvs,k,b,e,ey,eb,l,eH⟩
  ·subst ey eH
   obtain ⟨z,hd,vs,rel,dd⟩:=Mz I.ag e
   have hz:vs.length≤sizeLine:=by rw[←rel.length];exact z
   have hl:(putK kvs k v).length≤sizeLine:=by have:=AQ kvs k v;lia
   have hn:cI kvs k=none:=by
    rcases g with ⟨kvs',k',e',ey',l'⟩|⟨kvs',k',b',e',ey',eb',l'⟩
    ·have ek:=yV ey'
     subst ek
     rcases e' with e'|⟨o',e'⟩
     ·rw[e] at e';cases e';exact l'.symm
     ·rw[e] at e';cases e'
    ·exact absurd ey' (by cases k<;>(intro z;exact nomatch z))
   refine call_meetsIn PySem.F.slot_dict_setdefault dd.typeIs PySem.F.entry_dict_setdefault (PySem.F.args_dict_setdefault_3 _ _ _) (kt_meets_setdefault (cW X.prog X.w) a (jf ry) hd r)
    ⟨vs,dd,hz,fun v' hv'=>?_,fun _ h' dd' hs=>?_⟩
   ·have:=cB.none_of (o:=valueAt vs k) (by rw[←hn];exact rel.val k)
    rw[this] at hv';cases hv'
   ·have he: ∃q,h'.get? a=some q:=let ⟨q,_,_,hq,_⟩:=dd';⟨q,hq⟩
    exact h v r _ _ (BS I (by rw[e];exact True.intro) hs he (EI hl hd (rel.put k rv) dd')) rv q
  ·subst ey eH
   cases (show u=Value.ref b from ry)
   obtain ⟨z,hd,xs,rel,dd⟩:=Qc I.ag e
   have hz:xs.length≤sizeLine:=by rw[←Paired.length rel];exact z
   have hl:(putK kvs k v).length≤sizeLine:=by have:=AQ kvs k v;lia
   have hn:cI kvs k=none:=by
    rcases g with ⟨kvs',k',e',ey',l'⟩|⟨kvs',k',b',e',ey',eb',l'⟩
    ·exact absurd ey' (by cases k'<;>(intro z;exact nomatch z))
    ·cases ey'
     rw[eb] at eb'
     injection eb' with eb'
     injection eb' with eb'
     have ek:=AW eb'
     subst ek
     rcases e' with e'|⟨o',e'⟩
     ·rw[e] at e';cases e';exact l'.symm
     ·rw[e] at e';cases e'
   have hna:(atKey xs k).map (·.2)=none:=cB.none_of (by rw[←hn];exact rel.val k)
   refine call_meetsIn PySem.F.slot_dict_setdefault dd.typeIs PySem.F.entry_dict_setdefault (PySem.F.args_dict_setdefault_3 _ _ _) (x9 (tupleKind (cW X.prog X.w)) a b hd r)
    ⟨tupleKind_room_in1 hu,k,xs,jg I.ag eb,dd,hz,fun p hp=>?_,fun _ h' dd' hs=>?_⟩
   ·rw[hp] at hna;cases hna
   ·obtain ⟨q',es,ep,hq,h2,h3,h4,_,h5⟩:=dd'
    refine h v r _ _ (BS (ob:= .dT (putK kvs k v)) I (by rw[e];exact True.intro) hs ⟨q',hq⟩ ⟨hl,hd,_,(rel.put k eb rv).keeps fun c ys ec=>?_,q',es,ep,hq,h2,h3,h4,h5⟩) rv q
    rw[ay (fD ec e (fun z=>nomatch z))]
    exact ec
end
def Nk (td ty tx:TE):TE:=fun σ H Q=>td σ H fun x H1=> ∃a,x= .ref a∧uB H1 a∧ty σ H1 fun y H2=>tx σ H2 fun z H3=>sG H3 a y z Q
section
variable {X:Cx} {o e f:Expr} {apos cpos:Pos} {td ty tx:TE}
theorem uz (hu:X.A.units+1<cLine) (ho:PE X o td) (he:PE X e ty) (hf:PE X f tx) (m:M2 X o "setdefault" apos e f cpos):PE X (.Call (.Attribute o "setdefault" apos) [e,f] [] cpos) (Nk td ty tx):=by
 intro pins s σ H Q I h
 refine wpAny_Call_method m.base m.xP m.line PySem.F.plainAttrs_dict PySem.F.slot_dict_setdefault PySem.F.type_dict_setdefault (aw (ho pins s σ H _ I h) fun u s1 ⟨x,H1,I1,rx,a,ex,d,q1⟩=>?_)
 subst ex
 obtain rfl:u=Value.ref a:=rx
 obtain ⟨t1,t2,_⟩:=x8 I1 d
 refine ⟨t1,t2,?_⟩
 rw[m.trees]
 refine Calls.callWith_builtin rfl (Calls.evalArgs_plain (Calls.spliced_cons (aw (he pins s1 σ H1 _ I1 q1) fun iv s2 ⟨y,H2,I2,ry,q2⟩=>
  Calls.spliced_cons (aw (hf pins s2 σ H2 _ I2 q2) fun fv s3 ⟨z,H3,I3,rz,q3⟩=>Calls.spliced_nil ?_))))
 exact Pf hu I3 q3 ry rz fun x w' H' s4 I4 rw' q=>⟨x,H',I4,rw',q⟩
end
def QN (ta:TA):TE:=fun σ H Q=>ta σ H fun vs H1=> ∃j:Int,vs= [.int j]∧ ∀p,H1 p=none→Q (.ref p) (upd H1 p (.fu 0 j))
theorem JY {X:Cx} {a:Expr} {ta:TA} {p pos:Pos} (hg:Gl X "range") (hm:X.mg "range" =none) (ha:PA X [a] ta) (hs:starEach [a] X.env= [(false,eval a X.env)]:=by rfl):
  PE X (.Call (.Name "range" p) [a] [] pos) (QN ta):=by
 intro pins s σ H Q I h
 refine Call_ (iC I hg hm boot_range (PyProof.Rows.callWith_type1 (aw (ha pos pins s σ H _ I h) fun us s1 ⟨vs,H1,I1,r1,q1⟩=>?_) (by rw[hs];rfl) rfl))
 obtain ⟨j,e,q⟩:=q1
 subst e
 cases r1 with
 |cons r rr=>
  cases rr
  obtain ⟨t,rfl⟩:=r
  refine call_range_1 ⟨.ref s1.heap.objs.size,_,I1.laid (o:= .fu 0 j) (fun b u e=>Heap.get?_push_of_some _ e) (Nat.le_refl _) ⟨_,_,_,Heap.get?_push_size _ rfl⟩,rfl,q _ (I1.ag.fresh (Nat.le_refl _))⟩
inductive CY (o i:V) (H:Hp) (Q:VK):Prop
 |mk (p:Addr) (xs:List V) (j:Nat) (v:V) (e1:o= .ref p) (e2:i= .int (j:Nat)) (h:H p=some (.lst xs)) (e:xs[j]?=some v) (q:Q v H):CY o i H Q
theorem Po {X:Cx}:BE X CY:=by
 intro pins s σ H o i ov iv Q I r1 r2 h
 obtain ⟨p,xs,j,v,rfl,rfl,hp,hx,q⟩:=h
 cases r1
 obtain ⟨t,rfl⟩:=r2
 obtain ⟨its,r,pl,hz⟩:=I.list (af.of (K:=X.K) hp)
 obtain ⟨w,ew,rw'⟩:=r.get hx
 have hj:=(List.getElem?_eq_some_iff.mp hx).1
 have hn:=mV
 exact wpAny_getItem_list pl.isList (by omega) (by omega) (by rw[Int.toNat_natCast];simpa using ew) ⟨v,H,I,rw',q⟩
end L2
namespace Wg
def eE (c n:Nat):List Nat:=(List.range c).map fun i=>n/256^(c-1-i)%256
theorem Qj (c n:Nat):(Sound.high c n).map UInt8.toNat=eE c n:=by
 unfold Sound.high eE
 rw[List.map_map]
 refine List.map_congr_left fun i _=>?_
 simp [UInt8.toNat_ofNat']
def bg (l:List Nat):Nat:=l.foldl (fun n c=>256*n+c) 0
theorem sL (b:Sound.Bytes):Sound.fromHigh b=bg (b.map UInt8.toNat):=by
 unfold Sound.fromHigh bg
 rw[List.foldl_map]
def eh (d:Nat):Nat:=if d%2=1 then (d/2)^^^0xEDB88320 else d/2
def jZ:List Nat:= [0,498536548,997073096,651767980,1994146192,1802195444,1303535960,1342533948,3988292384,4027552580,3604390888,3412177804,2607071920,2262029012,2685067896,3183342108]
def mP (c:Nat):Nat:=(c/16)^^^jZ.getD (c%16) 0
def qh (c b:Nat):Nat:=mP (mP (c^^^b))
def qu (l:List Nat):Nat:=(l.foldl qh 0xFFFFFFFF)^^^0xFFFFFFFF
theorem OI (a b:Nat):(a^^^b)/2=a/2^^^b/2:=by
 have:=Nat.shiftRight_xor_distrib (a:=a) (b:=b) (i:=1)
 simpa [Nat.shiftRight_eq_div_pow] using this
theorem PK (a b:Nat):eh (a^^^b)=eh a^^^eh b:=by
 unfold eh
 rw[OI]
 have h:(a^^^b)%2=(a%2+b%2)%2:=by
  have h1:=Nat.testBit_xor a b 0
  simp only [Nat.testBit_zero] at h1
  rcases Nat.mod_two_eq_zero_or_one a with ha|ha<;>rcases Nat.mod_two_eq_zero_or_one b with hb|hb<;>rcases Nat.mod_two_eq_zero_or_one (a^^^b) with hc|hc<;>rw[ha,hb,hc] at h1<;>first|(rw[ha,hb,hc];done)|(exact absurd h1 (by decide))
 rcases Nat.mod_two_eq_zero_or_one a with ha|ha<;>rcases Nat.mod_two_eq_zero_or_one b with hb|hb<;>simp only [h,ha,hb]
 ·simp
 ·simp [Nat.xor_assoc]
 ·simp only [Nat.reduceAdd,Nat.reduceMod,if_true]
  rw[if_neg (by decide),Nat.xor_assoc,Nat.xor_assoc,Nat.xor_comm (b/2)]
 ·simp only [Nat.reduceAdd,Nat.reduceMod,if_true]
  rw[if_neg (by decide),Nat.xor_assoc,←Nat.xor_assoc 3988292384,Nat.xor_comm 3988292384,Nat.xor_assoc (b/2),Nat.xor_self,Nat.xor_zero]
theorem Lh (d:Nat):d=(16*(d/16))^^^(d%16):=by
 apply Nat.eq_of_testBit_eq
 intro i
 have e:d=2^4*(d/16)+d%16:=by lia
 rw[Nat.testBit_xor,show (16*(d/16))=2^4*(d/16) by lia,Nat.testBit_two_pow_mul]
 conv=>lhs;rw[e,Nat.testBit_two_pow_mul_add _ (by lia)]
 by_cases h:i<4
 ·rw[if_pos h,decide_eq_false (by lia)];simp
 ·rw[if_neg h,decide_eq_true (by lia),show (d%16).testBit i=false from Nat.testBit_lt_two_pow (Nat.lt_of_lt_of_le (Nat.mod_lt d (by decide)) (by rw[show 16=2^4 by decide];exact Nat.pow_le_pow_right (by decide) (by lia)))];simp
theorem GN (q:Nat):eh (2*q)=q:=by unfold eh;rw[if_neg (by lia)];lia
theorem AK (d:Nat):mP d=eh (eh (eh (eh d))):=by
 have h: ∀r:Nat,r<16→eh (eh (eh (eh r)))=jZ.getD r 0:=by decide
 conv=>rhs;rw[Lh d]
 simp only [PK]
 rw[h _ (Nat.mod_lt d (by decide)),show 16*(d/16)=2*(2*(2*(2*(d/16)))) by lia]
 simp only [GN]
 rfl
theorem Q8 (c:Nat) (x:UInt8):qh c x.toNat=Sound.crc32step c x:=by
 unfold qh
 rw[AK,AK]
 rfl
theorem Pd (b:Sound.Bytes):qu (b.map UInt8.toNat)=Sound.crc32 b:=by
 unfold qu Sound.crc32
 rw[List.foldl_map]
 congr 2
 funext c x
 exact Q8 c x
def cA (a:Nat):Nat→Nat
 |0=>a
 |k+1=>Sound.times2 (cA a k)
def dU (k a b:Nat):Nat:=((List.range k).foldl (fun (x:Nat×Nat) (i:Nat)=>(if b.testBit i=true then x.1^^^x.2 else x.1,Sound.times2 x.2)) (0,a)).1
theorem RU (k a b:Nat):((List.range k).foldl (fun (x:Nat×Nat) (i:Nat)=>(if b.testBit i=true then x.1^^^x.2 else x.1,Sound.times2 x.2)) (0,a)).2=cA a k:=by
 induction k with
 |zero=>rfl
 |succ k ih=>rw[List.range_succ,List.foldl_append];simp only [List.foldl_cons,List.foldl_nil,ih];rfl
theorem il (k a b:Nat):dU (k+1) a b=if b.testBit k=true then dU k a b^^^cA a k else dU k a b:=by
 unfold dU
 rw[List.range_succ,List.foldl_append]
 simp only [List.foldl_cons,List.foldl_nil,RU]
theorem Qt (k a b c:Nat) (h: ∀i,i<k→b.testBit i=c.testBit i):dU k a b=dU k a c:=by
 induction k with
 |zero=>rfl
 |succ k ih=>rw[il,il,h k (by lia),ih fun i hi=>h i (by lia)]
def fV (a k:Nat):List Nat:=(List.range (2^k)).map (dU k a)
theorem QO (a k:Nat):fV a (k+1)=fV a k++(fV a k).map (fun p=>p^^^cA a k):=by
 unfold fV
 rw[show 2^(k+1)=2^k+2^k by rw[Nat.pow_succ];lia,List.range_add,List.map_append,List.map_map,List.map_map]
 congr 1
 ·refine List.map_congr_left fun b hb=>?_
  rw[il,Nat.testBit_lt_two_pow (List.mem_range.mp hb)]
  simp
 ·refine List.map_congr_left fun b hb=>?_
  have hb:=List.mem_range.mp hb
  show dU (k+1) a (2^k+b)=dU k a b^^^cA a k
  have t: ∀j,(2^k+b).testBit j=if j<k then b.testBit j else (1:Nat).testBit (j-k):=fun j=>by
   have:=Nat.testBit_two_pow_mul_add 1 hb j
   rwa [Nat.mul_one] at this
  rw[il,t k,if_neg (Nat.lt_irrefl _),Nat.sub_self,if_pos (by decide),Qt k a (2^k+b) b fun i hi=>by rw[t i,if_pos hi]]
theorem O8 {a:Nat} (h:a<256):Sound.times2 a<256:=by
 have: ∀a:Nat,a<256→Sound.times2 a<256:=by decide+kernel
 exact this a h
theorem tw {a:Nat} (h:a<256): ∀k,cA a k<256
 |0=>h
 |k+1=>O8 (tw h k)
theorem wo {a:Nat} (h:a<256) (b:Nat): ∀k,dU k a b<256
 |0=>by show 0<256;decide
 |k+1=>by
  rw[il]
  split
  ·exact Nat.xor_lt_two_pow (n:=8) (wo h b k) (tw h k)
  ·exact wo h b k
theorem BO {a:Nat} (h:a<256) (b:Nat):Sound.mul a b<256:=wo h b 8
end Wg
namespace Wg
theorem Dl (a b c:Nat): ∀k,dU k a (b^^^c)=dU k a b^^^dU k a c
 |0=>by show 0=0^^^0;rfl
 |k+1=>by
  rw[il,il,il,Nat.testBit_xor,Dl a b c k]
  cases b.testBit k<;>cases c.testBit k<;>simp
  ·rw[Nat.xor_assoc]
  ·rw[Nat.xor_assoc,Nat.xor_assoc,Nat.xor_comm (cA a k)]
  ·rw[Nat.xor_assoc,←Nat.xor_assoc (cA a k),Nat.xor_comm (cA a k),Nat.xor_assoc (dU k a c),Nat.xor_self,Nat.xor_zero]
theorem uc (a b c:Nat):Sound.mul a (b^^^c)=Sound.mul a b^^^Sound.mul a c:=Dl a b c 8
theorem mul_zero (a:Nat):Sound.mul a 0=0:=by
 have:=uc a 0 0
 rw[Nat.xor_self,Nat.xor_self] at this
 exact this
theorem Cb: ∀a:Nat,a<256→a≠0→Sound.inverse a<256∧Sound.mul a (Sound.inverse a)=1∧ ∀i,i<8→Sound.mul (Sound.inverse a) (Sound.mul a (2^i))=2^i:=by decide+kernel
theorem zY {b k:Nat} (h:b<2^(k+1)):b=(b%2^k)^^^(if b.testBit k=true then 2^k else 0):=by
 apply Nat.eq_of_testBit_eq
 intro i
 rw[Nat.testBit_xor,Nat.testBit_mod_two_pow]
 rcases Nat.lt_trichotomy i k with q|q|q
 ·rw[decide_eq_true q]
  split
  ·rw[Nat.testBit_two_pow,decide_eq_false (by lia)];simp
  ·simp
 ·subst q
  rw[decide_eq_false (Nat.lt_irrefl _)]
  cases e:b.testBit i<;>simp [Nat.testBit_two_pow]
 ·rw[decide_eq_false (by lia),Nat.testBit_lt_two_pow (Nat.lt_of_lt_of_le h (Nat.pow_le_pow_right (by decide) q))]
  split
  ·rw[Nat.testBit_two_pow,decide_eq_false (by lia)];rfl
  ·simp
theorem uW {a:Nat} (ha:a<256) (h0:a≠0): ∀k,k≤8→ ∀b,b<2^k→Sound.mul (Sound.inverse a) (Sound.mul a b)=b
 |0,_,b,hb=>by
  have:b=0:=by simp at hb;exact hb
  rw[this,mul_zero,mul_zero]
 |k+1,hk,b,hb=>by
  conv=>lhs;rw[zY hb]
  rw[uc,uc,uW ha h0 k (by lia) _ (Nat.mod_lt _ (Nat.two_pow_pos k))]
  conv=>rhs;rw[zY hb]
  congr 1
  split
  ·exact (Cb a ha h0).2.2 k (by lia)
  ·rw[mul_zero,mul_zero]
theorem Ki {a:Nat} (ha:a<256) (h0:a≠0) {b c:Nat} (hb:b<256) (hc:c<256) (h:Sound.mul a b=Sound.mul a c):b=c:=by
 rw[←uW ha h0 8 (Nat.le_refl _) b hb,←uW ha h0 8 (Nat.le_refl _) c hc,h]
theorem uL {a:Nat} (ha:a<256) (h0:a≠0):Sound.inverse a<256∧Sound.mul a (Sound.inverse a)=1∧ ∀b,b<Sound.inverse a→Sound.mul a b≠1:=by
 obtain ⟨h1,h2,_⟩:=Cb a ha h0
 refine ⟨h1,h2,fun b hb e=>?_⟩
 have:=Ki ha h0 (by lia) h1 (e.trans h2.symm)
 lia
theorem AV: ∀i:Nat,i<8→ ∀j:Nat,j<4→i^^^(128+j)<256∧i^^^(128+j)≠0:=by decide
end Wg
namespace Wg
def ip:List Int→List Int→Int
 |a::l,b::m=>a*b+ip l m
 |_,_=>0
section
variable {v1 v2 v3 v4:List Int}
end
section
variable {g11 g12 g13 g14 g22 g23 g24 g33 g34 g44:Int}
end
end Wg
namespace Wg
open Sound
theorem foldl_add (l:List Int): ∀a:Int,l.foldl (fun (a b:Int)=>a+b) a=a+l.foldl (fun (a b:Int)=>a+b) 0:=by
 induction l with
 |nil=>intro a;simp
 |cons x l ih=>intro a;simp only [List.foldl_cons];rw[ih (a+x),ih (0+x)];lia
theorem Fl (x:Int) (l:List Int):sumOf (x::l)=x+sumOf l:=by
 unfold sumOf;rw[List.foldl_cons,foldl_add];lia
theorem A2: ∀l m:List Int,sumOf (List.zipWith (fun (a b:Int)=>a*b) l m)=ip l m
 | [],_=>by simp [sumOf,ip]
 |_::_, []=>by simp [sumOf,ip]
 |a::l,b::m=>by rw[List.zipWith_cons_cons,Fl,A2 l m];rfl
end Wg
namespace Wg
open PySem
theorem LL (n m:Nat):(n&&&m)%2=0↔n%2=0∨m%2=0:=by
 have h:=congrArg (· =true) (Nat.testBit_and n m 0)
 simp only [Nat.testBit_zero,Bool.and_eq_true,decide_eq_true_eq,eq_iff_iff] at h
 lia
theorem Kw (n m:Nat):(n|||m)%2=0↔n%2=0∧m%2=0:=by
 have h:=congrArg (· =true) (Nat.testBit_or n m 0)
 simp only [Nat.testBit_zero,Bool.or_eq_true,decide_eq_true_eq,eq_iff_iff] at h
 lia
theorem P0 (n m:Nat):(n&&&m)/2=n/2&&&m/2:=by
 apply Nat.eq_of_testBit_eq;intro i
 rw[Nat.testBit_and,Nat.testBit_div_two,Nat.testBit_div_two,Nat.testBit_div_two,Nat.testBit_and]
theorem O4 (n m:Nat):(n|||m)/2=n/2|||m/2:=by
 apply Nat.eq_of_testBit_eq;intro i
 rw[Nat.testBit_or,Nat.testBit_div_two,Nat.testBit_div_two,Nat.testBit_div_two,Nat.testBit_or]
theorem KN {x y:Int} (hx:0≤x) (hy:0≤y):Builtin.bitOr x y=((x.toNat|||y.toNat:Nat):Int):=by
 unfold Builtin.bitOr Builtin.bitAnd Builtin.bitNot
 have h1:decide (0≤ -x-1)=false:=by simp;lia
 have h2:decide (0≤ -y-1)=false:=by simp;lia
 simp only [h1,h2]
 have e1:(-(-x-1)-1).toNat=x.toNat:=by congr 1;lia
 have e2:(-(-y-1)-1).toNat=y.toNat:=by congr 1;lia
 rw[e1,e2];lia
end Wg
namespace Wg
open PySem Sound
def bl (n:Nat):Nat:=if n=0 then 0 else n.log2+1
theorem M8 (n:Nat):Builtin.Int.intBits (n:Int)=bl n:=by
 unfold Builtin.Int.intBits bl
 by_cases h:n=0
 ·subst h;rfl
 ·rw[if_neg h,if_neg (by simpa using h),Int.natAbs_natCast]
theorem FH {n v:Nat} (h:n<2^v):bl n≤v:=by
 unfold bl
 by_cases h0:n=0
 ·rw[if_pos h0];exact Nat.zero_le _
 ·rw[if_neg h0]
  exact (Nat.log2_lt h0).mpr h
end Wg
namespace Wg
open PySem Sound
def kR (n p r:Nat):Bool:=decide (r≤6)&&(decide (n/2^r*2^r=n)&&decide (p≤n/2^r))
end Wg
namespace Wg
open PySem Sound
def fL:List Int→List Int→Nat→Int
 | [],_,_=>0
 |f::fs,y,t=>f*y.getD (t-1) 0+fL fs y (t-1)
def rg (a:List Int) (h:Nat) (y:List Int) (t:Nat):Int:=fL a y t/2^h
theorem vt: ∀a b:List Int,ip a (b.take a.length)=ip a b
 | [],b=>by simp [ip]
 |x::a, []=>by simp [ip]
 |x::a,y::b=>by simp [ip,vt a b]
theorem Qs {y:List Int} {t:Nat} (h:t<y.length):(y.take (t+1)).reverse=y.getD t 0::(y.take t).reverse:=by
 rw[List.take_succ,List.getElem?_eq_getElem h,List.getD_eq_getElem?_getD,List.getElem?_eq_getElem h]
 simp
theorem Aj: ∀(a y:List Int) (t:Nat),t≤y.length→a.length≤t→ip a (y.take t).reverse=fL a y t
 | [],y,t,_,_=>by simp [ip,fL]
 |f::fs,y,0,h1,h2=>by simp at h2
 |f::fs,y,t+1,h1,h2=>by
  rw[Qs (by lia)]
  simp only [ip,fL,Nat.add_sub_cancel]
  rw[Aj fs y t (by lia) (by simpa using h2)]
theorem Iu {a y before:List Int} {h t:Nat} (h1:t≤y.length) (h2:a.length≤t) (hb:before.take a.length=(y.take t).reverse.take a.length):guess a h before=rg a h y t:=by
 unfold guess rg
 rw[A2,←vt,hb,vt,Aj a y t h1 h2,Int.fdiv_eq_ediv_of_nonneg _ (Int.le_of_lt (Int.pow_pos (by decide)))]
def Bd (B:Int) (l:List Int):Prop:= ∀x∈l,-B≤x∧x≤B
theorem pZ (n v:Nat):(u n v).length=n:=by simp [u]
end Wg
namespace Wg
open PySem
theorem LU (l:Sound.Bits): ∀a:Nat,l.foldl (fun (n:Nat) (b:Bool)=>2*n+(if b=true then 1 else 0)) a=a*2^l.length+Sound.value l:=by
 induction l with
 |nil=>intro a;simp [Sound.value]
 |cons b l ih=>
  intro a
  unfold Sound.value
  rw[List.foldl_cons,List.foldl_cons,ih,ih (2*0+_),List.length_cons,Nat.pow_succ]
  generalize 2^l.length=m
  rw[Nat.add_mul,Nat.add_mul]
  have e1:2*a*m=a*(m*2):=by rw[Nat.mul_comm m 2,←Nat.mul_assoc,Nat.mul_comm a 2]
  have e2:2*0*m=0:=by simp
  lia
theorem rq (l m:Sound.Bits):Sound.value (l++m)=Sound.value l*2^m.length+Sound.value m:=by
 unfold Sound.value
 rw[List.foldl_append,LU m]
 rfl
theorem rX (b:Bool) (l:Sound.Bits):Sound.value (b::l)=(if b=true then 1 else 0)*2^l.length+Sound.value l:=by
 have:=rq [b] l
 rw[List.singleton_append] at this
 rw[this]
 cases b<;>rfl
theorem jJ: ∀l:Sound.Bits,Sound.value l<2^l.length
 | []=>by simp [Sound.value]
 |b::l=>by
  have:=jJ l
  rw[rX,List.length_cons,Nat.pow_succ]
  cases b<;>simp<;>lia
theorem FR (n v:Nat):Sound.u (n+1) v=v.testBit n::Sound.u n v:=by
 unfold Sound.u
 rw[List.range_succ_eq_map,List.map_cons,List.map_map]
 congr 1
 refine List.map_congr_left fun i hi=>?_
 show v.testBit (n+1-1-(i+1))=v.testBit (n-1-i)
 congr 1;lia
theorem xt: ∀n v:Nat,Sound.value (Sound.u n v)=v%2^n
 |0,v=>by simp [Sound.u,Sound.value,Nat.mod_one]
 |n+1,v=>by
  rw[FR,rX,xt n v,pZ]
  have h:=Nat.mod_mul (x:=v) (a:=2^n) (b:=2)
  have hb:v.testBit n=decide (v/2^n%2=1):=by rw[Nat.testBit_eq_decide_div_mod_eq]
  rw[Nat.pow_succ,h,hb]
  rcases Nat.mod_two_eq_zero_or_one (v/2^n) with e|e
  ·rw[e];simp
  ·rw[e];simp;lia
theorem tQ (a b:Nat):Builtin.bitOr (a:Int) (b:Int)=((a|||b:Nat):Int):=by
 rw[KN (by lia) (by lia),Int.toNat_natCast,Int.toNat_natCast]
theorem rA (a b:Nat):Builtin.bitAnd (a:Int) (b:Int)=((a&&&b:Nat):Int):=by
 unfold Builtin.bitAnd
 have h1:decide (0≤(a:Int))=true:=by simp
 have h2:decide (0≤(b:Int))=true:=by simp
 simp only [h1,h2,Int.toNat_natCast]
theorem Jt (n m:Nat):(n^^^m)%2=(n+m)%2:=by
 have h:=Nat.testBit_xor n m 0
 simp only [Nat.testBit_zero] at h
 rcases Nat.mod_two_eq_zero_or_one n with a|a<;>rcases Nat.mod_two_eq_zero_or_one m with b|b<;>rw[a,b] at h
 ·have: ¬(n^^^m)%2=1:=of_decide_eq_false h
  lia
 ·have:(n^^^m)%2=1:=of_decide_eq_true h
  lia
 ·have:(n^^^m)%2=1:=of_decide_eq_true h
  lia
 ·have: ¬(n^^^m)%2=1:=of_decide_eq_false h
  lia
theorem QX (n m:Nat):(n^^^m)/2=n/2^^^m/2:=by
 apply Nat.eq_of_testBit_eq;intro i
 rw[Nat.testBit_xor,Nat.testBit_div_two,Nat.testBit_div_two,Nat.testBit_div_two,Nat.testBit_xor]
theorem A4: ∀(k n m:Nat),n≤k→m≤k→(n|||m)=(n^^^m)+(n&&&m)
 |0,n,m,h1,h2=>by
  have:n=0:=by lia
  have:m=0:=by lia
  subst n m;rfl
 |k+1,n,m,h1,h2=>by
  by_cases h0:n=0∧m=0
  ·obtain ⟨rfl,rfl⟩:=h0;rfl
  have ih:=A4 k (n/2) (m/2) (by lia) (by lia)
  have a1:=Kw n m
  have a2:=Jt n m
  have a3:=LL n m
  have b1:=O4 n m
  have b2:=QX n m
  have b3:=P0 n m
  lia
theorem gO (a b:Nat):Builtin.bitXor (a:Int) (b:Int)=((a^^^b:Nat):Int):=by
 unfold Builtin.bitXor
 rw[tQ,rA,A4 (max a b) a b (by lia) (by lia)]
 lia
theorem mask (x:Int) (w:Nat):Builtin.bitAnd x ((2^w:Int)-1)=x%2^w:=by
 have hp:0<2^w:=Nat.two_pow_pos w
 have e2:((2:Int)^w)=((2^w:Nat):Int):=by simp
 have e1:(2:Int)^w-1=((2^w-1:Nat):Int):=by rw[e2];lia
 rcases Int.lt_or_le x 0 with hx|hx
 ·unfold Builtin.bitAnd Builtin.bitNot
  have h1:decide (0≤x)=false:=by simp;lia
  have h2:decide (0≤(2:Int)^w-1)=true:=by rw[e1];simp
  simp only [h1,h2]
  rw[e1,Int.toNat_natCast,Nat.and_comm,Nat.and_two_pow_sub_one_eq_mod]
  generalize hm:(-x-1).toNat=m
  have hd:=Nat.div_add_mod m (2^w)
  have hlt:=Nat.mod_lt m hp
  rw[e2]
  have ex:x=((2^w-1-m%2^w:Nat):Int)+((2^w:Nat):Int)*(-((m/2^w:Nat):Int)-1):=by
   have:((2^w:Nat):Int)*(-((m/2^w:Nat):Int)-1)= -((2^w*(m/2^w):Nat):Int)-((2^w:Nat):Int):=by
    rw[Int.mul_sub,Int.mul_neg,←Int.natCast_mul,Int.mul_one]
   rw[this]
   lia
  have:x%((2^w:Nat):Int)=((2^w-1-m%2^w:Nat):Int):=by
   rw[ex,Int.add_mul_emod_self_left]
   exact Int.emod_eq_of_lt (by lia) (by lia)
  rw[this]
  lia
 ·obtain ⟨n,rfl⟩:=Int.eq_ofNat_of_zero_le hx
  rw[e1,rA,Nat.and_two_pow_sub_one_eq_mod,e2]
  simp
theorem JE (n:Nat):Builtin.bitAnd (n:Int) 255=((n%256:Nat):Int):=by
 have:=mask (n:Int) 8
 have e:(2:Int)^8=256:=by decide
 rw[e] at this
 rw[show (255:Int)=256-1 by decide,this]
 simp
end Wg
namespace Wg
open PySem
def gC (p:Nat):Nat:=if 65535<2*p then 2*p^^^69665 else 2*p
def dW (c b:Nat):Nat:=(List.range 8).foldl (fun p _=>gC p) (c^^^(b*256))
def qf (l:List Nat):Nat:=l.foldl dW 65535
def bU (c:Nat) (x:Bool):Nat:=let d:=2*c%65536
 if (c.testBit 15 !=x)=true then d^^^0x1021 else d
theorem qE (q i:Nat):(q%65536).testBit i=(decide (i<16)&&q.testBit i):=by
 rw[show (65536:Nat)=2^16 by decide,Nat.testBit_mod_two_pow]
theorem yj {q:Nat} (h1:65536≤q) (h2:q<131072):q^^^65536=q%65536:=by
 apply Nat.eq_of_testBit_eq
 intro i
 rw[Nat.testBit_xor,qE,show (65536:Nat)=2^16 by decide,Nat.testBit_two_pow]
 rcases Nat.lt_trichotomy i 16 with h|h|h
 ·rw[decide_eq_true h,decide_eq_false (by lia)];simp
 ·subst h
  have:q.testBit 16=true:=by
   rw[Nat.testBit_eq_decide_div_mod_eq]
   simp;lia
  rw[this];simp
 ·have:q.testBit i=false:=Nat.testBit_lt_two_pow (Nat.lt_of_lt_of_le h2 (by rw[show (131072:Nat)=2^17 by decide];exact Nat.pow_le_pow_right (by decide) h))
  rw[this,decide_eq_false (by lia),decide_eq_false (by lia)];rfl
theorem Nt (a b:Nat):2*(a^^^b)%65536=(2*a%65536)^^^(2*b%65536):=by
 apply Nat.eq_of_testBit_eq
 intro i
 rw[Nat.testBit_xor,qE,qE,qE]
 cases i with
 |zero=>simp [Nat.testBit_zero]
 |succ i=>
  have e: ∀x:Nat,(2*x).testBit (i+1)=x.testBit i:=fun x=>by
   rw[Nat.testBit_succ];congr 1;lia
  rw[e,e,e,Nat.testBit_xor]
  cases decide (i+1<16)<;>simp
theorem GW {p:Nat} (h:p<65536):p.testBit 15=decide (65535<2*p):=by
 rw[Nat.testBit_eq_decide_div_mod_eq]
 have:p/2^15=p/32768:=rfl
 rw[this,Bool.eq_iff_iff,decide_eq_true_eq,decide_eq_true_eq];lia
theorem rE {a b:Nat} (h1:a<65536) (h2:b<65536):a^^^b<65536:=Nat.xor_lt_two_pow (n:=16) h1 h2
theorem ib {c:Nat} (x:Bool):bU c x<65536:=by
 unfold bU
 simp only
 split
 ·exact rE (Nat.mod_lt _ (by decide)) (by decide)
 ·exact Nat.mod_lt _ (by decide)
theorem iG {s r:Nat} (hs:s<65536) (hr:r<256):gC (s^^^(r*256))=bU s (r.testBit 7)^^^((2*r%256)*256):=by
 have hp:s^^^(r*256)<65536:=rE hs (by lia)
 have hb:(s^^^(r*256)).testBit 15=(s.testBit 15 !=r.testBit 7):=by
  rw[Nat.testBit_xor,show r*256=2^8*r by lia,Nat.testBit_two_pow_mul]
  simp
 have hd:2*(s^^^(r*256))%65536=(2*s%65536)^^^((2*r%256)*256):=by
  rw[Nt]
  congr 1;lia
 have h15:=GW hp
 unfold gC bU
 simp only
 rw[←hb,h15]
 by_cases hc:65535<2*(s^^^(r*256))
 ·rw[if_pos hc,if_pos (decide_eq_true hc)]
  have e:(69665:Nat)=65536^^^4129:=by decide
  rw[e,←Nat.xor_assoc,yj (by lia) (by lia),hd,show (0x1021:Nat)=4129 by decide,Nat.xor_assoc,Nat.xor_assoc,Nat.xor_comm (2*r%256*256)]
 ·rw[if_neg hc,if_neg (by simpa using hc),←hd]
  lia
theorem xi {c b:Nat} (hc:c<65536) (hb:b<256):dW c b=(Sound.u 8 b).foldl bU c∧dW c b<65536:=by
 have hu:Sound.u 8 b= [b.testBit 7,b.testBit 6,b.testBit 5,b.testBit 4,b.testBit 3,b.testBit 2,b.testBit 1,b.testBit 0]:=rfl
 have tb: ∀(x i:Nat),i<7→(2*x%256).testBit (i+1)=x.testBit i:=fun x i hi=>by
  rw[show (256:Nat)=2^8 by decide,Nat.testBit_mod_two_pow,decide_eq_true (by lia),Nat.testBit_succ,Bool.true_and]
  congr 1;lia
 have lt: ∀x:Nat,2*x%256<256:=fun x=>Nat.mod_lt _ (by decide)
 have h0:=iG hc hb
 have h1:=iG (ib (c:=c) (b.testBit 7)) (lt b)
 have h2:=iG (ib (c:=bU c (b.testBit 7)) ((2*b%256).testBit 7)) (lt (2*b%256))
 rw[tb b 6 (by lia)] at h1 h2
 have h3:=iG (ib (c:=bU (bU c (b.testBit 7)) (b.testBit 6)) ((2*(2*b%256)%256).testBit 7)) (lt (2*(2*b%256)%256))
 rw[tb _ 6 (by lia),tb _ 5 (by lia)] at h2 h3
 have h4:=iG (ib (c:=bU (bU (bU c (b.testBit 7)) (b.testBit 6)) (b.testBit 5)) ((2*(2*(2*b%256)%256)%256).testBit 7)) (lt (2*(2*(2*b%256)%256)%256))
 rw[tb _ 6 (by lia),tb _ 5 (by lia),tb _ 4 (by lia)] at h3 h4
 have h5:=iG (ib (c:=bU (bU (bU (bU c (b.testBit 7)) (b.testBit 6)) (b.testBit 5)) (b.testBit 4)) ((2*(2*(2*(2*b%256)%256)%256)%256).testBit 7)) (lt (2*(2*(2*(2*b%256)%256)%256)%256))
 rw[tb _ 6 (by lia),tb _ 5 (by lia),tb _ 4 (by lia),tb _ 3 (by lia)] at h4 h5
 have h6:=iG (ib (c:=bU (bU (bU (bU (bU c (b.testBit 7)) (b.testBit 6)) (b.testBit 5)) (b.testBit 4)) (b.testBit 3)) ((2*(2*(2*(2*(2*b%256)%256)%256)%256)%256).testBit 7)) (lt (2*(2*(2*(2*(2*b%256)%256)%256)%256)%256))
 rw[tb _ 6 (by lia),tb _ 5 (by lia),tb _ 4 (by lia),tb _ 3 (by lia),tb _ 2 (by lia)] at h5 h6
 have h7:=iG (ib (c:=bU (bU (bU (bU (bU (bU c (b.testBit 7)) (b.testBit 6)) (b.testBit 5)) (b.testBit 4)) (b.testBit 3)) (b.testBit 2)) ((2*(2*(2*(2*(2*(2*b%256)%256)%256)%256)%256)%256).testBit 7)) (lt (2*(2*(2*(2*(2*(2*b%256)%256)%256)%256)%256)%256))
 rw[tb _ 6 (by lia),tb _ 5 (by lia),tb _ 4 (by lia),tb _ 3 (by lia),tb _ 2 (by lia),tb _ 1 (by lia)] at h6 h7
 rw[tb _ 6 (by lia),tb _ 5 (by lia),tb _ 4 (by lia),tb _ 3 (by lia),tb _ 2 (by lia),tb _ 1 (by lia),tb _ 0 (by lia)] at h7
 have hz:2*(2*(2*(2*(2*(2*(2*(2*b%256)%256)%256)%256)%256)%256)%256)%256=0:=by lia
 have e:dW c b=(Sound.u 8 b).foldl bU c:=by
  unfold dW
  rw[show List.range 8= [0,1,2,3,4,5,6,7] from rfl]
  simp only [List.foldl_cons,List.foldl_nil]
  rw[h0,h1,h2,h3,h4,h5,h6,h7,hz,hu]
  simp only [List.foldl_cons,List.foldl_nil,Nat.zero_mul,Nat.xor_zero]
 rw[e]
 refine ⟨rfl,?_⟩
 rw[hu]
 simp only [List.foldl_cons,List.foldl_nil]
 exact ib _
theorem Q9 (b:Sound.Bytes):qf (b.map UInt8.toNat)=Sound.crc16 b:=by
 have key: ∀(l:Sound.Bytes) (c:Nat),c<65536→(l.map UInt8.toNat).foldl dW c=(Sound.bitsOf l).foldl bU c:=by
  intro l
  induction l with
  |nil=>intro c _;rfl
  |cons x l ih=>
   intro c hc
   obtain ⟨h1,h2⟩:=xi hc x.toNat_lt
   have e:Sound.bitsOf (x::l)=Sound.u 8 x.toNat++Sound.bitsOf l:=List.flatMap_cons
   rw[List.map_cons,List.foldl_cons,e,List.foldl_append,←h1,ih _ h2]
 unfold qf
 rw[key b 65535 (by decide)]
 rfl
end Wg
namespace Wg
open PySem
theorem oi (x:UInt8) (B:Sound.Bytes):Sound.bitsOf (x::B)=Sound.u 8 x.toNat++Sound.bitsOf B:=List.flatMap_cons
theorem iO: ∀B:Sound.Bytes,(Sound.bitsOf B).length=8*B.length
 | []=>rfl
 |x::B=>by rw[oi,List.length_append,pZ,iO B,List.length_cons];lia
theorem Rb (x:Nat) (l:List Nat):bg (x::l)=x*256^l.length+bg l:=by
 have key: ∀(l:List Nat) (a:Nat),l.foldl (fun n c=>256*n+c) a=a*256^l.length+bg l:=by
  intro l
  induction l with
  |nil=>intro a;simp [bg]
  |cons y l ih=>
   intro a
   unfold bg
   rw[List.foldl_cons,List.foldl_cons,ih,ih (256*0+y),List.length_cons,Nat.pow_succ,Nat.add_mul,Nat.add_mul]
   have:256*a*256^l.length=a*(256^l.length*256):=by rw[Nat.mul_comm (256^l.length),←Nat.mul_assoc,Nat.mul_comm 256 a]
   lia
 show (x::l).foldl _ 0=_
 rw[List.foldl_cons,key]
 simp
theorem vW: ∀B:Sound.Bytes,Sound.value (Sound.bitsOf B)=bg (B.map UInt8.toNat)
 | []=>rfl
 |x::B=>by
  rw[oi,rq,vW B,List.map_cons,Rb,iO,List.length_map]
  have h:=x.toNat_lt
  rw[xt,Nat.mod_eq_of_lt (by lia),Nat.pow_mul]
theorem xI: ∀(B:Sound.Bytes) (i:Nat),Sound.bitsOf (B.drop i)=(Sound.bitsOf B).drop (8*i)
 |B,0=>by simp
 | [],i+1=>by simp [Sound.bitsOf]
 |x::B,i+1=>by
  rw[List.drop_succ_cons,xI B i,oi,show 8*(i+1)=8+8*i by lia,←List.drop_drop,List.drop_left' (pZ 8 _)]
theorem uD: ∀(B:Sound.Bytes) (i:Nat),Sound.bitsOf (B.take i)=(Sound.bitsOf B).take (8*i)
 |B,0=>by simp [Sound.bitsOf]
 | [],i+1=>by simp [Sound.bitsOf]
 |x::B,i+1=>by
  rw[List.take_succ_cons,oi,uD B i,oi,show 8*(i+1)=(Sound.u 8 x.toNat).length+8*i by rw[pZ];lia,List.take_length_add_append]
theorem PM {B:Sound.Bytes} {p n:Nat} (h:p+n≤8*B.length):
  bg (((B.drop (p/8)).take ((p+n+7)/8-p/8)).map UInt8.toNat)/2^(8*((p+n+7)/8)-(p+n))%2^n=Sound.value (((Sound.bitsOf B).drop p).take n):=by
 rw[←vW,uD,xI]
 generalize hj:(p+n+7)/8=j
 generalize hi:p/8=i
 have hL:=iO B
 generalize Sound.bitsOf B=L at*
 have e:(L.drop (8*i)).take (8*(j-i))=(L.drop (8*i)).take (p-8*i)++((L.drop p).take n++(L.drop (p+n)).take (8*j-(p+n))):=by
  have h1:8*(j-i)=(p-8*i)+(n+(8*j-(p+n))):=by lia
  rw[h1,List.take_add,List.drop_drop,show 8*i+(p-8*i)=p by lia,List.take_add,List.drop_drop]
 rw[e,rq,rq]
 have l1:((L.drop p).take n).length=n:=by rw[List.length_take,List.length_drop];lia
 have l2:((L.drop (p+n)).take (8*j-(p+n))).length=8*j-(p+n):=by rw[List.length_take,List.length_drop];lia
 have v1:=jJ ((L.drop p).take n)
 have v2:=jJ ((L.drop (p+n)).take (8*j-(p+n)))
 rw[List.length_append,l1,l2]
 rw[l1] at v1
 rw[l2] at v2
 generalize Sound.value ((L.drop (8*i)).take (p-8*i))=x
 generalize Sound.value ((L.drop p).take n)=y at*
 generalize Sound.value ((L.drop (p+n)).take (8*j-(p+n)))=z at*
 generalize 8*j-(p+n)=m at*
 have e2:x*2^(n+m)+(y*2^m+z)=(x*2^n+y)*2^m+z:=by rw[Nat.pow_add,Nat.add_mul,Nat.mul_assoc];lia
 rw[e2,Nat.add_comm _ z,Nat.add_mul_div_right _ _ (Nat.two_pow_pos m),Nat.div_eq_of_lt v2,Nat.zero_add,Nat.add_comm,Nat.add_mul_mod_self_right,Nat.mod_eq_of_lt v1]
theorem jk (n:Nat) (l:Sound.Bits):Sound.lacks n l=true↔l.length<n:=by
 unfold Sound.lacks
 rw[Bool.and_eq_true,decide_eq_true_eq,List.isEmpty_iff,List.drop_eq_nil_iff]
 lia
theorem EF (l:Sound.Bits):Sound.svalue l=(Sound.value l:Int)-2*(if l.head?=some true then (2^(l.length-1):Nat) else 0:Nat):=by
 unfold Sound.svalue
 split
 ·rename_i h
  cases l with
  |nil=>cases h
  |cons b l=>
   rw[List.length_cons,Nat.add_sub_cancel]
   have:((2:Int)^(l.length+1))=2*((2^l.length:Nat):Int):=by
    rw[Int.pow_succ,Int.mul_comm];simp
   rw[this]
 ·simp
theorem Ge {l:Sound.Bits}:(Sound.value l)&&&(2^l.length/2)=if l.head?=some true then 2^(l.length-1) else 0:=by
 cases l with
 |nil=>rfl
 |cons b l=>
  rw[List.length_cons,Nat.add_sub_cancel,Nat.pow_succ,Nat.mul_div_cancel _ (by decide)]
  rw[rX]
  have v:=jJ l
  apply Nat.eq_of_testBit_eq
  intro i
  rw[Nat.testBit_and,Nat.testBit_two_pow]
  have hh:((if b=true then 1 else 0)*2^l.length+Sound.value l).testBit l.length=b:=by
   have:=Nat.testBit_two_pow_mul_add (if b=true then 1 else 0) v l.length
   rw[Nat.mul_comm,this,if_neg (Nat.lt_irrefl _),Nat.sub_self]
   cases b<;>rfl
  by_cases q:l.length=i
  ·subst q
   rw[decide_eq_true rfl,Bool.and_true,hh]
   cases b<;>simp [Nat.testBit_two_pow]
  ·rw[decide_eq_false q,Bool.and_false]
   cases b
   ·simp
   ·simp [Nat.testBit_two_pow,q]
end Wg
namespace Wg
def dh (inv:Nat→Nat) (M:List (List Nat)) (c:Nat):List Nat:=(M.getD c []).map (Sound.mul (inv ((M.getD c []).getD c 0)))
def b5 (inv:Nat→Nat) (M:List (List Nat)) (c:Nat):List (List Nat):=M.mapIdx fun i r=>if i=c then dh inv M c else Sound.added r ((dh inv M c).map (Sound.mul (r.getD c 0)))
def dz (inv:Nat→Nat):Nat→Nat→List (List Nat)→Bool
 |0,_,_=>true
 |n+1,c,M=>((M.getD c []).getD c 0 !=0)&&dz inv n (c+1) (b5 inv M c)
def cQ:Nat→Nat→List (List Nat)→List (List Nat)
 |0,_,M=>M
 |n+1,c,M=>cQ n (c+1) (b5 Sound.inverse M c)
def subs (n:Nat):List (List Nat):=match n with
 |0=> [[]]
 |n+1=>(List.range 8).flatMap fun i=>((subs n).filter fun l=>l.all fun x=>decide (i<x)).map (i:: ·)
def fe (n:Nat):List (List Nat):=match n with
 |0=> [[]]
 |n+1=>(List.range 4).flatMap fun i=>((fe n).filter fun l=>l.all fun x=>decide (i≠x)).map (i:: ·)
def FA:Nat:=0xfd7eff7f75e8d442c9d38f03eab5e7e36ab2216db4f374faf1e2b186f0e63f1491190a9978767310d6d743f9f6c871293aa87d855a62f7d29ea3b86535a55912b6ae9a957b0764c5afbff2eb6beee587b7be089c3c0d3bce0546c234c69f821ca2c709ac94bddc0b5c0fbc9b4f44df18f50269532d273149b0e4cc7c1da1541bfcfecd84bb0677db79dafbe9d911d128322fec20b3ef8d524d17c4b95bca572441370e9763cbc11361251a818c682338934567161e2b883004a64e92d5f85f36e1150caba9cf22505e40c3a42e6f89486e338b264a1fd0708a2c56605139ed6c2a4b83a08055de90664c3ee058c072d8965daa3d98dd9dadba7aa747f48e0100
def iN (a:Nat):Nat:=(FA>>>(8*a))%256
theorem Q1: ∀a:Nat,a<256→Sound.inverse a=iN a:=by decide+kernel
def FT:List Nat:= [27,84,161,29,124,204,228,176]
theorem Nu: ∀i:Nat,i<8→ ∀j:Nat,j<4→Sound.factor i j=FT.getD (i^^^j) 0:=by decide+kernel
def aO (n:Nat) (js:List Nat):Bool:=(subs n).all fun lost=>dz iN n 0 (js.map fun j=>lost.map fun i=>FT.getD (i^^^j) 0)
theorem K9: ∀js∈fe 1,aO 1 js=true:=by decide+kernel
theorem Ih: ∀js∈fe 2,aO 2 js=true:=by decide+kernel
theorem Kv:aO 3 [0,1,2]=true:=by decide+kernel
theorem Ny:aO 3 [0,1,3]=true:=by decide+kernel
theorem P7:aO 3 [0,2,1]=true:=by decide+kernel
theorem Lw:aO 3 [0,2,3]=true:=by decide+kernel
theorem Pt:aO 3 [0,3,1]=true:=by decide+kernel
theorem Ro:aO 3 [0,3,2]=true:=by decide+kernel
theorem OQ:aO 3 [1,0,2]=true:=by decide+kernel
theorem QD:aO 3 [1,0,3]=true:=by decide+kernel
theorem QU:aO 3 [1,2,0]=true:=by decide+kernel
theorem Rv:aO 3 [1,2,3]=true:=by decide+kernel
theorem P9:aO 3 [1,3,0]=true:=by decide+kernel
theorem Ic:aO 3 [1,3,2]=true:=by decide+kernel
theorem MM:aO 3 [2,0,1]=true:=by decide+kernel
theorem NP:aO 3 [2,0,3]=true:=by decide+kernel
theorem P8:aO 3 [2,1,0]=true:=by decide+kernel
theorem Gp:aO 3 [2,1,3]=true:=by decide+kernel
theorem Mg:aO 3 [2,3,0]=true:=by decide+kernel
theorem MQ:aO 3 [2,3,1]=true:=by decide+kernel
theorem EN:aO 3 [3,0,1]=true:=by decide+kernel
theorem R7:aO 3 [3,0,2]=true:=by decide+kernel
theorem RV:aO 3 [3,1,0]=true:=by decide+kernel
theorem P5:aO 3 [3,1,2]=true:=by decide+kernel
theorem Jy:aO 3 [3,2,0]=true:=by decide+kernel
theorem Qa:aO 3 [3,2,1]=true:=by decide+kernel
theorem MD:fe 3= [[0,1,2], [0,1,3], [0,2,1], [0,2,3], [0,3,1], [0,3,2], [1,0,2], [1,0,3], [1,2,0], [1,2,3], [1,3,0], [1,3,2], [2,0,1], [2,0,3], [2,1,0], [2,1,3], [2,3,0], [2,3,1], [3,0,1], [3,0,2], [3,1,0], [3,1,2], [3,2,0], [3,2,1]]:=by decide+kernel
theorem Rk: ∀js∈fe 3,aO 3 js=true:=by
 rw[MD]
 simp only [List.mem_cons,List.not_mem_nil,or_false,forall_eq_or_imp,forall_eq,Kv,Ny,P7,Lw,Pt,Ro,OQ,QD,QU,Rv,P9,Ic,MM,NP,P8,Gp,Mg,MQ,EN,R7,RV,P5,Jy,Qa,and_self]
theorem EJ:aO 4 [0,1,2,3]=true:=by decide+kernel
theorem Eo:aO 4 [0,1,3,2]=true:=by decide+kernel
theorem RM:aO 4 [0,2,1,3]=true:=by decide+kernel
theorem Jb:aO 4 [0,2,3,1]=true:=by decide+kernel
theorem EV:aO 4 [0,3,1,2]=true:=by decide+kernel
theorem J5:aO 4 [0,3,2,1]=true:=by decide+kernel
theorem Rx:aO 4 [1,0,2,3]=true:=by decide+kernel
theorem Ij:aO 4 [1,0,3,2]=true:=by decide+kernel
theorem K4:aO 4 [1,2,0,3]=true:=by decide+kernel
theorem JW:aO 4 [1,2,3,0]=true:=by decide+kernel
theorem Kk:aO 4 [1,3,0,2]=true:=by decide+kernel
theorem J8:aO 4 [1,3,2,0]=true:=by decide+kernel
theorem KZ:aO 4 [2,0,1,3]=true:=by decide+kernel
theorem Jf:aO 4 [2,0,3,1]=true:=by decide+kernel
theorem Pg:aO 4 [2,1,0,3]=true:=by decide+kernel
theorem Gg:aO 4 [2,1,3,0]=true:=by decide+kernel
theorem Js:aO 4 [2,3,0,1]=true:=by decide+kernel
theorem Fz:aO 4 [2,3,1,0]=true:=by decide+kernel
theorem RC:aO 4 [3,0,1,2]=true:=by decide+kernel
theorem NY:aO 4 [3,0,2,1]=true:=by decide+kernel
theorem Q6:aO 4 [3,1,0,2]=true:=by decide+kernel
theorem Ko:aO 4 [3,1,2,0]=true:=by decide+kernel
theorem Mj:aO 4 [3,2,0,1]=true:=by decide+kernel
theorem ET:aO 4 [3,2,1,0]=true:=by decide+kernel
theorem GV:fe 4= [[0,1,2,3], [0,1,3,2], [0,2,1,3], [0,2,3,1], [0,3,1,2], [0,3,2,1], [1,0,2,3], [1,0,3,2], [1,2,0,3], [1,2,3,0], [1,3,0,2], [1,3,2,0], [2,0,1,3], [2,0,3,1], [2,1,0,3], [2,1,3,0], [2,3,0,1], [2,3,1,0], [3,0,1,2], [3,0,2,1], [3,1,0,2], [3,1,2,0], [3,2,0,1], [3,2,1,0]]:=by decide+kernel
theorem QW: ∀js∈fe 4,aO 4 js=true:=by
 rw[GV]
 simp only [List.mem_cons,List.not_mem_nil,or_false,forall_eq_or_imp,forall_eq,EJ,Eo,RM,Jb,EV,J5,Rx,Ij,K4,JW,Kk,J8,KZ,Jf,Pg,Gg,Js,Fz,RC,NY,Q6,Ko,Mj,ET,and_self]
theorem L3:fe 5= []:=by decide+kernel
end Wg
namespace Wg
theorem Bj: ∀l:List Nat,l.Pairwise (· < ·)→(∀x∈l,x<8)→l∈subs l.length
 | [],_,_=>by simp [subs]
 |i::l,h,hx=>by
  rw[List.pairwise_cons] at h
  have ih:=Bj l h.2 fun x hm=>hx x (List.mem_cons_of_mem _ hm)
  rw[List.length_cons]
  unfold subs
  refine List.mem_flatMap.mpr ⟨i,List.mem_range.mpr (hx i (List.mem_cons_self ..)),List.mem_map.mpr ⟨l,List.mem_filter.mpr ⟨ih,?_⟩,rfl⟩⟩
  rw[List.all_eq_true]
  exact fun x hm=>decide_eq_true (h.1 x hm)
theorem sZ: ∀l:List Nat,l.Pairwise (· ≠ ·)→(∀x∈l,x<4)→l∈fe l.length
 | [],_,_=>by simp [fe]
 |i::l,h,hx=>by
  rw[List.pairwise_cons] at h
  have ih:=sZ l h.2 fun x hm=>hx x (List.mem_cons_of_mem _ hm)
  rw[List.length_cons]
  unfold fe
  refine List.mem_flatMap.mpr ⟨i,List.mem_range.mpr (hx i (List.mem_cons_self ..)),List.mem_map.mpr ⟨l,List.mem_filter.mpr ⟨ih,?_⟩,rfl⟩⟩
  rw[List.all_eq_true]
  exact fun x hm=>decide_eq_true (h.1 x hm)
theorem wm {l:List Nat} (h:l.Pairwise (· ≠ ·)) (hx: ∀x∈l,x<4):l.length≤4:=by
 refine Nat.le_of_not_lt fun z=>?_
 have:=sZ (l.take 5) (h.sublist (List.take_sublist ..)) fun x hm=>hx x (List.mem_of_mem_take hm)
 rw[List.length_take,Nat.min_eq_left (by omega),L3] at this
 cases this
theorem LN {n:Nat} (h:n≤4): ∀js∈fe n,aO n js=true:=by
 match n,h with
 |0,_=>exact by decide
 |1,_=>exact K9
 |2,_=>exact Ih
 |3,_=>exact Rk
 |4,_=>exact QW
def eB (M:List (List Nat)):Prop:= ∀r∈M,∀x∈r,x<256
theorem qG {l:List Nat} {m i:Nat} (h: ∀x∈l,x<m) (h0:0<m):l.getD i 0<m:=by
 rw[List.getD_eq_getElem?_getD]
 cases e:l[i]? with
 |none=>exact h0
 |some x=>exact h x (List.mem_of_getElem? e)
theorem w8 {M:List (List Nat)} (h:eB M) (c:Nat): ∀x∈M.getD c [],x<256:=by
 rw[List.getD_eq_getElem?_getD]
 cases e:M[c]? with
 |none=>intro x hx;cases hx
 |some r=>exact h r (List.mem_of_getElem? e)
theorem JJ {M:List (List Nat)} (h:eB M) (c:Nat):dh Sound.inverse M c=dh iN M c:=by
 unfold dh
 rw[Q1 _ (qG (w8 h c) (by decide))]
theorem Cf {M:List (List Nat)} (h:eB M) (c:Nat):b5 Sound.inverse M c=b5 iN M c:=by
 unfold b5
 rw[JJ h]
theorem M7 (a:Nat):iN a<256:=Nat.mod_lt _ (by decide)
theorem OH {a b:List Nat} (ha: ∀x∈a,x<256) (hb: ∀x∈b,x<256): ∀x∈Sound.added a b,x<256:=fun x hx=>by
 unfold Sound.added at hx
 obtain ⟨i,hi,rfl⟩:=List.getElem_of_mem hx
 rw[List.length_zipWith] at hi
 rw[List.getElem_zipWith]
 exact Nat.xor_lt_two_pow (n:=8) (ha _ (List.getElem_mem (by omega))) (hb _ (List.getElem_mem (by omega)))
theorem tW {k:Nat} (hk:k<256) (l:List Nat): ∀x∈l.map (Sound.mul k),x<256:=fun x hx=>by
 obtain ⟨y,_,rfl⟩:=List.mem_map.mp hx
 exact BO hk y
theorem xy {M:List (List Nat)} (h:eB M) (c:Nat):eB (b5 iN M c):=fun r hr=>by
 unfold b5 at hr
 obtain ⟨i,hi,rfl⟩:=List.mem_mapIdx.mp hr
 split
 ·exact tW (M7 _) _
 ·exact OH (h _ (List.getElem_mem hi)) (tW (qG (h _ (List.getElem_mem hi)) (by decide)) _)
theorem RB {M:List (List Nat)} (h:eB M) (c:Nat):eB (b5 Sound.inverse M c):=by rw[Cf h];exact xy h c
theorem An: ∀(n c:Nat) (M:List (List Nat)),eB M→dz Sound.inverse n c M=dz iN n c M
 |0,_,_,_=>rfl
 |n+1,c,M,h=>by
  unfold dz
  rw[Cf h,An n (c+1) _ (xy h c)]
theorem uA {l:List Nat} {n c:Nat} (h:c<n):(l.take n).getD c 0=l.getD c 0:=by
 rw[List.getD_eq_getElem?_getD,List.getD_eq_getElem?_getD,List.getElem?_take,if_pos h]
theorem yf (M:List (List Nat)) (n c:Nat):(M.map (List.take n)).getD c []=(M.getD c []).take n:=by
 rw[List.getD_eq_getElem?_getD,List.getD_eq_getElem?_getD,List.getElem?_map]
 cases M[c]?<;>simp
theorem EW {inv:Nat→Nat} (M:List (List Nat)) {n c:Nat} (h:c<n):dh inv (M.map (List.take n)) c=(dh inv M c).take n:=by
 unfold dh
 rw[yf,uA h,List.map_take]
theorem N3 {inv:Nat→Nat} (M:List (List Nat)) {n c:Nat} (h:c<n):b5 inv (M.map (List.take n)) c=(b5 inv M c).map (List.take n):=by
 unfold b5
 rw[EW M h]
 refine List.ext_getElem (by simp) fun i h1 h2=>?_
 simp only [List.getElem_mapIdx,List.getElem_map]
 split
 ·rfl
 ·rw[uA h]
  unfold Sound.added
  rw[List.take_zipWith,List.map_take]
theorem Ae {inv:Nat→Nat}: ∀(k c n:Nat) (M:List (List Nat)),c+k≤n→dz inv k c (M.map (List.take n))=dz inv k c M
 |0,_,_,_,_=>rfl
 |k+1,c,n,M,h=>by
  unfold dz
  rw[N3 M (by omega),Ae k (c+1) n _ (by omega),yf,uA (by omega)]
theorem M5 {lost js:List Nat} {M:List (List Nat)} (hl:lost.Pairwise (· < ·)) (hl8: ∀x∈lost,x<8) (hj:js.Pairwise (· ≠ ·)) (hj4: ∀x∈js,x<4) (hn:js.length=lost.length) (hb:eB M)
  (hM:M.map (List.take lost.length)=js.map fun j=>lost.map fun i=>Sound.factor i j):dz Sound.inverse lost.length 0 M=true:=by
 rw[An _ _ _ hb,←Ae _ _ lost.length _ (by omega),hM]
 have h4:=wm hj hj4
 have e:(js.map fun j=>lost.map fun i=>Sound.factor i j)=js.map fun j=>lost.map fun i=>FT.getD (i^^^j) 0:=List.map_congr_left fun j hjm=>List.map_congr_left fun i him=>Nu i (hl8 i him) j (hj4 j hjm)
 rw[e]
 have:=LN (n:=lost.length) (by omega) js (by rw[←hn];exact sZ js hj hj4)
 unfold aO at this
 rw[List.all_eq_true] at this
 exact this lost (Bj lost hl hl8)
def b9 (e:Sound.Eqn):List Nat:=e.fs++e.row
theorem Mf {n k:Nat} {x p:Sound.Eqn} (hx:x.fs.length=n) (hp:p.fs.length=n):b9 (Sound.lessEqn k x p)=Sound.added (b9 x) ((b9 p).map (Sound.mul k)):=by
 unfold b9 Sound.lessEqn Sound.added Sound.scaled
 rw[List.map_append,List.zipWith_append (by rw[List.length_map];omega)]
theorem uQ {x:Sound.Eqn} {c:Nat} (h:c<x.fs.length):(b9 x).getD c 0=x.fs.getD c 0:=by
 unfold b9
 rw[List.getD_eq_getElem?_getD,List.getD_eq_getElem?_getD,List.getElem?_append_left h]
theorem Bu {n k:Nat} {x p:Sound.Eqn} (hx:x.fs.length=n) (hp:p.fs.length=n):(Sound.lessEqn k x p).fs.length=n:=by
 unfold Sound.lessEqn Sound.added Sound.scaled
 simp [hx,hp]
theorem Cw (n:Nat): ∀(k c:Nat) (done es:List Sound.Eqn),done.length=c→es.length=k→c+k=n→(∀e∈done,e.fs.length=n)→(∀e∈es,e.fs.length=n)→dz Sound.inverse k c ((done++es).map b9)=true→
  ∃out,Sound.solve k c done es=some out∧out.map b9=cQ k c ((done++es).map b9)∧(∀e∈out,e.fs.length=n)∧out.length=n
 |0,c,done,es,hd,he,hn,h1,h2,_=>by
  have:es= []:=List.length_eq_zero_iff.mp he
  subst this
  exact ⟨done,rfl,by rw[List.append_nil];rfl,h1,by omega⟩
 |k+1,c,done, [],hd,he,hn,h1,h2,_=>by simp at he
 |k+1,c,done,e::es,hd,he,hn,h1,h2,hp=>by
  have hef:e.fs.length=n:=h2 e (List.mem_cons_self ..)
  have hge:((done++e::es).map b9).getD c []=b9 e:=by
   rw[List.getD_eq_getElem?_getD,List.getElem?_map,List.getElem?_append_right (by omega),show c-done.length=0 by omega];rfl
  have hp:((((done++e::es).map b9).getD c []).getD c 0 !=0&&dz Sound.inverse k (c+1) (b5 Sound.inverse ((done++e::es).map b9) c))=true:=hp
  rw[Bool.and_eq_true,hge,uQ (by omega)] at hp
  obtain ⟨hp1,hp2⟩:=hp
  have hfi:(e::es).findIdx? (fun (e:Sound.Eqn)=>e.fs.getD c 0 !=0)=some 0:=by
   rw[List.findIdx?_cons,hp1];rfl
  unfold Sound.solve
  rw[hfi]
  dsimp only [List.getElem?_cons_zero,List.eraseIdx_cons_zero]
  generalize hP:(⟨Sound.scaled (Sound.inverse (e.fs.getD c 0)) e.fs,Sound.scaled (Sound.inverse (e.fs.getD c 0)) e.row⟩:Sound.Eqn)=p
  have hpf:p.fs.length=n:=by rw[←hP];unfold Sound.scaled;rw[List.length_map];exact hef
  have hpr:b9 p=dh Sound.inverse ((done++e::es).map b9) c:=by
   unfold dh
   rw[hge,uQ (by omega),←hP]
   unfold b9 Sound.scaled
   rw[List.map_append]
  have hcl: ∀x:Sound.Eqn,x.fs.length=n→b9 (Sound.lessEqn (x.fs.getD c 0) x p)=Sound.added (b9 x) ((dh Sound.inverse ((done++e::es).map b9) c).map (Sound.mul ((b9 x).getD c 0))):=fun x hx=>by
   rw[Mf hx hpf,hpr,uQ (by omega)]
  have hst:b5 Sound.inverse ((done++e::es).map b9) c=((done.map fun x=>Sound.lessEqn (x.fs.getD c 0) x p)++ [p]++es.map fun x=>Sound.lessEqn (x.fs.getD c 0) x p).map b9:=by
   unfold b5
   generalize hch:dh Sound.inverse ((done++e::es).map b9) c=ch at*
   rw[List.map_append,List.map_cons,List.mapIdx_append,List.mapIdx_cons,List.map_append,List.map_append,List.map_cons,List.map_nil,List.append_assoc,List.singleton_append]
   congr 1
   ·refine List.ext_getElem (by simp) fun i hi1 hi2=>?_
    simp only [List.getElem_mapIdx,List.getElem_map]
    simp at hi1
    rw[if_neg (by omega),hcl _ (h1 _ (List.getElem_mem hi1))]
   ·congr 1
    ·rw[if_pos (by rw[List.length_map];omega),hpr]
    ·refine List.ext_getElem (by simp) fun i hi1 hi2=>?_
     simp only [List.getElem_mapIdx,List.getElem_map]
     simp at hi1
     rw[if_neg (by rw[List.length_map];omega),hcl _ (h2 _ (List.mem_cons_of_mem _ (List.getElem_mem hi1)))]
  rw[hst] at hp2
  obtain ⟨out,o1,o2,o3,o4⟩:=Cw n k (c+1) ((done.map fun x=>Sound.lessEqn (x.fs.getD c 0) x p)++ [p]) (es.map fun x=>Sound.lessEqn (x.fs.getD c 0) x p) (by simp;omega) (by simp at he⊢;omega) (by omega)
   (fun x hx=>by
    rcases List.mem_append.mp hx with hx|hx
    ·obtain ⟨y,hy,rfl⟩:=List.mem_map.mp hx
     exact Bu (h1 y hy) hpf
    ·rw[List.mem_singleton.mp hx];exact hpf)
   (fun x hx=>by
    obtain ⟨y,hy,rfl⟩:=List.mem_map.mp hx
    exact Bu (h2 y (List.mem_cons_of_mem _ hy)) hpf) (by exact hp2)
  refine ⟨out,o1,?_,o3,o4⟩
  rw[o2,←hst]
  rfl
def fP:Nat→List Sound.Bytes→List Nat
 |_, []=> []
 |o,b::r=>if b.isEmpty=true then o::fP (o+1) r else fP (o+1) r
theorem vO: ∀(fs:List Sound.Bytes) (o:Nat),((fs.zipIdx o).map fun (x:Sound.Bytes×Nat)=>(x.2,x.1)).filterMap (fun (x:Nat×Sound.Bytes)=>if x.2.isEmpty=true then some x.1 else none)=fP o fs
 | [],o=>rfl
 |b::r,o=>by
  rw[List.zipIdx_cons,List.map_cons,List.filterMap_cons]
  dsimp only
  unfold fP
  split
  ·rename_i h
   split at h
   ·cases h
   ·rename_i h2;rw[if_neg h2];exact vO r (o+1)
  ·rename_i b1 h
   split at h
   ·rename_i h2;cases h;rw[if_pos h2,vO r (o+1)]
   ·cases h
theorem xp (fs:List Sound.Bytes):Sound.lostOf fs=fP 0 fs:=vO fs 0
theorem B7: ∀(fs:List Sound.Bytes) (o:Nat),fP o fs=((List.range fs.length).filter fun i=>(fs.getD i []).length==0).map (· +o)
 | [],o=>rfl
 |b::r,o=>by
  rw[List.length_cons,List.range_succ_eq_map,List.filter_cons]
  unfold fP
  have ih:=B7 r (o+1)
  have e2:((List.range r.length).map Nat.succ).filter (fun i=>((b::r).getD i []).length==0)=((List.range r.length).filter fun i=>(r.getD i []).length==0).map Nat.succ:=by
   rw[List.filter_map];rfl
  rw[e2,ih]
  have e3:(([0]:List Nat).map (· +o))= [o]:=by simp
  have eb:b.isEmpty=(((b::r).getD 0 []).length==0):=by cases b<;>rfl
  rw[←eb]
  split
  ·rw[List.map_cons,List.map_map]
   congr 1
   ·omega
   ·exact List.map_congr_left fun x _=>by show x+(o+1)=x+1+o;omega
  ·rw[List.map_map]
   exact List.map_congr_left fun x _=>by show x+(o+1)=x+1+o;omega
theorem nc (fs:List Sound.Bytes):Sound.lostOf fs=(List.range fs.length).filter fun i=>(fs.getD i []).length==0:=by
 rw[xp,B7]
 simp
def fW (W:List Sound.Bytes) (is:List Nat) (ms:List Sound.Bytes):List Sound.Bytes:=(is.zip ms).foldl (fun w x=>w.set x.1 x.2) W
theorem rO: ∀fs:List Sound.Bytes,Sound.fill fs []=fs
 | []=>by unfold Sound.fill;rfl
 |b::r=>by unfold Sound.fill;split<;>rw[rO r]
theorem tE: ∀(fs pre:List Sound.Bytes) (ms:List Sound.Bytes),fW (pre++fs) (fP pre.length fs) ms=pre++Sound.fill fs ms
 | [],pre,ms=>by unfold fP Sound.fill fW;simp
 |b::r,pre, []=>by
  rw[rO];unfold fW;rw[List.zip_nil_right];rfl
 |b::r,pre,m::ms=>by
  unfold fP Sound.fill
  split
  ·have:=tE r (pre++ [m]) ms
   rw[List.length_append,List.length_singleton] at this
   unfold fW at this⊢
   rw[List.zip_cons_cons,List.foldl_cons]
   dsimp only
   have e:(pre++b::r).set pre.length m=pre++ [m]++r:=by
    rw[List.set_append_right _ _ (Nat.le_refl _),Nat.sub_self,List.set_cons_zero];simp
   rw[e,this];simp
  ·have:=tE r (pre++ [b]) (m::ms)
   rw[List.length_append,List.length_singleton] at this
   rw[show pre++b::r=pre++ [b]++r by simp,this];simp
theorem fill_eq (fs ms:List Sound.Bytes):fW fs (Sound.lostOf fs) ms=Sound.fill fs ms:=by
 have:=tE fs [] ms
 rw[xp];exact this
end Wg
namespace Wg
open PySem PySem.Spec PyProof.Rows L2
def top (i:Nat):Stmt:=PySem.Challenge.pw_soundkeeping_s14_mend.main.body.getD i (.Pass ⟨0,0,0,0⟩)
abbrev Co:Stmt:=top 5
abbrev Dv:Stmt:=top 10
abbrev Dc:Stmt:=top 11
abbrev Dq:Stmt:=top 16
abbrev B2:Stmt:=top 22
abbrev yK:Stmt:=top 23
abbrev A6:Stmt:=top 24
abbrev AN:Stmt:=top 25
abbrev Ca:Stmt:=top 26
abbrev yw:Stmt:=top 34
abbrev BH:Stmt:=top 35
abbrev y9:Stmt:=top 36
abbrev AM:Stmt:=top 37
abbrev A7:Stmt:=top 38
abbrev Bw:Stmt:=top 44
abbrev CP:Stmt:=top 45
abbrev DJ:Stmt:=top 46
abbrev zC:Stmt:=top 47
abbrev yy:Stmt:=top 48
abbrev CA:Stmt:=top 49
abbrev Cr:Stmt:=top 50
abbrev BQ:Stmt:=top 51
abbrev zr:Stmt:=top 52
abbrev A5:Stmt:=top 56
abbrev DP:Stmt:=top 57
abbrev yT:Stmt:=top 58
abbrev Dy:Stmt:=top 61
abbrev C7:Stmt:=top 62
abbrev DW:Stmt:=top 63
abbrev xG:Stmt:=top 64
abbrev xK:Stmt:=top 65
abbrev yd:Stmt:=top 75
abbrev CJ:Stmt:=top 76
abbrev Bt:Stmt:=top 77
abbrev AF:Stmt:=top 78
abbrev B9:Stmt:=top 79
abbrev Bv:Stmt:=top 80
abbrev yA:Stmt:=top 84
abbrev z7:Stmt:=top 85
abbrev CD:Stmt:=top 86
abbrev yl:Stmt:=top 87
abbrev AS:Stmt:=top 88
abbrev Dz:Stmt:=top 89
abbrev Ao:Stmt:=top 90
abbrev ze:Stmt:=top 91
abbrev DO:Stmt:=top 93
abbrev CN:Stmt:=top 94
abbrev AR:Stmt:=inClass (top 4) 0
abbrev Bq:Stmt:=inClass (top 4) 1
abbrev DC:Stmt:=inClass (top 4) 2
abbrev DH:Stmt:=inClass (top 4) 3
abbrev xj:Stmt:=inClass (top 9) 0
abbrev Du:Stmt:=inClass (top 9) 1
abbrev xS:Stmt:=inClass (top 9) 2
abbrev yI:Stmt:=inClass (top 9) 3
abbrev zy:Stmt:=inClass (top 15) 0
abbrev DM:Stmt:=inClass (top 15) 1
abbrev Dg:Stmt:=inClass (top 33) 0
abbrev BK:Stmt:=inClass (top 33) 1
abbrev Ef:Stmt:=inClass (top 33) 2
abbrev xB:Stmt:=inClass (top 42) 0
abbrev xW:Stmt:=inClass (top 42) 1
abbrev yG:Stmt:=inClass (top 43) 0
abbrev By:Stmt:=inClass (top 74) 0
abbrev DU:Stmt:=inClass (top 83) 0
abbrev Ed:Stmt:=inClass (top 83) 1
abbrev yF:Stmt:=inClass (top 83) 2
set_option genInjectivity false in
structure aY where
 (nS ll ph nY lR oo nk mG oF nv kx mm pD m8 om lj lX lJ lK pA kE lx mF lY n8 nJ m7 pR oQ oX ny mH m6 ku mS oO md k8 n6 lH oH oJ kZ mI m9 lL oS lS pV nz mn nL lu mT pE pL me ml lP kH kG kL pN lG o6 pk lr aJ bj cc bB cU c7 cE bO ie eT gX pQ i4 nF og kr lB mX nV oB mU nj lU ni kz:Addr)
 (mQ mL mR mM oR nu kY nU lD pb kM mx pU ly oy lN mE nH oG pz kP pI mW kC mq pJ lZ my nO lQ o9 nN lh kW mZ pT lp mB oP lA oq lF o7 lO kN pG iY kK nI pM kT lE ky kQ pW lW pX oM pP oY o5 ma oK mO n9 pB nq:FuncData)
 (sV uq uR wD uM vz u6 vJ ve uT vA uS vG wy wX w6 wH uV tU uH tf wM:Tok)
structure Txt (K:PySem.W.Frag) (mg:Str→Option Value) (A:aY):Prop where
 Rn:mg "BitReader" =some (.ref A.aJ)
 P2:mg "Form" =some (.ref A.bj)
 Ac:mg "Guess" =some (.ref A.cc)
 Rm:mg "PartTaken" =some (.ref A.bB)
 E6:mg "Partner" =some (.ref A.cU)
 QB:mg "FrameTaken" =some (.ref A.c7)
 OK:mg "Piece" =some (.ref A.cE)
 Jc:mg "Finds" =some (.ref A.bO)
 FX:mg "crc16" =some (.ref A.nS)
 Az:aD K "crc16" "crc16" Co A.nS A.mQ
 RS:Binds K A.mQ ["data"] []
 Jl:mg "is_form" =some (.ref A.ll)
 CV:aD K "is_form" "is_form" Dv A.ll A.mL
 RK:Binds K A.mL ["form"] []
 zM:mg "fits" =some (.ref A.ph)
 wj:aD K "fits" "fits" Dc A.ph A.mR
 Dm:Binds K A.mR ["width", "number"] []
 ES:mg "fixed_guess" =some (.ref A.nY)
 zi:aD K "fixed_guess" "fixed_guess" Dq A.nY A.mM
 KC:Binds K A.mM ["order"] []
 Qx:mg "unfolded_rest" =some (.ref A.lR)
 z9:aD K "unfolded_rest" "unfolded_rest" B2 A.lR A.oR
 N8:Binds K A.oR ["folded"] []
 K2:mg "can_split" =some (.ref A.oo)
 yt:aD K "can_split" "can_split" yK A.oo A.nu
 IM:Binds K A.nu ["n", "order", "r"] []
 K5:mg "read_rests" =some (.ref A.nk)
 xq:aD K "read_rests" "read_rests" A6 A.nk A.kY
 FU:Binds K A.kY ["reader", "n", "order", "part"] []
 QP:mg "read_group" =some (.ref A.mG)
 AZ:aD K "read_group" "read_group" AN A.mG A.nU
 Nd:Binds K A.nU ["reader", "count", "part"] []
 Ka:mg "read_plain" =some (.ref A.oF)
 B4:aD K "read_plain" "read_plain" Ca A.oF A.lD
 O0:Binds K A.lD ["reader", "count", "part"] []
 KR:mg "order_of_kind" =some (.ref A.nv)
 AB:aD K "order_of_kind" "order_of_kind" yw A.nv A.pb
 FD:Binds K A.pb ["kind"] []
 vV:mg "read_part" =some (.ref A.kx)
 rT:aD K "read_part" "read_part" BH A.kx A.kM
 uh:Binds K A.kM ["reader", "n", "width", "partner"] []
 RP:mg "read_zeros" =some (.ref A.mm)
 xC:aD K "read_zeros" "read_zeros" y9 A.mm A.mx
 EA:Binds K A.mx ["reader", "width"] []
 Dn:mg "read_plainly" =some (.ref A.pD)
 vY:aD K "read_plainly" "read_plainly" AM A.pD A.pU
 zV:Binds K A.pU ["reader", "count", "part"] []
 Mb:mg "read_guessed" =some (.ref A.m8)
 CB:aD K "read_guessed" "read_guessed" A7 A.m8 A.ly
 FN:Binds K A.ly ["reader", "n", "kind", "part"] []
 Cg:mg "joined_pair" =some (.ref A.om)
 uw:aD K "joined_pair" "joined_pair" Bw A.om A.oy
 A3:Binds K A.oy ["mode", "x", "y"] []
 OB:mg "first_width" =some (.ref A.lj)
 Bb:aD K "first_width" "first_width" CP A.lj A.lN
 Le:Binds K A.lN ["mode", "depth"] []
 OD:mg "second_width" =some (.ref A.lX)
 AU:aD K "second_width" "second_width" DJ A.lX A.mE
 Em:Binds K A.mE ["mode", "depth"] []
 PB:mg "read_frame" =some (.ref A.lJ)
 zf:aD K "read_frame" "read_frame" zC A.lJ A.nH
 OT:Binds K A.nH ["form", "data"] []
 DV:mg "recorded_frame" =some (.ref A.lK)
 wF:aD K "recorded_frame" "recorded_frame" yy A.lK A.oG
 x6:Binds K A.oG ["form", "samples", "data"] []
 Qp:mg "read_items" =some (.ref A.pA)
 zW:aD K "read_items" "read_items" CA A.pA A.pz
 G4:Binds K A.pz ["form", "reader"] []
 PH:mg "read_channels" =some (.ref A.kE)
 B5:aD K "read_channels" "read_channels" Cr A.kE A.kP
 Ft:Binds K A.kP ["form", "n", "reader"] []
 F6:mg "read_pair" =some (.ref A.lx)
 zP:aD K "read_pair" "read_pair" BQ A.lx A.pI
 F8:Binds K A.pI ["depth", "n", "mode", "reader"] []
 LQ:mg "read_end" =some (.ref A.mF)
 CT:aD K "read_end" "read_end" zr A.mF A.mW
 MY:Binds K A.mW ["reader"] []
 Jg:mg "to_octets" =some (.ref A.lY)
 zo:aD K "to_octets" "to_octets" A5 A.lY A.kC
 JV:Binds K A.kC ["count", "number"] []
 oN:mg "from_octets" =some (.ref A.n8)
 jX:aD K "from_octets" "from_octets" DP A.n8 A.mq
 pK:Binds K A.mq ["data"] []
 MU:mg "crc32" =some (.ref A.nJ)
 Cs:aD K "crc32" "crc32" yT A.nJ A.pJ
 Gr:Binds K A.pJ ["data"] []
 xx:mg "products" =some (.ref A.m7)
 ua:aD K "products" "products" Dy A.m7 A.lZ
 yg:Binds K A.lZ ["factor"] []
 ye:mg "inverse" =some (.ref A.pR)
 u7:aD K "inverse" "inverse" C7 A.pR A.my
 Ba:Binds K A.my ["number"] []
 ug:mg "scaled" =some (.ref A.oQ)
 qL:aD K "scaled" "scaled" DW A.oQ A.nO
 u9:Binds K A.nO ["factor", "data"] []
 tN:mg "added" =some (.ref A.oX)
 rl:aD K "added" "added" xG A.oX A.lQ
 vZ:Binds K A.lQ ["one", "other"] []
 Q3:mg "solved" =some (.ref A.ny)
 DF:aD K "solved" "solved" xK A.ny A.o9
 NQ:Binds K A.o9 ["equations"] []
 BY:mg "factor_of" =some (.ref A.mH)
 sS:aD K "factor_of" "factor_of" yd A.mH A.nN
 Aq:Binds K A.nN ["i", "j"] []
 Kq:mg "row_sum" =some (.ref A.m6)
 Bn:aD K "row_sum" "row_sum" CJ A.m6 A.lh
 Fq:Binds K A.lh ["j", "row_size", "frames"] []
 MB:mg "longest_row" =some (.ref A.ku)
 xN:aD K "longest_row" "longest_row" Bt A.ku A.kW
 OX:Binds K A.kW ["frames"] []
 GR:mg "piece_at" =some (.ref A.mS)
 CZ:aD K "piece_at" "piece_at" AF A.mS A.mZ
 QY:Binds K A.mZ ["data", "place"] []
 N2:mg "made_anew" =some (.ref A.oO)
 CH:aD K "made_anew" "made_anew" B9 A.oO A.pT
 JH:Binds K A.pT ["frames", "pieces"] []
 JS:mg "frame_of_row" =some (.ref A.md)
 AX:aD K "frame_of_row" "frame_of_row" Bv A.md A.lp
 IZ:Binds K A.lp ["row"] []
 EG:mg "mended" =some (.ref A.k8)
 xV:aD K "mended" "mended" yA A.k8 A.mB
 LF:Binds K A.mB ["form", "samples", "data"] []
 FL:mg "search" =some (.ref A.n6)
 BX:aD K "search" "search" z7 A.n6 A.oP
 K1:Binds K A.oP ["finds", "data"] []
 PZ:mg "searched_size" =some (.ref A.lH)
 AL:aD K "searched_size" "searched_size" CD A.lH A.lA
 Es:Binds K A.lA ["finds", "data", "place"] []
 KO:mg "mend_group" =some (.ref A.oH)
 CU:aD K "mend_group" "mend_group" yl A.oH A.oq
 Pw:Binds K A.oq ["finds", "g"] []
 G0:mg "pieces_that_count" =some (.ref A.oJ)
 CM:aD K "pieces_that_count" "pieces_that_count" AS A.oJ A.lF
 GH:Binds K A.lF ["finds", "g"] []
 Rj:mg "keep_made" =some (.ref A.kZ)
 Al:aD K "keep_made" "keep_made" Dz A.kZ A.o7
 JF:Binds K A.o7 ["finds", "k", "written"] []
 RD:mg "lost_stretches" =some (.ref A.mI)
 Av:aD K "lost_stretches" "lost_stretches" Ao A.mI A.lO
 JG:Binds K A.lO ["finds"] []
 IU:mg "all_numbers" =some (.ref A.m9)
 Bz:aD K "all_numbers" "all_numbers" ze A.m9 A.kN
 OG:Binds K A.kN ["finds"] []
 IE:mg "counted" =some (.ref A.lL)
 B3:aD K "counted" "counted" DO A.lL A.pG
 JU:Binds K A.pG ["data"] []
 Mc:mg "mend" =some (.ref A.oS)
 Mt:aD K "mend" "mend" CN A.oS A.iY
 Se:Binds K A.iY ["n", "form", "data"] []
 Lb:Mk K A.aJ A.lS
 Oj:aD K "__init__" "BitReader.__init__" AR A.lS A.kK
 Md:Binds K A.kK ["self", "data"] []
 dH:Meth K A.aJ "unsigned" A.pV
 Jr:aD K "unsigned" "BitReader.unsigned" Bq A.pV A.nI
 dG:Binds K A.nI ["self", "width"] []
 rH:Meth K A.aJ "signed" A.nz
 Kc:aD K "signed" "BitReader.signed" DC A.nz A.pM
 rG:Binds K A.pM ["self", "width"] []
 xA:Meth K A.aJ "run" A.mn
 Pu:aD K "run" "BitReader.run" DH A.mn A.kT
 zp:Binds K A.kT ["self", "most"] []
 Kd:Mk K A.bj A.nL
 LM:aD K "__init__" "Form.__init__" xj A.nL A.lE
 Pc:Binds K A.lE ["self", "form"] []
 xY:Meth K A.bj "frame_count" A.lu
 Fe:aD K "frame_count" "Form.frame_count" Du A.lu A.ky
 Df:Binds K A.ky ["self", "samples"] []
 u5:Meth K A.bj "frame_samples" A.mT
 Kb:aD K "frame_samples" "Form.frame_samples" xS A.mT A.kQ
 wg:Binds K A.kQ ["self", "k", "samples"] []
 Ek:Meth K A.bj "group_count" A.pE
 Iv:aD K "group_count" "Form.group_count" yI A.pE A.pW
 El:Binds K A.pW ["self", "samples"] []
 AD:Mk K A.cc A.pL
 KA:aD K "__init__" "Guess.__init__" zy A.pL A.lW
 yP:Binds K A.lW ["self", "factors", "shift"] []
 FF:Meth K A.cc "at" A.me
 Qq:aD K "at" "Guess.at" DM A.me A.pX
 J1:Binds K A.pX ["self", "numbers", "place"] []
 Ke:Mk K A.bB A.ml
 Q7:aD K "__init__" "PartTaken.__init__" Dg A.ml A.oM
 M1:Binds K A.oM ["self", "width", "z", "partner"] []
 wU:Meth K A.bB "take" A.lP
 KI:aD K "take" "PartTaken.take" BK A.lP A.pP
 wA:Binds K A.pP ["self", "number"] []
 xr:Meth K A.bB "take_rest" A.kH
 LK:aD K "take_rest" "PartTaken.take_rest" Ef A.kH A.oY
 Ah:Binds K A.oY ["self", "rest"] []
 FP:Mk K A.cU A.kG
 RF:aD K "__init__" "Partner.__init__" xB A.kG A.o5
 MS:Binds K A.o5 ["self", "mode", "depth", "numbers"] []
 Sa:Meth K A.cU "judge" A.kL
 Oi:aD K "judge" "Partner.judge" xW A.kL A.ma
 Mo:Binds K A.ma ["self", "place", "number"] []
 Pq:Mk K A.c7 A.pN
 NU:aD K "__init__" "FrameTaken.__init__" yG A.pN A.oK
 MI:Binds K A.oK ["self", "size", "k", "n", "numbers"] []
 Rc:Mk K A.cE A.lG
 Ob:aD K "__init__" "Piece.__init__" By A.lG A.mO
 JT:Binds K A.mO ["self", "g", "j", "row"] []
 OU:Mk K A.bO A.o6
 IH:aD K "__init__" "Finds.__init__" DU A.o6 A.n9
 EH:Binds K A.n9 ["self", "form", "samples"] []
 xw:Meth K A.bO "keep_frame" A.pk
 GL:aD K "keep_frame" "Finds.keep_frame" Ed A.pk A.pB
 B1:Binds K A.pB ["self", "taken", "written"] []
 JP:Meth K A.bO "keep_piece" A.lr
 LG:aD K "keep_piece" "Finds.keep_piece" yF A.lr A.nq
 Rz:Binds K A.nq ["self", "piece"] []
 bF:cT K A.aJ
 rB:ba K A.aJ "data"
 iV:ba K A.aJ "place"
 bP:cT K A.bj
 sj:ba K A.bj "channels"
 vK:ba K A.bj "depth"
 jw:ba K A.bj "block"
 Gq:ba K A.bj "order"
 ox:ba K A.bj "group"
 wI:ba K A.bj "spare"
 lV:cT K A.cc
 CQ:ba K A.cc "factors"
 BR:ba K A.cc "shift"
 b7:cT K A.bB
 qS:ba K A.bB "width"
 tZ:ba K A.bB "z"
 uX:ba K A.bB "partner"
 p9:ba K A.bB "guess"
 km:ba K A.bB "taken"
 ja:cT K A.cU
 AJ:ba K A.cU "mode"
 Ap:ba K A.cU "depth"
 C0:ba K A.cU "numbers"
 dI:cT K A.c7
 r8:ba K A.c7 "size"
 jT:ba K A.c7 "k"
 C5:ba K A.c7 "n"
 wO:ba K A.c7 "numbers"
 dQ:cT K A.cE
 uF:ba K A.cE "g"
 kX:ba K A.cE "j"
 oZ:ba K A.cE "row"
 DX:ba K A.cE "size"
 bo:cT K A.bO
 fj:ba K A.bO "form"
 kb:ba K A.bO "samples"
 sE:ba K A.bO "frame_numbers"
 oW:ba K A.bO "frames"
 sC:ba K A.bO "sounds"
 rV:ba K A.bO "pieces"
 qp:mg "Short" =some (.ref A.ie)
 rZ:Own K A.ie
 eJ:mg "Wrong" =some (.ref A.eT)
 d9:Own K A.eT
 vx:mg "Unmade" =some (.ref A.gX)
 tM:Own K A.gX
 xU:A.ie≠A.eT
 Sd:A.ie≠A.gX
 Sb:A.eT≠A.gX
 G3:mg "MOST_NUMBERS" =some (.int 2048 A.sV)
 Ma:mg "FACTOR_WIDTH" =some (.int 12 A.uq)
 Kz:mg "GREATEST_SPLIT" =some (.int 6 A.uR)
 K8:mg "PLAIN" =some (.int 31 A.wD)
 Ow:mg "GREATEST_PLAIN_WIDTH" =some (.int 40 A.uM)
 Pk:mg "GREATEST_FOLDED" =some (.int 1099511627775 A.vz)
 R1:mg "SAME" =some (.int 0 A.u6)
 FG:mg "PLAIN_KIND" =some (.int 1 A.vJ)
 OF:mg "FIRST_FIXED" =some (.int 2 A.ve)
 uu:mg "FIRST_LINEAR" =some (.int 7 A.uT)
 Qo:mg "LAST_KIND" =some (.int 10 A.vA)
 GS:mg "MARK_frames" =some (.int 19287 A.uS)
 vB:mg "LONGEST" =some (.int 4096 A.vG)
 tq:mg "CRC32_SIZE" =some (.int 4 A.wy)
 Lx:mg "MODULUS" =some (.int 285 A.wX)
 JM:mg "MARK_spares" =some (.int 19280 A.w6)
 jb:mg "LENGTH_SIZE" =some (.int 2 A.wH)
 Jz:mg "SHORTEST_ROW" =some (.int 3 A.uV)
 N0:mg "LONGEST_ROW" =some (.int 4098 A.tU)
 qc:mg "FRONT_SIZE" =some (.int 7 A.uH)
 Qe:mg "FIRST_DIVISOR" =some (.int 128 A.tf)
 Q2:mg "FIRST_BYTE" =some (.int 75 A.wM)
 yD:mg "RANGES" =some (.ref A.i4)
 kJ: ∀H,aP K H A.i4 [V.ref A.nF,V.ref A.og,V.ref A.kr,V.ref A.lB,V.ref A.mX,V.ref A.nV]
 NZ: ∀H,aP K H A.nF [V.int (1),V.int (4)]
 Nl: ∀H,aP K H A.og [V.int (4),V.int (24)]
 Kl: ∀H,aP K H A.kr [V.int (16),V.int (256)]
 RJ: ∀H,aP K H A.lB [V.int (0),V.int (4)]
 EU: ∀H,aP K H A.mX [V.int (1),V.int (8)]
 Pz: ∀H,aP K H A.nV [V.int (0),V.int (4)]
 Ru:mg "FIXED" =some (.ref A.oB)
 ID: ∀H,aP K H A.oB [V.ref A.mU,V.ref A.nj,V.ref A.lU,V.ref A.ni,V.ref A.kz]
 Kf: ∀H,aP K H A.mU []
 Ff: ∀H,aP K H A.nj [V.int (1)]
 Gw: ∀H,aP K H A.lU [V.int (2),V.int (-1)]
 OO: ∀H,aP K H A.ni [V.int (3),V.int (-3),V.int (1)]
 QV: ∀H,aP K H A.kz [V.int (4),V.int (-6),V.int (4),V.int (-1)]
 B0:mg "CRC32_STEPS" =some (.ref A.pQ)
 Nb: ∀H,aP K H A.pQ [V.int (0),V.int (498536548),V.int (997073096),V.int (651767980),V.int (1994146192),V.int (1802195444),V.int (1303535960),V.int (1342533948),V.int (3988292384),V.int (4027552580),V.int (3604390888),V.int (3412177804),V.int (2607071920),V.int (2262029012),V.int (2685067896),V.int (3183342108)]
 Lk:mg "all" =none
 Nw:mg "any" =none
 vy:mg "enumerate" =none
 b6:mg "len" =none
 vi:mg "list" =none
 Er:mg "max" =none
 ME:mg "min" =none
 dJ:mg "range" =none
 Ql:mg "sum" =none
 qx:mg "zip" =none
 entry: ∀(s:Shared) (us:List Value),us.length=(["n", "form", "data"]:List Str).length→BindsTo s A.iY ⟨us, []⟩ ((["n", "form", "data"]:List Str).zip us)
theorem Qi {K:PySem.W.Frag} {a:Addr} {d:Option Addr} {n:Nat} {s:Array (Option Value)} {i:Array Value} {x:List V} (t:K.lookup a=some ⟨.type "tuple",d, .seq i n,s⟩) (z:i.size≤sizeLine) (v:Vals x i.toList) (H:Hp):aP K H a x:= .inr ⟨_,_,_,t,rfl,rfl,z,v⟩
theorem RZ {K:PySem.W.Frag} {mg:Str→Option Value} {nS ll ph nY lR oo nk mG oF nv kx mm pD m8 om lj lX lJ lK pA kE lx mF lY n8 nJ m7 pR oQ oX ny mH m6 ku mS oO md k8 n6 lH oH oJ kZ mI m9 lL oS lS pV nz mn nL lu mT pE pL me ml lP kH kG kL pN lG o6 pk lr aJ bj cc bB cU c7 cE bO ie eT gX pQ i4 nF og kr lB mX nV oB mU nj lU ni kz:Addr} {mQ mL mR mM oR nu kY nU lD pb kM mx pU ly oy lN mE nH oG pz kP pI mW kC mq pJ lZ my nO lQ o9 nN lh kW mZ pT lp mB oP lA oq lF o7 lO kN pG iY kK nI pM kT lE ky kQ pW lW pX oM pP oY o5 ma oK mO n9 pB nq:FuncData} {sV uq uR wD uM vz u6 vJ ve uT vA uS vG wy wX w6 wH uV tU uH tf wM:Tok} (h:Txt K mg ⟨nS,ll,ph,nY,lR,oo,nk,mG,oF,nv,kx,mm,pD,m8,om,lj,lX,lJ,lK,pA,kE,lx,mF,lY,n8,nJ,m7,pR,oQ,oX,ny,mH,m6,ku,mS,oO,md,k8,n6,lH,oH,oJ,kZ,mI,m9,lL,oS,lS,pV,nz,mn,nL,lu,mT,pE,pL,me,ml,lP,kH,kG,kL,pN,lG,o6,pk,lr,aJ,bj,cc,bB,cU,c7,cE,bO,ie,eT,gX,pQ,i4,nF,og,kr,lB,mX,nV,oB,mU,nj,lU,ni,kz,mQ,mL,mR,mM,oR,nu,kY,nU,lD,pb,kM,mx,pU,ly,oy,lN,mE,nH,oG,pz,kP,pI,mW,kC,mq,pJ,lZ,my,nO,lQ,o9,nN,lh,kW,mZ,pT,lp,mB,oP,lA,oq,lF,o7,lO,kN,pG,iY,kK,nI,pM,kT,lE,ky,kQ,pW,lW,pX,oM,pP,oY,o5,ma,oK,mO,n9,pB,nq,sV,uq,uR,wD,uM,vz,u6,vJ,ve,uT,vA,uS,vG,wy,wX,w6,wH,uV,tU,uH,tf,wM⟩): ∃A,Txt K mg A:=⟨_,h⟩
theorem KG {K:PySem.W.Frag} {fd:FuncData} {a0:Str} (h: ∀u0,bindArgs fd ⟨[u0], []⟩=pure [(a0,u0)]):Binds K fd [a0] []:= .all fun us hl=>match us,hl with| [u0],_=>h u0
theorem MV {K:PySem.W.Frag} {fd:FuncData} {a0 a1:Str} (h: ∀u0 u1,bindArgs fd ⟨[u0,u1], []⟩=pure [(a0,u0),(a1,u1)]):Binds K fd [a0,a1] []:= .all fun us hl=>match us,hl with| [u0,u1],_=>h u0 u1
theorem QJ {K:PySem.W.Frag} {fd:FuncData} {a0 a1 a2:Str} (h: ∀u0 u1 u2,bindArgs fd ⟨[u0,u1,u2], []⟩=pure [(a0,u0),(a1,u1),(a2,u2)]):Binds K fd [a0,a1,a2] []:= .all fun us hl=>match us,hl with| [u0,u1,u2],_=>h u0 u1 u2
theorem QQ {K:PySem.W.Frag} {fd:FuncData} {a0 a1 a2 a3:Str} (h: ∀u0 u1 u2 u3,bindArgs fd ⟨[u0,u1,u2,u3], []⟩=pure [(a0,u0),(a1,u1),(a2,u2),(a3,u3)]):Binds K fd [a0,a1,a2,a3] []:= .all fun us hl=>match us,hl with| [u0,u1,u2,u3],_=>h u0 u1 u2 u3
theorem Fp {K:PySem.W.Frag} {fd:FuncData} {a0 a1 a2 a3 a4:Str} (h: ∀u0 u1 u2 u3 u4,bindArgs fd ⟨[u0,u1,u2,u3,u4], []⟩=pure [(a0,u0),(a1,u1),(a2,u2),(a3,u3),(a4,u4)]):Binds K fd [a0,a1,a2,a3,a4] []:= .all fun us hl=>match us,hl with| [u0,u1,u2,u3,u4],_=>h u0 u1 u2 u3 u4
end Wg
namespace Wg
open PySem PySem.Spec PyProof.Rows L2
def hide (D:Addr) (H:Hp):Hp:=fun b=>if b=D then none else H b
theorem hide_ne {D b:Addr} {H:Hp} (h:b≠D):hide D H b=H b:=by unfold hide;rw[if_neg h]
theorem vc {D b:Addr} {H:Hp} {o:HO} (h:hide D H b=some o):H b=some o∧b≠D:=by
 unfold hide at h
 by_cases e:b=D
 ·rw[if_pos e] at h;cases h
 ·rw[if_neg e] at h;exact ⟨h,e⟩
theorem dF (D:Addr) (H:Hp):ae (hide D H) H:=fun b o h=>(vc h).1
theorem se {D:Addr} {H H':Hp} (s:ae H H'):ae (hide D H) (hide D H'):=fun b o h=>by
 obtain ⟨h1,h2⟩:=vc h
 rw[hide_ne h2];exact s b o h1
theorem si (D:Addr) (H:Hp) (o:HO):hide D (upd H D o)=hide D H:=by
 funext b
 unfold hide
 by_cases e:b=D
 ·rw[if_pos e,if_pos e]
 ·rw[if_neg e,if_neg e,ay e]
theorem aE {H:Hp} {p:Addr} {o:HO} (h:H p=none):ae H (upd H p o):=fun b u e=>by rw[ay (bZ e h)];exact e
theorem cP {H H':Hp} {p:Addr} {o:HO} (s:ae H H') (h:H p=none):ae H (upd H' p o):=fun b u e=>by rw[ay (bZ e h)];exact s b u e
theorem j7 {J:It} {H1:Hp} {D:Addr} {σ:L2.St} {vs:List Nat} {g:TG} {te:TE} {Qf:Hp→Prop} (hD:H1 D=none) (n:Nat) (hn:n≤sizeLine) (Pr:Nat→V→Hp→Prop)
  (eW: ∀k v H H',k<n→ae H H'→Pr k v H→Pr k v H')
  (hgo: ∀i Hh,i<n→ae H1 Hh→J.go i Hh) (hstop: ∀Hh,ae H1 Hh→J.stop n Hh)
  (turn: ∀i Hh x H',i<n→ae H1 Hh→(∃acc,Hh D=some (.lst acc))→J.dw i Hh x H'→ ∀C:VK,(∀y H4,ae Hh H4→Pr i y (hide D H4)→C y H4)→g x (wipe σ vs) H' fun σ2 H2=>wipe σ2 vs=wipe σ vs∧te σ2 H2 C)
  (fin: ∀Hh xs,ae H1 Hh→xs.length=n→(∀(k:Nat) (v:V),xs[k]?=some v→Pr k v Hh)→Hh D=some (.lst xs)→Qf Hh):
  ∃W:Nat→Nat→Hp→Prop,(∃m,W 0 m (upd H1 D (.lst [])))∧ ∀i m H,W i m H→
   (J.stop i H∧Qf H)∨(J.go i H∧ ∃Nx:Hp→Prop,(∀H',Nx H'→ ∃m',m'<m∧W (i+1) m' H')∧ ∀x H',J.dw i H x H'→g x (wipe σ vs) H' fun σ2 H2=>wipe σ2 vs=wipe σ vs∧pj σ2 H2 fun b H3=>
    if b=true then te σ2 H3 fun y H4=> ∃acc,H4 D=some (.lst acc)∧acc.length<sizeLine∧Nx (upd H4 D (.lst (acc++ [y]))) else Nx H3):=by
 refine ⟨fun i m H=>i+m=n∧ae H1 H∧ ∃xs:List V,xs.length=i∧H D=some (.lst xs)∧ ∀(k:Nat) (v:V),xs[k]?=some v→Pr k v (hide D H),⟨n,by omega,aE hD, [],rfl,ak,fun k v e=>by simp at e⟩,?_⟩
 rintro i m H ⟨hm,s1,xs,hl,hx,hp⟩
 by_cases hi:i=n
 ·subst hi
  exact .inl ⟨hstop H s1,fin H xs s1 hl (fun k v e=>eW k v _ _ (by have:=(List.getElem?_eq_some_iff.mp e).1;omega) (dF D H) (hp k v e)) hx⟩
 ·have hi:i<n:=by omega
  refine .inr ⟨hgo i H hi s1,fun H'=> ∃m',m'<m∧i+1+m'=n∧ae H1 H'∧ ∃xs:List V,xs.length=i+1∧H' D=some (.lst xs)∧ ∀(k:Nat) (v:V),xs[k]?=some v→Pr k v (hide D H'),fun H' h=>?_,fun x H' hy=>?_⟩
  ·obtain ⟨m',h1,h2,h3⟩:=h
   exact ⟨m',h1,h2,h3⟩
  ·refine turn i H x H' hi s1 ⟨xs,hx⟩ hy _ fun y H4 s4 p4=>?_
   refine ⟨xs,s4 _ _ hx,by omega,m-1,by omega,by omega,cP (s1.trans s4) hD,xs++ [y],by rw[List.length_append,hl];rfl,ak,fun k v e=>?_⟩
   rw[si]
   by_cases hk:k<xs.length
   ·rw[List.getElem?_append_left hk] at e
    exact eW k v _ _ (by omega) (se s4) (hp k v e)
   ·rw[List.getElem?_append_right (by omega)] at e
    have hk0:k-xs.length=0:=by
     have:=(List.getElem?_eq_some_iff.mp e).1
     simp at this;omega
    rw[hk0] at e
    have e:=Option.some.inj e
    subst e
    have:k=i:=by omega
    subst this
    exact p4
theorem eZ {J:It} {H1:Hp} {D:Addr} {σ:L2.St} {vs:List Nat} {g:TG} {te:TE} {Qf:Hp→Prop} (hD:H1 D=none) (n:Nat) (hn:n≤sizeLine) (val:Nat→V)
  (hgo: ∀i Hh,i<n→ae H1 Hh→J.go i Hh) (hstop: ∀Hh,ae H1 Hh→J.stop n Hh)
  (turn: ∀i Hh x H',i<n→ae H1 Hh→J.dw i Hh x H'→ ∀C:VK,(∀H4,ae Hh H4→C (val i) H4)→g x (wipe σ vs) H' fun σ2 H2=>wipe σ2 vs=wipe σ vs∧te σ2 H2 C)
  (fin: ∀Hh,ae H1 Hh→Hh D=some (.lst ((List.range n).map val))→Qf Hh):
  ∃W:Nat→Nat→Hp→Prop,(∃m,W 0 m (upd H1 D (.lst [])))∧ ∀i m H,W i m H→
   (J.stop i H∧Qf H)∨(J.go i H∧ ∃Nx:Hp→Prop,(∀H',Nx H'→ ∃m',m'<m∧W (i+1) m' H')∧ ∀x H',J.dw i H x H'→g x (wipe σ vs) H' fun σ2 H2=>wipe σ2 vs=wipe σ vs∧pj σ2 H2 fun b H3=>
    if b=true then te σ2 H3 fun y H4=> ∃acc,H4 D=some (.lst acc)∧acc.length<sizeLine∧Nx (upd H4 D (.lst (acc++ [y]))) else Nx H3):=by
 refine j7 hD n hn (fun k v _=>v=val k) (fun _ _ _ _ _ _ h=>h) hgo hstop (fun i Hh x H' hi s1 _ hy C hC=>turn i Hh x H' hi s1 hy C fun H4 s4=>hC _ H4 s4 rfl) fun Hh xs s1 hl hp hx=>fin Hh s1 ?_
 have:xs=(List.range n).map val:=by
  refine List.ext_getElem? fun k=>?_
  by_cases hk:k<n
  ·rw[List.getElem?_map,List.getElem?_range hk]
   have e:=List.getElem?_eq_getElem (l:=xs) (i:=k) (by omega)
   rw[e,hp k _ e];rfl
  ·rw[List.getElem?_eq_none (by omega),List.getElem?_eq_none (by rw[List.length_map,List.length_range];omega)]
 rw[←this];exact hx
theorem bp {X:Cx} {x:Str} {i:Int} {tk:Tok} {pos:Pos} (hg:Gl X x) (hm:X.mg x=some (.int i tk)) (hd:(x==("__debug__" :Str))=false:=by decide):PE X (.Name x pos) (tC (.int i)):=CK hg hm (show RelV (.int i) (.int i tk) from ⟨tk,rfl⟩) hd
theorem lT {X:Cx} {x:Str} {a:Addr} {pos:Pos} (hg:Gl X x) (hm:X.mg x=some (.ref a)) (hd:(x==("__debug__" :Str))=false:=by decide):PE X (.Name x pos) (tC (.ref a)):=CK hg hm (show RelV (.ref a) (.ref a) from rfl) hd
theorem QL {X:Cx} {K:PySem.W.Frag} (h:X.K=K):i7 X (su K):=by subst h;exact fR
theorem Me {X:Cx} {K:PySem.W.Frag} {e:Expr} {f:Str} {pos:Pos} {ta:TE} (h:X.K=K) (he:PE X e ta) (hb:attributeBase e f X.env (eval e X.env)=eval e X.env):PE X (.Attribute e f pos) (kc K ta f):=by subst h;exact bI he hb
theorem rM {l:List Int} {i:Nat} {x:V} (h:(l.map V.int)[i]?=some x):x= .int (l.getD i 0)∧i<l.length:=by
 rw[List.getElem?_map] at h
 cases e:l[i]? with
 |none=>rw[e] at h;cases h
 |some z=>
  rw[e] at h
  refine ⟨?_,(List.getElem?_eq_some_iff.mp e).1⟩
  rw[List.getD_eq_getElem?_getD,e]
  exact (Option.some.inj h).symm
theorem kd {l:List Int} {i:Nat} (h:i<l.length):(l.map V.int)[i]?=some (.int (l.getD i 0)):=by
 rw[List.getElem?_map,List.getElem?_eq_getElem h,List.getD_eq_getElem?_getD,List.getElem?_eq_getElem h];rfl
end Wg
namespace Wg
open PySem PySem.Spec PyProof.Rows L2
section
variable {P:Program} {w:World} {K:PySem.W.Frag} {mg:Str→Option Value} {base:Heap} {A:aY}
theorem _root_.L2.ae.none {H H':Hp} {b:Addr} (s:ae H H') (h:H' b=none):H b=none:=by
 cases q:H b with
 |none=>rfl
 |some o=>rw[s b o q] at h;cases h
def vN (F:List Nat):List V:=F.map fun (n:Nat)=>V.int (n:Int)
theorem yU (F:List Nat):vN F=(F.map fun (n:Nat)=>(n:Int)).map V.int:=by unfold vN;rw[List.map_map];rfl
theorem aR (F:List Nat):(vN F).length=F.length:=by simp [vN]
theorem dE {F:List Nat} {i:Nat} (h:i<F.length):(vN F)[i]?=some (.int ((F.getD i 0:Nat):Int)):=by
 unfold vN
 rw[List.getElem?_map,List.getElem?_eq_getElem h,List.getD_eq_getElem?_getD,List.getElem?_eq_getElem h];rfl
theorem dD {F:List Nat} {i:Nat} {x:V} (h:(vN F)[i]?=some x):x= .int ((F.getD i 0:Nat):Int)∧i<F.length:=by
 have hi:i<F.length:=by
  have:=(List.getElem?_eq_some_iff.mp h).1
  rwa [aR] at this
 rw[dE hi] at h
 exact ⟨(Option.some.inj h).symm,hi⟩
theorem jV (F G:List Nat):vN (F++G)=vN F++vN G:=by unfold vN;rw[List.map_append]
theorem FC {α:Type} (l:List α) (a b:Nat):(l.drop (min a l.length)).take (min b l.length-min a l.length)=(l.drop a).take (b-a):=by
 rcases Nat.le_total a l.length with h|h
 ·rw[Nat.min_eq_left h]
  rcases Nat.le_total b l.length with g|g
  ·rw[Nat.min_eq_left g]
  ·rw[Nat.min_eq_right g,List.take_of_length_le (Nat.le_of_eq List.length_drop),List.take_of_length_le (by rw[List.length_drop];exact Nat.sub_le_sub_right g a)]
 ·rw[Nat.min_eq_right h,List.drop_length,List.drop_of_length_le h,List.take_nil,List.take_nil]
theorem gg (F:List Nat) (a b:Nat):dS (vN F) (some (a:Int)) (some (b:Int))=vN ((F.drop a).take (b-a)):=by
 unfold dS HT.c8 vN
 simp only [List.length_map]
 rw[if_neg (by lia),if_neg (by lia),Int.toNat_natCast,Int.toNat_natCast,←List.map_drop,←List.map_take,FC]
theorem qa (F:List Nat) (b:Nat):dS (vN F) none (some (b:Int))=vN (F.take b):=by
 unfold dS HT.c8 vN
 simp only [List.length_map]
 rw[if_neg (by lia),Int.toNat_natCast,←List.map_drop,←List.map_take,List.drop_zero,Nat.sub_zero]
 congr 1
 rw[List.take_eq_take_iff];lia
theorem uK (F:List Nat) (a:Nat):dS (vN F) (some (a:Int)) none=vN (F.drop a):=by
 unfold dS HT.c8 vN
 simp only [List.length_map]
 rw[if_neg (by lia),Int.toNat_natCast,←List.map_drop,←List.map_take]
 congr 1
 rw[show F.drop (min a F.length)=F.drop a by rw[List.drop_eq_drop_iff];lia,List.take_of_length_le (by rw[List.length_drop];lia)]
theorem tP (k:Nat):256^k=2^(8*k):=by rw[Nat.pow_mul]
theorem Fg {nb:Nat} (h:nb≤100000000):zk (8*(nb:Int)-8) (-1) (-8) nb:=by
 refine ⟨by decide,by decide,?_,?_⟩
 ·unfold Builtin.Range.small Builtin.Range.rangeSize
  simp only [Builtin.Range.rangeFitsLong,Bool.and_eq_true,Bool.or_eq_true,decide_eq_true_eq,beq_iff_eq,show¬((-8:Int)>0) by decide,if_false,show-(-8:Int)=8 by decide]
  split<;>lia
 ·unfold Builtin.Range.rangeSize
  rw[if_neg (by decide),show-(-8:Int)=8 by decide]
  split<;>lia
abbrev oz (H:Hp) (Q:VK) (l:List Nat):Prop:= ∀D H',H D=none→ae H H'→H' D=some (.lst (vN l))→Q (.ref D) H'
theorem CL: ∀(l:List Nat),(∀x∈l,x<256)→ ∀n,l.foldl (fun n c=>256*n+c) n<(n+1)*256^l.length
 | [],_,n=>by simp
 |x::l,h,n=>by
  have:=CL l (fun y hy=>h y (List.mem_cons_of_mem _ hy)) (256*n+x)
  rw[List.foldl_cons,List.length_cons,Nat.pow_succ]
  have hx:=h x (List.mem_cons_self ..)
  have h2:(256*n+x+1)*256^l.length≤((n+1)*256)*256^l.length:=Nat.mul_le_mul_right _ (by lia)
  have e:(n+1)*(256^l.length*256)=(n+1)*256*256^l.length:=by rw[Nat.mul_comm (256^l.length),Nat.mul_assoc]
  lia
theorem vf {l:List Nat} (h: ∀x∈l,x<256):bg l<256^l.length:=by
 have:=CL l h 0
 rwa [Nat.zero_add,Nat.one_mul] at this
theorem qv {α β:Type} (f:β→α→β) (l:List α) (i:Nat) (h:i<l.length) (b:β):(l.take (i+1)).foldl f b=f ((l.take i).foldl f b) l[i]:=by
 rw[List.take_succ,List.getElem?_eq_getElem h,List.foldl_append];rfl
theorem sr {l:List Nat} {m i:Nat} (h: ∀x∈l,x<m) (hi:i<l.length):l.getD i 0<m:=h _ (by rw[List.getD_eq_getElem?_getD,List.getElem?_eq_getElem hi];exact List.getElem_mem hi)
theorem getD_at {l:List Nat} {i:Nat} (hi:i<l.length):l.getD i 0=l[i]:=by rw[List.getD_eq_getElem?_getD,List.getElem?_eq_getElem hi];rfl
theorem yu {n b:Nat} (h:b<256):(256*n)|||b=256*n+b:=by
 have:=Nat.two_pow_add_eq_or_of_lt (i:=8) h n
 exact this.symm
theorem Ab {n k:Nat} (h:n<2^k):Builtin.Int.intBits ((n:Nat):Int)≤k:=by rw[M8];exact FH h
theorem yi {J:It} {g:TG} {tb:TS} {D:Ends} {σ:L2.St} {H:Hp} (n:Nat) (Pv:Nat→L2.St→Hp→Prop) (h0:Pv 0 σ H) (hgo: ∀i σ H,i<n→Pv i σ H→J.go i H) (hstop: ∀σ H,Pv n σ H→J.stop n H)
  (hs: ∀i σ H x H',i<n→Pv i σ H→J.dw i H x H'→g x σ H' fun σ2 H2=>tb {D with nx:=Pv (i+1),ct:=Pv (i+1),bk:=D.nx} σ2 H2) (hd: ∀σ H,Pv n σ H→D.nx σ H):
  ∃W:Nat→Nat→L2.St→Hp→Prop,(∃m,W 0 m σ H)∧ ∀i m σ H,W i m σ H→
   (J.stop i H∧D.nx σ H)∨(J.go i H∧ ∃N:L2.St→Hp→Prop,(∀σ' H',N σ' H'→ ∃m',m'<m∧W (i+1) m' σ' H')∧ ∀x H',J.dw i H x H'→g x σ H' fun σ2 H2=>tb {D with nx:=N,ct:=N,bk:=D.nx} σ2 H2):=by
 refine ⟨fun i m σ H=>i+m=n∧Pv i σ H,⟨n,by lia,h0⟩,?_⟩
 rintro i m σ H ⟨hm,p⟩
 by_cases hi:i=n
 ·subst hi
  exact .inl ⟨hstop σ H p,hd σ H p⟩
 ·exact .inr ⟨hgo i σ H (by lia) p,Pv (i+1),fun σ' H' p'=>⟨m-1,by lia,by lia,p'⟩,fun x H' y=>hs i σ H x H' (by lia) p y⟩
theorem map_getD {f:Nat→Nat} (l:List Nat):(List.range l.length).map (fun i=>V.int ((f (l.getD i 0):Nat):Int))=vN (l.map f):=by
 unfold vN
 rw[List.map_map]
 refine List.ext_getElem (by simp) fun i h1 h2=>?_
 simp at h1 h2
 simp [List.getD_eq_getElem?_getD,List.getElem?_eq_getElem h2]
theorem i5 {X:Cx} {K:PySem.W.Frag} {pos:Pos} {es:List Expr} {k:Nat} {t:jQ} {n:Nat} (h:X.K=K) (hc:X.calm=true) (hg:oI X es t)
  (hn:(assignEach es X.env).length=n:=by rfl) (hst:(assignEach es X.env).findIdx? (·.1)=none:=by rfl):PG X (.Tuple es k pos) (wt K n t):=by subst h;exact Fb hc hg hn hst
theorem wG {X:Cx} {K:PySem.W.Frag} (h:X.K=K):eY X (.builtin "len") (rW K):=by subst h;exact jA
theorem gi {as:List Addr} {i:Nat} {x:V} (h:(as.map V.ref)[i]?=some x): ∃a,x= .ref a∧as[i]?=some a:=by
 rw[List.getElem?_map] at h
 cases e:as[i]? with
 |none=>rw[e] at h;cases h
 |some a=>rw[e] at h;exact ⟨a,(Option.some.inj h).symm,rfl⟩
theorem e9 {as:List Addr} {i:Nat} (h:i<as.length): ∃a,(as.map V.ref)[i]?=some (.ref a)∧as[i]?=some a:=⟨as[i],by rw[List.getElem?_map,List.getElem?_eq_getElem h];rfl,List.getElem?_eq_getElem h⟩
def bn (b:Sound.Bytes):List Nat:=b.map UInt8.toNat
theorem bM (b:Sound.Bytes):(bn b).length=b.length:=by unfold bn;rw[List.length_map]
theorem fU (b:Sound.Bytes): ∀x∈bn b,x<256:=fun x hx=>by
 obtain ⟨c,_,rfl⟩:=List.mem_map.mp hx
 exact c.toNat_lt
theorem fY (b:Sound.Bytes) (n:Nat):(bn b).drop n=bn (b.drop n):=by unfold bn;rw[List.map_drop]
theorem eM (b:Sound.Bytes) (n:Nat):(bn b).take n=bn (b.take n):=by unfold bn;rw[List.map_take]
theorem OM (a b:Sound.Bytes):bn (a++b)=bn a++bn b:=by unfold bn;rw[List.map_append]
def qH (i n:Nat):L2.St→Hp→Nat:=fun σ _=>match σ[i]? with
 |some (some (.int p))=>n-p.toNat
 |_=>0
theorem zF {c:TT} {tb:TS} {D:Ends} {σ:L2.St} {H:Hp} (Pv:L2.St→Hp→Prop) (μ:L2.St→Hp→Nat) (h0:Pv σ H)
  (hs: ∀σ H,Pv σ H→ ∀C:Bool→Hp→Prop,(∀H1,tb {D with nx:=fun σ' H'=>Pv σ' H'∧μ σ' H'<μ σ H,ct:=fun σ' H'=>Pv σ' H'∧μ σ' H'<μ σ H,bk:=D.nx} σ H1→C true H1)→(∀H1,D.nx σ H1→C false H1)→c σ H C):Bl c tb D σ H:=by
 refine ⟨fun m σ H=>m=μ σ H∧Pv σ H,⟨_,rfl,h0⟩,?_⟩
 rintro m σ H ⟨rfl,p⟩
 exact hs σ H p _ (fun H1 h=>⟨_,fun σ' H' ⟨p',l⟩=>⟨_,l,rfl,p'⟩,h⟩) (fun H1 h=>h)
def newOf (H H':Hp):Hp:=fun b=>match H b with
 |none=>H' b
 |some _=>none
theorem ki {H H':Hp} {b:Addr} (h:H b=none):newOf H H' b=H' b:=by unfold newOf;rw[h]
theorem wk {H H':Hp} {b:Addr} {o:HO} (h:newOf H H' b=some o):H b=none∧H' b=some o:=by
 unfold newOf at h
 cases e:H b with
 |none=>rw[e] at h;exact ⟨rfl,h⟩
 |some u=>rw[e] at h;cases h
theorem GU (H H':Hp):ae (newOf H H') H':=fun b o h=>(wk h).2
def Lc:Sp:=fun vs H Q _=> ∃c n:Nat,vs= [.int c, .int n]∧c≤1000∧oz H Q (eE c n)
theorem tp:aG ["count", "number", "shift"] ["count", "number"] (aB A5):=⟨rfl,rfl,rfl,by decide+kernel,rfl,by decide+kernel,by decide+kernel⟩
theorem Je (T:Txt K mg A):aA P w K mg base aQ 1 A.lY A.kC ["count", "number"] Lc:=by
 refine T.zo.ok tp (fun vs H Q E h=>?_) (fun cdv Ar outer s H vs Q E hr h=>?_)
 ·obtain ⟨c,n,rfl,_⟩:=h
  rfl
 ·obtain ⟨c,n,rfl,hc,k⟩:=h
  refine ⟨_,aj (aM (dB (own:= [("shift",2)]) rfl tp.nd (Q4 rfl T.dJ (aa (aq cZ (aq gz ao (pv 0)) ao) (aa (gS gR ao) (aa (gS gR ao) ah))))
   (cv (by kernel_rfl)) (fun _ _ _ _ _=>aN (i:=2) tp.nd rfl (Or.inl rfl)) (fun _ _ _ _ _=>c9) (fun _ _ _ _ _=>aq kU (aq fg (pv 1) (pv 2)) ao))),?_⟩
  refine ⟨_,rfl,_,_,rfl,rfl, .inl ⟨by decide,by decide⟩,_,_,rfl,rfl,_,rfl,_,rfl,8*(c:Int)-8,-1,-8,c,rfl,Fg (by lia),fun D hD=>?_⟩
  refine eZ (J:=vn (8*(c:Int)-8) (-8) c) hD c (by rw[sizeLine_eq];lia) (fun i=> .int ((n/256^(c-1-i)%256:Nat):Int)) (fun i Hh hi s1=>hi) (fun Hh s1=>Nat.le_refl _) ?_ ?_
  ·rintro i Hh z H' hi s1 ⟨rfl,rfl⟩ C hC
   have e1:8*(c:Int)-8+(i:Nat)*(-8)=((8*(c-1-i):Nat):Int):=by lia
   rw[e1]
   refine ⟨rfl,_,rfl,_,rfl,_,_,rfl,rfl,(by lia),_,_,rfl,rfl,?_⟩
   have e2:((n:Nat):Int)/2^((8*(c-1-i):Nat):Int).toNat=((n/256^(c-1-i):Nat):Int):=by rw[Int.toNat_natCast,tP];simp
   rw[e2,JE]
   exact hC _ (ae.refl _)
  ·intro Hh s1 hx
   refine k D Hh hD s1 (hx.trans ?_)
   unfold vN eE
   rw[List.map_map]
   rfl
def LD (K:PySem.W.Frag):Sp:=fun vs H Q _=> ∃(q:Addr) (l:List Nat),vs= [.ref q]∧af K H q (vN l)∧l.length≤1000∧(∀x∈l,x<256)∧Q (.int (bg l:Nat)) H
theorem qR:aG ["data", "number", "byte"] ["data"] (aB DP):=⟨rfl,rfl,rfl,by decide+kernel,rfl,by decide+kernel,by decide+kernel⟩
theorem mD (T:Txt K mg A):aA P w K mg base aQ 1 A.n8 A.mq ["data"] (LD K):=by
 refine T.jX.ok qR (fun vs H Q E h=>?_) (fun cdv Ar outer s H vs Q E hr h=>?_)
 ·obtain ⟨q,l,rfl,_⟩:=h
  rfl
 ·obtain ⟨q,l,rfl,hq,hl,hb,k⟩:=h
  refine ⟨_,ai (aC (i:=1) qR.nd rfl (Or.inl rfl) ao)
   (ai (cj PassesOwn.never rfl (dn (K:=K) rfl (pv 0)) (aN (i:=2) qR.nd rfl (Or.inl rfl))
    (aj (aC (i:=1) qR.nd rfl (Or.inl rfl) (aq yk (aq rm (pv 1) ao) (pv 2)))))
   (aj (aM (pv 1)))),?_⟩
  refine ⟨_,rfl,q,rfl,⟨_,hq⟩,?_⟩
  refine fA (K:=K) (a:=q) (xs:=vN l) (fun i σ H'=>H'=H∧ ∃v2:Option V,σ= [some (.ref q),some (.int (bg (l.take i):Nat)),v2]) ⟨rfl,none,rfl⟩ (fun i σ H' _ ⟨e,_⟩=>by rw[e];exact hq) ?_ ?_
  ·rintro i x σ H' hi ⟨rfl,v2,rfl⟩
   obtain ⟨rfl,hil⟩:=dD hi
   have hlt:=vf (l:=l.take i) fun x hx=>hb x (List.mem_of_mem_take hx)
   have hbits:Builtin.Int.intBits ((bg (l.take i):Nat):Int)≤8*i:=by
    rw[tP,List.length_take] at hlt
    exact Ab (Nat.lt_of_lt_of_le hlt (Nat.pow_le_pow_right (by decide) (by lia)))
   have e27:(2:Int)^27=134217728:=by decide
   refine ⟨_,rfl,_,_,rfl,rfl,⟨by lia,by lia⟩,_,rfl,_,_,rfl,rfl,rfl,some (.int (l.getD i 0:Nat)),?_⟩
   have e:bg (l.take (i+1))=256*bg (l.take i)+l.getD i 0:=by
    unfold bg
    rw[qv _ _ _ hil,getD_at hil]
   have ex:Builtin.bitOr (((bg (l.take i):Nat):Int)*2^(8:Int).toNat) ((l.getD i 0:Nat):Int)=((bg (l.take (i+1)):Nat):Int):=by
    have e8:((bg (l.take i):Nat):Int)*2^(8:Int).toNat=((256*bg (l.take i):Nat):Int):=by
     rw[show (2:Int)^(8:Int).toNat=256 by decide];lia
    rw[e8,tQ,yu (sr hb hil),e]
   show [some (V.ref q),some (V.int (Builtin.bitOr _ _)),_]=_
   rw[ex]
  ·rintro σ H' ⟨rfl,v2,rfl⟩
   refine ⟨_,rfl,?_⟩
   have:bg (l.take (vN l).length)=bg l:=by rw[aR,List.take_length]
   rw[this]
   exact k
def Oz (K:PySem.W.Frag):Sp:=fun vs H Q _=> ∃(q:Addr) (l:List Nat),vs= [.ref q]∧af K H q (vN l)∧(∀x∈l,x<256)∧Q (.int (qu l:Nat)) H
theorem jC:aG ["data", "check", "byte"] ["data"] (aB yT):=⟨rfl,rfl,rfl,by decide+kernel,rfl,by decide+kernel,by decide+kernel⟩
theorem QK (n:Nat):Builtin.bitAnd (n:Int) 15=((n%16:Nat):Int):=by
 rw[show (15:Int)=((15:Nat):Int) from rfl,rA,show (15:Nat)=2^4-1 by decide,Nat.and_two_pow_sub_one_eq_mod]
theorem A1 {c:Nat} {H:Hp} {a:Addr} {Qf:V→Hp→Prop} (hs:aP K H a (vN jZ)) (k:Qf (.int (mP c:Nat)) H) {σ:L2.St} (hσ:σ[1]?=some (some (V.int (c:Nat)))):
  gw (du fun i j=> .int (Builtin.bitXor i j)) (gw (rI (fun _ j=>0≤j) fun i j=> .int (i/2^j.toNat)) (fi 1) (tC (.int 4))) (gw (k9 K) (tC (.ref a)) (gw (du fun i j=> .int (Builtin.bitAnd i j)) (fi 1) (tC (.int 15)))) σ H Qf:=by
 refine ⟨_,hσ,_,_,rfl,rfl,(by show (0:Int)≤4;decide),_,hσ,_,_,rfl,rfl,?_⟩
 rw[QK]
 have hm:c%16<jZ.length:=Nat.mod_lt _ (by decide)
 refine (⟨a,_,_,_,rfl,rfl,hs,bL (dE hm),_,_,rfl,rfl,?_⟩)
 have e:Builtin.bitXor (((c:Nat):Int)/2^(4:Int).toNat) ((jZ.getD (c%16) 0:Nat):Int)=((mP c:Nat):Int):=by
  have e1:((c:Nat):Int)/2^(4:Int).toNat=((c/16:Nat):Int):=by rw[show (2:Int)^(4:Int).toNat=16 by decide];lia
  rw[e1,gO];rfl
 rw[e]
 exact k
theorem Rq (T:Txt K mg A):aA P w K mg base aQ 1 A.nJ A.pJ ["data"] (Oz K):=by
 refine T.Cs.ok jC (fun vs H Q E h=>?_) (fun cdv Ar outer s H vs Q E hr h=>?_)
 ·obtain ⟨q,l,rfl,_⟩:=h
  rfl
 ·obtain ⟨q,l,rfl,hq,hb,k⟩:=h
  refine ⟨_,ai (aC (i:=1) jC.nd rfl (Or.inl rfl) ao)
   (ai (cj PassesOwn.never rfl (dn (K:=K) rfl (pv 0)) (aN (i:=2) jC.nd rfl (Or.inl rfl))
    (ai (f7 (i:=1) jC.nd rfl (Or.inl rfl) (pv 2) rK)
    (ai (aC (i:=1) jC.nd rfl (Or.inl rfl) (aq jB (aq fg (pv 1) ao) (bS (Be (K:=K) rfl) (lT rfl T.B0) (aq kU (pv 1) ao) (fun _ _=>rfl))))
    (aj (aC (i:=1) jC.nd rfl (Or.inl rfl) (aq jB (aq fg (pv 1) ao) (bS (Be (K:=K) rfl) (lT rfl T.B0) (aq kU (pv 1) ao) (fun _ _=>rfl))))))))
   (aj (aM (aq jB (pv 1) ao)))),?_⟩
  refine ⟨_,rfl,q,rfl,⟨_,hq⟩,?_⟩
  have hS: ∀H,aP K H A.pQ (vN jZ):=fun H=>T.Nb H
  refine fA (K:=K) (a:=q) (xs:=vN l) (fun i σ H'=>H'=H∧ ∃v2:Option V,σ= [some (.ref q),some (.int ((l.take i).foldl qh 0xFFFFFFFF:Nat)),v2]) ⟨rfl,none,rfl⟩ (fun i σ H' _ ⟨e,_⟩=>by rw[e];exact hq) ?_ ?_
  ·rintro i x σ H' hi ⟨rfl,v2,rfl⟩
   obtain ⟨rfl,hil⟩:=dD hi
   refine ⟨_,rfl,_,rfl,_,_,rfl,rfl,?_⟩
   dsimp only
   rw[gO]
   refine A1 (hS _) (A1 (hS _) ⟨rfl,some (.int (l.getD i 0:Nat)),?_⟩ rfl) rfl
   rw[qv _ _ _ hil,←getD_at hil]
   rfl
  ·rintro σ H' ⟨rfl,v2,rfl⟩
   refine ⟨_,rfl,_,_,rfl,rfl,?_⟩
   dsimp only
   rw[aR,List.take_length,show (4294967295:Int)=((4294967295:Nat):Int) from rfl,gO]
   exact k
theorem kD (c n:Nat):(eE c n).length=c:=by unfold eE;rw[List.length_map,List.length_range]
theorem IL (c n:Nat): ∀x∈eE c n,x<256:=fun x hx=>by
 unfold eE at hx
 obtain ⟨i,_,rfl⟩:=List.mem_map.mp hx
 exact Nat.mod_lt _ (by decide)
def O7:Sp:=fun vs H Q _=> ∃a:Nat,vs= [.int a]∧a<256∧oz H Q ((List.range 256).map (Sound.mul a))
theorem gG:aG ["factor", "table", "power", "step", "product"] ["factor"] (aB Dy):=⟨rfl,rfl,rfl,by decide+kernel,rfl,by decide+kernel,by decide+kernel⟩
theorem rN (a k:Nat):(fV a k).length=2^k:=by unfold fV;rw[List.length_map,List.length_range]
theorem C3 (T:Txt K mg A):aA P w K mg base aQ 1 A.m7 A.lZ ["factor"] O7:=by
 refine T.ua.ok gG (fun vs H Q E h=>?_) (fun cdv Ar outer s H vs Q E hr h=>?_)
 ·obtain ⟨a,rfl,_⟩:=h
  rfl
 ·obtain ⟨a,rfl,ha,k⟩:=h
  refine ⟨_,ai (aC (i:=1) gG.nd rfl (Or.inl rfl) (dy (aa ao ah)))
   (ai (aC (i:=2) gG.nd rfl (Or.inr rfl) (pv 0))
   (ai (cj PassesOwn.never rfl (eN rfl T.dJ (aa ao ah)) (aN (i:=3) gG.nd rfl (Or.inl rfl))
    (ai (aC (i:=1) gG.nd rfl (Or.inl rfl) (aq vU (pv 1) (dB (own:= [("product",4)]) rfl gG.nd (dn (K:=K) rfl (pv 1)) (cv (by kernel_rfl)) (fun _ _ _ _ _=>aN (i:=4) gG.nd rfl (Or.inl rfl)) (fun _ _ _ _ _=>c9) (fun _ _ _ _ _=>aq jB (pv 4) (pv 2)))))
    (ai (f7 (i:=2) gG.nd rfl (Or.inr rfl) ao Ax)
    (aj (bc (aU fH (pv 2) ao (aT _)) (aj (f7 (i:=2) gG.nd rfl (Or.inr rfl) (bp rfl T.Lx) rK)) bA)))))
   (aj (aM (pv 1))))),?_⟩
  refine ⟨by rw[sizeLine_eq];show 1≤_;lia,fun t0 ht0=>⟨_,rfl,_,rfl,by decide,by decide,?_⟩⟩
  refine fM (lo:=0) (n:=8) (fun j σ H'=> ∃(t:Addr) (v3 v4:Option V),H t=none∧ae H H'∧H' t=some (.lst (vN (fV a j)))∧σ= [some (.int a),some (.ref t),some (.int (cA a j:Nat)),v3,v4]) (cV t0 none none ⟨ht0,aE ht0,ak,rfl⟩) ?_ ?_
  ·rintro j σ H1 hj ⟨t,v3,v4,ht,s1,hx,rfl⟩
   have hp:=tw ha j
   have h2j:2^j≤128:=Nat.le_trans (Nat.pow_le_pow_right (by decide) (show j≤7 by lia)) (by decide)
   refine ⟨_,rfl,_,rfl,t,rfl,⟨_,af.of hx⟩,fun D hD=>?_⟩
   refine eZ (J:=cY K t) hD (2^j) (by rw[sizeLine_eq];lia) (fun i=> .int (((fV a j).getD i 0^^^cA a j:Nat):Int)) (fun i Hh hi t1=>(aS _ _ ⟨t1.seq (af.of hx),dE (by rw[rN];exact hi)⟩)) (fun Hh t1=>⟨_,t1.seq (af.of hx),by rw[aR,rN];exact Nat.le_refl _⟩) ?_ ?_
   ·rintro i Hh z H' hi t1 ⟨rfl,hz⟩ C hC
    obtain ⟨rfl,_⟩:=dD (hz _ (t1.seq (af.of hx)))
    refine ⟨rfl,_,rfl,_,rfl,_,_,rfl,rfl,?_⟩
    rw[gO]
    exact hC _ (ae.refl _)
   ·intro H2 s2 hx2
    have e2:(List.range (2^j)).map (fun i=>V.int (((fV a j).getD i 0^^^cA a j:Nat):Int))=vN ((fV a j).map fun p=>p^^^cA a j):=by
     unfold vN
     rw[List.map_map]
     refine List.ext_getElem (by rw[List.length_map,List.length_map,List.length_range,rN]) fun i h1 h2=>?_
     simp at h1 h2
     simp [List.getD_eq_getElem?_getD,List.getElem?_eq_getElem h2]
    rw[e2] at hx2
    refine (⟨t,D,_,_,rfl,rfl,s2 _ _ hx,hx2,(by rw[aR,aR,List.length_map,rN,sizeLine_eq];lia),fun p hp2=>?_⟩)
    rw[←jV,←QO]
    have n0:H p=none:=(s1.trans s2).none hp2
    refine ⟨_,rfl,_,_,rfl,rfl,⟨by decide,by decide,by rw[Int.natAbs_natCast];lia⟩,?_⟩
    have e3:((cA a j:Nat):Int)*2^(1:Int).toNat=((2*cA a j:Nat):Int):=by
     rw[show (2:Int)^(1:Int).toNat=2 by decide];lia
    dsimp only
    rw[e3]
    refine ⟨_,rfl,_,_,rfl,rfl,_,rfl,?_⟩
    refine bX (fun hc2=>?_) fun hc2=>?_
    ·have hc2:(255:Int)<((2*cA a j:Nat):Int):=of_decide_eq_true hc2
     refine ⟨_,rfl,_,_,rfl,rfl,cV p (some (.int (0+(j:Nat)))) v4 ⟨n0,cP (s1.trans s2) n0,ak,?_⟩⟩
     show [_,_,some (V.int (Builtin.bitXor ((2*cA a j:Nat):Int) 285)),_,_]=_
     rw[show (285:Int)=((285:Nat):Int) from rfl,gO]
     have:cA a (j+1)=2*cA a j^^^285:=by
      show Sound.times2 _=_
      unfold Sound.times2
      rw[if_pos (by lia)]
     rw[this]
    ·have hc2: ¬(255:Int)<((2*cA a j:Nat):Int):=fun z=>hc2 (decide_eq_true z)
     refine (cV p (some (.int (0+(j:Nat)))) v4 ⟨n0,cP (s1.trans s2) n0,ak,?_⟩)
     have:cA a (j+1)=2*cA a j:=by
      show Sound.times2 _=_
      unfold Sound.times2
      rw[if_neg (by lia)]
     rw[this];rfl
  ·rintro σ H1 ⟨t,v3,v4,ht,s1,hx,rfl⟩
   exact ⟨_,rfl,k t H1 ht s1 hx⟩
theorem K7 (a b:Int):fB (.int a) (.int b)=decide (a=b):=by
 by_cases h:a=b
 ·subst h;simp [fB]
 ·simp [fB,h]
theorem Ng (F:List Nat):(vN F).all fZ=true:=by
 rw[List.all_eq_true]
 intro x hx
 obtain ⟨n,_,rfl⟩:=List.mem_map.mp hx
 rfl
def QA:Sp:=fun vs H Q _=> ∃a:Nat,vs= [.int a]∧(a<256∧a≠0)∧ ∀H',ae H H'→Q (.int (Sound.inverse a:Nat)) H'
theorem GO:aG ["number"] ["number"] (aB C7):=⟨rfl,rfl,rfl,by decide+kernel,rfl,by decide+kernel,by decide+kernel⟩
theorem zE (T:Txt K mg A):aA P w K mg base aQ 2 A.pR A.my ["number"] QA:=by
 refine T.u7.ok GO (fun vs H Q E h=>?_) (fun cdv Ar outer s H vs Q E hr h=>?_)
 ·obtain ⟨a,rfl,_⟩:=h
  rfl
 ·obtain ⟨a,rfl,⟨ha,h0⟩,k⟩:=h
  refine ⟨_,aj (aM (pS (K:=K) rfl PySem.F.plainAttrs_list PySem.F.slot_list_index PySem.F.type_list_index PQ (aL (C3 (K:=K) T) hr rfl T.xx T.ua.kp T.yg .nil aI (aa (pv 0) ah)) (aa ao ah))),?_⟩
  obtain ⟨i1,i2,i3⟩:=uL ha h0
  refine ⟨_,rfl,a,rfl,ha,fun D H1 hD s1 hx=>?_⟩
  have gt: ∀b,b<256→((List.range 256).map (Sound.mul a)).getD b 0=Sound.mul a b:=fun b hb=>by
   rw[List.getD_eq_getElem?_getD,List.getElem?_map,List.getElem?_range hb];rfl
  have hl:((List.range 256).map (Sound.mul a)).length=256:=by rw[List.length_map,List.length_range]
  refine ⟨.inl ⟨rfl,_,af.of hx⟩,gH D _ (.int 1) (Sound.inverse a) _ ⟨rfl,rfl,af.of hx,rfl,Ng _,dE (by rw[hl];exact i1),?_,fun m z' hm hz=>?_,k _ s1⟩⟩
  ·rw[gt _ i1,i2];rfl
  ·obtain ⟨rfl,_⟩:=dD hz
   rw[gt m (by lia),K7]
   have:=i3 m hm
   exact decide_eq_false (by lia)
def IF (K:PySem.W.Frag):Sp:=fun vs H Q _=> ∃(a:Nat) (q:Addr) (l:List Nat),vs= [.int a, .ref q]∧a<256∧af K H q (vN l)∧(∀x∈l,x<256)∧l.length≤100000∧oz H Q (l.map (Sound.mul a))
theorem qi:aG ["factor", "data", "table", "byte"] ["factor", "data"] (aB DW):=⟨rfl,rfl,rfl,by decide+kernel,rfl,by decide+kernel,by decide+kernel⟩
theorem uG (T:Txt K mg A):aA P w K mg base aQ 2 A.oQ A.nO ["factor", "data"] (IF K):=by
 refine T.qL.ok qi (fun vs H Q E h=>?_) (fun cdv Ar outer s H vs Q E hr h=>?_)
 ·obtain ⟨a,q,l,rfl,_⟩:=h
  rfl
 ·obtain ⟨a,q,l,rfl,ha,hq,hb,hl,k⟩:=h
  refine ⟨_,ai (aC (i:=2) qi.nd rfl (Or.inr rfl) (aL (C3 (K:=K) T) hr rfl T.xx T.ua.kp T.yg .nil aI (aa (pv 0) ah)))
   (aj (aM (dB (own:= [("byte",3)]) rfl qi.nd (dn (K:=K) rfl (pv 1)) (cv (by kernel_rfl)) (fun _ _ _ _ _=>aN (i:=3) qi.nd rfl (Or.inl rfl)) (fun _ _ _ _ _=>c9) (fun _ _ _ _ _=>bS (eP (K:=K) rfl) (pv 2) (pv 3) (fun _ _=>rfl))))),?_⟩
  refine ⟨_,rfl,a,rfl,ha,fun D H1 hD s1 hx=>⟨_,rfl,q,rfl,⟨_,s1.seq hq⟩,fun D2 hD2=>?_⟩⟩
  refine eZ (J:=cY K q) hD2 l.length (by rw[sizeLine_eq];lia) (fun i=> .int ((Sound.mul a (l.getD i 0):Nat):Int)) (fun i Hh hi t1=>(aS _ _ ⟨t1.seq (s1.seq hq),dE hi⟩)) (fun Hh t1=>⟨_,t1.seq (s1.seq hq),by rw[aR];exact Nat.le_refl _⟩) ?_ ?_
  ·rintro i Hh z H' hi t1 ⟨rfl,hz⟩ C hC
   obtain ⟨rfl,_⟩:=dD (hz _ (t1.seq (s1.seq hq)))
   have hbl:=sr hb hi
   have hg:((List.range 256).map (Sound.mul a)).getD (l.getD i 0) 0=Sound.mul a (l.getD i 0):=by
    rw[List.getD_eq_getElem?_getD,List.getElem?_map,List.getElem?_range hbl];rfl
   have:=dE (F:=(List.range 256).map (Sound.mul a)) (i:=l.getD i 0) (by rw[List.length_map,List.length_range];exact hbl)
   rw[hg] at this
   exact ⟨rfl,_,rfl,_,rfl,D,_,_,_,rfl,rfl,t1.seq (af.of hx),bL this,hC _ (ae.refl _)⟩
  ·intro H2 s2 hx2
   rw[map_getD] at hx2
   exact k D2 H2 (s1.none hD2) (s1.trans s2) hx2
def LB (K:PySem.W.Frag):Sp:=fun vs H Q _=> ∃(q r:Addr) (l m:List Nat),vs= [.ref q, .ref r]∧af K H q (vN l)∧af K H r (vN m)∧l.length=m.length∧l.length≤100000∧oz H Q (Sound.added l m)
theorem sO:aG ["one", "other", "x", "y"] ["one", "other"] (aB xG):=⟨rfl,rfl,rfl,by decide+kernel,rfl,by decide+kernel,by decide+kernel⟩
theorem ud (T:Txt K mg A):aA P w K mg base aQ 1 A.oX A.lQ ["one", "other"] (LB K):=by
 refine T.rl.ok sO (fun vs H Q E h=>?_) (fun cdv Ar outer s H vs Q E hr h=>?_)
 ·obtain ⟨q,r,l,m,rfl,_⟩:=h
  rfl
 ·obtain ⟨q,r,l,m,rfl,hq,hr',hlm,hl,k⟩:=h
  refine ⟨_,aj (aM (dB (own:= [("x",2),("y",3)]) rfl sO.nd (wZ rfl T.qx (aa (pv 0) (aa (pv 1) ah))) (cv (by kernel_rfl))
   (fun _ _ _ _ _=>i5 (K:=K) (n:=2) rfl rfl (dR (aN (i:=2) sO.nd rfl (Or.inl rfl)) (dR (aN (i:=3) sO.nd rfl (Or.inl rfl)) jl))) (fun _ _ _ _ _=>c9) (fun _ _ _ _ _=>aq jB (pv 2) (pv 3)))),?_⟩
  refine ⟨_,rfl,_,rfl,cC q r _ _ ⟨rfl,hq,hr',fun D hD=>?_⟩⟩
  refine eZ (J:=lq K q r) hD l.length (by rw[sizeLine_eq];lia) (fun i=> .int ((l.getD i 0^^^m.getD i 0:Nat):Int))
   (fun i Hh hi t1=>(cC _ _ _ _ ⟨t1.seq hq,t1.seq hr',dE hi,dE (by lia)⟩)) (fun Hh t1=>(aS _ _ ⟨t1.seq hq,t1.seq hr', .inl (by rw[aR];exact Nat.le_refl _)⟩)) ?_ ?_
  ·rintro i Hh z H' hi t1 ⟨t,x1,y1,rfl,ht,rfl,hx,hy⟩ C hC
   obtain ⟨rfl,_⟩:=dD (hx _ (t1.seq hq))
   obtain ⟨rfl,_⟩:=dD (hy _ (t1.seq hr'))
   refine (⟨t,_,rfl,aP.of ak,rfl,_,_,rfl,_,_,rfl,rfl,rfl,_,rfl,_,rfl,_,_,rfl,rfl,?_⟩)
   rw[gO]
   exact hC _ (aE ht)
  ·intro H2 s2 hx2
   refine k D H2 hD s2 (hx2.trans ?_)
   congr 2
   unfold vN Sound.added
   refine List.ext_getElem (by simp;lia) fun i h1 h2=>?_
   simp at h1
   simp [List.getD_eq_getElem?_getD,List.getElem?_eq_getElem h1,List.getElem?_eq_getElem (show i<m.length by lia)]
def Ln:Sp:=fun vs H Q _=> ∃i j:Nat,vs= [.int i, .int j]∧(i<8∧j<4)∧ ∀H',ae H H'→Q (.int (Sound.factor i j:Nat)) H'
theorem MT:aG ["i", "j"] ["i", "j"] (aB yd):=⟨rfl,rfl,rfl,by decide+kernel,rfl,by decide+kernel,by decide+kernel⟩
theorem zJ (T:Txt K mg A):aA P w K mg base aQ 3 A.mH A.nN ["i", "j"] Ln:=by
 refine T.sS.ok MT (fun vs H Q E h=>?_) (fun cdv Ar outer s H vs Q E hr h=>?_)
 ·obtain ⟨i,j,rfl,_⟩:=h
  rfl
 ·obtain ⟨i,j,rfl,⟨hi,hj⟩,k⟩:=h
  refine ⟨_,aj (aM (aL (zE (K:=K) T) hr rfl T.ye T.u7.kp T.Ba .nil aI (aa (aq jB (pv 0) (aq bT (bp rfl T.Qe) (pv 1))) ah))),?_⟩
  refine ⟨_,rfl,_,rfl,_,_,rfl,rfl,_,_,rfl,rfl,i^^^(128+j),?_,AV i hi j hj,k⟩
  show [V.int (Builtin.bitXor _ _)]=_
  rw[show (128:Int)+(j:Nat)=((128+j:Nat):Int) by lia,gO]
def g9 (K:PySem.W.Frag) (H:Hp) (r:Addr) (M:List (List Nat)):Prop:= ∃as:List Addr,af K H r (as.map V.ref)∧as.length=M.length∧ ∀(k:Nat) (a:Addr),as[k]?=some a→af K H a (vN (M.getD k []))
theorem g9.same {H H':Hp} {r:Addr} {M:List (List Nat)} (h:g9 K H r M) (s:ae H H'):g9 K H' r M:=by
 obtain ⟨as,h1,h2,h3⟩:=h
 exact ⟨as,s.seq h1,h2,fun k a e=>s.seq (h3 k a e)⟩
def fq (M:List (List Nat)):List Nat:=M.map List.length
def f6 (M:List (List Nat)):Nat:=(fq M).foldl max 0+2
theorem qC: ∀(l:List Nat) (b:Nat),b≤l.foldl max b∧(∀x∈l,x≤l.foldl max b)∧(l.foldl max b=b∨l.foldl max b∈l)
 | [],b=>⟨Nat.le_refl _,fun x hx=>(by cases hx), .inl rfl⟩
 |y::l,b=>by
  obtain ⟨h1,h2,h3⟩:=qC l (max b y)
  rw[List.foldl_cons]
  refine ⟨by lia,fun x hx=>?_,?_⟩
  ·rcases List.mem_cons.mp hx with rfl|hx
   ·lia
   ·exact h2 x hx
  ·rcases h3 with h3|h3
   ·rw[h3]
    rcases Nat.le_total b y with q|q
    ·exact .inr (by rw[Nat.max_eq_right q];simp)
    ·exact .inl (Nat.max_eq_left q)
   ·exact .inr (List.mem_cons_of_mem _ h3)
theorem Rt {l:List Nat} {m:Nat} (h1:m∈l) (h2: ∀x∈l,x≤m):l.foldl max 0=m:=by
 obtain ⟨a,b,c⟩:=qC l 0
 have:=b m h1
 rcases c with c|c
 ·lia
 ·have:=h2 _ c;lia
def QS (K:PySem.W.Frag):Sp:=fun vs H Q _=> ∃(r:Addr) (M:List (List Nat)),vs= [.ref r]∧g9 K H r M∧(1≤M.length∧M.length≤100000)∧ ∀H',ae H H'→Q (.int (f6 M:Nat)) H'
theorem uf:aG ["frames", "one"] ["frames"] (aB Bt):=⟨rfl,rfl,rfl,by decide+kernel,rfl,by decide+kernel,by decide+kernel⟩
theorem QF {M:List (List Nat)} {i:Nat} (h:i<M.length):(fq M).getD i 0=(M.getD i []).length:=by
 unfold fq
 rw[List.getD_eq_getElem?_getD,List.getD_eq_getElem?_getD,List.getElem?_map,List.getElem?_eq_getElem h];rfl
theorem Oa (T:Txt K mg A):aA P w K mg base aQ 1 A.ku A.kW ["frames"] (QS K):=by
 refine T.xN.ok uf (fun vs H Q E h=>?_) (fun cdv Ar outer s H vs Q E hr h=>?_)
 ·obtain ⟨r,M,rfl,_⟩:=h
  rfl
 ·obtain ⟨r,M,rfl,⟨as,hr',hlen,hrow⟩,⟨hM1,hM2⟩,k⟩:=h
  refine ⟨_,aj (aM (aq bT (bQ (Mh rfl) (by rfl) T.Er (by decide+kernel:bootBuiltins "max" =some (.builtin "max")) (aa (dB (own:= [("one",1)]) rfl uf.nd (dn (K:=K) rfl (pv 0)) (cv (by kernel_rfl)) (fun _ _ _ _ _=>aN (i:=1) uf.nd rfl (Or.inl rfl)) (fun _ _ _ _ _=>c9)
   (fun _ _ _ _ _=>bQ (dq (K:=K) rfl) (by rfl) T.b6 PySem.boot_len (aa (pv 1) ah))) ah)) (bp rfl T.jb))),?_⟩
  refine ⟨_,rfl,r,rfl,⟨_,hr'⟩,fun D hD=>?_⟩
  refine eZ (J:=cY K r) hD M.length (by rw[sizeLine_eq];lia) (fun i=> .int (((fq M).getD i 0:Nat):Int)) (fun i Hh hi t1=>?_) (fun Hh t1=>⟨_,t1.seq hr',by rw[List.length_map];lia⟩) ?_ ?_
  ·obtain ⟨a,h1,_⟩:=e9 (as:=as) (i:=i) (by lia)
   exact (aS _ _ ⟨t1.seq hr',h1⟩)
  ·rintro i Hh z H' hi t1 ⟨rfl,hz⟩ C hC
   obtain ⟨a,rfl,ha⟩:=gi (hz _ (t1.seq hr'))
   refine ⟨rfl,_,rfl,a,_,rfl, .inl (t1.seq (hrow i a ha)),?_⟩
   rw[aR,←QF hi]
   exact hC _ (ae.refl _)
  ·intro H2 s2 hx2
   have e:(List.range M.length).map (fun i=>V.int (((fq M).getD i 0:Nat):Int))=vN (fq M):=by
    have:=map_getD (f:=id) (fq M)
    rw[List.map_id] at this
    rw[←this]
    unfold fq
    rw[List.length_map];rfl
   rw[e] at hx2
   refine (aS D ((fq M).map fun (n:Nat)=>(n:Int)) ⟨rfl,(by rw[←yU];exact af.of hx2),(by unfold fq;rw[List.length_map,List.length_map];exact hM1),fun m hm hall=>?_⟩)
   obtain ⟨n,hn,rfl⟩:=List.mem_map.mp hm
   refine (⟨_,_,rfl,rfl,?_⟩)
   have:f6 M=n+2:=by
    unfold f6
    rw[Rt hn fun x hx=>by have:=hall _ (List.mem_map_of_mem hx);lia]
   have k2:=k H2 s2
   rw[this] at k2
   exact k2
def cu (r:Nat) (m:List Nat):List Nat:=eE 2 m.length++m++List.replicate (r-2-m.length) 0
def dP (r j:Nat) (M:List (List Nat)):List Nat:=(M.zipIdx).foldl (fun a x=>Sound.added a ((cu r x.1).map (Sound.mul (Sound.factor x.2 j)))) (List.replicate r 0)
theorem mf {r:Nat} {m:List Nat} (h:m.length+2≤r):(cu r m).length=r:=by
 unfold cu
 rw[List.length_append,List.length_append,kD,List.length_replicate];lia
theorem RX {r:Nat} {m:List Nat} (h: ∀x∈m,x<256): ∀x∈cu r m,x<256:=fun x hx=>by
 unfold cu at hx
 rcases List.mem_append.mp hx with hx|hx
 ·rcases List.mem_append.mp hx with hx|hx
  ·exact IL _ _ x hx
  ·exact h x hx
 ·rw[(List.mem_replicate.mp hx).2];decide
theorem uo {i j:Nat} (hi:i<8) (hj:j<4):Sound.factor i j<256:=by
 obtain ⟨h1,h2⟩:=AV i hi j hj
 exact (uL h1 h2).1
theorem jY {a b:List Nat}:(Sound.added a b).length=min a.length b.length:=by unfold Sound.added;rw[List.length_zipWith]
theorem DG (n:Nat):(List.replicate n [V.int 0]).flatten=vN (List.replicate n 0):=by
 unfold vN
 induction n with
 |zero=>rfl
 |succ n ih=>rw[List.replicate_succ,List.replicate_succ,List.flatten_cons,ih];rfl
def NN (K:PySem.W.Frag):Sp:=fun vs H Q _=> ∃(j r:Nat) (f:Addr) (M:List (List Nat)),vs= [.int j, .int r, .ref f]∧g9 K H f M∧(j<4∧r≤10000∧M.length≤8)∧(∀m∈M,m.length+2≤r∧ ∀x∈m,x<256)∧oz H Q (dP r j M)
theorem j8:aG ["j", "row_size", "frames", "total", "i", "one", "row"] ["j", "row_size", "frames"] (aB CJ):=⟨rfl,rfl,rfl,by decide+kernel,rfl,by decide+kernel,by decide+kernel⟩
theorem Np {r j i:Nat} {M:List (List Nat)} (hi:i<M.length):((M.zipIdx).take (i+1)).foldl (fun a x=>Sound.added a ((cu r x.1).map (Sound.mul (Sound.factor x.2 j)))) (List.replicate r 0)=Sound.added (((M.zipIdx).take i).foldl (fun a x=>Sound.added a ((cu r x.1).map (Sound.mul (Sound.factor x.2 j)))) (List.replicate r 0)) ((cu r (M.getD i [])).map (Sound.mul (Sound.factor i j))):=by
 rw[qv _ _ _ (by rw[List.length_zipIdx];exact hi)]
 have e:M.zipIdx[i]'(by rw[List.length_zipIdx];exact hi)=(M.getD i [],i):=by
  rw[List.getElem_zipIdx,List.getD_eq_getElem?_getD,List.getElem?_eq_getElem hi];simp
 rw[e]
theorem getD_mem' {M:List (List Nat)} {i:Nat} (h:i<M.length):M.getD i []∈M:=by
 rw[List.getD_eq_getElem?_getD,List.getElem?_eq_getElem h];exact List.getElem_mem h
theorem R6 (T:Txt K mg A):aA P w K mg base aQ 4 A.m6 A.lh ["j", "row_size", "frames"] (NN K):=by
 refine T.Bn.ok j8 (fun vs H Q E h=>?_) (fun cdv Ar outer s H vs Q E hr h=>?_)
 ·obtain ⟨j,r,f,M,rfl,_⟩:=h
  rfl
 ·obtain ⟨j,r,f,M,rfl,hf,⟨hj,hr1,hM⟩,hrows,k⟩:=h
  have hr1':aF 1 _:=hr.mono (by decide)
  have hr2':aF 2 _:=hr.mono (by decide)
  refine ⟨_,ai (aC (i:=3) j8.nd rfl (Or.inl rfl) (aq uZ (dy (aa ao ah)) (pv 1)))
   (ai (cj PassesOwn.never rfl (wz (K:=K) rfl rfl T.vy (aa (pv 2) ah)) (i5 (K:=K) (n:=2) rfl rfl (dR (aN (i:=4) j8.nd rfl (Or.inl rfl)) (dR (aN (i:=5) j8.nd rfl (Or.inl rfl)) jl)))
    (ai (aC (i:=6) j8.nd rfl (Or.inl rfl) (aq vU (aq (vQ (K:=K) rfl) (aL (Je (K:=K) T) hr1' rfl T.Jg T.zo.kp T.JV .nil aI (aa (bp rfl T.jb) (aa (bQ (dq (K:=K) rfl) (by rfl) T.b6 PySem.boot_len (aa (pv 5) ah)) ah))) (pv 5))
     (aq uZ (dy (aa ao ah)) (aq cZ (aq cZ (pv 1) (bp rfl T.jb)) (bQ (dq (K:=K) rfl) (by rfl) T.b6 PySem.boot_len (aa (pv 5) ah))))))
    (aj (aC (i:=3) j8.nd rfl (Or.inl rfl) (aL (ud (K:=K) T) hr1' rfl T.tN T.rl.kp T.vZ .nil aI (aa (pv 3) (aa (aL (uG (K:=K) T) hr2' rfl T.ug T.qL.kp T.u9 .nil aI (aa (aL (zJ (K:=K) T) hr rfl T.BY T.sS.kp T.Aq .nil aI (aa (pv 4) (aa (pv 0) ah))) (aa (pv 6) ah))) ah)))))))
   (aj (aM (pv 3)))),?_⟩
  refine ⟨by rw[sizeLine_eq];show 1≤_;lia,fun p0 hp0=>⟨_,rfl,p0,_,_,rfl,rfl,ak,by lia,by lia,(by rw[sizeLine_eq];simp;lia),fun t0 ht0=>?_⟩⟩
  have n0:H t0=none:=(aE hp0).none ht0
  have s0:ae H (upd (upd H p0 (.lst [.int 0])) t0 (.lst (List.replicate ((r:Nat):Int).toNat [V.int 0]).flatten)):=cP (aE hp0) n0
  obtain ⟨as,hf1,hf2,hf3⟩:=id hf
  refine ⟨_,rfl,f,_,rfl,s0.seq hf1,?_⟩
  rw[Int.toNat_natCast,DG] at s0⊢
  refine yi (J:=oU K f) M.length (fun i σ H'=> ∃(t:Addr) (v4 v5 v6:Option V),H t=none∧ae H H'∧(((M.zipIdx).take i).foldl (fun a x=>Sound.added a ((cu r x.1).map (Sound.mul (Sound.factor x.2 j)))) (List.replicate r 0)).length=r∧H' t=some (.lst (vN (((M.zipIdx).take i).foldl (fun a x=>Sound.added a ((cu r x.1).map (Sound.mul (Sound.factor x.2 j)))) (List.replicate r 0))))∧σ= [some (.int j),some (.int r),some (.ref f),some (.ref t),v4,v5,v6])
   (cC t0 none none none ⟨n0,s0,(by simp),ak,rfl⟩) ?_ ?_ ?_ ?_
  ·rintro i σ H1 hi ⟨t,v4,v5,v6,ht,s1,hl,hx,rfl⟩
   obtain ⟨a,h1,_⟩:=e9 (as:=as) (i:=i) (by lia)
   exact (aS _ _ ⟨s1.seq hf1,h1⟩)
  ·rintro σ H1 ⟨t,v4,v5,v6,ht,s1,hl,hx,rfl⟩
   exact ⟨_,s1.seq hf1,by rw[List.length_map];lia⟩
  ·rintro i σ H1 x H1' hi ⟨t,v4,v5,v6,ht,s1,hl,hx,rfl⟩ ⟨T1,x1,rfl,hT1,rfl,hz⟩
   obtain ⟨a,rfl,ha⟩:=gi (hz _ (s1.seq hf1))
   obtain ⟨hm1,hm2⟩:=hrows _ (getD_mem' hi)
   rw[Np hi]
   generalize (((M.zipIdx).take i).foldl (fun a x=>Sound.added a ((cu r x.1).map (Sound.mul (Sound.factor x.2 j)))) (List.replicate r 0))=acc at*
   generalize hm:M.getD i []=m at*
   have sT:=aE (o:= .tup [.int (i:Nat), .ref a]) hT1
   have hma:af K H a (vN m):=by rw[←hm];exact hf3 i a ha
   have s1T:=s1.trans sT
   refine (⟨T1,_,rfl,aP.of ak,rfl,_,_,rfl,_,_,rfl,rfl,?_⟩)
   refine ⟨_,rfl,a,_,rfl, .inl (s1T.seq hma),aS 2 m.length ⟨?_,by decide,fun D1 H2 hD1 s2 hx2=>?_⟩⟩
   ·rw[aR];rfl
   have s12:=s1T.trans s2
   refine ⟨_,rfl,D1,a,_,_,rfl,rfl,af.of hx2,s12.seq hma,(by rw[aR,aR,kD,sizeLine_eq];lia),fun p1 hp1=>?_⟩
   have s3:=aE (o:= .lst (vN (eE 2 m.length)++vN m)) hp1
   have s13:=s12.trans s3
   refine ⟨by rw[sizeLine_eq];show 1≤_;lia,fun p2 hp2=>?_⟩
   have s4:=aE (o:= .lst [V.int 0]) hp2
   have s14:=s13.trans s4
   refine ⟨_,rfl,_,_,rfl,rfl,_,rfl,a,_,rfl, .inl (s14.seq hma),_,_,rfl,rfl,p2,_,_,rfl,rfl,ak,by rw[aR];lia,by rw[aR];lia,(by rw[sizeLine_eq,aR];simp;lia),fun p3 hp3=>?_⟩
   have e1:(((r:Nat):Int)-2-((vN m).length:Nat)).toNat=r-2-m.length:=by rw[aR];lia
   rw[e1,DG]
   have s5:=aE (o:= .lst (vN (List.replicate (r-2-m.length) 0))) hp3
   have s15:=s14.trans s5
   refine (⟨p1,p3,_,_,rfl,rfl,(s4.trans s5) _ _ ak,ak,(by rw[List.length_append,aR,aR,aR,kD,List.length_replicate,sizeLine_eq];lia),fun p4 hp4=>?_⟩)
   have e2:vN (eE 2 m.length)++vN m++vN (List.replicate (r-2-m.length) 0)=vN (cu r m):=by unfold cu;rw[jV,jV]
   rw[e2]
   have s6:=aE (o:= .lst (vN (cu r m))) hp4
   have s16:=s15.trans s6
   refine ⟨_,rfl,_,rfl,_,rfl,aS i j ⟨rfl,⟨by lia,hj⟩,fun H6 s7=>?_⟩⟩
   refine ⟨_,rfl,cV (Sound.factor i j) p4 (cu r m) ⟨rfl,uo (by lia) hj,af.of (s7 _ _ ak),RX hm2,(by rw[mf hm1];lia),fun D2 H7 hD2 s8 hx8=>?_⟩⟩
   have hxt:H7 t=some (.lst (vN acc)):=s8 _ _ (s7 _ _ (s6 _ _ (s5 _ _ (s4 _ _ (s3 _ _ (s2 _ _ (sT _ _ hx)))))))
   have s18:=s16.trans (s7.trans s8)
   refine ((cC t D2 acc _ ⟨rfl,af.of hxt,af.of hx8,(by rw[List.length_map,mf hm1,hl]),by lia,fun D3 H8 hD3 s9 hx9=>?_⟩))
   exact (cC D3 _ _ _ ⟨s18.none hD3,s18.trans s9,(by rw[jY,List.length_map,mf hm1,hl];lia),hx9,rfl⟩)
  ·rintro σ H1 ⟨t,v4,v5,v6,ht,s1,hl,hx,rfl⟩
   refine ⟨_,rfl,k t H1 ht s1 ?_⟩
   rw[hx]
   unfold dP
   rw[List.take_of_length_le (by rw[List.length_zipIdx];exact Nat.le_refl _)]
theorem Ag {r j:Nat}: ∀(L:List (List Nat×Nat)) (a:List Nat),a.length=r→(∀x∈L,x.1.length+2≤r)→(L.foldl (fun a x=>Sound.added a ((cu r x.1).map (Sound.mul (Sound.factor x.2 j)))) a).length=r
 | [],a,h,_=>h
 |x::L,a,h,hx=>Ag L _ (by rw[jY,List.length_map,mf (hx x (List.mem_cons_self ..)),h];lia) fun y hy=>hx y (List.mem_cons_of_mem _ hy)
theorem yO {r j:Nat} {M:List (List Nat)} (h: ∀m∈M,m.length+2≤r):(dP r j M).length=r:=
 Ag _ _ (by simp) fun x hx=>h _ (List.fst_mem_of_mem_zipIdx hx)
theorem DZ {a b:List Nat} (ha: ∀x∈a,x<256) (hb: ∀x∈b,x<256): ∀x∈Sound.added a b,x<256:=fun x hx=>by
 unfold Sound.added at hx
 obtain ⟨i,hi,rfl⟩:=List.getElem_of_mem hx
 rw[List.length_zipWith] at hi
 rw[List.getElem_zipWith]
 exact Nat.xor_lt_two_pow (n:=8) (ha _ (List.getElem_mem (by lia))) (hb _ (List.getElem_mem (by lia)))
theorem BN {r j:Nat} (hj:j<4): ∀(L:List (List Nat×Nat)) (a:List Nat),(∀x∈a,x<256)→(∀x∈L,x.2<8)→ ∀x∈L.foldl (fun a x=>Sound.added a ((cu r x.1).map (Sound.mul (Sound.factor x.2 j)))) a,x<256
 | [],a,h,_=>h
 |y::L,a,h,hx=>BN hj L _ (DZ h fun z hz=>by
   obtain ⟨c,_,rfl⟩:=List.mem_map.mp hz
   exact BO (uo (hx y (List.mem_cons_self ..)) hj) c) fun z hz=>hx z (List.mem_cons_of_mem _ hz)
theorem N5 {r j:Nat} {M:List (List Nat)} (hj:j<4) (hM:M.length≤8): ∀x∈dP r j M,x<256:=
 BN hj _ _ (fun x hx=>by rw[(List.mem_replicate.mp hx).2];decide) fun x hx=>by have:=List.snd_lt_of_mem_zipIdx hx;lia
theorem KD {M:List (List Nat)} {m:List Nat} (h:m∈M):m.length+2≤f6 M:=by
 have:=(qC (fq M) 0).2.1 m.length (List.mem_map_of_mem h)
 unfold f6;lia
theorem NO {M:List (List Nat)} {b:Nat} (h: ∀m∈M,m.length≤b):f6 M≤b+2:=by
 rcases (qC (fq M) 0).2.2 with q|q
 ·unfold f6;lia
 ·obtain ⟨m,hm,e⟩:=List.mem_map.mp q
  have:=h m hm
  unfold f6;lia
def b8 (fs:List Sound.Bytes):List (List Nat):=fs.map bn
theorem k7 (fs:List Sound.Bytes) (k:Nat):(b8 fs).getD k []=bn (fs.getD k []):=by
 unfold b8
 rw[List.getD_eq_getElem?_getD,List.getD_eq_getElem?_getD,List.getElem?_map]
 cases fs[k]?<;>rfl
def g0 (H:Hp) (r:Addr) (M:List (List Nat)):Prop:= ∃as:List Addr,H r=some (.lst (as.map V.ref))∧as.length=M.length∧ ∀(k:Nat) (a:Addr),as[k]?=some a→H a=some (.lst (vN (M.getD k [])))
theorem g0.n {H:Hp} {r:Addr} {M:List (List Nat)} (h:g0 H r M):g9 K H r M:=by
 obtain ⟨as,h1,h2,h3⟩:=h
 exact ⟨as,af.of h1,h2,fun k a e=>af.of (h3 k a e)⟩
theorem g0.same {H H':Hp} {r:Addr} {M:List (List Nat)} (h:g0 H r M) (s:ae H H'):g0 H' r M:=by
 obtain ⟨as,h1,h2,h3⟩:=h
 exact ⟨as,s _ _ h1,h2,fun k a e=>s _ _ (h3 k a e)⟩
def Nh (K:PySem.W.Frag):Sp:=fun vs H Q _=> ∃(q:Addr) (xs:List V),vs= [.ref q]∧af K H q xs∧xs.length≤1000000∧ ∀D H',H D=none→ae H H'→H' D=some (.lst (.int (xs.length:Nat)::xs))→Q (.ref D) H'
theorem FQ:aG ["data"] ["data"] (aB DO):=⟨rfl,rfl,rfl,by decide+kernel,rfl,by decide+kernel,by decide+kernel⟩
theorem Eu (T:Txt K mg A):aA P w K mg base aQ 1 A.lL A.pG ["data"] (Nh K):=by
 refine T.B3.ok FQ (fun vs H Q E h=>?_) (fun cdv Ar outer s H vs Q E hr h=>?_)
 ·obtain ⟨q,l,rfl,_⟩:=h
  rfl
 ·obtain ⟨q,l,rfl,hq,hl,k⟩:=h
  refine ⟨_,aj (aM (aq (vQ (K:=K) rfl) (dy (aa (bQ (dq (K:=K) rfl) (by rfl) T.b6 PySem.boot_len (aa (pv 0) ah)) ah)) (pv 0))),?_⟩
  refine ⟨_,rfl,q,_,rfl, .inl hq,by rw[sizeLine_eq];show 1≤_;lia,fun p hp=>?_⟩
  refine ⟨_,rfl,p,q,_,_,rfl,rfl,af.of ak,(aE hp).seq hq,(by rw[sizeLine_eq];show 1+_≤_;lia),fun p2 hp2=>?_⟩
  have n2:H p2=none:=(aE hp).none hp2
  exact k p2 _ n2 (cP (aE hp) n2) ak
theorem Bp {l:List Nat} (h: ∀x∈l,x<256):bn (Sound.toBytes l)=l:=by
 unfold bn Sound.toBytes
 rw[List.map_map]
 conv=>rhs;rw[←List.map_id l]
 refine List.map_congr_left fun x hx=>?_
 have:=h x hx
 simp [UInt8.toNat_ofNat',Nat.mod_eq_of_lt this]
theorem LV (c n:Nat):bn (Sound.high c n)=eE c n:=Qj c n
theorem xc {r:Nat} {b:Sound.Bytes} (h:b.length+2≤r):Sound.rowIn r b=cu r (bn b):=by
 unfold Sound.rowIn cu
 have e:(Sound.rowOf b).map UInt8.toNat=eE 2 (bn b).length++bn b:=by
  unfold Sound.rowOf
  rw[bM,←LV,←OM];rfl
 simp only [e]
 rw[List.length_append,kD,bM,show r-(2+b.length)=r-2-b.length by lia,List.take_of_length_le]
 rw[List.length_append,List.length_append,kD,bM,List.length_replicate];lia
theorem RR {r j:Nat} {fs:List Sound.Bytes} (h: ∀b∈fs,b.length+2≤r):Sound.sumRows r j (Sound.numbered fs)=dP r j (b8 fs):=by
 unfold Sound.sumRows Sound.numbered dP b8
 rw[List.foldl_map,List.zipIdx_map,List.foldl_map]
 have key: ∀(L:List (Sound.Bytes×Nat)) (a:List Nat),(∀x∈L,x.1.length+2≤r)→L.foldl (fun a x=>Sound.added a (Sound.scaled (Sound.factor x.2 j) (Sound.rowIn r x.1))) a=L.foldl (fun a x=>Sound.added a ((cu r (Prod.map bn id x).1).map (Sound.mul (Sound.factor (Prod.map bn id x).2 j)))) a:=by
  intro L
  induction L with
  |nil=>intro a _;rfl
  |cons x L ih=>
   intro a hx
   rw[List.foldl_cons,List.foldl_cons,ih _ fun y hy=>hx y (List.mem_cons_of_mem _ hy),xc (hx x (List.mem_cons_self ..))]
   rfl
 exact key _ _ fun x hx=>h _ (List.fst_mem_of_mem_zipIdx hx)
def qk (w n:Int):Bool:=decide (-(2^(w-1).toNat)≤n)&&decide (n<2^(w-1).toNat)
def Ly:Sp:=fun vs H Q _=> ∃w n:Int,vs= [.int w, .int n]∧(1≤w∧w≤25)∧Q (.bl (qk w n)) H
theorem Aa:aG ["width", "number", "half"] ["width", "number"] (aB Dc):=⟨rfl,rfl,rfl,by decide+kernel,rfl,by decide+kernel,by decide+kernel⟩
theorem ya (T:Txt K mg A):aA P w K mg base aQ 1 A.ph A.mR ["width", "number"] Ly:=by
 refine T.wj.ok Aa (fun vs H Q E h=>?_) (fun cdv Ar outer s H vs Q E hr h=>?_)
 ·obtain ⟨w,n,rfl,_⟩:=h
  rfl
 ·obtain ⟨w,n,rfl,⟨h1,h2⟩,k⟩:=h
  refine ⟨_,ai (aC (i:=2) Aa.nd rfl (Or.inl rfl) (aq je ao (aq cZ (pv 0) ao)))
   (aj (aM (DR gI nX (gS gR (pv 2)) (pv 1) (pv 2)))),?_⟩
  refine ⟨_,rfl,_,_,rfl,rfl,_,_,rfl,rfl,⟨by lia,by lia,by decide⟩,_,rfl,_,rfl,_,rfl,_,_,rfl,rfl,_,rfl,?_⟩
  unfold qk at k
  dsimp only
  rw[Int.one_mul]
  by_cases q: -(2^(w-1).toNat)≤n
  ·rw[decide_eq_true q,Bool.true_and] at k
   rw[decide_eq_true q]
   exact aW ⟨_,rfl,_,_,rfl,rfl,k⟩
  ·rw[decide_eq_false q,Bool.false_and] at k
   rw[decide_eq_false q]
   exact aZ k
theorem CO {W:Nat} (h:1≤W) (n:Int):qk (W:Int) n=Sound.fits W n:=by
 unfold qk Sound.fits
 have:((W:Int)-1).toNat=W-1:=by lia
 rw[this]
def KP:Sp:=fun vs H Q _=> ∃n p r:Nat,vs= [.int n, .int p, .int r]∧(n≤1024∧r≤7)∧Q (.bl (kR n p r)) H
theorem BD:aG ["n", "order", "r", "size"] ["n", "order", "r"] (aB yK):=⟨rfl,rfl,rfl,by decide+kernel,rfl,by decide+kernel,by decide+kernel⟩
theorem JI (T:Txt K mg A):aA P w K mg base aQ 1 A.oo A.nu ["n", "order", "r"] KP:=by
 refine T.yt.ok BD (fun vs H Q E h=>?_) (fun cdv Ar outer s H vs Q E hr h=>?_)
 ·obtain ⟨n,p,r,rfl,_⟩:=h
  rfl
 ·obtain ⟨n,p,r,rfl,⟨hn,hr7⟩,k⟩:=h
  refine ⟨_,ai (aC (i:=3) BD.nd rfl (Or.inl rfl) (aq fg (pv 0) (pv 2)))
   (aj (aM (y6 (tG gI (pv 2) (bp rfl T.Kz) (aT _)) (y6 (tG cH (aq je (pv 3) (pv 2)) (pv 0) (aT _)) (NH (tG qB (pv 3) (pv 1) (aT _))))))),?_⟩
  have e1:((n:Int)/2^(r:Int).toNat)=((n/2^r:Nat):Int):=by
   rw[Int.toNat_natCast];simp
  refine ⟨_,rfl,_,rfl,_,_,rfl,rfl,(by lia),?_⟩
  dsimp only
  rw[e1]
  refine ⟨_,rfl,_,_,rfl,rfl,_,rfl,?_⟩
  have hdn:n/2^r≤n:=Nat.div_le_self _ _
  unfold kR at k
  by_cases q1:r≤6
  ·rw[decide_eq_true q1,Bool.true_and] at k
   rw[decide_eq_true (show (r:Int)≤6 by lia)]
   refine aW ⟨_,rfl,_,rfl,_,_,rfl,rfl,⟨by lia,by lia,by rw[Int.natAbs_natCast];exact Nat.lt_of_le_of_lt (Nat.le_trans hdn hn) (by decide)⟩,_,rfl,?_⟩
   dsimp only
   have e2:((n/2^r:Nat):Int)*2^(r:Int).toNat=((n/2^r*2^r:Nat):Int):=by
    rw[Int.toNat_natCast];simp
   rw[e2]
   by_cases q2:n/2^r*2^r=n
   ·rw[decide_eq_true q2,Bool.true_and] at k
    rw[q2]
    refine ⟨rfl,_,rfl,?_⟩
    rw[decide_eq_true (show V.int (n:Int)=V.int (n:Int) from rfl)]
    refine aW ⟨_,rfl,_,rfl,_,_,rfl,rfl,?_⟩
    have:decide ((p:Int)≤((n/2^r:Nat):Int))=decide (p≤n/2^r):=by
     rw[Bool.eq_iff_iff,decide_eq_true_eq,decide_eq_true_eq];lia
    rw[this];exact k
   ·rw[decide_eq_false q2,Bool.false_and] at k
    refine ⟨rfl,_,rfl,?_⟩
    rw[decide_eq_false (show¬V.int ((n/2^r*2^r:Nat):Int)=V.int (n:Int) from fun e=>q2 (by have:=V.int.inj e;lia))]
    exact aZ k
  ·rw[decide_eq_false q1,Bool.false_and] at k
   rw[decide_eq_false (show¬(r:Int)≤6 by lia)]
   exact aZ k
def G1:Sp:=fun vs H Q _=> ∃k:Nat,vs= [.int k]∧(2≤k∧k≤10)∧Q (.int ((if k≤6 then k-2 else k-6:Nat):Int)) H
theorem Px:aG ["kind"] ["kind"] (aB yw):=⟨rfl,rfl,rfl,by decide+kernel,rfl,by decide+kernel,by decide+kernel⟩
theorem Nm (T:Txt K mg A):aA P w K mg base aQ 1 A.nv A.pb ["kind"] G1:=by
 refine T.AB.ok Px (fun vs H Q E h=>?_) (fun cdv Ar outer s H vs Q E hr h=>?_)
 ·obtain ⟨e,rfl,_⟩:=h
  rfl
 ·obtain ⟨e,rfl,⟨h1,h2⟩,k⟩:=h
  refine ⟨_,aj (aM (jL (aU nX (pv 0) (bp rfl T.uu) (aT _)) (aq cZ (pv 0) (bp rfl T.OF)) (aq bT (aq cZ (pv 0) (bp rfl T.uu)) ao))),?_⟩
  refine ⟨_,rfl,_,_,rfl,rfl,_,rfl,?_⟩
  by_cases q:e≤6
  ·rw[decide_eq_true (show (e:Int)<7 by lia)]
   rw[if_pos q] at k
   have e1:((e:Int)-2)=((e-2:Nat):Int):=by lia
   refine aW ⟨_,rfl,_,_,rfl,rfl,?_⟩
   dsimp only
   rw[e1];exact k
  ·rw[decide_eq_false (show¬(e:Int)<7 by lia)]
   rw[if_neg q] at k
   have e1:((e:Int)-7+1)=((e-6:Nat):Int):=by lia
   refine aZ ⟨_,rfl,_,_,rfl,rfl,_,_,rfl,rfl,?_⟩
   dsimp only
   rw[e1];exact k
def gf (f h:V):List (Str×V):= [("factors",f),("shift",h)]
theorem FI (f h:V):bD "shift" h (bD "factors" f [])=gf f h:=by
 show bD "shift" h [(("factors" :Str),f)]=_
 unfold bD
 rw[if_neg (by decide)]
 rfl
theorem OW (f h:V):(gf f h).lookup ("factors" :Str)=some f:=rfl
theorem QH (f h:V):(gf f h).lookup ("shift" :Str)=some h:=rfl
def gn (K:PySem.W.Frag) (C:Addr) (H:Hp) (x:Addr) (a:List Int) (h:Nat):Prop:= ∃dx p,H x=some (.ins C dx (gf (.ref p) (.int h)))∧af K H p (a.map V.int)
theorem gn.same {K:PySem.W.Frag} {C:Addr} {H H':Hp} {x:Addr} {a:List Int} {h:Nat} (s:ae H H') (g:gn K C H x a h):gn K C H' x a h:=by
 obtain ⟨dx,p,h1,h2⟩:=g
 exact ⟨dx,p,s _ _ h1,s.seq h2⟩
def LC (C:Addr):Sp:=fun vs H Q _=> ∃(p dx:Addr) (f h:V),vs= [.ref p,f,h]∧H p=some (.ins C dx [])∧Q .au (upd H p (.ins C dx (gf f h)))
theorem Pb:aG ["self", "factors", "shift"] ["self", "factors", "shift"] (aB zy):=⟨rfl,rfl,rfl,by decide+kernel,rfl,by decide+kernel,by decide+kernel⟩
theorem zw (T:Txt K mg A):aA P w K mg base aQ 1 A.pL A.lW ["self", "factors", "shift"] (LC A.cc):=by
 refine T.KA.ok Pb (fun vs H Q E h=>?_) (fun cdv Ar outer s H vs Q E hr h=>?_)
 ·obtain ⟨p,dx,f,h,rfl,_⟩:=h
  rfl
 ·obtain ⟨p,dx,f,h,rfl,hp,k⟩:=h
  refine ⟨_,ai (bY (pv 0) (pv 1) rfl) (aj (bY (pv 0) (pv 2) rfl)),?_⟩
  refine ⟨_,rfl,_,rfl,p,A.cc,dx, [],rfl,hp,T.lV,T.CQ,(by show 0<1000;decide),?_⟩
  refine ⟨_,rfl,_,rfl,p,A.cc,dx,_,rfl,ak,T.lV,T.BR,(by show 1<1000;decide),?_⟩
  rw[FI,cM]
  exact k
theorem iS {H:Hp} {x dx C:Addr} {fs:List (Str×V)}:upd (upd (upd H dx (.own x)) x (.ins C dx [])) x (.ins C dx fs)=upd (upd H dx (.own x)) x (.ins C dx fs):=cM
theorem eG {H:Hp} {x dx:Addr} {o u:HO} (hx:H x=none) (hd:H dx=none):ae H (upd (upd H dx o) x u):=fun b v e=>by
 rw[ay (bZ e hx),ay (bZ e hd)];exact e
theorem xM: ∀(a y:List Int) (i t:Nat),i<a.length→fL (a.take (i+1)) y t=fL (a.take i) y t+a.getD i 0*y.getD (t-1-i) 0
 | [],y,i,t,h=>by simp at h
 |f::fs,y,0,t,h=>by simp [fL]
 |f::fs,y,i+1,t,h=>by
  rw[List.take_succ_cons,List.take_succ_cons]
  simp only [fL]
  rw[xM fs y i (t-1) (by simpa using h)]
  have e:t-1-1-i=t-1-(i+1):=by lia
  rw[e,List.getD_cons_succ]
  lia
def FJ (K:PySem.W.Frag) (C:Addr):Sp:=fun vs H Q _=> ∃(x q:Addr) (a y:List Int) (h t:Nat),vs= [.ref x, .ref q, .int t]∧gn K C H x a h∧af K H q (y.map V.int)∧(a.length≤t∧t≤y.length)∧Bd 2048 a∧Q (.int (rg a h y t)) H
theorem kh:aG ["self", "numbers", "place", "total", "before", "factor"] ["self", "numbers", "place"] (aB DM):=⟨rfl,rfl,rfl,by decide+kernel,rfl,by decide+kernel,by decide+kernel⟩
theorem Oo (T:Txt K mg A):aA P w K mg base aQ 1 A.me A.pX ["self", "numbers", "place"] (FJ K A.cc):=by
 refine T.Qq.ok kh (fun vs H Q E h=>?_) (fun cdv Ar outer s H vs Q E hr h=>?_)
 ·obtain ⟨x,q,a,y,h,t,rfl,_⟩:=h
  rfl
 ·obtain ⟨x,q,a,y,h,t,rfl,⟨dx,p,hx,hp⟩,hq,⟨h1,h2⟩,hb,k⟩:=h
  refine ⟨_,ai (aC (i:=3) kh.nd rfl (Or.inl rfl) ao) (ai (aC (i:=4) kh.nd rfl (Or.inl rfl) (pv 2))
   (ai (cj PassesOwn.never rfl (gK (bI (pv 0) rfl)) (aN (i:=5) kh.nd rfl (Or.inl rfl))
    (ai (f7 (i:=4) kh.nd rfl (Or.inl rfl) ao MW) (aj (f7 (i:=3) kh.nd rfl (Or.inl rfl) (aq gz (pv 5) (bS fR (pv 1) (pv 4) (fun _ _=>rfl))) qF))))
   (aj (aM (aq fg (pv 3) (bI (pv 0) rfl)))))),?_⟩
  refine ⟨_,rfl,_,rfl,x,A.cc,dx,_,_,rfl,hx,T.lV,T.CQ,OW _ _,p,rfl,⟨_,hp⟩,?_⟩
  refine fA (K:=K) (a:=p) (xs:=a.map V.int) (fun i σ H'=>H'=H∧ ∃v:Option V,σ= [some (.ref x),some (.ref q),some (.int t),some (.int (fL (a.take i) y t)),some (.int ((t:Int)-i)),v])
   ⟨rfl,none,by simp [L2.start,fL]⟩ (fun i σ H' _ ⟨e,_⟩=>by rw[e];exact hp) ?_ ?_
  ·rintro i y' σ H' hi ⟨rfl,v,rfl⟩
   obtain ⟨rfl,hl⟩:=rM hi
   have hm:=hb _ (show a.getD i 0∈a by rw[List.getD_eq_getElem?_getD,List.getElem?_eq_getElem hl];exact List.getElem_mem hl)
   have e1:(t:Int)-i-1=((t-1-i:Nat):Int):=by lia
   refine ⟨_,rfl,_,_,rfl,rfl,_,rfl,_,rfl,_,rfl,_,rfl,q,_,_,_,rfl,rfl,hq,at_of e1 (kd (by lia)),_,_,rfl,rfl, .inl ⟨by lia,by lia⟩,_,_,rfl,rfl,rfl,some (.int (a.getD i 0)),?_⟩
   rw[xM a y i t hl]
   have e2:(t:Int)-i-1=(t:Int)-((i+1:Nat):Int):=by lia
   rw[←e2]
   rfl
  ·rintro σ H' ⟨rfl,v,rfl⟩
   refine ⟨_,rfl,_,rfl,x,A.cc,dx,_,_,rfl,hx,T.lV,T.BR,QH _ _,_,_,rfl,rfl,(by lia),?_⟩
   rw[List.length_map,List.take_length]
   exact k
def Ra (K:PySem.W.Frag) (C:Addr):Sp:=fun vs H Q _=> ∃p:Nat,vs= [.int p]∧p≤4∧ ∀x H',H x=none→ae H H'→gn K C (newOf H H') x (Sound.FIXED.getD p []) 0→Q (.ref x) H'
theorem JZ:aG ["order"] ["order"] (aB Dq):=⟨rfl,rfl,rfl,by decide+kernel,rfl,by decide+kernel,by decide+kernel⟩
theorem OP (T:Txt K mg A) {p:Nat} (h:p≤4) (H:Hp): ∃b,fC [V.ref A.mU,V.ref A.nj,V.ref A.lU,V.ref A.ni,V.ref A.kz] (p:Int)=some (V.ref b)∧aP K H b ((Sound.FIXED.getD p []).map V.int):=by
 rcases (by lia:p=0∨p=1∨p=2∨p=3∨p=4) with rfl|rfl|rfl|rfl|rfl
 ·exact ⟨_,bL rfl,T.Kf H⟩
 ·exact ⟨_,bL rfl,T.Ff H⟩
 ·exact ⟨_,bL rfl,T.Gw H⟩
 ·exact ⟨_,bL rfl,T.OO H⟩
 ·exact ⟨_,bL rfl,T.QV H⟩
theorem G8 (T:Txt K mg A):aA P w K mg base aQ 3 A.nY A.mM ["order"] (Ra K A.cc):=by
 refine T.zi.ok JZ (fun vs H Q E h=>?_) (fun cdv Ar outer s H vs Q E hr h=>?_)
 ·obtain ⟨p,rfl,_⟩:=h
  rfl
 ·obtain ⟨p,rfl,hp,k⟩:=h
  refine ⟨_,aj (aM (gN T.AD (zw T) hr rfl T.Ac T.yP .nil aI
   (aa (xa zX rfl T.vi (by decide+kernel:bootBuiltins "list" =some (.type "list")) (aa (bS vF (lT rfl T.Ru) (pv 0) (fun _ _=>rfl)) ah)) (aa ao ah)))),?_⟩
  obtain ⟨b,hb,hT⟩:=OP T hp H
  refine ⟨_,rfl,A.oB,_,_,_,rfl,rfl,T.ID H,hb,b,_,rfl, .inr hT,fun l hl=>?_⟩
  intro x dx hx hdx hne
  refine (⟨x,dx,_,_,rfl,ak,rfl,?_⟩)
  rw[iS]
  have hx0:H x=none:=by
   cases e:H x with
   |none=>rfl
   |some o=>rw[aE hl _ _ e] at hx;cases hx
  refine k x _ hx0 ((aE hl).trans (eG hx hdx)) ⟨dx,l,(ki hx0).trans ak,af.of ((ki hl).trans ?_)⟩
  exact eG hx hdx _ _ ak
def K6 (K:PySem.W.Frag):Sp:=fun vs H Q _=> ∃(q:Addr) (l:List Nat),vs= [.ref q]∧af K H q (vN l)∧(∀x∈l,x<256)∧Q (.int (qf l:Nat)) H
theorem jv:aG ["data", "check", "byte", "step"] ["data"] (aB Co):=⟨rfl,rfl,rfl,by decide+kernel,rfl,by decide+kernel,by decide+kernel⟩
def iu:Nat→Nat→Nat
 |0,c=>c
 |j+1,c=>gC (iu j c)
theorem O3 {p:Nat} (h:p<65536):gC p<65536:=by
 unfold gC
 split
 ·rename_i hc
  rw[show (69665:Nat)=65536^^^4129 by decide,←Nat.xor_assoc,yj (by lia) (by lia)]
  exact rE (Nat.mod_lt _ (by decide)) (by decide)
 ·lia
theorem zL {c:Nat} (h:c<65536): ∀j,iu j c<65536
 |0=>h
 |j+1=>O3 (zL h j)
theorem PV (c b:Nat):iu 8 (c^^^(b*256))=dW c b:=by
 unfold dW
 rw[show List.range 8= [0,1,2,3,4,5,6,7] from rfl]
 simp only [List.foldl_cons,List.foldl_nil,iu]
theorem Fs (T:Txt K mg A):aA P w K mg base aQ 1 A.nS A.mQ ["data"] (K6 K):=by
 refine T.Az.ok jv (fun vs H Q E h=>?_) (fun cdv Ar outer s H vs Q E hr h=>?_)
 ·obtain ⟨q,l,rfl,_⟩:=h
  rfl
 ·obtain ⟨q,l,rfl,hq,hb,k⟩:=h
  refine ⟨_,ai (aC (i:=1) jv.nd rfl (Or.inl rfl) ao)
   (ai (cj PassesOwn.never rfl (gK (pv 0)) (aN (i:=2) jv.nd rfl (Or.inl rfl))
    (ai (f7 (i:=1) jv.nd rfl (Or.inl rfl) (aq je (pv 2) ao) rK)
    (aj (cj PassesOwn.never rfl (eN rfl T.dJ (aa ao ah)) (aN (i:=3) jv.nd rfl (Or.inl rfl))
     (ai (f7 (i:=1) jv.nd rfl (Or.inl rfl) ao Ax)
     (aj (bc (aU fH (pv 1) ao (aT _)) (aj (f7 (i:=1) jv.nd rfl (Or.inl rfl) ao rK)) bA)))))))
   (aj (aM (pv 1)))),?_⟩
  refine ⟨_,rfl,q,rfl,⟨_,hq⟩,?_⟩
  refine fA (K:=K) (a:=q) (xs:=vN l) (fun i σ H'=>H'=H∧(l.take i).foldl dW 65535<65536∧ ∃v2 v3:Option V,σ= [some (.ref q),some (.int ((l.take i).foldl dW 65535:Nat)),v2,v3]) ⟨rfl,(by rw[List.take_zero,List.foldl_nil];decide),none,none,(by rw[List.take_zero,List.foldl_nil];rfl)⟩ (fun i σ H' _ ⟨e,_⟩=>by rw[e];exact hq) ?_ ?_
  ·rintro i x σ H' hi ⟨rfl,hlt,v2,v3,rfl⟩
   obtain ⟨rfl,hil⟩:=dD hi
   generalize hc:(l.take i).foldl dW 65535=c at*
   have hbl:l.getD i 0<256:=hb _ (by rw[List.getD_eq_getElem?_getD,List.getElem?_eq_getElem hil];exact List.getElem_mem hil)
   have enext:(l.take (i+1)).foldl dW 65535=dW c (l.getD i 0):=by
    rw[List.take_succ,List.getElem?_eq_getElem hil,List.foldl_append,hc,List.getD_eq_getElem?_getD,List.getElem?_eq_getElem hil]
    simp only [Option.toList_some,List.foldl_cons,List.foldl_nil,Option.getD_some]
   have hnlt:dW c (l.getD i 0)<65536:=(xi hlt hbl).2
   refine ⟨_,rfl,_,rfl,_,_,rfl,rfl,⟨by decide,by decide,by rw[Int.natAbs_natCast];lia⟩,_,_,rfl,rfl,?_⟩
   have ex:Builtin.bitXor ((c:Nat):Int) (((l.getD i 0:Nat):Int)*2^(8:Int).toNat)=((c^^^(l.getD i 0*256):Nat):Int):=by
    rw[←gO]
    congr 1
   dsimp only
   rw[ex]
   have hstart:c^^^(l.getD i 0*256)<65536:=rE hlt (by lia)
   refine ⟨_,rfl,by decide,by decide,?_⟩
   refine fM (lo:=0) (n:=8) (fun j σ Hj=>Hj=H'∧ ∃v3:Option V,σ= [some (.ref q),some (.int (iu j (c^^^(l.getD i 0*256)):Nat)),some (.int (l.getD i 0:Nat)),v3]) ⟨rfl,v3,rfl⟩ ?_ ?_
   ·rintro j σ H' hj ⟨rfl,v3,rfl⟩
    have hjl:=zL hstart j
    generalize hp:iu j (c^^^(l.getD i 0*256))=p at*
    have hnx:iu (j+1) (c^^^(l.getD i 0*256))=gC p:=by rw[iu,hp]
    rw[Int.zero_add]
    refine ⟨_,rfl,_,_,rfl,rfl,⟨by decide,by decide,by rw[Int.natAbs_natCast];lia⟩,?_⟩
    have e2:((p:Nat):Int)*2^(1:Int).toNat=((2*p:Nat):Int):=by
     rw[show (2:Int)^(1:Int).toNat=2 by decide];lia
    dsimp only
    rw[e2]
    refine ⟨_,rfl,_,_,rfl,rfl,_,rfl,?_⟩
    refine bX (fun hc2=>?_) fun hc2=>?_
    ·have hc2:(65535:Int)<((2*p:Nat):Int):=of_decide_eq_true hc2
     refine ⟨_,rfl,_,_,rfl,rfl,rfl,some (.int (j:Nat)),?_⟩
     rw[hnx]
     unfold gC
     rw[if_pos (by lia)]
     have:=gO (2*p) 69665
     show [some (V.ref q),some (V.int (Builtin.bitXor ((2*p:Nat):Int) 69665)),some (V.int (l.getD i 0:Nat)),some (V.int (j:Nat))]=_
     rw[show (69665:Int)=((69665:Nat):Int) from rfl,this]
    ·have hc2: ¬(65535:Int)<((2*p:Nat):Int):=fun z=>hc2 (decide_eq_true z)
     refine ⟨rfl,some (.int (j:Nat)),?_⟩
     rw[hnx]
     unfold gC
     rw[if_neg (by lia)]
     rfl
   ·rintro σ H' ⟨rfl,v3,rfl⟩
    refine ⟨rfl,?_,some (.int (l.getD i 0:Nat)),v3,?_⟩
    ·rw[enext];exact hnlt
    ·rw[enext,PV]
  ·rintro σ H' ⟨rfl,_,v2,v3,rfl⟩
   rw[aR,List.take_length]
   exact ⟨_,rfl,k⟩
def sy:List Nat:= [1,4,16,0,1,0]
def vH:List Nat:= [4,24,256,4,8,4]
def mY (i z:Nat):Bool:=decide (((sy.getD i 0:Nat):Int)≤(z:Nat))&&decide ((z:Int)≤(vH.getD i 0:Nat))
theorem Bx (T:Txt K mg A) {i:Nat} (hi:i<6): ∃b,([V.ref A.nF,V.ref A.og,V.ref A.kr,V.ref A.lB,V.ref A.mX,V.ref A.nV]:List V)[i]?=some (.ref b)∧ ∀H,aP K H b [V.int ((sy.getD i 0:Nat):Int),V.int ((vH.getD i 0:Nat):Int)]:=by
 rcases (by lia:i=0∨i=1∨i=2∨i=3∨i=4∨i=5) with rfl|rfl|rfl|rfl|rfl|rfl
 ·exact ⟨_,rfl,T.NZ⟩
 ·exact ⟨_,rfl,T.Nl⟩
 ·exact ⟨_,rfl,T.Kl⟩
 ·exact ⟨_,rfl,T.RJ⟩
 ·exact ⟨_,rfl,T.EU⟩
 ·exact ⟨_,rfl,T.Pz⟩
theorem LX {fm:List Nat} (h: ¬fm.length=6):(Sound.formOf fm).isSome=false:=by
 unfold Sound.formOf
 split
 ·exact absurd rfl h
 ·rfl
theorem NK {fm:List Nat} (h:fm.length=6):((List.range 6).map fun i=>mY i (fm.getD i 0)).all id=(Sound.formOf fm).isSome:=by
 match fm,h with
 | [c,d,b,o,g,p],_=>
  rw[show List.range 6= [0,1,2,3,4,5] from rfl]
  have e:(Sound.formOf [c,d,b,o,g,p]).isSome=(Sound.Form.mk c d b o g p).ok:=by
   unfold Sound.formOf
   simp only
   cases (Sound.Form.mk c d b o g p).ok<;>rfl
  rw[e,Bool.eq_iff_iff]
  unfold Sound.Form.ok
  simp only [List.map_cons,List.map_nil,List.all_cons,List.all_nil,mY,sy,vH,List.getD_cons_zero,List.getD_cons_succ,id,Bool.and_eq_true,decide_eq_true_eq,and_true]
  omega
def N1 (K:PySem.W.Frag):Sp:=fun vs H Q _=> ∃(q:Addr) (fm:List Nat),vs= [.ref q]∧af K H q (vN fm)∧ ∀H',ae H H'→Q (.bl (Sound.formOf fm).isSome) H'
theorem sk:aG ["form", "number", "bounds"] ["form"] (aB Dv):=⟨rfl,rfl,rfl,by decide+kernel,rfl,by decide+kernel,by decide+kernel⟩
theorem Qw (T:Txt K mg A):aA P w K mg base aQ 1 A.ll A.mL ["form"] (N1 K):=by
 refine T.CV.ok sk (fun vs H Q E h=>?_) (fun cdv Ar outer s H vs Q E hr h=>?_)
 ·obtain ⟨q,fm,rfl,_⟩:=h
  rfl
 ·obtain ⟨q,fm,rfl,hq,k⟩:=h
  refine ⟨_,ai (bc (aU iT (bQ jA (by rfl) T.b6 PySem.boot_len (aa (pv 0) ah)) (bQ jA (by rfl) T.b6 PySem.boot_len (aa (lT rfl T.yD) ah)) (aT _)) (aj (aM MG)) bA)
   (aj (aM (bQ (FV rfl) rfl T.Lk (by decide+kernel:bootBuiltins "all" =some (.builtin "all")) (aa (dB (own:= [("number",1),("bounds",2)]) rfl sk.nd (NS rfl T.qx (aa (pv 0) (aa (lT rfl T.yD) ah))) (cv (by kernel_rfl))
    (fun _ _ _ _ _=>i5 (K:=K) (n:=2) rfl rfl (dR (aN (i:=1) sk.nd rfl (Or.inl rfl)) (dR (aN (i:=2) sk.nd rfl (Or.inl rfl)) jl))) (fun _ _ _ _ _=>c9)
    (fun _ _ _ _ _=>DR gI gI (bS (qe (K:=K) rfl) (pv 2) ao (fun _ _=>rfl)) (pv 1) (bS (qe (K:=K) rfl) (pv 2) ao (fun _ _=>rfl)))) ah)))),?_⟩
  refine ⟨_,rfl,q,_,rfl, .inl hq,A.i4,_,rfl, .inr (T.kJ _),rfl,_,rfl,?_⟩
  refine bX (fun hne=>?_) fun hne=>?_
  ·have h6: ¬fm.length=6:=fun e=>by
    have hl:(vN fm).length=6:=by rw[aR,e]
    rw[hl] at hne
    exact absurd hne (show¬((!decide (V.int ((6:Nat):Int)=V.int ((6:Nat):Int)))=true) by decide)
   have:=k H (ae.refl _)
   rw[LX h6] at this
   exact this
  ·have h6:fm.length=6:=by
    by_cases e:fm.length=6
    ·exact e
    ·exfalso
     apply hne
     rw[Bool.not_eq_true',decide_eq_false_iff_not]
     intro z
     have z:=V.int.inj z
     rw[aR] at z
     have z:((fm.length:Nat):Int)=((6:Nat):Int):=z
     lia
   refine ⟨_,rfl,q,A.i4,_,_,rfl,hq,T.kJ _,fun D hD=>?_⟩
   refine eZ (J:=tu K q A.i4) hD 6 (by rw[sizeLine_eq];lia) (fun i=> .bl (mY i (fm.getD i 0)))
    (fun i Hh hi s1=>by
     obtain ⟨b,hb1,_⟩:=Bx T hi
     exact ⟨_,_,_,_,s1.seq hq,T.kJ _,dE (by lia),hb1⟩) (fun Hh s1=>⟨_,_,s1.seq hq,T.kJ _, .inl (by rw[aR];lia)⟩) ?_ ?_
   ·rintro i Hh z H' hi s1 ⟨t,x1,y1,rfl,ht,rfl,hx,hy⟩ C hC
    obtain ⟨rfl,_⟩:=dD (hx _ (s1.seq hq))
    obtain ⟨b,hb1,hb2⟩:=Bx T hi
    have e:=hy _ (T.kJ _)
    rw[hb1] at e
    cases e
    have st:ae Hh (upd Hh t (.tup [V.int ((fm.getD i 0:Nat):Int),V.ref b])):=aE ht
    refine (⟨t,_,rfl,aP.of ak,rfl,_,_,rfl,_,_,rfl,rfl,rfl,?_⟩)
    refine ⟨_,rfl,b,_,_,_,rfl,rfl,hb2 _,bL (j:=0) rfl,_,rfl,_,_,rfl,rfl,_,rfl,?_⟩
    have hC:=hC _ st
    unfold mY at hC
    by_cases c1:((sy.getD i 0:Nat):Int)≤((fm.getD i 0:Nat):Int)
    ·rw[decide_eq_true c1,Bool.true_and] at hC
     rw[decide_eq_true c1]
     exact aW ⟨_,rfl,b,_,_,_,rfl,rfl,hb2 _,bL (j:=1) rfl,_,_,rfl,rfl,hC⟩
    ·rw[decide_eq_false c1,Bool.false_and] at hC
     rw[decide_eq_false c1]
     exact aZ hC
   ·intro Hh s1 hx
    refine ⟨D,(List.range 6).map fun i=>mY i (fm.getD i 0),rfl,af.of (hx.trans ?_),?_⟩
    ·rw[List.map_map];rfl
    ·rw[NK h6]
     exact k _ s1
def d6 (l:List Int):Sound.Bytes:=SoNeutral.bytes l
theorem JO {l:List Int} (h: ∀x∈l,0≤x∧x≤255):l.map V.int=vN (bn (d6 l)):=by
 unfold vN bn d6 SoNeutral.bytes
 rw[List.map_map,List.map_map]
 refine List.map_congr_left fun x hx=>?_
 obtain ⟨h1,h2⟩:=h x hx
 show V.int x=V.int (((UInt8.ofNat x.toNat).toNat:Nat):Int)
 rw[UInt8.toNat_ofNat',Nat.mod_eq_of_lt (by lia)]
 congr 1;lia
theorem Ds (l:List Int):(d6 l).length=l.length:=by unfold d6 SoNeutral.bytes;rw[List.length_map]
theorem Fy {l:List Int} (hl:l.length≤16384):Sound.tooLong (d6 l)=false:=by
 unfold Sound.tooLong Sound.FILE
 rw[Ds];exact decide_eq_false (by lia)
def iW (l:List Int):List Nat:=l.map Int.toNat
theorem Jx {fm:List Int} (h: ∀z∈fm,0≤z):fm.map V.int=vN (iW fm):=by
 unfold vN iW
 rw[List.map_map]
 refine List.map_congr_left fun z hz=>?_
 have:=h z hz
 show V.int z=V.int (z.toNat:Nat)
 congr 1;lia
theorem N6 {l:List Nat} {F:Sound.Form} (h:Sound.formOf l=some F):l= [F.channels,F.depth,F.block,F.order,F.group,F.spare]∧F.ok=true:=by
 unfold Sound.formOf at h
 split at h
 ·simp only at h
  split at h
  ·rename_i ag
   cases h
   exact ⟨rfl,ag⟩
  ·cases h
 ·cases h
def Di (g j r s:V):List (Str×V):= [("g",g),("j",j),("row",r),("size",s)]
def gY (K:PySem.W.Frag) (C:Addr) (H:Hp) (x:Addr) (p:Sound.Piece):Prop:= ∃dx q,H x=some (.ins C dx (Di (.int p.g) (.int p.j) (.ref q) (.int (11+p.row.length:Nat))))∧H q=some (.lst (vN (bn p.row)))
theorem gY.same {C:Addr} {H H':Hp} {x:Addr} {p:Sound.Piece} (h:gY K C H x p) (s:ae H H'):gY K C H' x p:=by
 obtain ⟨dx,q,h1,h2⟩:=h
 exact (aS dx q ⟨s _ _ h1,s _ _ h2⟩)
def Na (K:PySem.W.Frag) (C:Addr):Sp:=fun vs H Q _=> ∃(p dx q:Addr) (g j:V) (xs:List V),vs= [.ref p,g,j, .ref q]∧H p=some (.ins C dx [])∧af K H q xs∧Q .au (upd H p (.ins C dx (Di g j (.ref q) (.int (11+xs.length:Nat)))))
theorem Ew:aG ["self", "g", "j", "row"] ["self", "g", "j", "row"] (aB By):=⟨rfl,rfl,rfl,by decide+kernel,rfl,by decide+kernel,by decide+kernel⟩
theorem EX (T:Txt K mg A):aA P w K mg base aQ 1 A.lG A.mO ["self", "g", "j", "row"] (Na K A.cE):=by
 refine T.Ob.ok Ew (fun vs H Q E h=>?_) (fun cdv Ar outer s H vs Q E hr h=>?_)
 ·obtain ⟨p,dx,q,g,j,xs,rfl,_⟩:=h
  rfl
 ·obtain ⟨p,dx,q,g,j,xs,rfl,hp,hq,k⟩:=h
  refine ⟨_,ai (f9 (K:=K) rfl (pv 0) (pv 1) rfl) (ai (f9 (K:=K) rfl (pv 0) (pv 2) rfl) (ai (f9 (K:=K) rfl (pv 0) (pv 3) rfl)
   (aj (f9 (K:=K) rfl (pv 0) (aq bT (aq bT (bp rfl T.qc) (bQ (dq (K:=K) rfl) (by rfl) T.b6 PySem.boot_len (aa (pv 3) ah))) (bp rfl T.tq)) rfl)))),?_⟩
  have sq: ∀fs,af K (upd H p (.ins A.cE dx fs)) q xs:=fun fs=>by
   rcases hq with (h|⟨ob,h⟩)|h
   ·exact .inl (.inl (by rw[ay (fD h hp (by intro e;cases e))];exact h))
   ·exact .inl (.inr ⟨ob,by rw[ay (fD h hp (by intro e;cases e))];exact h⟩)
   ·exact .inr h
  refine ⟨_,rfl,_,rfl,p,A.cE,dx, [],rfl,hp,T.dQ,T.uF,(by show 0<1000;decide),?_⟩
  refine ⟨_,rfl,_,rfl,p,A.cE,dx,_,rfl,ak,T.dQ,T.kX,(by show 1<1000;decide),?_⟩
  rw[cM]
  refine ⟨_,rfl,_,rfl,p,A.cE,dx,_,rfl,ak,T.dQ,T.oZ,(by show 2<1000;decide),?_⟩
  rw[cM]
  refine ⟨_,rfl,q,xs,rfl, .inl (sq _),_,_,rfl,rfl,_,_,rfl,rfl,_,rfl,p,A.cE,dx,_,rfl,ak,T.dQ,T.DX,(by show 3<1000;decide),?_⟩
  rw[cM]
  have e:(7:Int)+((xs.length:Nat):Int)+4=((11+xs.length:Nat):Int):=by lia
  rw[←e] at k
  exact k
def pieceAt (b:Sound.Bytes):Option Sound.Piece:=
 let r:=Sound.fromHigh ((b.drop 5).take 2)
 if Sound.fromHigh (b.take 2)≠19280∨ ¬(3≤r∧r≤4098)∨b.length<11+r∨Sound.fromHigh ((b.drop (7+r)).take 4)≠Sound.crc32 (b.take (7+r)) then none
 else some ⟨Sound.fromHigh ((b.drop 2).take 2),Sound.fromHigh ((b.drop 4).take 1),(b.drop 7).take r⟩
theorem DB (b:Sound.Bytes):Sound.fromHigh (b.take 2)=19280↔b.take 2=Sound.high 2 0x4B50:=by
 have hl:(b.take 2).length≤2:=by rw[List.length_take];lia
 generalize b.take 2=l at*
 constructor
 ·intro h
  rw[sL] at h
  match l,hl,h with
  | [],_,h=>exact absurd h (by decide)
  | [x],_,h=>
   have h:256*0+x.toNat=19280:=h
   have:=x.toNat_lt
   lia
  | [x,y],_,h=>
   have h:256*(256*0+x.toNat)+y.toNat=19280:=h
   have:=x.toNat_lt
   have:=y.toNat_lt
   have h1:x.toNat=75:=by lia
   have h2:y.toNat=80:=by lia
   have e1:x=75:=UInt8.toNat_inj.mp (by rw[h1];rfl)
   have e2:y=80:=UInt8.toNat_inj.mp (by rw[h2];rfl)
   rw[e1,e2];decide
  |_::_::_::_,hl,_=>simp at hl
 ·rintro rfl
  decide
theorem IS (b:Sound.Bytes):pieceAt b=match Sound.takePiece b with
  |none=>none
  |some (p,_)=>if 3≤p.row.length∧p.row.length≤4098 then some p else none:=by
 unfold pieceAt Sound.takePiece
 simp only
 generalize hr:Sound.fromHigh ((b.drop 5).take 2)=r
 by_cases c:b.take 2≠Sound.high 2 0x4B50∨b.length<11+r∨Sound.fromHigh ((b.drop (7+r)).take 4)≠Sound.crc32 (b.take (7+r))
 ·rw[if_pos c,if_pos]
  rcases c with c|c|c
  ·exact .inl fun z=>c ((DB b).mp z)
  ·exact .inr (.inr (.inl c))
  ·exact .inr (.inr (.inr c))
 ·rw[if_neg c]
  have hl:((b.drop 7).take r).length=r:=by
   rw[List.length_take,List.length_drop]
   have: ¬b.length<11+r:=fun z=>c (.inr (.inl z))
   lia
  simp only [hl]
  by_cases c2:3≤r∧r≤4098
  ·rw[if_pos c2,if_neg]
   rintro (z|z|z|z)
   ·exact c (.inl fun y=>z ((DB b).mpr y))
   ·exact z c2
   ·exact c (.inr (.inl z))
   ·exact c (.inr (.inr z))
  ·rw[if_neg c2,if_pos (.inr (.inl c2))]
theorem take_size {b:Sound.Bytes} {p:Sound.Piece} {n:Nat} (h:Sound.takePiece b=some (p,n)):n=11+p.row.length∧n≤b.length:=by
 unfold Sound.takePiece at h
 simp only at h
 split at h
 ·cases h
 ·rename_i c
  cases h
  have: ¬b.length<11+Sound.fromHigh ((b.drop 5).take 2):=fun z=>c (.inr (.inl z))
  dsimp only
  rw[List.length_take,List.length_drop]
  lia
def wu (K:PySem.W.Frag) (C:Addr) (o:Option Sound.Piece) (H:Hp) (Q:VK):Prop:=match o with
 |none=> ∀H',ae H H'→Q .au H'
 |some p=> ∀x H',ae H H'→gY K C (newOf H H') x p→Q (.ref x) H'
def JR (K:PySem.W.Frag) (C:Addr):Sp:=fun vs H Q _=> ∃(q:Addr) (B:Sound.Bytes) (pl:Nat),vs= [.ref q, .int pl]∧af K H q (vN (bn B))∧(B.length≤16384∧pl≤B.length)∧wu K C (pieceAt (B.drop pl)) H Q
theorem sx:aG ["data", "place", "front", "row_size", "behind"] ["data", "place"] (aB AF):=⟨rfl,rfl,rfl,by decide+kernel,rfl,by decide+kernel,by decide+kernel⟩
theorem QM (T:Txt K mg A):aA P w K mg base aQ 3 A.mS A.mZ ["data", "place"] (JR K A.cE):=by
 refine T.CZ.ok sx (fun vs H Q E h=>?_) (fun cdv Ar outer s H vs Q E hr h=>?_)
 ·obtain ⟨q,B,pl,rfl,_⟩:=h
  rfl
 ·obtain ⟨q,B,pl,rfl,hq,⟨hB,hpl⟩,k⟩:=h
  have hr1':aF 1 _:=hr.mono (by decide)
  refine ⟨_,ai (aC (i:=2) sx.nd rfl (Or.inl rfl) (di (eD (K:=K) rfl) (pv 0) (bV (pv 1)) (bV (aq bT (pv 1) (bp rfl T.qc)))))
   (ai (aC (i:=3) sx.nd rfl (Or.inl rfl) (aL (mD (K:=K) T) hr1' rfl T.oN T.jX.kp T.pK .nil aI (aa (di (eD (K:=K) rfl) (pv 2) (bV ao) iz) ah)))
   (ai (aC (i:=4) sx.nd rfl (Or.inl rfl) (aq bT (aq bT (pv 1) (bp rfl T.qc)) (pv 3)))
   (ai (bc (PW.pt (jG (aU iT (aL (mD (K:=K) T) hr1' rfl T.oN T.jX.kp T.pK .nil aI (aa (di (eD (K:=K) rfl) (pv 2) iz (bV ao)) ah)) (bp rfl T.JM) (aT _)) (pF (jj (vI gI gI (bp rfl T.Jz) (pv 3) (bp rfl T.N0)))))) (aj (aM fh)) bA)
   (ai (bc (aU fH (aq bT (pv 4) (bp rfl T.tq)) (bQ (dq (K:=K) rfl) (by rfl) T.b6 PySem.boot_len (aa (pv 0) ah)) (aT _)) (aj (aM fh)) bA)
   (ai (bc (aU iT (aL (mD (K:=K) T) hr1' rfl T.oN T.jX.kp T.pK .nil aI (aa (di (eD (K:=K) rfl) (pv 0) (bV (pv 4)) (bV (aq bT (pv 4) (bp rfl T.tq)))) ah))
     (aL (Rq (K:=K) T) hr1' rfl T.MU T.Cs.kp T.Gr .nil aI (aa (di (eD (K:=K) rfl) (pv 0) (bV (pv 1)) (bV (pv 4))) ah)) (aT _)) (aj (aM fh)) bA)
   (aj (aM (gN T.Rc (EX (K:=K) T) hr rfl T.OK T.JT .nil aI (aa (aL (mD (K:=K) T) hr1' rfl T.oN T.jX.kp T.pK .nil aI (aa (di (eD (K:=K) rfl) (pv 2) (bV ao) (bV ao)) ah))
    (aa (bS (eP (K:=K) rfl) (pv 2) ao (fun _ _=>rfl)) (aa (di (eD (K:=K) rfl) (pv 0) (bV (aq bT (pv 1) (bp rfl T.qc))) (bV (pv 4))) ah))))))))))),?_⟩
  have fr: ∀l:Sound.Bytes,bg (bn l)=Sound.fromHigh l:=fun l=>(sL l).symm
  refine ⟨_,rfl,_,rfl,_,rfl,_,rfl,_,_,rfl,rfl,_,rfl,q,_,rfl,hq,fun p1 hp1=>?_⟩
  dsimp only
  rw[show ((pl:Nat):Int)+7=((pl+7:Nat):Int) by lia,gg,show pl+7-pl=7 by lia,fY,eM]
  generalize hb:B.drop pl=b at*
  have s1:=aE (o:= .lst (vN (bn (b.take 7)))) hp1
  have hx1:upd H p1 (.lst (vN (bn (b.take 7)))) p1=some (.lst (vN (bn (b.take 7)))):=ak
  generalize upd H p1 (.lst (vN (bn (b.take 7))))=H1 at*
  refine ⟨_,rfl,_,rfl,p1,_,rfl,af.of hx1,fun p2 hp2=>?_⟩
  rw[show (5:Int)=((5:Nat):Int) from rfl,uK,fY,List.drop_take,show 7-5=2 from rfl]
  refine (aS p2 (bn ((b.drop 5).take 2)) ⟨rfl,af.of ak,(by rw[bM,List.length_take];lia),fU _,?_⟩)
  rw[fr]
  have s2:=s1.trans (aE (o:= .lst (vN (bn ((b.drop 5).take 2)))) hp2)
  have hx2:upd H1 p2 (.lst (vN (bn ((b.drop 5).take 2)))) p1=some (.lst (vN (bn (b.take 7)))):=aE hp2 _ _ hx1
  generalize upd H1 p2 (.lst (vN (bn ((b.drop 5).take 2))))=H2 at*
  unfold wu pieceAt at k
  simp only at k
  generalize hrr:Sound.fromHigh ((b.drop 5).take 2)=r at*
  have hblen:b.length=B.length-pl:=by rw[←hb,List.length_drop]
  have none_:(Sound.fromHigh (b.take 2)≠19280∨ ¬(3≤r∧r≤4098)∨b.length<11+r∨Sound.fromHigh ((b.drop (7+r)).take 4)≠Sound.crc32 (b.take (7+r)))→ ∀H',ae H H'→Q .au H':=fun c H' s'=>by
   rw[if_pos c] at k
   exact k H' s'
  refine ⟨_,rfl,_,_,rfl,rfl,_,rfl,_,_,rfl,rfl,?_⟩
  dsimp only
  rw[show ((pl:Nat):Int)+7+((r:Nat):Int)=((pl+7+r:Nat):Int) by lia]
  refine ⟨_,rfl,_,rfl,p1,_,rfl,af.of hx2,fun p3 hp3=>?_⟩
  rw[show (2:Int)=((2:Nat):Int) from rfl,qa,eM,List.take_take,show min 2 7=2 from rfl]
  refine (aS p3 (bn (b.take 2)) ⟨rfl,af.of ak,(by rw[bM,List.length_take];lia),fU _,rfl,_,rfl,?_⟩)
  rw[fr]
  have s3:=s2.trans (aE (o:= .lst (vN (bn (b.take 2)))) hp3)
  have hx3:upd H2 p3 (.lst (vN (bn (b.take 2)))) p1=some (.lst (vN (bn (b.take 7)))):=aE hp3 _ _ hx2
  generalize upd H2 p3 (.lst (vN (bn (b.take 2))))=H3 at*
  by_cases c1:Sound.fromHigh (b.take 2)=19280
  ·rw[decide_eq_true (show V.int ((Sound.fromHigh (b.take 2):Nat):Int)=V.int 19280 by rw[c1];rfl)]
   refine aZ ⟨_,rfl,_,_,rfl,rfl,_,rfl,?_⟩
   by_cases c2:(3:Int)≤((r:Nat):Int)
   ·rw[decide_eq_true c2]
    refine aW ⟨_,_,rfl,rfl,_,rfl,?_⟩
    by_cases c3:((r:Nat):Int)≤4098
    ·rw[decide_eq_true c3]
     refine aZ ⟨_,rfl,_,_,rfl,rfl,_,rfl,q,_,rfl, .inl (s3.seq hq),_,_,rfl,rfl,_,rfl,?_⟩
     rw[aR,bM]
     refine bX (fun c4=>?_) fun c4=>?_
     ·have c4:((B.length:Nat):Int)<((pl+7+r:Nat):Int)+4:=of_decide_eq_true c4
      exact none_ (.inr (.inr (.inl (by lia)))) _ s3
     ·have c4: ¬((B.length:Nat):Int)<((pl+7+r:Nat):Int)+4:=fun z=>c4 (decide_eq_true z)
      refine ⟨_,rfl,_,rfl,_,rfl,_,rfl,_,_,rfl,rfl,_,rfl,q,_,rfl,s3.seq hq,fun p4 hp4=>?_⟩
      dsimp only
      rw[show ((pl+7+r:Nat):Int)+4=((pl+7+r+4:Nat):Int) by lia,gg,show pl+7+r+4-(pl+7+r)=4 by lia,fY,eM]
      have e4:(B.drop (pl+7+r)).take 4=(b.drop (7+r)).take 4:=by rw[←hb,List.drop_drop,Nat.add_assoc]
      rw[e4]
      refine (aS p4 (bn ((b.drop (7+r)).take 4)) ⟨rfl,af.of ak,(by rw[bM,List.length_take];lia),fU _,?_⟩)
      rw[fr]
      have s4:=s3.trans (aE (o:= .lst (vN (bn ((b.drop (7+r)).take 4)))) hp4)
      have hx4:upd H3 p4 (.lst (vN (bn ((b.drop (7+r)).take 4)))) p1=some (.lst (vN (bn (b.take 7)))):=aE hp4 _ _ hx3
      generalize upd H3 p4 (.lst (vN (bn ((b.drop (7+r)).take 4))))=H4 at*
      refine ⟨_,rfl,_,rfl,_,rfl,_,rfl,_,rfl,q,_,rfl,s4.seq hq,fun p5 hp5=>?_⟩
      rw[gg,show pl+7+r-pl=7+r by lia,fY,eM,hb]
      refine (aS p5 (bn (b.take (7+r))) ⟨rfl,af.of ak,fU _,rfl,_,rfl,?_⟩)
      have ec:qu (bn (b.take (7+r)))=Sound.crc32 (b.take (7+r)):=Pd _
      rw[ec]
      have s5:=s4.trans (aE (o:= .lst (vN (bn (b.take (7+r))))) hp5)
      have hx5:upd H4 p5 (.lst (vN (bn (b.take (7+r))))) p1=some (.lst (vN (bn (b.take 7)))):=aE hp5 _ _ hx4
      generalize upd H4 p5 (.lst (vN (bn (b.take (7+r)))))=H5 at*
      by_cases c5:Sound.fromHigh ((b.drop (7+r)).take 4)=Sound.crc32 (b.take (7+r))
      ·rw[decide_eq_true (by rw[c5])]
       refine aZ ?_
       rw[if_neg (by
        rintro (z|z|z|z)
        ·exact z c1
        ·exact z ⟨by lia,by lia⟩
        ·lia
        ·exact z c5)] at k
       dsimp only at k
       refine ⟨_,rfl,_,rfl,_,rfl,p1,_,rfl,af.of hx5,fun p6 hp6=>?_⟩
       rw[show (4:Int)=((4:Nat):Int) from rfl,gg,fY,eM,List.drop_take,List.take_take]
       have e6:((b.drop 2).take (min (4-2) (7-2)))=(b.drop 2).take 2:=rfl
       rw[e6]
       refine (aS p6 (bn ((b.drop 2).take 2)) ⟨rfl,af.of ak,(by rw[bM,List.length_take];lia),fU _,?_⟩)
       rw[fr]
       have s6:=s5.trans (aE (o:= .lst (vN (bn ((b.drop 2).take 2)))) hp6)
       have hx6:upd H5 p6 (.lst (vN (bn ((b.drop 2).take 2)))) p1=some (.lst (vN (bn (b.take 7)))):=aE hp6 _ _ hx5
       generalize upd H5 p6 (.lst (vN (bn ((b.drop 2).take 2))))=H6 at*
       have hj:(bn (b.take 7)).getD 4 0=Sound.fromHigh ((b.drop 4).take 1):=by
        have h4:4<b.length:=by lia
        have e:(b.drop 4).take 1= [b[4]]:=by
         rw[List.drop_eq_getElem_cons h4,List.take_succ_cons,List.take_zero]
        rw[e,sL]
        show _=256*0+(b[4]).toNat
        unfold bn
        rw[List.getD_eq_getElem?_getD,List.getElem?_map,List.getElem?_take,if_pos (by decide),List.getElem?_eq_getElem h4]
        simp
       refine ⟨_,rfl,p1,_,_,_,rfl,rfl,af.of hx6,bL (j:=4) (dE (by rw[bM,List.length_take];lia)),?_⟩
       rw[hj]
       refine ⟨_,rfl,_,rfl,_,_,rfl,rfl,_,rfl,_,rfl,_,rfl,q,_,rfl,s6.seq hq,fun p7 hp7=>?_⟩
       dsimp only
       rw[show ((pl:Nat):Int)+7=((pl+7:Nat):Int) by lia,gg,show pl+7+r-(pl+7)=r by lia,fY,eM]
       have e7:(B.drop (pl+7)).take r=(b.drop 7).take r:=by rw[←hb,List.drop_drop]
       rw[e7]
       have s7:=s6.trans (aE (o:= .lst (vN (bn ((b.drop 7).take r)))) hp7)
       have hx7:upd H6 p7 (.lst (vN (bn ((b.drop 7).take r)))) p7=some (.lst (vN (bn ((b.drop 7).take r)))):=ak
       have n7:H p7=none:=s6.none hp7
       generalize upd H6 p7 (.lst (vN (bn ((b.drop 7).take r))))=H7 at*
       intro x dx hx hdx hne
       refine (jn x dx p7 _ _ (vN (bn ((b.drop 7).take r))) ⟨rfl,ak,(eG hx hdx).seq (af.of hx7),?_⟩)
       refine ⟨rfl,?_⟩
       rw[iS]
       refine k x _ (s7.trans (eG hx hdx)) (aS dx p7 ⟨?_,?_⟩)
       ·rw[ki (s7.none hx),ak,aR,bM]
       ·rw[ki n7]
        exact eG hx hdx _ _ hx7
      ·rw[decide_eq_false (fun z=>c5 (by have:=V.int.inj z;lia))]
       exact aW (none_ (.inr (.inr (.inr c5))) _ s5)
    ·rw[decide_eq_false c3]
     exact aW (none_ (.inr (.inl (by lia))) _ s3)
   ·rw[decide_eq_false c2]
    exact aZ ⟨_,rfl,aW (none_ (.inr (.inl (by lia))) _ s3)⟩
  ·rw[decide_eq_false (fun z=>c1 (by have:=V.int.inj z;lia))]
   exact aW (aW (none_ (.inl c1) _ s3))
def z8 (g:Nat) (p:Sound.Piece):Prop:=p.g=g∧p.j<4∧3≤p.row.length∧p.row.length≤4098
def l0 (g:Nat) (ps:List Sound.Piece):Prop:=(∀p∈ps,z8 g p)∧ps.Pairwise (fun p q=>p.j≠q.j∧p.row.length=q.row.length)
def fS:Sound.Piece:=⟨0,0, []⟩
def Bc (K:PySem.W.Frag) (C:Addr) (H:Hp) (D:Addr) (ps:List Sound.Piece):Prop:= ∃as:List Addr,af K H D (as.map V.ref)∧as.length=ps.length∧ ∀(k:Nat) (a:Addr),as[k]?=some a→gY K C H a (ps.getD k fS)
theorem Qr {X:Cx} {K:PySem.W.Frag} (h:X.K=K):mz X (oA K):=by subst h;exact pf
theorem jS {M:List (List Nat)} {i:Nat} (h:i<M.length):M.getD i []=M[i]:=by
 rw[List.getD_eq_getElem?_getD,List.getElem?_eq_getElem h];rfl
theorem rf (M:List (List Nat)) (c:Nat):(b5 Sound.inverse M c).length=M.length:=by unfold b5;rw[List.length_mapIdx]
theorem qV (M:List (List Nat)) (c:Nat):(dh Sound.inverse M c).length=(M.getD c []).length:=by unfold dh;rw[List.length_map]
theorem step_get {M:List (List Nat)} {c i:Nat} (h:i<M.length):(b5 Sound.inverse M c).getD i []=if i=c then dh Sound.inverse M c else Sound.added (M.getD i []) ((dh Sound.inverse M c).map (Sound.mul ((M.getD i []).getD c 0))):=by
 unfold b5
 rw[jS (by rw[List.length_mapIdx];exact h),List.getElem_mapIdx,jS h]
theorem CG: ∀(k c:Nat) (M:List (List Nat)),cQ (k+1) c M=b5 Sound.inverse (cQ k c M) (c+k)
 |0,c,M=>rfl
 |k+1,c,M=>by
  show cQ (k+1) (c+1) (b5 Sound.inverse M c)=_
  rw[CG k (c+1),show c+1+k=c+(k+1) by lia]
  rfl
theorem xF: ∀(n c:Nat) (M:List (List Nat)),dz Sound.inverse n c M=true→ ∀i,i<n→((cQ i c M).getD (c+i) []).getD (c+i) 0≠0
 |0,c,M,_,i,hi=>by lia
 |n+1,c,M,h,i,hi=>by
  have h:((M.getD c []).getD c 0 !=0&&dz Sound.inverse n (c+1) (b5 Sound.inverse M c))=true:=h
  rw[Bool.and_eq_true] at h
  cases i with
  |zero=>
   show (M.getD c []).getD c 0≠0
   simpa using h.1
  |succ i=>
   have:=xF n (c+1) _ h.2 i (by lia)
   rw[show c+1+i=c+(i+1) by lia] at this
   exact this
def Wide (L:Nat) (M:List (List Nat)):Prop:= ∀r∈M,r.length=L
theorem nA {L:Nat} {M:List (List Nat)} (h:Wide L M) {i:Nat} (hi:i<M.length):(M.getD i []).length=L:=h _ (by rw[jS hi];exact List.getElem_mem hi)
theorem JK {L:Nat} {M:List (List Nat)} (h:Wide L M) {c:Nat} (hc:c<M.length):Wide L (b5 Sound.inverse M c):=fun r hr=>by
 obtain ⟨i,hi,rfl⟩:=List.getElem_of_mem hr
 rw[rf] at hi
 rw[←jS,step_get hi]
 split
 ·rw[qV,nA h hc]
 ·rw[jY,List.length_map,qV,nA h hi,nA h hc,Nat.min_self]
theorem qd: ∀(k c:Nat) (M:List (List Nat)),(cQ k c M).length=M.length
 |0,_,_=>rfl
 |k+1,c,M=>by show (cQ k (c+1) _).length=_;rw[qd,rf]
theorem vM {L:Nat}: ∀(k c:Nat) (M:List (List Nat)),Wide L M→c+k≤M.length→Wide L (cQ k c M)
 |0,_,_,h,_=>h
 |k+1,c,M,h,hk=>vM k (c+1) _ (JK h (by lia)) (by rw[rf];lia)
theorem ui: ∀(k c:Nat) (M:List (List Nat)),eB M→eB (cQ k c M)
 |0,_,_,h=>h
 |k+1,c,M,h=>ui k (c+1) _ (RB h c)
def Qu (K:PySem.W.Frag):Sp:=fun vs H Q _=> ∃(q:Addr) (M:List (List Nat)) (L:Nat),vs= [.ref q]∧g9 K H q M∧(Wide L M∧M.length≤L∧L≤10000)∧eB M∧dz Sound.inverse M.length 0 M=true∧
 ∀D H',H D=none→ae H H'→g9 K (newOf H H') D ((cQ M.length 0 M).map (List.drop M.length))→Q (.ref D) H'
theorem gy:aG ["equations", "rows", "step", "chosen", "place", "row"] ["equations"] (aB xK):=⟨rfl,rfl,rfl,by decide+kernel,rfl,by decide+kernel,by decide+kernel⟩
theorem xl {a:Nat} (h:a<256) (h0:a≠0):Sound.inverse a<256:=(uL h h0).1
theorem J0 (T:Txt K mg A):aA P w K mg base aQ 3 A.ny A.o9 ["equations"] (Qu K):=by
 refine T.DF.ok gy (fun vs H Q E h=>?_) (fun cdv Ar outer s H vs Q E hr h=>?_)
 ·obtain ⟨q,M,L,rfl,_⟩:=h
  rfl
 ·obtain ⟨q,M,L,rfl,hq,⟨hW,hML,hL⟩,hB,hpiv,k⟩:=h
  have hr1':aF 1 _:=hr.mono (by decide)
  refine ⟨_,ai (aC (i:=1) gy.nd rfl (Or.inl rfl) (pv 0))
   (ai (cj PassesOwn.never rfl (eN rfl T.dJ (aa (bQ (dq (K:=K) rfl) (by rfl) T.b6 PySem.boot_len (aa (pv 0) ah)) ah)) (aN (i:=2) gy.nd rfl (Or.inr rfl))
    (ai (aC (i:=3) gy.nd rfl (Or.inr rfl) (aL (uG (K:=K) T) hr rfl T.ug T.qL.kp T.u9 .nil aI (aa (aL (zE (K:=K) T) hr rfl T.ye T.u7.kp T.Ba .nil aI (aa (bS (eP (K:=K) rfl) (bS (eP (K:=K) rfl) (pv 1) (pv 2) (fun _ _=>rfl)) (pv 2) (fun _ _=>rfl)) ah)) (aa (bS (eP (K:=K) rfl) (pv 1) (pv 2) (fun _ _=>rfl)) ah))))
    (aj (mj (i:=1) (own:= [("place",4),("row",5)]) rfl gy.nd rfl rfl rfl (wz (K:=K) rfl rfl T.vy (aa (pv 1) ah)) (cv (by kernel_rfl))
     (fun _ _ _ _ _=>i5 (K:=K) (n:=2) rfl rfl (dR (aN (i:=4) gy.nd rfl (Or.inl rfl)) (dR (aN (i:=5) gy.nd rfl (Or.inl rfl)) jl))) (fun _ _ _ _ _=>c9)
     (fun _ _ _ _ _=>jL (aU cH (pv 4) (pv 2) (aT _)) (pv 3) (aL (ud (K:=K) T) hr1' rfl T.tN T.rl.kp T.vZ .nil aI (aa (pv 5) (aa (aL (uG (K:=K) T) hr rfl T.ug T.qL.kp T.u9 .nil aI (aa (bS (eP (K:=K) rfl) (pv 5) (pv 2) (fun _ _=>rfl)) (aa (pv 3) ah))) ah))))))))
   (aj (aM (dB (own:= [("row",5)]) rfl gy.nd (dn (K:=K) rfl (pv 1)) (cv (by kernel_rfl)) (fun _ _ _ _ _=>aN (i:=5) gy.nd rfl (Or.inl rfl)) (fun _ _ _ _ _=>c9)
    (fun _ _ _ _ _=>di (Qr (K:=K) rfl) (pv 5) (bV (bQ (dq (K:=K) rfl) (by rfl) T.b6 PySem.boot_len (aa (pv 0) ah))) iz))))),?_⟩
  obtain ⟨as0,hq1,hq2,hq3⟩:=id hq
  refine ⟨_,rfl,_,rfl,q,_,rfl, .inl hq1,((M.length:Nat):Int),?_,by lia,by lia,?_⟩
  ·rw[List.length_map,hq2]
  refine fM (lo:=0) (n:=((M.length:Nat):Int).toNat) (fun j σ H'=> ∃(t:Addr) (v2 v3 v4 v5:Option V),ae H H'∧g9 K H' t (cQ j 0 M)∧σ= [some (.ref q),some (.ref t),v2,v3,v4,v5]) (gH q none none none none ⟨ae.refl _,hq,rfl⟩) ?_ ?_
  ·rintro j σ H1 hj ⟨t,v2,v3,v4,v5,s1,ht,rfl⟩
   rw[Int.toNat_natCast] at hj
   have hp:=xF _ _ _ hpiv j hj
   rw[Nat.zero_add] at hp
   have hst:cQ (j+1) 0 M=b5 Sound.inverse (cQ j 0 M) j:=by rw[CG,Nat.zero_add]
   have hlen:=qd j 0 M
   have hWj:=vM j 0 M hW (by lia)
   have hBj:=ui j 0 M hB
   rw[hst]
   generalize cQ j 0 M=N at*
   obtain ⟨as,h1,h2,h3⟩:=id ht
   obtain ⟨a,ha1,ha2⟩:=e9 (as:=as) (i:=j) (by lia)
   have hra:=h3 j a ha2
   have hwl:=nA hWj (i:=j) (by lia)
   have hbj:=w8 hBj j
   have ej:(0:Int)+((j:Nat):Int)=((j:Nat):Int):=by lia
   rw[ej]
   have hpl:(N.getD j []).getD j 0<256:=qG hbj (by decide)
   refine ⟨_,rfl,_,rfl,t,_,_,_,rfl,rfl,h1,bL ha1,_,rfl,a,_,_,_,rfl,rfl,hra,bL (dE (by lia)),(N.getD j []).getD j 0,rfl,⟨hpl,hp⟩,fun H2 s2=>?_⟩
   refine ⟨_,rfl,_,rfl,t,_,_,_,rfl,rfl,s2.seq h1,bL ha1,cV (Sound.inverse ((N.getD j []).getD j 0)) a (N.getD j []) ⟨rfl,xl hpl hp,s2.seq hra,hbj,by lia,fun D1 H3 hD1 s3 hx3=>?_⟩⟩
   have ech:(N.getD j []).map (Sound.mul (Sound.inverse ((N.getD j []).getD j 0)))=dh Sound.inverse N j:=rfl
   rw[ech] at hx3
   have s23:=s2.trans s3
   refine ⟨_,rfl,t,_,rfl,s23.seq h1,fun D2 hD2=>?_⟩
   refine j7 (J:=oU K t) hD2 N.length (by rw[sizeLine_eq];lia) (fun i v Hh=> ∃b,v= .ref b∧af K Hh b (vN ((b5 Sound.inverse N j).getD i []))) (fun i v Ha Hb _ sab ⟨b,e,hb⟩=>⟨b,e,sab.seq hb⟩) (fun i Hh hi t1=>?_) (fun Hh t1=>⟨_,t1.seq (s23.seq h1),by rw[List.length_map];lia⟩) ?_ ?_
   ·obtain ⟨b,hb1,_⟩:=e9 (as:=as) (i:=i) (by lia)
    exact (aS _ _ ⟨t1.seq (s23.seq h1),hb1⟩)
   ·rintro i Hh z H' hi t1 hacc ⟨T1,x1,rfl,hT1,rfl,hz⟩ C hC
    obtain ⟨b,rfl,hb⟩:=gi (hz _ (t1.seq (s23.seq h1)))
    have sT:=aE (o:= .tup [.int (i:Nat), .ref b]) hT1
    obtain ⟨accl,hDacc⟩:=hacc
    have hrb:=h3 i b hb
    have hwi:=nA hWj (i:=i) (by lia)
    have hbi:=w8 hBj i
    refine ⟨T1,_,rfl,aP.of ak,rfl,_,_,rfl,_,_,rfl,rfl,rfl,_,rfl,_,rfl,rfl,_,rfl,?_⟩
    by_cases c:i=j
    ·rw[decide_eq_true (by rw[c])]
     refine aW ⟨_,rfl,hC _ _ sT ⟨D1,rfl,?_⟩⟩
     rw[step_get hi,if_pos c]
     have hD1ne:D1≠D2:=fun z=>by rw[z,hD2] at hx3;cases hx3
     exact af.of (by rw[hide_ne hD1ne];exact sT _ _ (t1 _ _ hx3))
    ·rw[decide_eq_false (fun z=>c (by have:=V.int.inj z;lia))]
     refine aZ ⟨_,rfl,_,rfl,_,rfl,b,_,_,_,rfl,rfl,sT.seq (t1.seq (s23.seq hrb)),bL (dE (by lia)),_,rfl,cV ((N.getD i []).getD j 0) D1 (dh Sound.inverse N j) ⟨rfl,qG hbi (by decide),sT.seq (t1.seq (af.of hx3)),?_,?_,fun D3 H4 hD3 s4 hx4=>?_⟩⟩
     ·exact tW (xl hpl hp) _
     ·rw[qV];lia
     ·refine (cC b D3 (N.getD i []) _ ⟨rfl,s4.seq (sT.seq (t1.seq (s23.seq hrb))),af.of hx4,(by rw[List.length_map,qV];lia),by lia,fun D4 H5 hD4 s5 hx5=>?_⟩)
      refine hC _ _ (sT.trans (s4.trans s5)) ⟨D4,rfl,?_⟩
      rw[step_get hi,if_neg c]
      have hne:D4≠D2:=fun z=>by
       have:=(sT.trans s4) _ _ hDacc
       rw[z,this] at hD4;cases hD4
      exact af.of (by rw[hide_ne hne];exact hx5)
   ·intro H4 xs s4 hxl hxp hx4
    have hrefs: ∃bs:List Addr,xs=bs.map V.ref∧ ∀(k:Nat) (b:Addr),bs[k]?=some b→af K H4 b (vN ((b5 Sound.inverse N j).getD k [])):=by
     refine ⟨xs.map fun v=>match v with| .ref b=>b|_=>0,?_,fun k b e=>?_⟩
     ·refine List.ext_getElem (by simp) fun k k1 k2=>?_
      simp at k2
      obtain ⟨b,hb,_⟩:=hxp k _ (List.getElem?_eq_getElem k2)
      simp [hb]
     ·rw[List.getElem?_map] at e
      obtain ⟨v,hv,rfl⟩:=Option.map_eq_some_iff.mp e
      obtain ⟨b,rfl,hb⟩:=hxp k v hv
      exact hb
    obtain ⟨bs,rfl,hbs⟩:=hrefs
    rw[List.length_map] at hxl
    exact (gH D2 _ _ _ _ ⟨s1.trans (s23.trans s4),⟨bs,af.of hx4,by rw[hxl,rf],hbs⟩,rfl⟩)
  ·rintro σ H1 ⟨t,v2,v3,v4,v5,s1,ht,rfl⟩
   rw[Int.toNat_natCast] at ht
   have hlen:=qd M.length 0 M
   generalize cQ M.length 0 M=N at*
   obtain ⟨as,h1,h2,h3⟩:=id ht
   refine ⟨_,rfl,t,rfl,⟨_,h1⟩,fun D hD=>?_⟩
   refine j7 (J:=cY K t) hD N.length (by rw[sizeLine_eq];lia) (fun i v Hh=> ∃b,v= .ref b∧H b=none∧Hh b=some (.lst (vN ((N.getD i []).drop M.length)))) (fun i v Ha Hb _ sab ⟨b,e,h0,hb⟩=>⟨b,e,h0,sab _ _ hb⟩) (fun i Hh hi t1=>?_) (fun Hh t1=>⟨_,t1.seq h1,by rw[List.length_map];lia⟩) ?_ ?_
   ·obtain ⟨b,hb1,_⟩:=e9 (as:=as) (i:=i) (by lia)
    exact (aS _ _ ⟨t1.seq h1,hb1⟩)
   ·rintro i Hh z H' hi t1 ⟨accl,hDacc⟩ ⟨rfl,hz⟩ C hC
    obtain ⟨b,rfl,hb⟩:=gi (hz _ (t1.seq h1))
    have hrb:=h3 i b hb
    refine ⟨rfl,_,rfl,_,rfl,q,_,rfl, .inl (t1.seq (s1.seq hq1)),_,rfl,b,_,rfl,t1.seq hrb,fun p hp=>hC _ _ (aE hp) ⟨p,rfl,(s1.trans t1).none hp,?_⟩⟩
    have hne:p≠D:=fun z=>by rw[z,hDacc] at hp;cases hp
    rw[List.length_map,hq2,uK]
    rw[hide_ne hne,ak]
   ·intro H4 xs s4 hxl hxp hx4
    have hrefs: ∃bs:List Addr,xs=bs.map V.ref∧ ∀(k:Nat) (b:Addr),bs[k]?=some b→H b=none∧H4 b=some (.lst (vN ((N.getD k []).drop M.length))):=by
     refine ⟨xs.map fun v=>match v with| .ref b=>b|_=>0,?_,fun k b e=>?_⟩
     ·refine List.ext_getElem (by simp) fun k k1 k2=>?_
      simp at k2
      obtain ⟨b,hb,_⟩:=hxp k _ (List.getElem?_eq_getElem k2)
      simp [hb]
     ·rw[List.getElem?_map] at e
      obtain ⟨v,hv,rfl⟩:=Option.map_eq_some_iff.mp e
      obtain ⟨b,rfl,hb⟩:=hxp k v hv
      exact hb
    obtain ⟨bs,rfl,hbs⟩:=hrefs
    rw[List.length_map] at hxl
    refine k D H4 (s1.none hD) (s1.trans s4) ⟨bs,af.of (by rw[ki (s1.none hD)];exact hx4),by rw[List.length_map];exact hxl,fun k b e=>?_⟩
    have hk:k<N.length:=by
     have:=(List.getElem?_eq_some_iff.mp e).1
     lia
    have eg:(N.map (List.drop M.length)).getD k []=(N.getD k []).drop M.length:=by
     rw[List.getD_eq_getElem?_getD,List.getElem?_map,List.getElem?_eq_getElem hk,jS hk];rfl
    rw[eg]
    obtain ⟨z1,z2⟩:=hbs k b e
    exact af.of (by rw[ki z1];exact z2)
theorem rY {J:It} {H1:Hp} {D:Addr} {σ:L2.St} {vs:List Nat} {g:TG} {tt:TT} {te:TE} {Qf:Hp→Prop} (hD:H1 D=none) (n:Nat) (hn:n≤sizeLine) (keep:Nat→Bool) (val:Nat→V)
  (hgo: ∀i Hh,i<n→ae H1 Hh→J.go i Hh) (hstop: ∀Hh,ae H1 Hh→J.stop n Hh)
  (turn: ∀i Hh x H',i<n→ae H1 Hh→J.dw i Hh x H'→ ∀(C:VK) (N:Hp→Prop),(keep i=true→ ∀H4,ae Hh H4→C (val i) H4)→(keep i=false→ ∀H4,ae Hh H4→N H4)→g x (wipe σ vs) H' fun σ2 H2=>wipe σ2 vs=wipe σ vs∧tt σ2 H2 fun b H3=>if b=true then te σ2 H3 C else N H3)
  (fin: ∀Hh,ae H1 Hh→Hh D=some (.lst (((List.range n).filter keep).map val))→Qf Hh):
  ∃W:Nat→Nat→Hp→Prop,(∃m,W 0 m (upd H1 D (.lst [])))∧ ∀i m H,W i m H→
   (J.stop i H∧Qf H)∨(J.go i H∧ ∃Nx:Hp→Prop,(∀H',Nx H'→ ∃m',m'<m∧W (i+1) m' H')∧ ∀x H',J.dw i H x H'→g x (wipe σ vs) H' fun σ2 H2=>wipe σ2 vs=wipe σ vs∧tt σ2 H2 fun b H3=>
    if b=true then te σ2 H3 fun y H4=> ∃acc,H4 D=some (.lst acc)∧acc.length<sizeLine∧Nx (upd H4 D (.lst (acc++ [y]))) else Nx H3):=by
 refine ⟨fun i m H=>i+m=n∧ae H1 H∧H D=some (.lst (((List.range i).filter keep).map val)),⟨n,by lia,aE hD,ak⟩,?_⟩
 rintro i m H ⟨hm,s1,hx⟩
 by_cases hi:i=n
 ·subst hi
  exact .inl ⟨hstop H s1,fin H s1 hx⟩
 ·have hi:i<n:=by lia
  refine .inr ⟨hgo i H hi s1,fun H'=> ∃m',m'<m∧i+1+m'=n∧ae H1 H'∧H' D=some (.lst (((List.range (i+1)).filter keep).map val)),fun H' ⟨m',h1,h2,h3⟩=>⟨m',h1,h2,h3⟩,fun x H' hy=>?_⟩
  refine turn i H x H' hi s1 hy _ _ (fun hk H4 s4=>?_) (fun hk H4 s4=>?_)
  ·have hl:((List.range i).filter keep).length≤i:=by
    have:=List.length_filter_le keep (List.range i)
    rwa [List.length_range] at this
   refine ⟨_,s4 _ _ hx,by rw[List.length_map];lia,m-1,by lia,by lia,cP (s1.trans s4) hD,?_⟩
   rw[ak,List.range_succ,List.filter_append,List.map_append]
   simp [List.filter,hk]
  ·refine ⟨m-1,by lia,by lia,s1.trans s4,?_⟩
   rw[s4 _ _ hx,List.range_succ,List.filter_append,List.map_append]
   simp [List.filter,hk]
theorem Ju {row:List Nat} (h: ∀x∈row,x<256) (n:Nat):Sound.fromHigh ((Sound.toBytes row).take n)=bg (row.take n):=by
 rw[sL]
 show bg (bn ((Sound.toBytes row).take n))=_
 rw[←eM,Bp h]
theorem Pp {row:List Nat} (h: ∀x∈row,x<256) (a n:Nat):bn (((Sound.toBytes row).drop a).take n)=(row.drop a).take n:=by
 rw[←eM,←fY,Bp h]
def Eb (A:aY) (o:Option Sound.Bytes) (H:Hp) (Q:VK) (E:XK):Prop:=match o with
 |none=> ∀H',ae H H'→E (.ref A.gX) none H'
 |some m=> ∀D H',H D=none→ae H H'→H' D=some (.lst (vN (bn m)))→Q (.ref D) H'
def QE (K:PySem.W.Frag) (A:aY):Sp:=fun vs H Q E=> ∃(q:Addr) (row:List Nat),vs= [.ref q]∧af K H q (vN row)∧(∀x∈row,x<256)∧row.length≤4098∧Eb A (Sound.frameOf row) H Q E
theorem Dd:aG ["row", "behind"] ["row"] (aB Bv):=⟨rfl,rfl,rfl,by decide+kernel,rfl,by decide+kernel,by decide+kernel⟩
theorem OA (T:Txt K mg A):aA P w K mg base (bu P w) 2 A.md A.lp ["row"] (QE K A):=by
 refine T.AX.bx Dd (fun vs H Q E h=>?_) (fun cdv Ar outer s H vs Q E hr h=>?_)
 ·obtain ⟨q,row,rfl,_⟩:=h
  rfl
 ·obtain ⟨q,row,rfl,hq,hb,hl,k⟩:=h
  refine ⟨_,ai (aC (i:=1) Dd.nd rfl (Or.inl rfl) (aq bT (bp rfl T.jb) (aL (mD (K:=K) T) hr rfl T.oN T.jX.kp T.pK .nil aI (aa (di (eD (K:=K) rfl) (pv 0) iz (bV (bp rfl T.jb))) ah))))
   (ai (bc (PW.pt (jG (jj (vI nX gI (bp rfl T.jb) (pv 1) (bQ (dq (K:=K) rfl) (by rfl) T.b6 PySem.boot_len (aa (pv 0) ah)))) (pF (oV (bQ (ML rfl) rfl T.Nw (by decide+kernel:bootBuiltins "any" =some (.builtin "any")) (aa (di (eD (K:=K) rfl) (pv 0) (bV (pv 1)) iz) ah)))))) (aj (eA rfl rfl T.vx T.tM.exc dZ)) bA)
   (aj (aM (di (eD (K:=K) rfl) (pv 0) (bV (bp rfl T.jb)) (bV (pv 1)))))),?_⟩
  refine ⟨_,rfl,_,rfl,q,_,rfl,hq,fun p1 hp1=>?_⟩
  rw[show (some (2:Int))=some ((2:Nat):Int) from rfl,qa]
  have ht: ∀x∈row.take 2,x<256:=fun x hx=>hb x (List.mem_of_mem_take hx)
  refine (aS p1 (row.take 2) ⟨rfl,af.of ak,(by rw[List.length_take];lia),ht,_,_,rfl,rfl,?_⟩)
  have s1:=aE (o:= .lst (vN (row.take 2))) hp1
  generalize upd H p1 (.lst (vN (row.take 2)))=H1 at*
  unfold Eb Sound.frameOf at k
  simp only [Ju hb] at k
  have hlt:=vf ht
  have hn:bg (row.take 2)<65536:=by
   have h2:256^(row.take 2).length≤256^2:=Nat.pow_le_pow_right (by decide) (by rw[List.length_take];lia)
   exact Nat.lt_of_lt_of_le hlt h2
  generalize bg (row.take 2)=n at*
  dsimp only
  rw[show (2:Int)+((n:Nat):Int)=((2+n:Nat):Int) by lia]
  have bad: ¬(Sound.mayLong n=true∧n+2≤row.length∧((row.drop (n+2)).all fun x=>x==0)=true)→ ∀H',ae H H'→E (.ref A.gX) none H':=fun c H' s'=>by
   rw[if_neg c] at k
   exact k H' s'
  have hmay:1≤n→n+2≤row.length→Sound.mayLong n=true:=fun h1 h2=>by
   unfold Sound.mayLong Sound.LONGEST
   rw[decide_eq_true h1,decide_eq_true (show n≤4096 by lia)];rfl
  refine ⟨_,rfl,_,_,rfl,rfl,_,rfl,?_⟩
  by_cases c1:(2:Int)<((2+n:Nat):Int)
  ·rw[decide_eq_true c1]
   refine aW ⟨_,rfl,q,_,rfl, .inl (s1.seq hq),_,_,rfl,rfl,_,rfl,?_⟩
   rw[aR]
   by_cases c2:((2+n:Nat):Int)≤((row.length:Nat):Int)
   ·rw[decide_eq_true c2]
    refine aZ ⟨_,rfl,_,rfl,_,rfl,q,_,rfl,s1.seq hq,fun p2 hp2=>?_⟩
    rw[uK,show 2+n=n+2 by lia]
    have s2:=s1.trans (aE (o:= .lst (vN (row.drop (n+2)))) hp2)
    refine (aS p2 ((row.drop (n+2)).map fun (x:Nat)=>(x:Int)) ⟨rfl,(by rw[←yU];exact af.of ak),_,rfl,?_⟩)
    have hany:(((row.drop (n+2)).map fun (x:Nat)=>(x:Int)).any fun z=>z !=0)=!((row.drop (n+2)).all fun x=>x==0):=by
     generalize row.drop (n+2)=l
     induction l with
     |nil=>rfl
     |cons x l ih=>
      rw[List.map_cons,List.any_cons,ih,List.all_cons,Bool.not_and]
      congr 1
      by_cases hx:x=0
      ·subst hx;rfl
      ·have h1:((x:Int) !=0)=true:=by rw[bne_iff_ne];lia
       have h2:(x==0)=false:=by rw[beq_eq_false_iff_ne];exact hx
       rw[h1,h2];rfl
    rw[hany]
    generalize upd H1 p2 (.lst (vN (row.drop (n+2))))=H2 at*
    cases hz:((row.drop (n+2)).all fun x=>x==0) with
    |false=>exact aW (bad (fun z=>by rw[hz] at z;cases z.2.2) _ s2)
    |true=>
     refine aZ ⟨_,rfl,_,rfl,_,rfl,_,rfl,q,_,rfl,s2.seq hq,fun p3 hp3=>?_⟩
     rw[if_pos ⟨hmay (by lia) (by lia),by lia,hz⟩] at k
     dsimp only at k
     rw[Pp hb] at k
     refine k p3 _ (s2.none hp3) (cP s2 (s2.none hp3)) ?_
     rw[ak,show (some (2:Int))=some ((2:Nat):Int) from rfl,gg,show n+2-2=n by lia]
   ·rw[decide_eq_false c2]
    exact aW (aW (bad (fun z=>by have:=z.2.1;lia) _ s1))
  ·rw[decide_eq_false c1]
   refine aZ ⟨_,rfl,aW (aW (bad (fun z=>?_) _ s1))⟩
   have:=z.1
   unfold Sound.mayLong at this
   rw[Bool.and_eq_true] at this
   have:=of_decide_eq_true this.1
   lia
def cf:List (List Nat)→Option (List Sound.Bytes)
 | []=>some []
 |e::r=>match Sound.frameOf e,cf r with
  |some b,some l=>some (b::l)
  |_,_=>none
theorem ow (e:List Nat) (r:List (List Nat)):cf (e::r)=match Sound.frameOf e,cf r with
  |some b,some l=>some (b::l)
  |_,_=>none:=rfl
theorem vR: ∀l:List Sound.Eqn,Sound.allFramesOf l=cf (l.map fun e=>e.row)
 | []=>rfl
 |e::r=>by
  unfold Sound.allFramesOf
  rw[List.map_cons]
  unfold cf
  rw[vR r]
  cases Sound.frameOf e.row<;>cases cf (r.map fun e=>e.row)<;>rfl
theorem tO: ∀a b:List (List Nat),cf (a++b)=(cf a).bind fun x=>(cf b).map (x++ ·)
 | [],b=>by
  show cf b=(cf b).map ([]++ ·)
  cases cf b<;>rfl
 |e::r,b=>by
  rw[List.cons_append,ow,ow,tO r b]
  cases Sound.frameOf e with
  |none=>rfl
  |some m=>
   cases cf r with
   |none=>rfl
   |some l=>cases cf b<;>rfl
theorem zm: ∀(a:List (List Nat)) (ms:List Sound.Bytes),cf a=some ms→ms.length=a.length
 | [],ms,h=>by cases h;rfl
 |e::r,ms,h=>by
  unfold cf at h
  cases h1:Sound.frameOf e with
  |none=>rw[h1] at h;cases h
  |some m=>
   cases h2:cf r with
   |none=>rw[h1,h2] at h;cases h
   |some l=>
    rw[h1,h2] at h
    cases h
    rw[List.length_cons,List.length_cons,zm r l h2]
theorem Li {r:Nat} (h:2≤r):cu r []=List.replicate r 0:=by
 unfold cu
 have e:eE 2 ([]:List Nat).length=List.replicate 2 0:=by decide
 rw[e,List.append_nil,List.replicate_append_replicate,show 2+(r-2-([]:List Nat).length)=r by simp;lia]
theorem R8 {a:List Nat} {n:Nat} (h:a.length=n):Sound.added a (List.replicate n 0)=a:=by
 unfold Sound.added
 refine List.ext_getElem (by simp [h]) fun i h1 h2=>?_
 rw[List.getElem_zipWith,List.getElem_replicate,Nat.xor_zero]
theorem sU {r j:Nat}: ∀(L:List (Nat×Sound.Bytes)) (acc:List Nat),acc.length=r→(∀x∈L,x.2.length+2≤r)→
  (L.filter fun x=>!x.2.isEmpty).foldl (fun a x=>Sound.added a (Sound.scaled (Sound.factor x.1 j) (Sound.rowIn r x.2))) acc=L.foldl (fun a x=>Sound.added a (Sound.scaled (Sound.factor x.1 j) (Sound.rowIn r x.2))) acc
 | [],_,_,_=>rfl
 |x::L,acc,ha,hx=>by
  have hx1:=hx x (List.mem_cons_self ..)
  have hl:(Sound.added acc (Sound.scaled (Sound.factor x.1 j) (Sound.rowIn r x.2))).length=r:=by
   rw[jY,Sound.scaled,List.length_map,xc hx1,mf (by rw[bM];exact hx1),ha,Nat.min_self]
  rw[List.filter_cons,List.foldl_cons]
  cases e:x.2.isEmpty with
  |false=>
   rw[if_pos (by decide),List.foldl_cons]
   exact sU L _ hl fun y hy=>hx y (List.mem_cons_of_mem _ hy)
  |true=>
   rw[if_neg (by decide)]
   have e0:x.2= []:=List.isEmpty_iff.mp e
   have ez:Sound.added acc (Sound.scaled (Sound.factor x.1 j) (Sound.rowIn r x.2))=acc:=by
    rw[xc hx1,e0]
    show Sound.added acc ((cu r []).map (Sound.mul (Sound.factor x.1 j)))=acc
    rw[Li (by rw[e0] at hx1;simp at hx1;exact hx1),List.map_replicate,mul_zero,R8 ha]
   rw[ez]
   exact sU L _ ha fun y hy=>hx y (List.mem_cons_of_mem _ hy)
theorem N9 {fs:List Sound.Bytes} {x:Nat×Sound.Bytes} (h:x∈Sound.numbered fs):x.2∈fs:=by
 unfold Sound.numbered at h
 obtain ⟨y,hy,rfl⟩:=List.mem_map.mp h
 exact List.fst_mem_of_mem_zipIdx hy
def cD (fs:List Sound.Bytes) (r:Nat) (p:Sound.Piece):List Nat:=(Sound.lostOf fs).map (fun i=>Sound.factor i p.j)++Sound.added (bn p.row) (dP r p.j (b8 fs))
theorem nB {fs:List Sound.Bytes}: ∀i∈Sound.lostOf fs,i<fs.length:=fun i hi=>by
 rw[nc] at hi
 exact List.mem_range.mp (List.mem_filter.mp hi).1
theorem DL (fs:List Sound.Bytes):(Sound.lostOf fs).Pairwise (· < ·):=by
 rw[nc]
 exact List.pairwise_lt_range.filter _
structure Io (fs:List Sound.Bytes) (ps:List Sound.Piece) (r:Nat):Prop where
 wide:Wide (ps.length+r) (ps.map (cD fs r))
 cR:eB (ps.map (cD fs r))
 EE:dz Sound.inverse ps.length 0 (ps.map (cD fs r))=true
 new:Sound.anew fs ps=(cf ((cQ ps.length 0 (ps.map (cD fs r))).map (List.drop ps.length))).map (Sound.fill fs)
theorem MC {g:Nat} {fs:List Sound.Bytes} {ps:List Sound.Piece} {r:Nat} (hf8:fs.length≤8) (ht:l0 g ps) (hn:ps.length=(Sound.lostOf fs).length) (h1:1≤ps.length) (hr: ∀p∈ps,p.row.length=r) (hfr: ∀b∈fs,b.length+2≤r):Io fs ps r:=by
 have hj4: ∀p∈ps,p.j<4:=fun p hp=>(ht.1 p hp).2.1
 have hsl: ∀j,(dP r j (b8 fs)).length=r:=fun j=>yO fun m hm=>by
  obtain ⟨b,hb,rfl⟩:=List.mem_map.mp hm
  rw[bM];exact hfr b hb
 have hml: ∀p∈ps,(Sound.added (bn p.row) (dP r p.j (b8 fs))).length=r:=fun p hp=>by rw[jY,hsl,bM,hr p hp,Nat.min_self]
 have hB:eB (ps.map (cD fs r)):=fun row hrow x hx=>by
  obtain ⟨p,hp,rfl⟩:=List.mem_map.mp hrow
  unfold cD at hx
  rcases List.mem_append.mp hx with hx|hx
  ·obtain ⟨i,hi,rfl⟩:=List.mem_map.mp hx
   exact uo (by have:=nB i hi;lia) (hj4 p hp)
  ·exact DZ (fU _) (N5 (hj4 p hp) (by unfold b8;rw[List.length_map];exact hf8)) x hx
 have hp:dz Sound.inverse ps.length 0 (ps.map (cD fs r))=true:=by
  rw[hn]
  refine M5 (js:=ps.map fun p=>p.j) (DL fs) (fun x hx=>by have:=nB x hx;lia) ?_ (fun x hx=>?_) (by rw[List.length_map];exact hn) hB ?_
  ·rw[List.pairwise_map]
   exact ht.2.imp fun h=>h.1
  ·obtain ⟨p,hp,rfl⟩:=List.mem_map.mp hx
   exact hj4 p hp
  ·rw[List.map_map,List.map_map]
   refine List.map_congr_left fun p hp=>?_
   show (cD fs r p).take _=_
   unfold cD
   rw[List.take_left' (by rw[List.length_map])]
   rfl
 refine ⟨fun row hrow=>?_,hB,hp,?_⟩
 ·obtain ⟨p,hp,rfl⟩:=List.mem_map.mp hrow
  unfold cD
  rw[List.length_append,List.length_map,hml p hp,hn]
 ·obtain ⟨p0,ps',e⟩:=List.exists_cons_of_ne_nil (List.length_pos_iff.mp (show 0<ps.length by lia))
  have hhd:(ps.headD ⟨0,0, []⟩).row.length=r:=by rw[e];exact hr p0 (by rw[e];simp)
  unfold Sound.anew
  simp only [hhd]
  have hne:(Sound.lostOf fs).isEmpty=false:=by
   cases e2:(Sound.lostOf fs) with
   |nil=>rw[e2] at hn;simp at hn;rw[hn] at h1;simp at h1
   |cons _ _=>rfl
  have hany:(fs.any fun b=>decide (r<b.length+2))=false:=by
   rw[List.any_eq_false]
   intro b hb
   have:=hfr b hb
   simp;lia
  rw[if_neg (by rw[hne];decide),if_neg (by rw[hany];decide)]
  have hes:((ps.take (Sound.lostOf fs).length).map fun p=>(⟨(Sound.lostOf fs).map fun i=>Sound.factor i p.j,Sound.added (p.row.map UInt8.toNat) (Sound.sumRows r p.j ((Sound.numbered fs).filter fun x=>!x.2.isEmpty))⟩:Sound.Eqn))=ps.map fun p=>(⟨(Sound.lostOf fs).map fun i=>Sound.factor i p.j,Sound.added (bn p.row) (dP r p.j (b8 fs))⟩:Sound.Eqn):=by
   rw[List.take_of_length_le (by lia)]
   refine List.map_congr_left fun p hp=>?_
   have:Sound.sumRows r p.j ((Sound.numbered fs).filter fun x=>!x.2.isEmpty)=dP r p.j (b8 fs):=by
    rw[←RR hfr]
    exact sU _ _ (by simp) fun x hx=>hfr _ (N9 hx)
   rw[this];rfl
  rw[hes,←hn]
  generalize hes':(ps.map fun p=>(⟨(Sound.lostOf fs).map fun i=>Sound.factor i p.j,Sound.added (bn p.row) (dP r p.j (b8 fs))⟩:Sound.Eqn))=es
  have hrows:es.map b9=ps.map (cD fs r):=by rw[←hes',List.map_map];rfl
  have hel:es.length=ps.length:=by rw[←hes',List.length_map]
  obtain ⟨out,o1,o2,o3,o4⟩:=Cw ps.length ps.length 0 [] es rfl hel (by lia) (by simp) (fun x hx=>by
   rw[←hes'] at hx
   obtain ⟨p,hp,rfl⟩:=List.mem_map.mp hx
   rw[List.length_map,hn]) (by rw[List.nil_append,hrows];exact hp)
  rw[o1]
  dsimp only
  rw[List.nil_append,hrows] at o2
  rw[vR,←o2,List.map_map]
  congr 2
  refine List.map_congr_left fun x hx=>?_
  show _=(x.fs++x.row).drop _
  rw[List.drop_left' (o3 x hx)]
theorem Nv {fs:List Sound.Bytes} {ps:List Sound.Piece} {r:Nat} (h0:(Sound.lostOf fs).isEmpty=false) (hr:(ps.headD ⟨0,0, []⟩).row.length=r) {b:Sound.Bytes} (hb:b∈fs) (hl:r<b.length+2):Sound.anew fs ps=none:=by
 unfold Sound.anew
 simp only [hr]
 rw[if_neg (by rw[h0];decide),if_pos]
 rw[List.any_eq_true]
 exact ⟨b,hb,decide_eq_true hl⟩
theorem PX {α β:Type} {l:List α} {i:Nat} (h:i<l.length) {ms:List β} (hm:ms.length=i) (m:β):(l.take (i+1)).zip (ms++ [m])=(l.take i).zip ms++ [(l[i],m)]:=by
 rw[List.take_succ,List.getElem?_eq_getElem h,List.zip_append (by rw[List.length_take];lia)];rfl
theorem tL {ps:List Sound.Piece} {i:Nat} (h:i<ps.length):ps.getD i fS=ps[i]:=by
 rw[List.getD_eq_getElem?_getD,List.getElem?_eq_getElem h];rfl
theorem Nq {fs:List Sound.Bytes} {ps:List Sound.Piece} {r i:Nat} (h:i<ps.length):(ps.map (cD fs r)).getD i []=cD fs r (ps.getD i fS):=by
 rw[List.getD_eq_getElem?_getD,List.getElem?_map,List.getElem?_eq_getElem h,tL h];rfl
theorem iQ (fs:List Sound.Bytes):(b8 fs).length=fs.length:=by unfold b8;rw[List.length_map]
theorem tS {W:Addr} {H H':Hp} (hW:H W=none) (s:ae H H'):ae H (hide W H'):=fun b o e=>by rw[hide_ne (bZ e hW)];exact s b o e
def Jk (K:PySem.W.Frag) (A:aY) (o:Option (List Sound.Bytes)) (H:Hp) (Q:VK) (E:XK):Prop:=match o with
 |none=> ∀H',ae H H'→E (.ref A.gX) none H'
 |some l=> ∀D H',H D=none→ae H H'→g0 H' D (b8 l)→Q (.ref D) H'
def JL (K:PySem.W.Frag) (A:aY):Sp:=fun vs H Q E=> ∃(f q:Addr) (g:Nat) (fs:List Sound.Bytes) (ps:List Sound.Piece),vs= [.ref f, .ref q]∧g0 H f (b8 fs)∧Bc K A.cE H q ps∧((1≤fs.length∧fs.length≤8)∧ ∀b∈fs,b.length≤4096)∧
 (l0 g ps∧ps.length=(Sound.lostOf fs).length∧1≤ps.length)∧Jk K A (Sound.anew fs ps) H Q E
theorem eO:aG ["frames", "pieces", "row_size", "lost", "equations", "piece", "missing", "whole", "i", "row", "one"] ["frames", "pieces"] (aB B9):=⟨rfl,rfl,rfl,by decide+kernel,rfl,by decide+kernel,by decide+kernel⟩
theorem Oq (T:Txt K mg A):aA P w K mg base (bu P w) 5 A.oO A.pT ["frames", "pieces"] (JL K A):=by
 refine T.CH.bx eO (fun vs H Q E h=>?_) (fun cdv Ar outer s H vs Q E hr h=>?_)
 ·obtain ⟨f,q,g,fs,ps,rfl,_⟩:=h
  rfl
 ·obtain ⟨f,q,g,fs,ps,rfl,hf,hq,⟨⟨hf1,hf8⟩,hf4⟩,⟨ht,hn,h1⟩,k⟩:=h
  have hr1':aF 1 _:=hr.mono (by decide)
  have hr2':aF 2 _:=hr.mono (by decide)
  have hr3':aF 3 _:=hr.mono (by decide)
  refine ⟨_,ai (aC (i:=2) eO.nd rfl (Or.inl rfl) (bQ (dq (K:=K) rfl) (by rfl) T.b6 PySem.boot_len (aa (aK (K:=K) rfl (bS (eP (K:=K) rfl) (pv 1) ao (fun _ _=>rfl)) rfl) ah)))
   (ai (bc (aU fH (aL (Oa (K:=K) T) hr1' rfl T.MB T.xN.kp T.OX .nil aI (aa (pv 0) ah)) (pv 2) (aT _)) (aj (eA rfl rfl T.vx T.tM.exc dZ)) bA)
   (ai (mj (i:=3) (own:= [("i",8),("one",10)]) rfl eO.nd rfl rfl rfl (wz (K:=K) rfl rfl T.vy (aa (pv 0) ah)) (cv (by kernel_rfl))
    (fun _ _ _ _ _=>i5 (K:=K) (n:=2) rfl rfl (dR (aN (i:=8) eO.nd rfl (Or.inl rfl)) (dR (aN (i:=10) eO.nd rfl (Or.inl rfl)) jl)))
    (fun _ _ _ _ _=>qA (aU cH (bQ (dq (K:=K) rfl) (by rfl) T.b6 PySem.boot_len (aa (pv 10) ah)) ao (aT _))) (fun _ _ _ _ _=>pv 8))
   (ai (aC (i:=4) eO.nd rfl (Or.inl rfl) (dy ah))
   (ai (cj PassesOwn.leaving rfl (dn (K:=K) rfl (pv 1)) (aN (i:=5) eO.nd rfl (Or.inr rfl))
    (ai (aC (i:=6) eO.nd rfl (Or.inl rfl) (aL (ud (K:=K) T) hr1' rfl T.tN T.rl.kp T.vZ .nil aI (aa (aK (K:=K) rfl (pv 5) rfl) (aa (aL (R6 (K:=K) T) hr rfl T.Kq T.Bn.kp T.Fq .nil aI (aa (aK (K:=K) rfl (pv 5) rfl) (aa (pv 2) (aa (pv 0) ah)))) ah))))
    (aj (bR (pS (K:=K) rfl PySem.F.plainAttrs_list PySem.F.slot_list_append PySem.F.type_list_append rn (pv 4) (aa (aq vU (dB (own:= [("i",8)]) rfl eO.nd (dn (K:=K) rfl (pv 3)) (cv (by kernel_rfl)) (fun _ _ _ _ _=>aN (i:=8) eO.nd rfl (Or.inl rfl)) (fun _ _ _ _ _=>c9)
     (fun _ _ _ _ _=>aL (zJ (K:=K) T) hr3' rfl T.BY T.sS.kp T.Aq .nil aI (aa (pv 8) (aa (aK (K:=K) rfl (pv 5) rfl) ah)))) (pv 6)) ah))))))
   (ai (aC (i:=7) eO.nd rfl (Or.inl rfl) (xa zX rfl T.vi (by decide+kernel:bootBuiltins "list" =some (.type "list")) (aa (pv 0) ah)))
   (ai (cj PassesOwn.leaving rfl (wZ rfl T.qx (aa (pv 3) (aa (aL (J0 (K:=K) T) hr3' rfl T.Q3 T.DF.kp T.NQ .nil aI (aa (pv 4) ah)) ah)))
     (i5 (K:=K) (n:=2) rfl rfl (dR (aN (i:=8) eO.nd rfl (Or.inl rfl)) (dR (aN (i:=9) eO.nd rfl (Or.inl rfl)) jl)))
     (aj (E9 (aL (OA (K:=K) T) hr2' rfl T.JS T.AX.kp T.IZ .nil bb (aa (pv 9) ah)) (Kg (pv 7) (pv 8) set_list))))
   (aj (aM (pv 7))))))))),?_⟩
  obtain ⟨pa,hq1,hq2,hq3⟩:=id hq
  obtain ⟨fa,hfa1,hfa2,hfa3⟩:=id hf
  rw[iQ] at hfa2
  obtain ⟨a0,e0,e0'⟩:=e9 (as:=pa) (i:=0) (by lia)
  obtain ⟨d0,r0,hp1,hp2⟩:=hq3 0 a0 e0'
  generalize hr0:(ps.getD 0 fS).row.length=r
  have hrall: ∀p∈ps,p.row.length=r:=fun p hp=>by
   obtain ⟨p0,ps',e⟩:=List.exists_cons_of_ne_nil (List.length_pos_iff.mp (show 0<ps.length by lia))
   have h2:=ht.2
   rw[e,List.pairwise_cons] at h2
   have:(ps.getD 0 fS)=p0:=by rw[e];rfl
   rw[this] at hr0
   rw[e] at hp
   rcases List.mem_cons.mp hp with rfl|hp
   ·exact hr0
   ·rw[←(h2.1 p hp).2];exact hr0
  have hmem0:ps.getD 0 fS∈ps:=by rw[tL (by lia)];exact List.getElem_mem _
  have hrb:3≤r∧r≤4098:=by rw[←hr0];exact (ht.1 _ hmem0).2.2
  have hhd:(ps.headD ⟨0,0, []⟩).row.length=r:=by
   rw[←hr0]
   cases ps with
   |nil=>simp at h1
   |cons p0 ps'=>rfl
  have hlne:(Sound.lostOf fs).isEmpty=false:=by
   cases e2:(Sound.lostOf fs) with
   |nil=>rw[e2] at hn;simp at hn;rw[hn] at h1;simp at h1
   |cons _ _=>rfl
  refine ⟨_,rfl,q,_,_,_,rfl,rfl,hq1,bL (j:=0) e0,fI hp1 T.dQ T.oZ rfl ⟨r0,_,rfl, .inl (af.of hp2),?_⟩⟩
  rw[aR,bM,hr0]
  refine ⟨_,rfl,aS f (b8 fs) ⟨rfl,hf.n,⟨by rw[iQ];exact hf1,by rw[iQ];lia⟩,fun H1 s1=>?_⟩⟩
  refine ⟨_,rfl,_,_,rfl,rfl,_,rfl,?_⟩
  refine bX (fun c=>?_) fun c=>?_
  ·have c:((r:Nat):Int)<((f6 (b8 fs):Nat):Int):=of_decide_eq_true c
   obtain ⟨b,hb,hbl⟩: ∃b∈fs,r<b.length+2:=by
    refine Classical.byContradiction fun z=>?_
    have:=NO (M:=b8 fs) (b:=r-2) fun m hm=>by
     obtain ⟨b,hb,rfl⟩:=List.mem_map.mp hm
     rw[bM]
     have: ¬r<b.length+2:=fun y=>z ⟨b,hb,y⟩
     lia
    lia
   rw[Nv hlne hhd hb hbl] at k
   exact k H1 s1
  have c: ¬((r:Nat):Int)<((f6 (b8 fs):Nat):Int):=fun z=>c (decide_eq_true z)
  have hfr: ∀b∈fs,b.length+2≤r:=fun b hb=>by
   have:=KD (M:=b8 fs) (List.mem_map_of_mem hb)
   rw[bM] at this
   lia
  have EQ:=MC hf8 ht hn h1 hrall hfr
  rw[EQ.new] at k
  have hfr2: ∀m∈b8 fs,m.length+2≤r∧ ∀x∈m,x<256:=fun m hm=>by
   obtain ⟨b,hb,rfl⟩:=List.mem_map.mp hm
   exact ⟨by rw[bM];exact hfr b hb,fU b⟩
  have hsl: ∀j,(dP r j (b8 fs)).length=r:=fun j=>yO fun m hm=>(hfr2 m hm).1
  refine ⟨_,rfl,f,_,rfl,s1.seq (af.of hfa1),fun D hD=>?_⟩
  refine rY (J:=oU K f) hD fs.length (by rw[sizeLine_eq];lia) (fun i=>(fs.getD i []).length==0) (fun i=> .int ((i:Nat):Int)) (fun i Hh hi t1=>?_) (fun Hh t1=>⟨_,t1.seq (s1.seq (af.of hfa1)),by rw[List.length_map];lia⟩) ?_ ?_
  ·obtain ⟨b,hb1,_⟩:=e9 (as:=fa) (i:=i) (by lia)
   exact (aS _ _ ⟨t1.seq (s1.seq (af.of hfa1)),hb1⟩)
  ·rintro i Hh z H' hi t1 ⟨T1,x1,rfl,hT1,rfl,hz⟩ C N hC hN
   obtain ⟨b,rfl,hb⟩:=gi (hz _ (t1.seq (s1.seq (af.of hfa1))))
   have sT:=aE (o:= .tup [.int (i:Nat), .ref b]) hT1
   have hrb':=hfa3 i b hb
   refine ⟨T1,_,rfl,aP.of ak,rfl,_,_,rfl,_,_,rfl,rfl,rfl,_,rfl,b,_,rfl, .inl (sT.seq (t1.seq (s1.seq (af.of hrb')))),rfl,_,rfl,?_⟩
   rw[aR,k7,bM]
   by_cases cz:(fs.getD i []).length=0
   ·rw[decide_eq_true (by rw[cz];rfl)]
    exact aW ⟨_,rfl,hC (by rw[cz];rfl) _ sT⟩
   ·rw[decide_eq_false (fun z=>cz (by have:=V.int.inj z;lia))]
    exact aZ (hN (by rw[beq_eq_false_iff_ne];exact cz) _ sT)
  ·intro H2 s2 hx2
   have elost:((List.range fs.length).filter fun i=>(fs.getD i []).length==0).map (fun i=>V.int ((i:Nat):Int))=vN (Sound.lostOf fs):=by rw[nc];rfl
   rw[elost] at hx2
   have s12:=s1.trans s2
   refine ⟨by rw[sizeLine_eq];show 0≤_;lia,fun F hF=>?_⟩
   have hF0:H F=none:=s12.none hF
   have hDF:D≠F:=bZ hx2 hF
   refine ⟨_,rfl,q,rfl,⟨_,(aE hF).seq (s12.seq hq1)⟩,?_⟩
   refine fA (K:=K) (a:=q) (xs:=pa.map V.ref) (fun i σ H'=> ∃(es:List Addr) (v5 v6:Option V),ae H H'∧H' D=some (.lst (vN (Sound.lostOf fs)))∧H' F=some (.lst (es.map V.ref))∧es.length=i∧(∀(k:Nat) (a:Addr),es[k]?=some a→af K (hide F H') a (vN (cD fs r (ps.getD k fS))))∧
     σ= [some (.ref f),some (.ref q),some (.int r),some (.ref D),some (.ref F),v5,v6,none,none,none,none])
    (cV ([]) none none ⟨cP s12 hF0,(by rw[ay hDF];exact hx2),ak,rfl,fun k a e=>(by simp at e),rfl⟩) (fun i σ H' _ ⟨es,v5,v6,s',_⟩=>s'.seq hq1) ?_ ?_
   ·rintro i x σ H3 hi ⟨es,v5,v6,s3,hD3,hF3,hes,hesr,rfl⟩
    obtain ⟨b,rfl,hb⟩:=gi hi
    have hil:i<ps.length:=by
     have:=(List.getElem?_eq_some_iff.mp hb).1
     lia
    obtain ⟨db,rb,hb1,hb2⟩:=(hq3 i b hb).same s3
    have hpm:ps.getD i fS∈ps:=by rw[tL hil];exact List.getElem_mem _
    have hj4:=(ht.1 _ hpm).2.1
    have hrp:=hrall _ hpm
    generalize hpd:ps.getD i fS=p at*
    refine (az rfl hb1 T.dQ T.oZ rfl (az rfl hb1 T.dQ T.kX rfl ⟨_,rfl,_,rfl,cC p.j r f (b8 fs) ⟨rfl,(hf.same s3).n,⟨hj4,by lia,by rw[iQ];exact hf8⟩,hfr2,fun D4 H4 hD4 s4 hx4=>?_⟩⟩))
    refine (cC rb D4 (bn p.row) (dP r p.j (b8 fs)) ⟨rfl,s4.seq (af.of hb2),af.of hx4,(by rw[bM,hsl,hrp]),(by rw[bM,hrp];lia),fun D5 H5 hD5 s5 hx5=>?_⟩)
    have s35:=s4.trans s5
    have hF5:=s35 _ _ hF3
    have hD5':=s35 _ _ hD3
    refine ⟨_,rfl, .inl ⟨rfl,_,af.of hF5⟩,_,rfl,D,rfl,⟨_,af.of hD5'⟩,fun D6 hD6=>?_⟩
    refine eZ (J:=cY K D) hD6 (Sound.lostOf fs).length (by have:(Sound.lostOf fs).length≤8:=(by rw[←hn];have:=wm (l:=ps.map fun p=>p.j) (by rw[List.pairwise_map];exact ht.2.imp fun h=>h.1) (fun x hx=>by obtain ⟨p,hp,rfl⟩:=List.mem_map.mp hx;exact (ht.1 p hp).2.1);rw[List.length_map] at this;lia);rw[sizeLine_eq];lia) (fun t=> .int ((Sound.factor ((Sound.lostOf fs).getD t 0) p.j:Nat):Int)) (fun t Hh hi t1=>(aS _ _ ⟨t1.seq (af.of hD5'),dE hi⟩)) (fun Hh t1=>⟨_,t1.seq (af.of hD5'),by rw[aR];exact Nat.le_refl _⟩) ?_ ?_
    ·rintro t Hh z H' hti t1 ⟨rfl,hz⟩ C hC
     obtain ⟨rfl,_⟩:=dD (hz _ (t1.seq (af.of hD5')))
     have hlt:(Sound.lostOf fs).getD t 0<8:=by
      have:=nB (fs:=fs) ((Sound.lostOf fs).getD t 0) (by rw[getD_at hti];exact List.getElem_mem hti)
      lia
     exact ⟨rfl,_,rfl,az rfl (t1 _ _ (s35 _ _ hb1)) T.dQ T.kX rfl (aS _ p.j ⟨rfl,⟨hlt,hj4⟩,fun H'' s''=>hC _ s''⟩)⟩
    ·intro H6 s6 hx6
     rw[map_getD (f:=fun i=>Sound.factor i p.j)] at hx6
     have hx56:=s6 _ _ hx5
     have hll:(Sound.lostOf fs).length≤8:=by
      have:=List.length_filter_le (fun i=>(fs.getD i []).length==0) (List.range fs.length)
      rw[nc,List.length_range] at*
      lia
     refine ⟨_,rfl,D6,D5,_,_,rfl,rfl,hx6,hx56,(by rw[aR,aR,List.length_map,jY,bM,hsl,hrp,sizeLine_eq];lia),fun p7 hp7=>?_⟩
     rw[←jV]
     have eeq:(Sound.lostOf fs).map (fun i=>Sound.factor i p.j)++Sound.added (bn p.row) (dP r p.j (b8 fs))=cD fs r p:=rfl
     rw[eeq]
     have s36:=s35.trans s6
     have s37:=s36.trans (aE (o:= .lst (vN (cD fs r p))) hp7)
     have hF7:upd H6 p7 (.lst (vN (cD fs r p))) F=some (.lst (es.map V.ref)):=s37 _ _ hF3
     have hD7:=s37 _ _ hD3
     have hpF:p7≠F:=fun z=>by rw[z,s36 _ _ hF3] at hp7;cases hp7
     refine ⟨F,_,_,rfl,rfl,hF7,(by rw[List.length_map,sizeLine_eq];lia),cV (es++ [p7]) _ _ ⟨cP (s3.trans s37) hF0,(by rw[ay hDF];exact hD7),(by rw[ak];simp),(by simp [hes]),?_,rfl⟩⟩
     intro kk a e
     rw[si]
     by_cases hk:kk<es.length
     ·rw[List.getElem?_append_left hk] at e
      exact (se s37).seq (hesr kk a e)
     ·rw[List.getElem?_append_right (by lia)] at e
      have hk0:kk-es.length=0:=by
       have:=(List.getElem?_eq_some_iff.mp e).1
       simp at this;lia
      rw[hk0] at e
      obtain rfl:p7=a:=Option.some.inj e
      rw[show kk=i by lia,hpd]
      exact af.of (by rw[hide_ne hpF,ak])
   ·rintro σ H3 ⟨es,v5,v6,s3,hD3,hF3,hes,hesr,rfl⟩
    rw[List.length_map,hq2] at hes
    refine ⟨_,rfl,aS f _ ⟨rfl, .inl (s3.seq (af.of hfa1)),fun W hW=>?_⟩⟩
    have hW0:H W=none:=s3.none hW
    have sW:=aE (o:= .lst (fa.map V.ref)) hW
    refine ⟨_,rfl,_,rfl,cV F (ps.map (cD fs r)) (ps.length+r) ⟨rfl,⟨es,af.of (sW _ _ hF3),by rw[List.length_map];exact hes,fun k a e=>?_⟩,⟨EQ.wide,by rw[List.length_map];lia,?_⟩,EQ.cR,by rw[List.length_map];exact EQ.EE,fun D4 H4 hD4 s4 hR4=>?_⟩⟩
    ·have hk:k<ps.length:=by
      have:=(List.getElem?_eq_some_iff.mp e).1
      lia
     rw[Nq hk]
     exact sW.seq ((dF _ _).seq (hesr k a e))
    ·have:=wm (l:=ps.map fun p=>p.j) (by rw[List.pairwise_map];exact ht.2.imp fun h=>h.1) (fun x hx=>by obtain ⟨p,hp,rfl⟩:=List.mem_map.mp hx;exact (ht.1 p hp).2.1)
     rw[List.length_map] at this
     lia
    rw[List.length_map] at hR4
    have hWid:=vM ps.length 0 _ EQ.wide (by rw[List.length_map];lia)
    have hByt:=ui ps.length 0 _ EQ.cR
    have hRl:=qd ps.length 0 (ps.map (cD fs r))
    rw[List.length_map] at hRl
    have hRrow: ∀row∈(cQ ps.length 0 (ps.map (cD fs r))).map (List.drop ps.length),(∀x∈row,x<256)∧row.length≤4098:=fun row hrow=>by
     obtain ⟨y,hy,rfl⟩:=List.mem_map.mp hrow
     refine ⟨fun x hx=>hByt y hy x (List.mem_of_mem_drop hx),?_⟩
     rw[List.length_drop,hWid y hy];lia
    have hRl2:((cQ ps.length 0 (ps.map (cD fs r))).map (List.drop ps.length)).length=ps.length:=by rw[List.length_map];exact hRl
    generalize (cQ ps.length 0 (ps.map (cD fs r))).map (List.drop ps.length)=R at*
    have sW4:=sW.trans s4
    have hWD:W≠D:=fun z=>by rw[z,hD3] at hW;cases hW
    have snh:ae (newOf (upd H3 W (.lst (fa.map V.ref))) H4) (hide W H4):=fun b o e=>by
     obtain ⟨z1,z2⟩:=wk e
     have:b≠W:=fun z=>by rw[z,ak] at z1;cases z1
     rw[hide_ne this];exact z2
    obtain ⟨ra,hra1,hra2,hra3⟩:=hR4.same snh
    have hDh:af K (hide W H4) D (vN (Sound.lostOf fs)):=af.of (by rw[hide_ne (Ne.symm hWD)];exact sW4 _ _ hD3)
    refine (cC D D4 _ _ ⟨rfl,(dF _ _).seq hDh,(dF _ _).seq hra1,?_⟩)
    refine yi (J:=lq K D D4) ps.length (fun i σ H'=> ∃(ws:List Addr) (ms:List Sound.Bytes) (v8 v9:Option V),ae (hide W H4) (hide W H')∧cf (R.take i)=some ms∧H' W=some (.lst (ws.map V.ref))∧ws.length=fs.length∧(fW fs ((Sound.lostOf fs).take i) ms).length=fs.length∧(∀(k:Nat) (a:Addr),ws[k]?=some a→hide W H' a=some (.lst (vN (bn ((fW fs ((Sound.lostOf fs).take i) ms).getD k [])))))∧
      σ= [some (.ref f),some (.ref q),some (.int r),some (.ref D),some (.ref F),v5,v6,some (.ref W),v8,v9,none])
     (cC fa ([]) none none ⟨ae.refl _,rfl,s4 _ _ ak,hfa2,rfl,fun k a e=>?_,rfl⟩) ?_ ?_ ?_ ?_
    ·have:H a=some (.lst (vN (bn (fs.getD k [])))):=by rw[←k7];exact hfa3 k a e
     exact tS hW0 (s3.trans sW4) _ _ this
    ·rintro i σ H5 hi ⟨ws,ms,v8,v9,s5,hms,hW5,hwl,hsl2,hws,rfl⟩
     obtain ⟨a,ha1,ha2⟩:=e9 (as:=ra) (i:=i) (by lia)
     exact (cC _ _ _ _ ⟨(dF W H5).seq (s5.seq hDh),(dF W H5).seq (s5.seq hra1),dE (by lia),ha1⟩)
    ·rintro σ H5 ⟨ws,ms,v8,v9,s5,hms,hW5,hwl,hsl2,hws,rfl⟩
     exact (aS _ _ ⟨(dF W H5).seq (s5.seq hDh),(dF W H5).seq (s5.seq hra1), .inl (by rw[aR];lia)⟩)
    ·rintro i σ H5 x H5' hi ⟨ws,ms,v8,v9,s5,hms,hW5,hwl,hsl2,hws,rfl⟩ ⟨t,x1,y1,rfl,htn,rfl,hx,hy⟩
     obtain ⟨rfl,hil⟩:=dD (hx _ ((dF W H5).seq (s5.seq hDh)))
     obtain ⟨a,rfl,ha⟩:=gi (hy _ ((dF W H5).seq (s5.seq hra1)))
     have hiR:i<R.length:=by lia
     have hrow:=hra3 i a ha
     rw[jS hiR] at hrow
     obtain ⟨hrb1,hrb2⟩:=hRrow R[i] (List.getElem_mem hiR)
     have sT:=aE (o:= .tup [.int ((Sound.lostOf fs).getD i 0:Nat), .ref a]) htn
     have hRe:R=R.take i++(R[i]::R.drop (i+1)):=by rw[←List.drop_eq_getElem_cons hiR,List.take_append_drop]
     refine ⟨t,_,rfl,aP.of ak,rfl,_,_,rfl,_,_,rfl,rfl,?_⟩
     refine ⟨_,rfl,aS a (R[i]) ⟨rfl,sT.seq ((dF W H5).seq (s5.seq hrow)),hrb1,hrb2,?_⟩⟩
     have sH:ae H (hide W H4):=tS hW0 (s3.trans sW4)
     cases hfo:Sound.frameOf R[i] with
     |none=>
      intro H6 s6
      have:cf R=none:=by
       rw[hRe,tO,hms,ow,hfo];rfl
      rw[this] at k
      exact k H6 (((sH.trans s5).trans (dF _ _)).trans (sT.trans s6))
     |some m=>
      intro D6 H6 hD6 s6 hx6
      have s56:=sT.trans s6
      have hW6:=s56 _ _ hW5
      have hjl:(Sound.lostOf fs).getD i 0<fs.length:=by
       rw[getD_at hil]
       exact nB _ (List.getElem_mem hil)
      have hDW6:D6≠W:=fun z=>by
       rw[z,sT _ _ hW5] at hD6;cases hD6
      refine ⟨_,rfl,_,rfl,cC W _ _ ((Sound.lostOf fs).getD i 0) ⟨rfl,rfl,hW6,?_,?_⟩⟩
      ·unfold fN
       rw[if_pos (by lia),if_pos (by rw[List.length_map];lia),Int.toNat_natCast]
      have hmsl:=zm _ _ hms
      rw[List.length_take,Nat.min_eq_left (by lia)] at hmsl
      have hset:fW fs ((Sound.lostOf fs).take (i+1)) (ms++ [m])=(fW fs ((Sound.lostOf fs).take i) ms).set ((Sound.lostOf fs).getD i 0) m:=by
       unfold fW
       rw[PX hil hmsl,List.foldl_append,getD_at hil];rfl
      refine (cC (ws.set ((Sound.lostOf fs).getD i 0) D6) (ms++ [m]) _ _ ⟨?_,?_,?_,?_,?_,?_,rfl⟩)
      ·rw[si]
       exact s5.trans (se s56)
      ·rw[List.take_succ,List.getElem?_eq_getElem hiR,tO,hms]
       show (cf [R[i]]).map (ms++ ·)=_
       rw[ow,hfo];rfl
      ·rw[ak,List.map_set]
      ·rw[List.length_set];exact hwl
      ·rw[hset,List.length_set];exact hsl2
      ·intro kk b e
       rw[si,hset]
       by_cases hk:kk=(Sound.lostOf fs).getD i 0
       ·rw[hk,List.getElem?_set_self (by lia)] at e
        obtain rfl:D6=b:=Option.some.inj e
        rw[hk,List.getD_eq_getElem?_getD,List.getElem?_set_self (by lia)]
        rw[hide_ne hDW6];exact hx6
       ·rw[List.getElem?_set_ne (Ne.symm hk)] at e
        rw[List.getD_eq_getElem?_getD,List.getElem?_set_ne (Ne.symm hk),←List.getD_eq_getElem?_getD]
        exact se s56 _ _ (hws kk b e)
    ·rintro σ H5 ⟨ws,ms,v8,v9,s5,hms,hW5,hwl,hsl2,hws,rfl⟩
     rw[List.take_of_length_le (by lia)] at hms
     rw[List.take_of_length_le (by lia),fill_eq] at hws hsl2
     rw[hms] at k
     have sH:ae H (hide W H4):=tS hW0 (s3.trans sW4)
     refine ⟨_,rfl,k W H5 hW0 ((sH.trans s5).trans (dF _ _)) ⟨ws,hW5,by rw[iQ];lia,fun kk a e=>?_⟩⟩
     rw[k7]
     exact dF _ _ _ _ (hws kk a e)
theorem J2 {xs:List V} (n:Nat):dS xs none (some (n:Int))=xs.take n:=by
 unfold dS HT.c8
 dsimp only
 rw[if_neg (by omega),Int.toNat_natCast,List.drop_zero,Nat.sub_zero,List.take_eq_take_iff];omega
theorem Gf {fs:List Sound.Bytes} {ps:List Sound.Piece} (h1:1≤(Sound.lostOf fs).length):Sound.anew fs (ps.take (Sound.lostOf fs).length)=Sound.anew fs ps:=by
 have hh:(ps.take (Sound.lostOf fs).length).headD ⟨0,0, []⟩=ps.headD ⟨0,0, []⟩:=by
  obtain ⟨n,hn⟩: ∃n,(Sound.lostOf fs).length=n+1:=⟨(Sound.lostOf fs).length-1,by omega⟩
  rw[hn]
  cases ps<;>rfl
 unfold Sound.anew
 simp only [hh,List.take_take,Nat.min_self]
theorem OE {g:Nat} {ps:List Sound.Piece} (h:l0 g ps) (n:Nat):l0 g (ps.take n):=⟨fun p hp=>h.1 p (List.mem_of_mem_take hp),h.2.sublist (List.take_sublist ..)⟩
theorem ur: ∀(fs ms:List Sound.Bytes),∀x∈Sound.fill fs ms,x∈fs∨x∈ms
 | [],ms,x,h=>by unfold Sound.fill at h;cases h
 |b::r, [],x,h=> .inl (by rw[rO] at h;exact h)
 |b::r,m::ms,x,h=>by
  unfold Sound.fill at h
  split at h
  ·rcases List.mem_cons.mp h with rfl|h
   ·exact .inr (List.mem_cons_self ..)
   ·rcases ur r ms x h with q|q
    ·exact .inl (List.mem_cons_of_mem _ q)
    ·exact .inr (List.mem_cons_of_mem _ q)
  ·rcases List.mem_cons.mp h with rfl|h
   ·exact .inl (List.mem_cons_self ..)
   ·rcases ur r (m::ms) x h with q|q
    ·exact .inl (List.mem_cons_of_mem _ q)
    ·exact .inr q
theorem DY: ∀(fs ms:List Sound.Bytes),(Sound.fill fs ms).length=fs.length
 | [],ms=>by unfold Sound.fill;rfl
 |b::r, []=>by rw[rO]
 |b::r,m::ms=>by
  unfold Sound.fill
  split<;>rw[List.length_cons,List.length_cons,DY]
theorem zR: ∀(R:List (List Nat)) (ms:List Sound.Bytes),cf R=some ms→ ∀m∈ms,m.length≤4096
 | [],ms,h=>by cases h;intro m hm;cases hm
 |e::r,ms,h=>by
  rw[ow] at h
  cases h1:Sound.frameOf e with
  |none=>rw[h1] at h;cases h
  |some m0=>
   cases h2:cf r with
   |none=>rw[h1,h2] at h;cases h
   |some l=>
    rw[h1,h2] at h
    cases h
    intro m hm
    rcases List.mem_cons.mp hm with rfl|hm
    ·unfold Sound.frameOf at h1
     simp only at h1
     split at h1
     ·rename_i c
      cases h1
      have:=c.1
      unfold Sound.mayLong Sound.LONGEST at this
      rw[Bool.and_eq_true] at this
      have:=of_decide_eq_true this.2
      rw[List.length_take];omega
     ·cases h1
    ·exact zR r l h2 m hm
theorem O9 {fs l:List Sound.Bytes} {ps:List Sound.Piece} (h4: ∀b∈fs,b.length≤4096) (h:Sound.anew fs ps=some l):l.length=fs.length∧ ∀b∈l,b.length≤4096:=by
 unfold Sound.anew at h
 simp only at h
 split at h
 ·cases h;exact ⟨rfl,h4⟩
 ·split at h
  ·cases h
  ·split at h
   ·cases h
   ·rename_i done _
    rw[vR] at h
    cases e:cf (done.map fun e=>e.row) with
    |none=>rw[e] at h;cases h
    |some ms=>
     rw[e] at h
     cases h
     refine ⟨DY fs ms,fun b hb=>?_⟩
     rcases ur fs ms b hb with q|q
     ·exact h4 b q
     ·exact zR _ _ e b q
def ax (S:List Addr) (H:Hp):Hp:=fun b=>if b∈S then none else H b
theorem bK (S:List Addr) (H:Hp):ae (ax S H) H:=fun b o h=>by
 unfold ax at h
 split at h
 ·cases h
 ·exact h
theorem _root_.L2.ae.ax {S:List Addr} {H0 H:Hp} (s:ae H0 H) (h: ∀b∈S,H0 b=none):ae H0 (ax S H):=fun b o e=>by
 unfold Wg.ax
 rw[if_neg (fun z=>by rw[h b z] at e;cases e)]
 exact s b o e
theorem fX {S:List Addr} {H:Hp} {b:Addr} (h:b∈S):ax S H b=none:=by unfold ax;rw[if_pos h]
theorem cG {S:List Addr} {H:Hp} {b:Addr} (h:b∉S):ax S H b=H b:=by unfold ax;rw[if_neg h]
structure bw where
 r:Addr
 dr:Addr
 q:Addr
 B:Sound.Bytes
def eX (d p:V):List (Str×V):= [("data",d),("place",p)]
theorem Gs (d p:V):bD "place" p (bD "data" d [])=eX d p:=by
 show bD "place" p [(("data" :Str),d)]=_
 unfold bD
 rw[if_neg (by decide)]
 rfl
theorem LI (d p p':V):bD "place" p' (eX d p)=eX d p':=by
 have n1: ¬("data" :Str)= "place" :=by decide
 simp only [eX,bD,if_neg n1];rfl
def cw (K:PySem.W.Frag) (H0:Hp) (R:bw):Prop:=af K H0 R.q (vN (bn R.B))∧H0 R.r=none∧R.B.length≤4096
def aV (C:Addr) (H:Hp) (R:bw) (l:Sound.Bits):Prop:= ∃p,l=(Sound.bitsOf R.B).drop p∧p≤8*R.B.length∧H R.r=some (.ins C R.dr (eX (.ref R.q) (.int (p:Nat))))
theorem cw.same {H0 H1:Hp} {R:bw} (h:cw K H0 R) (s:ae H0 H1) (n:H1 R.r=none):cw K H1 R:=⟨s.seq h.1,n,h.2.2⟩
def bt (A:aY) (H0:Hp) (R:bw) {α:Type} (g:Sound.Got α) (Q:α→Hp→Prop) (E:XK):Prop:=match g with
 | .ok x l=> ∀H',ae H0 H'→aV A.aJ H' R l→Q x H'
 | .bad=> ∀H',ae H0 H'→E (.ref A.eT) none H'
 | .short=> ∀H',ae H0 H'→E (.ref A.ie) none H'
theorem bt.seq {H0:Hp} {R:bw} {α β:Type} {g:Sound.Got α} {f:α→Sound.Bits→Sound.Got β} {Q:β→Hp→Prop} {Q':α→Hp→Prop} {E:XK} (h:bt A H0 R (g.then_ f) Q E)
  (k: ∀x l H',g= .ok x l→ae H0 H'→aV A.aJ H' R l→bt A H0 R (f x l) Q E→Q' x H'):bt A H0 R g Q' E:=by
 cases g with
 |ok x l=>exact fun H' s st=>k x l H' rfl s st h
 |bad=>exact h
 |short=>exact h
theorem bt.cJ {H0 H1:Hp} {R:bw} {α β:Type} {g:Sound.Got α} {f:α→Sound.Bits→Sound.Got β} {Q:β→Hp→Prop} {Q':α→Hp→Prop} {E:XK} (h:bt A H0 R (g.then_ f) Q E) (s:ae H0 H1)
  (k: ∀x l H',g= .ok x l→ae H1 H'→aV A.aJ H' R l→bt A H0 R (f x l) Q E→Q' x H'):bt A H1 R g Q' E:=by
 cases g with
 |ok x l=>exact fun H' s' st=>k x l H' rfl s' st h
 |bad=>exact fun H' s'=>h H' (s.trans s')
 |short=>exact fun H' s'=>h H' (s.trans s')
theorem bt.low {H0 H1:Hp} {R:bw} {α:Type} {g:Sound.Got α} {Q:α→Hp→Prop} {E:XK} (h:bt A H0 R g Q E) (s:ae H0 H1):bt A H1 R g Q E:=by
 cases g with
 |ok x l=>exact fun H' s' st=>h H' (s.trans s') st
 |bad=>exact fun H' s'=>h H' (s.trans s')
 |short=>exact fun H' s'=>h H' (s.trans s')
def PF (C:Addr):Sp:=fun vs H Q _=> ∃(p dx:Addr) (d:V),vs= [.ref p,d]∧H p=some (.ins C dx [])∧Q .au (upd H p (.ins C dx (eX d (.int 0))))
theorem O6:aG ["self", "data"] ["self", "data"] (aB AR):=⟨rfl,rfl,rfl,by decide+kernel,rfl,by decide+kernel,by decide+kernel⟩
theorem O1 (T:Txt K mg A):aA P w K mg base aQ 1 A.lS A.kK ["self", "data"] (PF A.aJ):=by
 refine T.Oj.ok O6 (fun vs H Q E h=>?_) (fun cdv Ar outer s H vs Q E hr h=>?_)
 ·obtain ⟨p,dx,d,rfl,_⟩:=h
  rfl
 ·obtain ⟨p,dx,d,rfl,hp,k⟩:=h
  refine ⟨_,ai (bY (pv 0) (pv 1) rfl) (aj (bY (pv 0) ao rfl)),?_⟩
  refine ⟨_,rfl,_,rfl,p,A.aJ,dx, [],rfl,hp,T.bF,T.rB,(by show 0<1000;decide),?_⟩
  refine ⟨_,rfl,p,A.aJ,dx,_,rfl,ak,T.bF,T.iV,(by show 1<1000;decide),?_⟩
  rw[Gs,cM]
  exact k
def GY (K:PySem.W.Frag) (A:aY):Sp:=fun vs H Q E=> ∃(H0:Hp) (R:bw) (n:Nat) (l:Sound.Bits),vs= [.ref R.r, .int n]∧ae H0 H∧cw K H0 R∧aV A.aJ H R l∧n≤64∧bt A H0 R (Sound.takeU n l) (fun x H'=>Q (.int (x:Nat)) H') E
theorem mh:aG ["self", "width", "behind", "number", "byte"] ["self", "width"] (aB Bq):=⟨rfl,rfl,rfl,by decide+kernel,rfl,by decide+kernel,by decide+kernel⟩
theorem NJ (n:Nat):(-(n:Int))%8=((8*((n+7)/8)-n:Nat):Int):=by lia
theorem dO (T:Txt K mg A):aA P w K mg base (bu P w) 1 A.pV A.nI ["self", "width"] (GY K A):=by
 refine T.Jr.bx mh (fun vs H Q E h=>?_) (fun cdv Ar outer s H vs Q E hr h=>?_)
 ·obtain ⟨H0,R,n,l,rfl,_⟩:=h
  rfl
 ·obtain ⟨H0,R,n,l,rfl,s0,⟨hq,hn0,hB⟩,⟨p,rfl,hp,hx⟩,hn,k⟩:=h
  refine ⟨_,ai (aC (i:=2) mh.nd rfl (Or.inl rfl) (aq bT (bI (pv 0) rfl) (pv 1)))
   (ai (bc (aU fH (pv 2) (aq gz ao (bQ jA (by rfl) T.b6 PySem.boot_len (aa (bI (pv 0) rfl) ah))) (aT _)) (aj (eA rfl rfl T.qp T.rZ.exc dZ)) bA)
   (ai (aC (i:=3) mh.nd rfl (Or.inl rfl) ao)
   (ai (cj PassesOwn.leaving rfl (gK (di pf (bI (pv 0) rfl) (bV (aq iU (bI (pv 0) rfl) ao)) (bV (aq iU (aq bT (pv 2) ao) ao)))) (aN (i:=4) mh.nd rfl (Or.inl rfl))
    (aj (aC (i:=3) mh.nd rfl (Or.inl rfl) (aq yk (aq rm (pv 3) ao) (pv 4)))))
   (ai (bY (pv 0) (pv 2) rfl)
   (aj (aM (aq kU (aq fg (pv 3) (aq l8 (gS gR (pv 2)) ao)) (aq cZ (aq rm ao (pv 1)) ao)))))))),?_⟩
  have hqH:=s0.seq hq
  refine (az rfl hx T.bF T.iV rfl ⟨_,rfl,_,_,rfl,rfl,?_⟩)
  dsimp only
  rw[show ((p:Nat):Int)+((n:Nat):Int)=((p+n:Nat):Int) by lia]
  refine ⟨_,rfl,az rfl hx T.bF T.rB rfl (⟨R.q,_,rfl, .inl hqH,_,_,rfl,rfl, .inl ⟨by decide,by decide⟩,_,_,rfl,rfl,_,rfl,?_⟩)⟩
  rw[aR,bM]
  have hlen:((Sound.bitsOf R.B).drop p).length=8*R.B.length-p:=by rw[List.length_drop,iO]
  unfold Sound.takeU at k
  refine bX (fun hc=>?_) fun hc=>?_
  ·have hc:(8:Int)*((R.B.length:Nat):Int)<((p+n:Nat):Int):=of_decide_eq_true hc
   rw[if_pos ((jk _ _).mpr (by rw[hlen];lia))] at k
   exact k H s0
  ·have hc: ¬(8:Int)*((R.B.length:Nat):Int)<((p+n:Nat):Int):=fun z=>hc (decide_eq_true z)
   rw[if_neg (fun z=>by have:=(jk _ _).mp z;rw[hlen] at this;lia)] at k
   refine (az rfl hx T.bF T.rB rfl (az rfl hx T.bF T.iV rfl (⟨_,_,rfl,rfl,⟨by decide,by decide⟩,_,rfl,_,rfl,_,_,rfl,rfl,_,_,rfl,rfl,⟨by decide,by decide⟩,_,rfl,R.q,_,rfl,hqH,fun D hD=>?_⟩)))
   have e1:((p:Nat):Int)/8=((p/8:Nat):Int):=by lia
   have e2:(((p+n:Nat):Int)+7)/8=(((p+n+7)/8:Nat):Int):=by lia
   rw[e1,e2,gg,fY,eM]
   have hv:=PM (B:=R.B) (p:=p) (n:=n) (by lia)
   generalize hbs:(R.B.drop (p/8)).take ((p+n+7)/8-p/8)=bs at*
   have hbl:bs.length≤1000:=by rw[←hbs,List.length_take];lia
   have hnD:H0 D=none:=s0.none hD
   have sD:ae H (upd H D (.lst (vN (bn bs)))):=aE hD
   have hxD:upd H D (.lst (vN (bn bs))) R.r=some (.ins A.aJ R.dr (eX (.ref R.q) (.int (p:Nat)))):=sD _ _ hx
   have s0D:ae H0 (upd H D (.lst (vN (bn bs)))):=s0.trans sD
   have hDx:upd H D (.lst (vN (bn bs))) D=some (.lst (vN (bn bs))):=ak
   generalize upd H D (.lst (vN (bn bs)))=H1 at*
   refine ⟨D,rfl,⟨_,af.of hDx⟩,?_⟩
   refine fA (K:=K) (a:=D) (xs:=vN (bn bs)) (fun i σ H'=>H'=H1∧ ∃v4:Option V,σ= [some (.ref R.r),some (.int (n:Nat)),some (.int ((p+n:Nat):Int)),some (.int (bg ((bn bs).take i):Nat)),v4]) ⟨rfl,none,rfl⟩ (fun i σ H' _ ⟨e,_⟩=>by rw[e];exact af.of hDx) ?_ ?_
   ·rintro i x σ H' hi ⟨rfl,v4,rfl⟩
    obtain ⟨rfl,hil⟩:=dD hi
    have hlt:=vf (l:=(bn bs).take i) fun x hx=>fU bs x (List.mem_of_mem_take hx)
    have hbits:Builtin.Int.intBits ((bg ((bn bs).take i):Nat):Int)≤8*i:=by
     rw[tP,List.length_take] at hlt
     exact Ab (Nat.lt_of_lt_of_le hlt (Nat.pow_le_pow_right (by decide) (by lia)))
    have e27:(2:Int)^27=134217728:=by decide
    rw[bM] at hil
    refine ⟨_,rfl,_,_,rfl,rfl,⟨by lia,by lia⟩,_,rfl,_,_,rfl,rfl,rfl,some (.int ((bn bs).getD i 0:Nat)),?_⟩
    have hil':i<(bn bs).length:=by rw[bM];exact hil
    have e:bg ((bn bs).take (i+1))=256*bg ((bn bs).take i)+(bn bs).getD i 0:=by
     unfold bg
     rw[qv _ _ _ hil',getD_at hil']
    have ex:Builtin.bitOr (((bg ((bn bs).take i):Nat):Int)*2^(8:Int).toNat) (((bn bs).getD i 0:Nat):Int)=((bg ((bn bs).take (i+1)):Nat):Int):=by
     have e8:((bg ((bn bs).take i):Nat):Int)*2^(8:Int).toNat=((256*bg ((bn bs).take i):Nat):Int):=by
      rw[show (2:Int)^(8:Int).toNat=256 by decide];lia
     rw[e8,tQ,yu (sr (fU bs) hil'),e]
    show [_,_,_,some (V.int (Builtin.bitOr _ _)),_]=_
    rw[ex]
   ·rintro σ H' ⟨rfl,v4,rfl⟩
    rw[aR,List.take_length]
    refine ⟨_,rfl,_,rfl,R.r,A.aJ,R.dr,_,rfl,hxD,T.bF,T.iV,(by show 2<1000;decide),?_⟩
    rw[LI]
    have e27:(2:Int)^27=134217728:=by decide
    have ei:Builtin.Int.intBits 1=1:=by decide+kernel
    refine ⟨_,rfl,_,rfl,_,rfl,_,_,rfl,rfl,(by show (0:Int)<8;decide),?_⟩
    dsimp only
    rw[NJ]
    refine (⟨_,_,rfl,rfl,(by lia),_,rfl,_,_,rfl,rfl,⟨by lia,by rw[ei];lia⟩,_,_,rfl,rfl,_,_,rfl,rfl,?_⟩)
    have ef:Builtin.bitAnd (((bg (bn bs):Nat):Int)/2^((8*((p+n+7)/8)-(p+n):Nat):Int).toNat) (1*2^((n:Nat):Int).toNat-1)=((Sound.value (((Sound.bitsOf R.B).drop p).take n):Nat):Int):=by
     rw[Int.one_mul,Int.toNat_natCast,Int.toNat_natCast,mask,←hv]
     unfold bn
     simp
    rw[ef]
    refine k _ (cP s0D hn0) ⟨p+n,?_,by lia,ak⟩
    rw[List.drop_drop]
def Kp (K:PySem.W.Frag) (A:aY):Sp:=fun vs H Q E=> ∃(H0:Hp) (R:bw) (n:Nat) (l:Sound.Bits),vs= [.ref R.r, .int n]∧ae H0 H∧cw K H0 R∧aV A.aJ H R l∧n≤64∧bt A H0 R (Sound.takeS n l) (fun x H'=>Q (.int x) H') E
theorem wL:aG ["self", "width", "number", "sign"] ["self", "width"] (aB DC):=⟨rfl,rfl,rfl,by decide+kernel,rfl,by decide+kernel,by decide+kernel⟩
theorem aV.obj {H:Hp} {R:bw} {l:Sound.Bits} (h:aV A.aJ H R l): ∃p:Nat,H R.r=some (.ins A.aJ R.dr (eX (.ref R.q) (.int (p:Nat)))):=by
 obtain ⟨p,_,_,hx⟩:=h
 exact ⟨p,hx⟩
theorem qZ (T:Txt K mg A):aA P w K mg base (bu P w) 2 A.nz A.pM ["self", "width"] (Kp K A):=by
 refine T.Kc.bx wL (fun vs H Q E h=>?_) (fun cdv Ar outer s H vs Q E hr h=>?_)
 ·obtain ⟨H0,R,n,l,rfl,_⟩:=h
  rfl
 ·obtain ⟨H0,R,n,l,rfl,s0,hI,hS,hn,k⟩:=h
  refine ⟨_,ai (aC (i:=2) wL.nd rfl (Or.inl rfl) (bf (pv 0) T.bF T.dH (dO T) hr T.dG .nil bb (aa (pv 1) ah)))
   (ai (aC (i:=3) wL.nd rfl (Or.inl rfl) (aq kU (pv 2) (aq fg (aq rm ao (pv 1)) ao)))
   (aj (aM (aq cZ (pv 2) (aq gz ao (pv 3)))))),?_⟩
  obtain ⟨p,hx⟩:=hS.obj
  refine (bE rfl hx rfl ⟨_,rfl,H0,R,n,l,rfl,s0,hI,hS,hn,?_⟩)
  unfold Sound.takeS at k
  unfold Sound.takeU
  by_cases hc:Sound.lacks n l=true
  ·rw[if_pos hc] at k⊢
   exact k
  ·rw[if_neg hc] at k⊢
   intro H1 s1 st
   have e27:(2:Int)^27=134217728:=by decide
   have ei:Builtin.Int.intBits 1=1:=by decide+kernel
   refine ⟨_,rfl,_,rfl,_,_,rfl,rfl,⟨by lia,by rw[ei];lia⟩,_,_,rfl,rfl,(by show (0:Int)≤1;decide),_,_,rfl,rfl,?_⟩
   have hl:(l.take n).length=n:=by
    rw[List.length_take]
    have: ¬l.length<n:=fun z=>hc ((jk n l).mpr z)
    lia
   have e1:((1:Int)*2^((n:Nat):Int).toNat/2^(1:Int).toNat)=((2^n/2:Nat):Int):=by
    rw[Int.one_mul,Int.toNat_natCast,show (2:Int)^(1:Int).toNat=2 by decide];simp
   have e2:=Ge (l:=l.take n)
   rw[hl] at e2
   dsimp only
   rw[e1,rA,e2]
   refine ⟨_,rfl,_,rfl,_,_,rfl,rfl, .inl ⟨by decide,by decide⟩,_,_,rfl,rfl,?_⟩
   have k:=k H1 s1 st
   rw[EF,hl] at k
   exact k
def Ku (K:PySem.W.Frag) (A:aY):Sp:=fun vs H Q E=> ∃(H0:Hp) (R:bw) (m:Nat) (l:Sound.Bits),vs= [.ref R.r, .int m]∧ae H0 H∧cw K H0 R∧aV A.aJ H R l∧bt A H0 R (Sound.takeRun (m+1) 0 l) (fun x H'=>Q (.int (x:Nat)) H') E
theorem ub:aG ["self", "most", "zeros"] ["self", "most"] (aB DH):=⟨rfl,rfl,rfl,by decide+kernel,rfl,by decide+kernel,by decide+kernel⟩
theorem take1 (b:Bool) (l:Sound.Bits):Sound.takeU 1 (b::l)= .ok (if b=true then 1 else 0) l:=by
 unfold Sound.takeU
 rw[if_neg (fun z=>by have:=(jk _ _).mp z;simp at this)]
 cases b<;>rfl
theorem zu (T:Txt K mg A):aA P w K mg base (bu P w) 2 A.mn A.kT ["self", "most"] (Ku K A):=by
 refine T.Pu.bx ub (fun vs H Q E h=>?_) (fun cdv Ar outer s H vs Q E hr h=>?_)
 ·obtain ⟨H0,R,m,l,rfl,_⟩:=h
  rfl
 ·obtain ⟨H0,R,m,l,rfl,s0,hI,hS,k⟩:=h
  refine ⟨_,ai (aC (i:=2) ub.nd rfl (Or.inl rfl) ao)
   (ai (yR PassesOwn.leaving (aU cH (bf (pv 0) T.bF T.dH (dO T) hr T.dG .nil bb (aa ao ah)) ao (aT _))
    (ai (f7 (i:=2) ub.nd rfl (Or.inl rfl) ao qF)
    (aj (bc (aU fH (pv 2) (pv 1) (aT _)) (aj (eA rfl rfl T.eJ T.d9.exc dZ)) bA))))
   (aj (aM (pv 2)))),?_⟩
  refine zF (fun σ H'=> ∃(z:Nat) (l':Sound.Bits),σ= [some (.ref R.r),some (.int (m:Nat)),some (.int (z:Nat))]∧l'.length+z=l.length∧ae H0 H'∧aV A.aJ H' R l'∧bt A H0 R (Sound.takeRun (m+1) z l') (fun x H'=>Q (.int (x:Nat)) H') E) (qH 2 (l.length+1)) (⟨0,l,rfl,rfl,s0,hS,k⟩) ?_
  rintro σ H1 ⟨z,l',rfl,hl,s1,hS1,k1⟩ C ht hf
  obtain ⟨p,hx⟩:=hS1.obj
  refine (bE rfl hx rfl (⟨H0,R,1,l',rfl,s1,hI,hS1,by decide,?_⟩))
  cases l' with
  |nil=>exact k1
  |cons b r=>
   rw[take1]
   intro H2 s2 hS2
   cases b with
   |true=>
    refine ⟨rfl,_,rfl,?_⟩
    exact hf H2 ⟨_,rfl,k1 H2 s2 hS2⟩
   |false=>
    refine ⟨rfl,_,rfl,?_⟩
    refine ht H2 ⟨_,rfl,_,_,rfl,rfl,?_⟩
    dsimp only
    rw[show ((z:Nat):Int)+1=((z+1:Nat):Int) by lia]
    refine ⟨_,rfl,_,rfl,_,_,rfl,rfl,_,rfl,?_⟩
    have e:Sound.takeRun (m+1) z (false::r)=if m+1≤z+1 then .bad else Sound.takeRun (m+1) (z+1) r:=rfl
    rw[e] at k1
    refine bX (fun hc=>?_) fun hc=>?_
    ·have hc:((m:Nat):Int)<((z+1:Nat):Int):=of_decide_eq_true hc
     rw[if_pos (by lia)] at k1
     exact k1 H2 s2
    ·have hc: ¬((m:Nat):Int)<((z+1:Nat):Int):=fun z'=>hc (decide_eq_true z')
     rw[if_neg (by lia)] at k1
     rw[List.length_cons] at hl
     refine ⟨(⟨(z+1),r,rfl,by lia,s2,hS2,k1⟩),?_⟩
     show l.length+1-((z+1:Nat):Int).toNat<l.length+1-((z:Nat):Int).toNat
     lia
def IW:Sp:=fun vs H Q _=> ∃(m:Nat) (x y:Int),vs= [.int m, .int x, .int y]∧m<4∧ ∀D H',H D=none→ae H H'→H' D=some (.tup [.int (Sound.unpair m x y).1, .int (Sound.unpair m x y).2])→Q (.ref D) H'
theorem Dk:aG ["mode", "x", "y", "a"] ["mode", "x", "y"] (aB Bw):=⟨rfl,rfl,rfl,by decide+kernel,rfl,by decide+kernel,by decide+kernel⟩
theorem Ay (T:Txt K mg A):aA P w K mg base aQ 1 A.om A.oy ["mode", "x", "y"] IW:=by
 refine T.uw.ok Dk (fun vs H Q E h=>?_) (fun cdv Ar outer s H vs Q E hr h=>?_)
 ·obtain ⟨m,x,y,rfl,_⟩:=h
  rfl
 ·obtain ⟨m,x,y,rfl,hm,k⟩:=h
  refine ⟨_,ai (bc (aU cH (pv 0) ao (aT _)) (aj (aM (kf (aa (pv 1) (aa (pv 2) ah))))) bA)
   (ai (bc (aU cH (pv 0) ao (aT _)) (aj (aM (kf (aa (pv 1) (aa (aq cZ (pv 1) (pv 2)) ah))))) bA)
   (ai (bc (aU cH (pv 0) ao (aT _)) (aj (aM (kf (aa (aq bT (pv 1) (pv 2)) (aa (pv 2) ah))))) bA)
   (ai (aC (i:=3) Dk.nd rfl (Or.inl rfl) (aq bT (pv 1) (aq fg (aq bT (pv 2) (aq l8 (pv 2) ao)) ao)))
   (aj (aM (kf (aa (pv 3) (aa (aq cZ (pv 3) (pv 2)) ah)))))))),?_⟩
  have z2:(2:Nat)≤sizeLine:=by rw[sizeLine_eq];lia
  have ne: ∀a b:Nat,a≠b→decide (V.int ((a:Nat):Int)=V.int ((b:Nat):Int))=false:=fun a b h=>decide_eq_false fun z=>h (by have:=V.int.inj z;lia)
  have fin: ∀(x' y':Int),(x',y')=Sound.unpair m x y→ ∀p,H p=none→Q (.ref p) (upd H p (.tup [.int x', .int y'])):=fun x' y' e p hp=>by
   refine k p _ hp (aE hp) ?_
   rw[ak,←e]
  rcases (by lia:m=0∨m=1∨m=2∨m=3) with rfl|rfl|rfl|rfl
  ·exact ⟨_,rfl,rfl,_,rfl,aW ⟨_,rfl,_,rfl,z2,fin _ _ rfl⟩⟩
  ·refine ⟨_,rfl,rfl,_,rfl,?_⟩
   refine aZ ⟨_,rfl,rfl,_,rfl,aW ⟨_,rfl,_,rfl,_,rfl,_,_,rfl,rfl,z2,fin _ _ rfl⟩⟩
  ·refine ⟨_,rfl,rfl,_,rfl,?_⟩
   refine aZ ⟨_,rfl,rfl,_,rfl,?_⟩
   refine aZ ⟨_,rfl,rfl,_,rfl,aW ⟨_,rfl,_,rfl,_,_,rfl,rfl,_,rfl,z2,fin _ _ rfl⟩⟩
  ·refine ⟨_,rfl,rfl,_,rfl,?_⟩
   refine aZ ⟨_,rfl,rfl,_,rfl,?_⟩
   refine aZ ⟨_,rfl,rfl,_,rfl,?_⟩
   refine aZ ⟨_,rfl,_,rfl,_,rfl,_,_,rfl,rfl,(by show (0:Int)<2;decide),_,_,rfl,rfl,_,_,rfl,rfl,(by show (0:Int)≤1;decide),_,_,rfl,rfl,?_⟩
   refine ⟨_,rfl,_,rfl,_,rfl,_,_,rfl,rfl,z2,fin _ _ ?_⟩
   have e:x+(y+y%2)/2^(1:Int).toNat=(2*x+y%2+y)/2:=by rw[show (2:Int)^(1:Int).toNat=2 by decide];lia
   rw[e];rfl
def jN (m d n:V):List (Str×V):= [("mode",m),("depth",d),("numbers",n)]
def KL (C:Addr):Sp:=fun vs H Q _=> ∃(p dx:Addr) (m d n:V),vs= [.ref p,m,d,n]∧H p=some (.ins C dx [])∧Q .au (upd H p (.ins C dx (jN m d n)))
theorem FE:aG ["self", "mode", "depth", "numbers"] ["self", "mode", "depth", "numbers"] (aB xB):=⟨rfl,rfl,rfl,by decide+kernel,rfl,by decide+kernel,by decide+kernel⟩
theorem Pa (T:Txt K mg A):aA P w K mg base aQ 1 A.kG A.o5 ["self", "mode", "depth", "numbers"] (KL A.cU):=by
 refine T.RF.ok FE (fun vs H Q E h=>?_) (fun cdv Ar outer s H vs Q E hr h=>?_)
 ·obtain ⟨p,dx,m,d,n,rfl,_⟩:=h
  rfl
 ·obtain ⟨p,dx,m,d,n,rfl,hp,k⟩:=h
  refine ⟨_,ai (bY (pv 0) (pv 1) rfl) (ai (bY (pv 0) (pv 2) rfl) (aj (bY (pv 0) (pv 3) rfl))),?_⟩
  refine ⟨_,rfl,_,rfl,p,A.cU,dx, [],rfl,hp,T.ja,T.AJ,(by show 0<1000;decide),?_⟩
  refine ⟨_,rfl,_,rfl,p,A.cU,dx,_,rfl,ak,T.ja,T.Ap,(by show 1<1000;decide),?_⟩
  refine ⟨_,rfl,_,rfl,p,A.cU,dx,_,rfl,ak,T.ja,T.C0,(by show 2<1000;decide),?_⟩
  rw[cM,cM]
  exact k
def jE (m d:Nat) (a:List Int) (i:Nat) (y:Int):Bool:=Sound.fits d (Sound.unpair m (a.getD i 0) y).1&&Sound.fits d (Sound.unpair m (a.getD i 0) y).2
def kS (K:PySem.W.Frag) (C:Addr) (H:Hp) (p:Addr) (m d:Nat) (a:List Int):Prop:= ∃dx n,H p=some (.ins C dx (jN (.int m) (.int d) (.ref n)))∧af K H n (a.map V.int)
theorem kS.same {C:Addr} {H H':Hp} {p:Addr} {m d:Nat} {a:List Int} (h:kS K C H p m d a) (s:ae H H'):kS K C H' p m d a:=by
 obtain ⟨dx,n,h1,h2⟩:=h
 exact ⟨dx,n,s _ _ h1,s.seq h2⟩
def Ig (K:PySem.W.Frag) (A:aY):Sp:=fun vs H Q E=> ∃(p:Addr) (m d i:Nat) (a:List Int) (y:Int),vs= [.ref p, .int i, .int y]∧kS K A.cU H p m d a∧(m<4∧4≤d∧d≤24∧i<a.length)∧(if jE m d a i y=true then∀H',ae H H'→Q .au H' else∀H',ae H H'→E (.ref A.eT) none H')
theorem B8:aG ["self", "place", "number", "one"] ["self", "place", "number"] (aB xW):=⟨rfl,rfl,rfl,by decide+kernel,rfl,by decide+kernel,by decide+kernel⟩
theorem NM (T:Txt K mg A):aA P w K mg base (bu P w) 2 A.kL A.ma ["self", "place", "number"] (Ig K A):=by
 refine T.Oi.bx B8 (fun vs H Q E h=>?_) (fun cdv Ar outer s H vs Q E hr h=>?_)
 ·obtain ⟨p,m,d,i,a,y,rfl,_⟩:=h
  rfl
 ·obtain ⟨p,m,d,i,a,y,rfl,⟨dx,n,hp,hn⟩,⟨hm,hd1,hd2,hi⟩,k⟩:=h
  refine ⟨_,aj (cj PassesOwn.leaving rfl (KQ (aL (Ay T) hr rfl T.Cg T.uw.kp T.A3 .nil aI (aa (bI (pv 0) rfl) (aa (bS fR (bI (pv 0) rfl) (pv 1) (fun _ _=>rfl)) (aa (pv 2) ah))))) (aN (i:=3) B8.nd rfl (Or.inl rfl))
   (aj (bc (jj (oV (aL (ya T) hr rfl T.zM T.wj.kp T.Dm .nil aI (aa (bI (pv 0) rfl) (aa (pv 3) ah))))) (aj (eA rfl rfl T.eJ T.d9.exc dZ)) bA))),?_⟩
  refine (az rfl hp T.ja T.AJ rfl (az rfl hp T.ja T.C0 rfl ⟨_,rfl,n,_,_,_,rfl,rfl,hn,bL (kd hi),_,rfl,m,a.getD i 0,y,rfl,hm,fun D H1 hD s1 hx=>?_⟩))
  unfold jE at k
  generalize Sound.unpair m (a.getD i 0) y=uv at*
  obtain ⟨u,v⟩:=uv
  have hp1:=s1 _ _ hp
  refine ⟨D,rfl,⟨_,aP.of hx⟩,?_⟩
  have hor: ∀j,j<2→(∀i,i<j→Sound.fits d ([u,v].getD i 0)=true)→Sound.fits d ([u,v].getD j 0)=false→E (.ref A.eT) none H1:=fun j hj _ hf=>by
   rw[if_neg (by
    rcases (by lia:j=0∨j=1) with rfl|rfl
    ·have hf:Sound.fits d u=false:=hf
     rw[hf];simp
    ·have hf:Sound.fits d v=false:=hf
     rw[hf];simp)] at k
   exact k H1 s1
  refine KS (K:=K) (a:=D) (xs:= [V.int u,V.int v]) (fun j σ H'=>H'=H1∧(∀i,i<j→Sound.fits d ([u,v].getD i 0)=true)∧ ∃v3:Option V,σ= [some (.ref p),some (.int (i:Nat)),some (.int y),v3]) ⟨rfl,(fun i h=>by lia),none,rfl⟩ (fun j σ H' _ ⟨e,_⟩=>by rw[e];exact aP.of hx) ?_ ?_
  ·rintro j x σ H' hj ⟨rfl,hall,v3,rfl⟩
   have hj2:j<2:=(List.getElem?_eq_some_iff.mp hj).1
   have hx2:x= .int ([u,v].getD j 0):=by
    rcases (by lia:j=0∨j=1) with rfl|rfl
    ·exact (Option.some.inj hj).symm
    ·exact (Option.some.inj hj).symm
   subst hx2
   refine (az rfl hp1 T.ja T.Ap rfl ⟨_,rfl,(d:Int),_,rfl,⟨by lia,by lia⟩,_,rfl,?_⟩)
   rw[CO (by lia)]
   cases hf:Sound.fits d ([u,v].getD j 0) with
   |false=>exact aW (hor j hj2 hall hf)
   |true=>
    refine aZ ⟨rfl,fun i hi=>?_,some (.int ([u,v].getD j 0)),rfl⟩
    rcases (by lia:i<j∨i=j) with q|rfl
    ·exact hall i q
    ·exact hf
  ·rintro σ H' ⟨rfl,hall,v3,rfl⟩
   have h0:Sound.fits d u=true:=hall 0 (by show 0<2;decide)
   have h1:Sound.fits d v=true:=hall 1 (by show 1<2;decide)
   rw[if_pos (by rw[h0,h1];rfl)] at k
   exact k H' s1
def fw (wd z pn g t:V):List (Str×V):= [("width",wd),("z",z),("partner",pn),("guess",g),("taken",t)]
def jm (C:Addr) (H:Hp) (x dx t:Addr) (wd z:Nat) (pn g:V) (ys:List Int):Prop:=H x=some (.ins C dx (fw (.int wd) (.int z) pn g (.ref t)))∧H t=some (.lst (ys.map V.int))∧ ∀y∈ys,Sound.fits wd y=true
theorem jm.ne {C:Addr} {H:Hp} {x dx t:Addr} {wd z:Nat} {pn g:V} {ys:List Int} (h:jm C H x dx t wd z pn g ys):t≠x:=fun e=>by
 have h1:=h.1
 rw[←e,h.2.1] at h1;cases h1
def iF (K:PySem.W.Frag) (A:aY) (H:Hp) (pn:V) (n:Nat) (may:Nat→Int→Bool):Prop:=(pn= .au∧may=fun _ _=>true)∨ ∃(p:Addr) (m d:Nat) (a:List Int),pn= .ref p∧kS K A.cU H p m d a∧(m<4∧4≤d∧d≤24∧a.length=n)∧may=jE m d a
theorem iF.same {H H':Hp} {pn:V} {n:Nat} {may:Nat→Int→Bool} (h:iF K A H pn n may) (s:ae H H'):iF K A H' pn n may:=by
 rcases h with h|⟨p,m,d,a,h1,h2,h3⟩
 ·exact .inl h
 ·exact .inr ⟨p,m,d,a,h1,h2.same s,h3⟩
def JD (K:PySem.W.Frag) (A:aY):Sp:=fun vs H Q E=> ∃(H0:Hp) (x dx t:Addr) (wd z n:Nat) (pn g:V) (ys:List Int) (may:Nat→Int→Bool) (y:Int),vs= [.ref x, .int y]∧ae H0 H∧(H0 x=none∧H0 t=none)∧jm A.bB H x dx t wd z pn g ys∧iF K A H0 pn n may∧(1≤wd∧wd≤25∧z≤25∧ys.length<n∧n≤256)∧
 (if (Sound.fits wd y&&may ys.length (y*2^z))=true then∀H',ae H0 H'→jm A.bB H' x dx t wd z pn g (ys++ [y])→Q .au H' else∀H',ae H0 H'→E (.ref A.eT) none H')
theorem Jn:aG ["self", "number"] ["self", "number"] (aB BK):=⟨rfl,rfl,rfl,by decide+kernel,rfl,by decide+kernel,by decide+kernel⟩
theorem BP {wd:Nat} {y:Int} (h:Sound.fits wd y=true) (h2:wd≤25):y.natAbs<2^64:=by
 unfold Sound.fits at h
 rw[Bool.and_eq_true,decide_eq_true_eq,decide_eq_true_eq] at h
 have:(2:Int)^(wd-1)≤2^24:=by
  have:=Nat.pow_le_pow_right (n:=2) (by decide) (show wd-1≤24 by lia)
  exact_mod_cast this
 have e:(2:Int)^24=16777216:=by decide
 have e2:(2:Nat)^64=18446744073709551616:=by decide
 lia
theorem tR (T:Txt K mg A):aA P w K mg base (bu P w) 3 A.lP A.pP ["self", "number"] (JD K A):=by
 refine T.KI.bx Jn (fun vs H Q E h=>?_) (fun cdv Ar outer s H vs Q E hr h=>?_)
 ·obtain ⟨H0,x,dx,t,wd,z,n,pn,g,ys,may,y,rfl,_⟩:=h
  rfl
 ·obtain ⟨H0,x,dx,t,wd,z,n,pn,g,ys,may,y,rfl,s0,⟨hx0,ht0⟩,hP,hM,⟨hw1,hw2,hz,hl,hn⟩,k⟩:=h
  have hr1':aF 1 _:=hr.mono (by decide)
  refine ⟨_,ai (bc (jj (oV (aL (ya T) hr1' rfl T.zM T.wj.kp T.Dm .nil aI (aa (bI (pv 0) rfl) (aa (pv 1) ah))))) (aj (eA rfl rfl T.eJ T.d9.exc dZ)) bA)
   (ai (bc (qj (L8 (bI (pv 0) rfl))) (aj (bR (bf (bI (pv 0) rfl) T.ja T.Sa (NM T) hr T.Mo .nil bb
     (aa (bQ jA (by rfl) T.b6 PySem.boot_len (aa (bI (pv 0) rfl) ah)) (aa (aq je (pv 1) (bI (pv 0) rfl)) ah))))) bA)
   (aj (bR (pq PySem.F.plainAttrs_list PySem.F.slot_list_append PySem.F.type_list_append rn (bI (pv 0) rfl) (aa (pv 1) ah))))),?_⟩
  obtain ⟨hx,ht,hfy⟩:=id hP
  have htx:=hP.ne
  refine (az rfl hx T.b7 T.qS rfl ⟨_,rfl,(wd:Int),y,rfl,⟨by lia,by lia⟩,_,rfl,?_⟩)
  rw[CO hw1]
  cases hf:Sound.fits wd y with
  |false=>
   rw[hf,if_neg (by simp)] at k
   exact aW (k H s0)
  |true=>
   rw[hf,Bool.true_and] at k
   refine aZ (az rfl hx T.b7 T.uX rfl ⟨_,rfl,?_⟩)
   have fin:may ys.length (y*2^z)=true→ ∀H1,ae H H1→DD (vb K "list" tK (kc K (fi 0) "taken") (D0 (fi 1) zt)) {nx:=fun x H'=>Q V.au H',rt:=Q} [some (V.ref x),some (V.int y)] H1:=fun hm H1 s1=>by
    rw[if_pos hm] at k
    have hx1:=s1 _ _ hx
    have ht1:=s1 _ _ ht
    refine (az rfl hx1 T.b7 T.km rfl ⟨.inl ⟨rfl,_,af.of ht1⟩,_,rfl,t,_,_,rfl,rfl,ht1,(by rw[List.length_map,sizeLine_eq];lia),?_⟩)
    refine k _ (cP (s0.trans s1) ht0) ⟨?_,?_,fun y' hy'=>?_⟩
    ·rw[ay (Ne.symm htx)];exact hx1
    ·rw[ak,List.map_append];rfl
    ·rcases List.mem_append.mp hy' with q|q
     ·exact hfy y' q
     ·rw[List.mem_singleton.mp q];exact hf
   rcases hM with ⟨rfl,rfl⟩|⟨p,m,d,a,rfl,hPa,⟨hm,hd1,hd2,han⟩,rfl⟩
   ·exact aZ (fin rfl H (ae.refl _))
   ·have hPa:=hPa.same s0
    obtain ⟨dp,nn,hp,_⟩:=id hPa
    refine aW (az rfl hx T.b7 T.uX rfl (mJ hp rfl (az rfl hx T.b7 T.km rfl (⟨t,_,rfl, .inl (af.of ht),_,rfl,az rfl hx T.b7 T.tZ rfl (⟨_,_,rfl,rfl,⟨by lia,by lia,BP hf hw2⟩,p,m,d,ys.length,a,y*2^z,?_,hPa,⟨hm,hd1,hd2,by lia⟩,?_⟩)⟩))))
    ·rw[List.length_map];rfl
    ·by_cases hmay:jE m d a ys.length (y*2^z)=true
     ·rw[if_pos hmay]
      exact fun H1 s1=>fin hmay H1 s1
     ·rw[if_neg hmay] at k⊢
      exact fun H1 s1=>k H1 (s0.trans s1)
def L1 (C:Addr):Sp:=fun vs H Q _=> ∃(p dx:Addr) (wd z:Int) (pn:V),vs= [.ref p, .int wd, .int z,pn]∧H p=some (.ins C dx [])∧ ∀(t:Addr) (H':Hp),H t=none→(∀b o,H b=some o→b≠p→H' b=some o)→H' p=some (.ins C dx (fw (.int (wd-z)) (.int z) pn .au (.ref t)))→H' t=some (.lst [])→Q .au H'
theorem F4:aG ["self", "width", "z", "partner"] ["self", "width", "z", "partner"] (aB Dg):=⟨rfl,rfl,rfl,by decide+kernel,rfl,by decide+kernel,by decide+kernel⟩
theorem Fn (T:Txt K mg A):aA P w K mg base aQ 1 A.ml A.oM ["self", "width", "z", "partner"] (L1 A.bB):=by
 refine T.Q7.ok F4 (fun vs H Q E h=>?_) (fun cdv Ar outer s H vs Q E hr h=>?_)
 ·obtain ⟨p,dx,wd,z,pn,rfl,_⟩:=h
  rfl
 ·obtain ⟨p,dx,wd,z,pn,rfl,hp,k⟩:=h
  refine ⟨_,ai (bY (pv 0) (aq cZ (pv 1) (pv 2)) rfl) (ai (bY (pv 0) (pv 2) rfl) (ai (bY (pv 0) (pv 3) rfl) (ai (bY (pv 0) fh rfl) (aj (bY (pv 0) (dy ah) rfl))))),?_⟩
  refine ⟨_,rfl,_,rfl,_,_,rfl,rfl,_,rfl,p,A.bB,dx, [],rfl,hp,T.b7,T.qS,(by show 0<1000;decide),?_⟩
  refine ⟨_,rfl,_,rfl,p,A.bB,dx,_,rfl,ak,T.b7,T.tZ,(by show 1<1000;decide),?_⟩
  refine ⟨_,rfl,_,rfl,p,A.bB,dx,_,rfl,ak,T.b7,T.uX,(by show 2<1000;decide),?_⟩
  refine ⟨_,rfl,p,A.bB,dx,_,rfl,ak,T.b7,T.p9,(by show 3<1000;decide),?_⟩
  rw[cM,cM,cM]
  refine ⟨by rw[sizeLine_eq];show 0≤_;lia,fun t ht=>?_⟩
  have htp:t≠p:=fun e=>by rw[e,ak] at ht;cases ht
  have ht0:H t=none:=by rw[ay htp] at ht;exact ht
  refine ⟨_,rfl,p,A.bB,dx,_,rfl,(by rw[ay (Ne.symm htp)];exact ak),T.b7,T.km,(by show 4<1000;decide),?_⟩
  refine k t _ ht0 (fun b o e hb=>?_) ak ?_
  ·rw[ay hb,ay (bZ e ht0),ay hb];exact e
  ·rw[ay htp];exact ak
theorem Mu (a ys:List Int) (h:Nat) (hl:a.length≤ys.length):Sound.guess a h ys.reverse=rg a h ys ys.length:=Iu (Nat.le_refl _) hl (by rw[List.take_length])
def yh (K:PySem.W.Frag) (A:aY):Sp:=fun vs H Q E=> ∃(H0:Hp) (x dx t ga:Addr) (wd z n h:Nat) (pn:V) (ys a:List Int) (may:Nat→Int→Bool) (e:Int),vs= [.ref x, .int e]∧ae H0 H∧(H0 x=none∧H0 t=none)∧jm A.bB H x dx t wd z pn (.ref ga) ys∧gn K A.cc H0 ga a h∧(a.length≤ys.length∧Bd 2048 a)∧iF K A H0 pn n may∧(1≤wd∧wd≤25∧z≤25∧ys.length<n∧n≤256)∧
 (if (Sound.fits wd (Sound.guess a h ys.reverse+e)&&may ys.length ((Sound.guess a h ys.reverse+e)*2^z))=true then∀H',ae H0 H'→jm A.bB H' x dx t wd z pn (.ref ga) (ys++ [Sound.guess a h ys.reverse+e])→Q .au H' else∀H',ae H0 H'→E (.ref A.eT) none H')
theorem Rg:aG ["self", "rest"] ["self", "rest"] (aB Ef):=⟨rfl,rfl,rfl,by decide+kernel,rfl,by decide+kernel,by decide+kernel⟩
theorem Ec (T:Txt K mg A):aA P w K mg base (bu P w) 4 A.kH A.oY ["self", "rest"] (yh K A):=by
 refine T.LK.bx Rg (fun vs H Q E h=>?_) (fun cdv Ar outer s H vs Q E hr h=>?_)
 ·obtain ⟨H0,x,dx,t,ga,wd,z,n,h,pn,ys,a,may,e,rfl,_⟩:=h
  rfl
 ·obtain ⟨H0,x,dx,t,ga,wd,z,n,h,pn,ys,a,may,e,rfl,s0,hn0,hP,hG,⟨hal,hbd⟩,hM,hb,k⟩:=h
  have hr1':aF 1 _:=hr.mono (by decide)
  refine ⟨_,aj (bR (bf (pv 0) T.b7 T.wU (tR T) hr T.wA .nil bb (aa (aq bT (bf (bI (pv 0) rfl) T.lV T.FF (Oo T) hr1' T.J1 .nil aI
   (aa (bI (pv 0) rfl) (aa (bQ jA (by rfl) T.b6 PySem.boot_len (aa (bI (pv 0) rfl) ah)) ah))) (pv 1)) ah))),?_⟩
  obtain ⟨hx,ht,_⟩:=id hP
  have hG':=hG.same s0
  obtain ⟨dg,pg,hg,_⟩:=id hG'
  refine (bE rfl hx rfl (az rfl hx T.b7 T.p9 rfl (mJ hg rfl (az rfl hx T.b7 T.km rfl (az rfl hx T.b7 T.km rfl (⟨t,_,rfl, .inl (af.of ht),ga,t,a,ys,h,ys.length,?_,hG',af.of ht,⟨hal,Nat.le_refl _⟩,hbd,_,rfl,_,_,rfl,rfl,?_⟩))))))
  ·rw[List.length_map];rfl
  ·rw[Mu a ys h hal] at k
   exact ⟨H0,x,dx,t,wd,z,n,pn, .ref ga,ys,may,_,rfl,s0,hn0,hP,hM,hb,k⟩
def Rr:Sp:=fun vs H Q _=> ∃n:Nat,vs= [.int n]∧Q (.int (Sound.unfold n)) H
theorem IT:aG ["folded"] ["folded"] (aB B2):=⟨rfl,rfl,rfl,by decide+kernel,rfl,by decide+kernel,by decide+kernel⟩
theorem MK (T:Txt K mg A):aA P w K mg base aQ 1 A.lR A.oR ["folded"] Rr:=by
 refine T.z9.ok IT (fun vs H Q E h=>?_) (fun cdv Ar outer s H vs Q E hr h=>?_)
 ·obtain ⟨n,rfl,_⟩:=h
  rfl
 ·obtain ⟨n,rfl,k⟩:=h
  refine ⟨_,aj (aM (jL (aU cH (aq l8 (pv 0) ao) ao (aT _)) (aq fg (pv 0) ao) (aq cZ (gS gR (aq fg (pv 0) ao)) ao))),?_⟩
  refine ⟨_,rfl,_,_,rfl,rfl,(by show (0:Int)<2;decide),rfl,_,rfl,?_⟩
  have e1:((n:Nat):Int)/2^(1:Int).toNat=((n/2:Nat):Int):=by rw[show (2:Int)^(1:Int).toNat=2 by decide];lia
  unfold Sound.unfold at k
  refine bX (fun hc=>?_) fun hc=>?_
  ·have hc:=V.int.inj (of_decide_eq_true hc)
   rw[if_neg (by lia)] at k
   refine ⟨_,rfl,_,_,rfl,rfl,(by show (0:Int)≤1;decide),?_⟩
   dsimp only
   rw[e1];exact k
  ·have hc: ¬((n:Nat):Int)%2=0:=fun z=>hc (decide_eq_true (show V.int (((n:Nat):Int)%2)=V.int 0 by rw[z]))
   rw[if_pos (by lia)] at k
   refine ⟨_,rfl,_,_,rfl,rfl,(by show (0:Int)≤1;decide),_,rfl,_,_,rfl,rfl,?_⟩
   dsimp only
   rw[e1]
   have e2: -((n/2:Nat):Int)-1= -(((n+1)/2:Nat):Int):=by lia
   rw[e2];exact k
def AG (f:Nat→Nat→Nat):Sp:=fun vs H Q _=> ∃m d:Nat,vs= [.int m, .int d]∧Q (.int (f m d:Nat)) H
def jc (m d:Nat):Nat:=if m=2 then d+1 else d
def i9 (m d:Nat):Nat:=if m=1∨m=3 then d+1 else d
theorem Oy:aG ["mode", "depth"] ["mode", "depth"] (aB CP):=⟨rfl,rfl,rfl,by decide+kernel,rfl,by decide+kernel,by decide+kernel⟩
theorem Ez:aG ["mode", "depth"] ["mode", "depth"] (aB DJ):=⟨rfl,rfl,rfl,by decide+kernel,rfl,by decide+kernel,by decide+kernel⟩
theorem ik (a b:Nat):decide (V.int ((a:Nat):Int)=V.int ((b:Nat):Int))=decide (a=b):=by
 by_cases h:a=b
 ·rw[h,decide_eq_true rfl,decide_eq_true rfl]
 ·rw[decide_eq_false h,decide_eq_false fun z=>h (by have:=V.int.inj z;lia)]
theorem MJ (T:Txt K mg A):aA P w K mg base aQ 1 A.lj A.lN ["mode", "depth"] (AG jc):=by
 refine T.Bb.ok Oy (fun vs H Q E h=>?_) (fun cdv Ar outer s H vs Q E hr h=>?_)
 ·obtain ⟨m,d,rfl,_⟩:=h
  rfl
 ·obtain ⟨m,d,rfl,k⟩:=h
  refine ⟨_,aj (aM (jL (aU cH (pv 0) ao (aT _)) (aq bT (pv 1) ao) (pv 1))),?_⟩
  refine ⟨_,rfl,rfl,_,rfl,?_⟩
  unfold jc at k
  have e:=ik m 2
  refine bX (fun hc=>?_) fun hc=>?_
  ·have hc:m=2:=of_decide_eq_true (e.symm.trans hc)
   rw[if_pos hc] at k
   exact ⟨_,rfl,_,_,rfl,rfl,k⟩
  ·rw[if_neg (fun z=>hc (e.trans (decide_eq_true z)))] at k
   exact ⟨_,rfl,k⟩
theorem F7 (T:Txt K mg A):aA P w K mg base aQ 1 A.lX A.mE ["mode", "depth"] (AG i9):=by
 refine T.AU.ok Ez (fun vs H Q E h=>?_) (fun cdv Ar outer s H vs Q E hr h=>?_)
 ·obtain ⟨m,d,rfl,_⟩:=h
  rfl
 ·obtain ⟨m,d,rfl,k⟩:=h
  refine ⟨_,aj (aM (jL (PW.pt (jG (aU cH (pv 0) ao (aT _)) (pF (aU cH (pv 0) ao (aT _))))) (aq bT (pv 1) ao) (pv 1))),?_⟩
  refine ⟨_,rfl,rfl,_,rfl,?_⟩
  unfold i9 at k
  have e:=ik m 1
  have e3:=ik m 3
  refine bX (fun hc=>?_) fun hc=>?_
  ·have hc:m=1:=of_decide_eq_true (e.symm.trans hc)
   rw[if_pos (.inl hc)] at k
   exact aW ⟨_,rfl,_,_,rfl,rfl,k⟩
  ·refine ⟨_,rfl,rfl,_,rfl,?_⟩
   have n1: ¬m=1:=fun z=>hc (e.trans (decide_eq_true z))
   refine bX (fun hc3=>?_) fun hc3=>?_
   ·have hc3:m=3:=of_decide_eq_true (e3.symm.trans hc3)
    rw[if_pos (.inr hc3)] at k
    exact ⟨_,rfl,_,_,rfl,rfl,k⟩
   ·rw[if_neg (fun z=>z.elim n1 fun z=>hc3 (e3.trans (decide_eq_true z)))] at k
    exact ⟨_,rfl,k⟩
def NB (K:PySem.W.Frag) (A:aY):Sp:=fun vs H Q E=> ∃(H0:Hp) (R:bw) (wd:Nat) (l:Sound.Bits),vs= [.ref R.r, .int wd]∧ae H0 H∧cw K H0 R∧aV A.aJ H R l∧2≤wd∧
 bt A H0 R ((Sound.takeU 1 l).then_ fun (fl:Nat) (l:Sound.Bits)=>if fl=0 then Sound.Got.ok 0 l else (Sound.takeRun (wd-1) 0 l).then_ fun (q:Nat) (l:Sound.Bits)=> .ok (q+1) l) (fun x H'=>Q (.int (x:Nat)) H') E
theorem IC:aG ["reader", "width"] ["reader", "width"] (aB y9):=⟨rfl,rfl,rfl,by decide+kernel,rfl,by decide+kernel,by decide+kernel⟩
theorem MP (T:Txt K mg A):aA P w K mg base (bu P w) 3 A.mm A.mx ["reader", "width"] (NB K A):=by
 refine T.xC.bx IC (fun vs H Q E h=>?_) (fun cdv Ar outer s H vs Q E hr h=>?_)
 ·obtain ⟨H0,R,wd,l,rfl,_⟩:=h
  rfl
 ·obtain ⟨H0,R,wd,l,rfl,s0,hI,hS,hw,k⟩:=h
  have hr1':aF 1 _:=hr.mono (by decide)
  refine ⟨_,ai (bc (aU cH (bf (pv 0) T.bF T.dH (dO T) hr1' T.dG .nil bb (aa ao ah)) ao (aT _)) (aj (aM ao)) bA)
   (aj (aM (aq bT (bf (pv 0) T.bF T.xA (zu T) hr T.zp .nil bb (aa (aq cZ (pv 1) ao) ah)) ao))),?_⟩
  obtain ⟨p,hx⟩:=hS.obj
  refine (bE rfl hx rfl (⟨H0,R,1,l,rfl,s0,hI,hS,by decide,k.seq fun fl l1 H1 _ s1 st1 k1=>?_⟩))
  refine ⟨rfl,_,rfl,?_⟩
  have e:=ik fl 0
  refine bX (fun hc=>?_) fun hc=>?_
  ·have hc:fl=0:=of_decide_eq_true (e.symm.trans hc)
   rw[if_pos hc] at k1
   exact k1 H1 s1 st1
  ·rw[if_neg (fun z=>hc (e.trans (decide_eq_true z)))] at k1
   obtain ⟨p1,hx1⟩:=st1.obj
   refine (bE rfl hx1 rfl ⟨_,rfl,_,_,rfl,rfl,H0,R,wd-2,l1,?_,s1,hI,st1,?_⟩)
   ·show [V.ref R.r,V.int (((wd:Nat):Int)-2)]=_
    rw[show ((wd:Nat):Int)-2=((wd-2:Nat):Int) by lia]
   ·rw[show wd-2+1=wd-1 by lia]
    refine k1.seq fun q l2 H2 _ s2 st2 k2=>?_
    refine (⟨_,_,rfl,rfl,?_⟩)
    have k3:Q (.int ((q+1:Nat):Int)) H2:=k2 H2 s2 st2
    rw[show ((q+1:Nat):Int)=((q:Nat):Int)+1 by lia] at k3
    exact k3
theorem then_assoc {α β γ:Type} (g:Sound.Got α) (f:α→Sound.Bits→Sound.Got β) (k:β→Sound.Bits→Sound.Got γ):(g.then_ f).then_ k=g.then_ fun x l=>(f x l).then_ k:=by
 cases g<;>rfl
structure dk where
 x:Addr
 dx:Addr
 t:Addr
 wd:Nat
 z:Nat
 n:Nat
 pn:V
 may:Nat→Int→Bool
def eL (K:PySem.W.Frag) (A:aY) (H0:Hp) (p:dk):Prop:=(H0 p.x=none∧H0 p.t=none)∧iF K A H0 p.pn p.n p.may∧(1≤p.wd∧p.wd≤25∧p.z≤25∧p.n≤256)
abbrev bz (A:aY) (H:Hp) (p:dk) (g:V) (ys:List Int):Prop:=jm A.bB H p.x p.dx p.t p.wd p.z p.pn g ys
theorem nE {H:Hp} {R:bw} {l:Sound.Bits} {p:dk} {g:V} {ys:List Int} (h:aV A.aJ H R l) (q:bz A H p g ys):R.r∉ [p.x,p.t]:=fun z=>by
 obtain ⟨i,hx⟩:=h.obj
 rcases List.mem_cons.mp z with z|z
 ·rw[z,q.1] at hx
  injection hx with hx
  injection hx with _ _ hx
  exact absurd (congrArg List.length hx) (by show¬5=2;decide)
 ·rcases List.mem_cons.mp z with z|z
  ·rw[z,q.2.1] at hx;cases hx
  ·cases z
theorem eL.ax {H0 H:Hp} {p:dk} (h:eL K A H0 p) (s:ae H0 H):ae H0 (Wg.ax [p.x,p.t] H)∧eL K A (Wg.ax [p.x,p.t] H) p:=by
 have s1:ae H0 (Wg.ax [p.x,p.t] H):=s.ax fun b hb=>by
  rcases List.mem_cons.mp hb with rfl|hb
  ·exact h.1.1
  ·rcases List.mem_cons.mp hb with rfl|hb
   ·exact h.1.2
   ·cases hb
 exact ⟨s1,⟨fX (by simp),fX (by simp)⟩,h.2.1.same s1,h.2.2⟩
theorem aV.ax {H H':Hp} {R:bw} {l:Sound.Bits} {p:dk} {g:V} {ys:List Int} (h:aV A.aJ H R l) (q:bz A H p g ys) (s:ae (Wg.ax [p.x,p.t] H) H'):aV A.aJ H' R l:=by
 have n:=nE h q
 obtain ⟨i,e,hi,hx⟩:=h
 exact ⟨i,e,hi,s _ _ (by rw[cG n];exact hx)⟩
def fQ (x z:Nat) (may:Nat→Int→Bool) (acc:List Int) (l:Sound.Bits):Sound.Got Int:=(Sound.takeS x l).then_ fun (y:Int) (l:Sound.Bits)=>Sound.judged x z may acc.length y l
def gh (w z:Nat) (may:Nat→Int→Bool) (a:List Int) (h g v:Nat) (acc:List Int) (l:Sound.Bits):Sound.Got Int:=(Sound.takeRest g v l).then_ fun (e:Int) (l:Sound.Bits)=>Sound.judged w z may acc.length (Sound.guess a h acc+e) l
def gD (w z:Nat) (may:Nat→Int→Bool) (a:List Int) (h cnt:Nat) (ys:List Int) (l:Sound.Bits):Sound.Got (List Int):=(Sound.takeU 5 l).then_ fun (g:Nat) (l:Sound.Bits)=>
 if g=31 then (Sound.takeU 6 l).then_ fun (v:Nat) (l:Sound.Bits)=>if 40<v then .bad else Sound.takeMany (gh w z may a h g v) cnt ys l else Sound.takeMany (gh w z may a h g 0) cnt ys l
theorem ka {α:Type} (one:List α→Sound.Bits→Sound.Got α) (n:Nat) (acc:List α) (l:Sound.Bits):Sound.takeMany one (n+1) acc l=(one acc l).then_ fun (x:α) (r:Sound.Bits)=>Sound.takeMany one n (x::acc) r:=rfl
def pd (K:PySem.W.Frag) (A:aY) (H0:Hp) (R:bw) (p:dk) (gv:V) (m0 cnt:Nat) (one:List Int→Sound.Bits→Sound.Got Int) (Qf:List Int→Hp→Prop) (E:XK) (i:Nat) (H':Hp):Prop:= ∃(ys:List Int) (l:Sound.Bits),ae H0 H'∧aV A.aJ H' R l∧bz A H' p gv ys∧ys.length=m0+i∧bt A H0 R (Sound.takeMany one (cnt-i) ys.reverse l) Qf E
theorem A0 (w z:Nat) (may:Nat→Int→Bool) (n:Nat) (y:Int) (l:Sound.Bits) {β:Type} (k:Int→Sound.Bits→Sound.Got β):(Sound.judged w z may n y l).then_ k=if (Sound.fits w y&&may n (y*2^z))=true then k y l else .bad:=by
 unfold Sound.judged
 split<;>rfl
def Ks (K:PySem.W.Frag) (A:aY):Sp:=fun vs H Q E=> ∃(H0:Hp) (R:bw) (p:dk) (gv:V) (cnt:Nat) (ys:List Int) (l:Sound.Bits),vs= [.ref R.r, .int cnt, .ref p.x]∧ae H0 H∧cw K H0 R∧eL K A H0 p∧aV A.aJ H R l∧bz A H p gv ys∧ys.length+cnt≤p.n∧
 bt A H0 R (Sound.takeMany (fQ p.wd p.z p.may) cnt ys.reverse l) (fun acc H'=>bz A H' p gv acc.reverse→Q .au H') E
theorem yz:aG ["reader", "count", "part", "place"] ["reader", "count", "part"] (aB AM):=⟨rfl,rfl,rfl,by decide+kernel,rfl,by decide+kernel,by decide+kernel⟩
theorem wq {H0 H':Hp} {R:bw} {p:dk} {gv:V} {m0 cnt:Nat} {one:List Int→Sound.Bits→Sound.Got Int} {Q:Hp→Prop} {E:XK} (h:pd K A H0 R p gv m0 cnt one (fun acc H'=>bz A H' p gv acc.reverse→Q H') E cnt H'):Q H':=by
 obtain ⟨ys,l,s1,st,hP,hl,k⟩:=h
 rw[Nat.sub_self] at k
 have k:bz A H' p gv ys.reverse.reverse→Q H':=k H' s1 st
 rw[List.reverse_reverse] at k
 exact k hP
theorem yX (T:Txt K mg A):aA P w K mg base (bu P w) 4 A.pD A.pU ["reader", "count", "part"] (Ks K A):=by
 refine T.vY.bx yz (fun vs H Q E h=>?_) (fun cdv Ar outer s H vs Q E hr h=>?_)
 ·obtain ⟨H0,R,p,gv,cnt,ys,l,rfl,_⟩:=h
  rfl
 ·obtain ⟨H0,R,p,gv,cnt,ys,l,rfl,s0,hI,hp,hS,hP,hc,k⟩:=h
  have hr2':aF 2 _:=hr.mono (by decide)
  refine ⟨_,aj (cj PassesOwn.leaving rfl (eN rfl T.dJ (aa (pv 1) ah)) (aN (i:=3) yz.nd rfl (Or.inl rfl))
   (aj (bR (bf (pv 2) T.b7 T.wU (tR T) hr T.wA .nil bb (aa (bf (pv 0) T.bF T.rH (qZ T) hr2' T.rG .nil bb (aa (bI (pv 2) rfl) ah)) ah))))),?_⟩
  have hnn:=hp.2.2
  have e62:(2:Int)^62=4611686018427387904:=by decide
  refine ⟨_,rfl,((cnt:Nat):Int),rfl,by lia,by lia,?_⟩
  rw[Int.toNat_natCast]
  refine fM (lo:=0) (n:=cnt) (fun i σ H'=>pd K A H0 R p gv ys.length cnt (fQ p.wd p.z p.may) (fun acc H'=>bz A H' p gv acc.reverse→Q .au H') E i H'∧ ∃v3:Option V,σ= [some (.ref R.r),some (.int (cnt:Nat)),some (.ref p.x),v3]) ⟨⟨ys,l,s0,hS,hP,rfl,k⟩,none,rfl⟩ ?_ ?_
  ·rintro i σ H1 hi ⟨⟨ys1,l1,s1,st1,hP1,hl1,k1⟩,v3,rfl⟩
   obtain ⟨px,hx⟩:=st1.obj
   rw[show cnt-i=(cnt-(i+1))+1 by lia,ka,fQ,then_assoc] at k1
   refine (bE rfl hP1.1 rfl (bE rfl hx rfl (az rfl hP1.1 T.b7 T.qS rfl ⟨Wg.ax [R.r] H1,R,p.wd,l1,rfl,bK _ _,?_,st1,by lia,?_⟩)))
   ·exact hI.same (s1.ax fun b hb=>by rw[List.mem_singleton.mp hb];exact hI.2.1) (fX (by simp))
   have sh:ae H0 (Wg.ax [R.r] H1):=s1.ax fun b hb=>by rw[List.mem_singleton.mp hb];exact hI.2.1
   refine k1.cJ sh fun y l2 H2 _ s2 st2 k2=>?_
   have n1:=nE st1 hP1
   have hP2:bz A H2 p gv ys1:=⟨s2 _ _ (by rw[cG (fun z=>n1 (by rw[←List.mem_singleton.mp z];simp))];exact hP1.1),s2 _ _ (by rw[cG (fun z=>n1 (by rw[←List.mem_singleton.mp z];simp))];exact hP1.2.1),hP1.2.2⟩
   have s02:=sh.trans s2
   obtain ⟨s3,hp3⟩:=hp.ax s02
   rw[A0] at k2
   refine ⟨Wg.ax [p.x,p.t] H2,p.x,p.dx,p.t,p.wd,p.z,p.n,p.pn,gv,ys1,p.may,y,rfl,bK _ _,hp3.1,hP2,hp3.2.1,⟨hnn.1,hnn.2.1,hnn.2.2.1,by lia,hnn.2.2.2⟩,?_⟩
   rw[List.length_reverse] at k2
   by_cases hj:(Sound.fits p.wd y&&p.may ys1.length (y*2^p.z))=true
   ·rw[if_pos hj] at k2⊢
    refine fun H3 s4 hP3=>⟨⟨ys1++ [y],l2,s3.trans s4,st2.ax hP2 s4,hP3,by rw[List.length_append,hl1];rfl,?_⟩,some (.int (0+(i:Nat))),rfl⟩
    rw[List.reverse_append]
    exact k2
   ·rw[if_neg hj] at k2⊢
    exact fun H3 s4=>k2 H3 (s3.trans s4)
  ·rintro σ H1 ⟨hm,v3,rfl⟩
   exact wq hm
theorem F5 (v:Nat) (l:Sound.Bits):Sound.takeRest 31 v l=Sound.takeS v l:=by
 unfold Sound.takeRest
 rw[if_pos rfl]
 by_cases h:v=0
 ·subst h
  rw[if_pos rfl]
  unfold Sound.takeS
  rw[if_neg (fun z=>by have:=(jk _ _).mp z;lia)]
  rfl
 ·rw[if_neg h]
theorem Ak {H0 H2:Hp} {R:bw} {p:dk} {ga:Addr} {a ys1:List Int} {h m0 cnt i:Nat} {l2:Sound.Bits} {one:List Int→Sound.Bits→Sound.Got Int} {Qf:List Int→Hp→Prop} {Qn:Hp→Prop} {E:XK} {e:Int} (hp:eL K A H0 p) (hG:gn K A.cc H0 ga a h) (hbd:Bd 2048 a) (hal:a.length≤ys1.length)
  (s2:ae H0 H2) (st2:aV A.aJ H2 R l2) (hP2:bz A H2 p (.ref ga) ys1) (hl1:ys1.length=m0+i) (hn:ys1.length<p.n) (k2:bt A H0 R ((Sound.judged p.wd p.z p.may ys1.reverse.length (Sound.guess a h ys1.reverse+e) l2).then_ fun (x:Int) (r:Sound.Bits)=>Sound.takeMany one (cnt-(i+1)) (x::ys1.reverse) r) Qf E)
  (fin: ∀H3,pd K A H0 R p (.ref ga) m0 cnt one Qf E (i+1) H3→Qn H3):yh K A [.ref p.x, .int e] H2 (fun v H3=>Qn H3) E:=by
 obtain ⟨s3,hp3⟩:=hp.ax s2
 have hnn:=hp.2.2
 rw[A0,List.length_reverse] at k2
 refine ⟨Wg.ax [p.x,p.t] H2,p.x,p.dx,p.t,ga,p.wd,p.z,p.n,h,p.pn,ys1,a,p.may,e,rfl,bK _ _,hp3.1,hP2,hG.same s3,⟨hal,hbd⟩,hp3.2.1,⟨hnn.1,hnn.2.1,hnn.2.2.1,hn,hnn.2.2.2⟩,?_⟩
 by_cases hj:(Sound.fits p.wd (Sound.guess a h ys1.reverse+e)&&p.may ys1.length ((Sound.guess a h ys1.reverse+e)*2^p.z))=true
 ·rw[if_pos hj] at k2⊢
  refine fun H3 s4 hP3=>fin H3 ⟨ys1++ [Sound.guess a h ys1.reverse+e],l2,s3.trans s4,st2.ax hP2 s4,hP3,by rw[List.length_append,hl1];rfl,?_⟩
  rw[List.reverse_append]
  exact k2
 ·rw[if_neg hj] at k2⊢
  exact fun H3 s4=>k2 H3 (s3.trans s4)
def we (K:PySem.W.Frag) (A:aY) (H0:Hp) (ga:Addr) (a:List Int) (h:Nat) (m:Nat):Prop:=gn K A.cc H0 ga a h∧Bd 2048 a∧a.length≤m
def OR (K:PySem.W.Frag) (A:aY):Sp:=fun vs H Q E=> ∃(H0:Hp) (R:bw) (p:dk) (ga:Addr) (a:List Int) (h cnt:Nat) (ys:List Int) (l:Sound.Bits),vs= [.ref R.r, .int cnt, .ref p.x]∧ae H0 H∧cw K H0 R∧eL K A H0 p∧we K A H0 ga a h ys.length∧aV A.aJ H R l∧bz A H p (.ref ga) ys∧ys.length+cnt≤p.n∧
 bt A H0 R ((Sound.takeU 6 l).then_ fun (v:Nat) (l:Sound.Bits)=>if 40<v then .bad else Sound.takeMany (gh p.wd p.z p.may a h 31 v) cnt ys.reverse l) (fun acc H'=>bz A H' p (.ref ga) acc.reverse→Q .au H') E
theorem vm:aG ["reader", "count", "part", "v", "place"] ["reader", "count", "part"] (aB Ca):=⟨rfl,rfl,rfl,by decide+kernel,rfl,by decide+kernel,by decide+kernel⟩
theorem cw.ax {H0 H:Hp} {R:bw} (h:cw K H0 R) (s:ae H0 H):ae H0 (Wg.ax [R.r] H)∧cw K (Wg.ax [R.r] H) R:=by
 have s1:ae H0 (Wg.ax [R.r] H):=s.ax fun b hb=>by rw[List.mem_singleton.mp hb];exact h.2.1
 exact ⟨s1,h.same s1 (fX (by simp))⟩
theorem gj {H H':Hp} {R:bw} {l:Sound.Bits} {p:dk} {g:V} {ys:List Int} (st:aV A.aJ H R l) (q:bz A H p g ys) (s:ae (Wg.ax [R.r] H) H'):bz A H' p g ys:=by
 have n1:=nE st q
 exact ⟨s _ _ (by rw[cG (fun z=>n1 (by rw[←List.mem_singleton.mp z];simp))];exact q.1),s _ _ (by rw[cG (fun z=>n1 (by rw[←List.mem_singleton.mp z];simp))];exact q.2.1),q.2.2⟩
theorem NF (T:Txt K mg A):aA P w K mg base (bu P w) 5 A.oF A.lD ["reader", "count", "part"] (OR K A):=by
 refine T.B4.bx vm (fun vs H Q E h=>?_) (fun cdv Ar outer s H vs Q E hr h=>?_)
 ·obtain ⟨H0,R,p,ga,a,h,cnt,ys,l,rfl,_⟩:=h
  rfl
 ·obtain ⟨H0,R,p,ga,a,h,cnt,ys,l,rfl,s0,hI,hp,⟨hG,hbd,hal⟩,hS,hP,hc,k⟩:=h
  have hr1':aF 1 _:=hr.mono (by decide)
  have hr2':aF 2 _:=hr.mono (by decide)
  refine ⟨_,ai (aC (i:=3) vm.nd rfl (Or.inl rfl) (bf (pv 0) T.bF T.dH (dO T) hr1' T.dG .nil bb (aa ao ah)))
   (ai (bc (aU fH (pv 3) (bp rfl T.Ow) (aT _)) (aj (eA rfl rfl T.eJ T.d9.exc dZ)) bA)
   (aj (cj PassesOwn.leaving rfl (eN rfl T.dJ (aa (pv 1) ah)) (aN (i:=4) vm.nd rfl (Or.inl rfl))
    (aj (bR (bf (pv 2) T.b7 T.xr (Ec T) hr T.Ah .nil bb (aa (bf (pv 0) T.bF T.rH (qZ T) hr2' T.rG .nil bb (aa (pv 3) ah)) ah))))))),?_⟩
  have hnn:=hp.2.2
  have e62:(2:Int)^62=4611686018427387904:=by decide
  obtain ⟨px,hx⟩:=hS.obj
  obtain ⟨sh,hIh⟩:=hI.ax s0
  refine (bE rfl hx rfl ⟨Wg.ax [R.r] H,R,6,l,rfl,bK _ _,hIh,hS,by decide,k.cJ sh fun v l1 H1 _ s1 st1 k1=>?_⟩)
  have hP1:=gj hS hP s1
  have s01:=sh.trans s1
  refine ⟨_,rfl,_,_,rfl,rfl,_,rfl,?_⟩
  refine bX (fun hc=>?_) fun hc40=>?_
  ·have hc:(40:Int)<((v:Nat):Int):=of_decide_eq_true hc
   rw[if_pos (by lia)] at k1
   exact k1 H1 s01
  ·have hc40: ¬(40:Int)<((v:Nat):Int):=fun z=>hc40 (decide_eq_true z)
   rw[if_neg (by lia)] at k1
   refine ⟨_,rfl,((cnt:Nat):Int),rfl,by lia,by lia,?_⟩
   rw[Int.toNat_natCast]
   refine fM (lo:=0) (n:=cnt) (fun i σ H'=>pd K A H0 R p (.ref ga) ys.length cnt (gh p.wd p.z p.may a h 31 v) (fun acc H'=>bz A H' p (.ref ga) acc.reverse→Q .au H') E i H'∧ ∃v4:Option V,σ= [some (.ref R.r),some (.int (cnt:Nat)),some (.ref p.x),some (.int (v:Nat)),v4]) ⟨⟨ys,l1,s01,st1,hP1,rfl,k1⟩,none,rfl⟩ ?_ ?_
   ·rintro i σ H2 hi ⟨⟨ys1,l2,s2,st2,hP2,hl2,k2⟩,v4,rfl⟩
    obtain ⟨px2,hx2⟩:=st2.obj
    rw[show cnt-i=(cnt-(i+1))+1 by lia,ka,gh,then_assoc,F5] at k2
    obtain ⟨sh2,hIh2⟩:=hI.ax s2
    refine (bE rfl hP2.1 rfl (bE rfl hx2 rfl ⟨_,rfl,Wg.ax [R.r] H2,R,v,l2,rfl,bK _ _,hIh2,st2,by lia,k2.cJ sh2 fun e l3 H3 _ s3 st3 k3=>?_⟩))
    exact Ak hp hG hbd (by lia) (sh2.trans s3) st3 (gj st2 hP2 s3) hl2 (by lia) k3 fun H4 hm=>⟨hm,some (.int (0+(i:Nat))),rfl⟩
   ·rintro σ H2 ⟨hm,v4,rfl⟩
    exact wq hm
def Gm (K:PySem.W.Frag) (A:aY):Sp:=fun vs H Q E=> ∃(H0:Hp) (R:bw) (p:dk) (ga:Addr) (a:List Int) (h cnt:Nat) (ys:List Int) (l:Sound.Bits),vs= [.ref R.r, .int cnt, .ref p.x]∧ae H0 H∧cw K H0 R∧eL K A H0 p∧we K A H0 ga a h ys.length∧aV A.aJ H R l∧bz A H p (.ref ga) ys∧ys.length+cnt≤p.n∧
 bt A H0 R (gD p.wd p.z p.may a h cnt ys.reverse l) (fun acc H'=>bz A H' p (.ref ga) acc.reverse→Q .au H') E
theorem rp:aG ["reader", "count", "part", "g", "place", "run"] ["reader", "count", "part"] (aB AN):=⟨rfl,rfl,rfl,by decide+kernel,rfl,by decide+kernel,by decide+kernel⟩
theorem jM {n:Nat} {l:Sound.Bits} {x:Nat} {r:Sound.Bits} (h:Sound.takeU n l= .ok x r):x<2^n:=by
 unfold Sound.takeU at h
 split at h
 ·cases h
 ·cases h
  have:=jJ (l.take n)
  exact Nat.lt_of_lt_of_le this (Nat.pow_le_pow_right (by decide) (by rw[List.length_take];lia))
theorem Pj {g:Nat} (h:g<31):1099511627775/2^g+1=Sound.GREAT/2^g:=by
 have: ∀g:Nat,g<31→1099511627775/2^g+1=Sound.GREAT/2^g:=by decide
 exact this g h
theorem Cv {m:Nat}: ∀{l:Sound.Bits} {q x:Nat} {r:Sound.Bits},Sound.takeRun m q l= .ok x r→x≤q+l.length
 | [],q,x,r,h=>by unfold Sound.takeRun at h;cases h
 |true::l,q,x,r,h=>by unfold Sound.takeRun at h;cases h;lia
 |false::l,q,x,r,h=>by
  have e:Sound.takeRun m q (false::l)=if m≤q+1 then .bad else Sound.takeRun m (q+1) l:=rfl
  rw[e] at h
  split at h
  ·cases h
  ·have:=Cv h
   rw[List.length_cons];lia
theorem aV.len {H:Hp} {R:bw} {l:Sound.Bits} (h:aV A.aJ H R l) (hI:R.B.length≤4096):l.length≤32768:=by
 obtain ⟨i,rfl,_⟩:=h
 rw[List.length_drop,iO];lia
theorem MO (T:Txt K mg A):aA P w K mg base (bu P w) 6 A.mG A.nU ["reader", "count", "part"] (Gm K A):=by
 refine T.AZ.bx rp (fun vs H Q E h=>?_) (fun cdv Ar outer s H vs Q E hr h=>?_)
 ·obtain ⟨H0,R,p,ga,a,h,cnt,ys,l,rfl,_⟩:=h
  rfl
 ·obtain ⟨H0,R,p,ga,a,h,cnt,ys,l,rfl,s0,hI,hp,hGs,hS,hP,hc,k⟩:=h
  obtain ⟨hG,hbd,hal⟩:=id hGs
  have hr1':aF 1 _:=hr.mono (by decide)
  have hr2':aF 2 _:=hr.mono (by decide)
  have hr4':aF 4 _:=hr.mono (by decide)
  refine ⟨_,ai (aC (i:=3) rp.nd rfl (Or.inl rfl) (bf (pv 0) T.bF T.dH (dO T) hr1' T.dG .nil bb (aa ao ah)))
   (ai (bc (aU cH (pv 3) (bp rfl T.K8) (aT _)) (ai (bR (aL (NF T) hr rfl T.Ka T.B4.kp T.O0 .nil bb (aa (pv 0) (aa (pv 1) (aa (pv 2) ah))))) (aj vP)) bA)
   (aj (cj PassesOwn.leaving rfl (eN rfl T.dJ (aa (pv 1) ah)) (aN (i:=4) rp.nd rfl (Or.inl rfl))
    (ai (aC (i:=5) rp.nd rfl (Or.inl rfl) (bf (pv 0) T.bF T.xA (zu T) hr2' T.zp .nil bb (aa (aq fg (bp rfl T.Pk) (pv 3)) ah)))
    (aj (bR (bf (pv 2) T.b7 T.xr (Ec T) hr4' T.Ah .nil bb (aa (aL (MK T) hr1' rfl T.Qx T.z9.kp T.N8 .nil aI
     (aa (aq bT (aq je (pv 5) (pv 3)) (bf (pv 0) T.bF T.dH (dO T) hr1' T.dG .nil bb (aa (pv 3) ah))) ah)) ah)))))))),?_⟩
  have hnn:=hp.2.2
  have e62:(2:Int)^62=4611686018427387904:=by decide
  obtain ⟨px,hx⟩:=hS.obj
  obtain ⟨sh,hIh⟩:=hI.ax s0
  unfold gD at k
  refine (bE rfl hx rfl ⟨Wg.ax [R.r] H,R,5,l,rfl,bK _ _,hIh,hS,by decide,k.cJ sh fun g l1 H1 eg s1 st1 k1=>?_⟩)
  have hP1:=gj hS hP s1
  have s01:=sh.trans s1
  have hg32:g<32:=jM eg
  refine ⟨_,rfl,rfl,_,rfl,?_⟩
  have e31:=ik g 31
  refine bX (fun hc=>?_) fun hc31=>?_
  ·have hc:g=31:=of_decide_eq_true (e31.symm.trans hc)
   subst hc
   rw[if_pos rfl] at k1
   exact ⟨_,rfl,_,rfl,_,rfl,H0,R,p,ga,a,h,cnt,ys,l1,rfl,s01,hI,hp,hGs,st1,hP1,by lia,k1⟩
  ·have hne:g≠31:=fun z=>hc31 (e31.trans (decide_eq_true z))
   rw[if_neg hne] at k1
   refine ⟨_,rfl,((cnt:Nat):Int),rfl,by lia,by lia,?_⟩
   rw[Int.toNat_natCast]
   refine fM (lo:=0) (n:=cnt) (fun i σ H'=>pd K A H0 R p (.ref ga) ys.length cnt (gh p.wd p.z p.may a h g 0) (fun acc H'=>bz A H' p (.ref ga) acc.reverse→Q .au H') E i H'∧ ∃v4 v5:Option V,σ= [some (.ref R.r),some (.int (cnt:Nat)),some (.ref p.x),some (.int (g:Nat)),v4,v5]) ⟨⟨ys,l1,s01,st1,hP1,rfl,k1⟩,none,none,rfl⟩ ?_ ?_
   ·rintro i σ H2 hi ⟨⟨ys1,l2,s2,st2,hP2,hl2,k2⟩,v4,v5,rfl⟩
    obtain ⟨px2,hx2⟩:=st2.obj
    have er:Sound.takeRest g 0 l2=(Sound.takeRun (Sound.GREAT/2^g) 0 l2).then_ fun (q:Nat) (r:Sound.Bits)=>(Sound.takeU g r).then_ fun (x:Nat) (r:Sound.Bits)=> .ok (Sound.unfold (q*2^g+x)) r:=by
     unfold Sound.takeRest;rw[if_neg hne]
    rw[show cnt-i=(cnt-(i+1))+1 by lia,ka,gh,then_assoc,er,then_assoc] at k2
    obtain ⟨sh2,hIh2⟩:=hI.ax s2
    refine (bE rfl hx2 rfl ⟨_,rfl,_,_,rfl,rfl,(by lia),Wg.ax [R.r] H2,R,1099511627775/2^g,l2,?_,bK _ _,hIh2,st2,?_⟩)
    ·show [V.ref R.r,V.int ((1099511627775:Int)/2^((g:Nat):Int).toNat)]=_
     rw[Int.toNat_natCast];rfl
    rw[Pj (by lia)]
    refine k2.cJ sh2 fun q l3 H3 eq s3 st3 k3=>?_
    have hql:=Cv eq
    have hl2l:=st2.len hI.2.2
    rw[then_assoc] at k3
    have hP3:=gj st2 hP2 s3
    have s03:=sh2.trans s3
    obtain ⟨px3,hx3⟩:=st3.obj
    obtain ⟨sh3,hIh3⟩:=hI.ax s03
    have e64:(2:Nat)^64=18446744073709551616:=by decide
    refine (bE rfl hP3.1 rfl ⟨_,rfl,_,rfl,_,_,rfl,rfl,⟨by lia,by lia,by rw[Int.natAbs_natCast];lia⟩,bE rfl hx3 rfl ⟨_,rfl,Wg.ax [R.r] H3,R,g,l3,rfl,bK _ _,hIh3,st3,by lia,k3.cJ sh3 fun x l4 H4 _ s4 st4 k4=>?_⟩⟩)
    refine (⟨_,_,rfl,rfl,q*2^g+x,?_,?_⟩)
    ·show [V.int (((q:Nat):Int)*2^((g:Nat):Int).toNat+((x:Nat):Int))]=_
     rw[Int.toNat_natCast]
     simp
    ·exact Ak hp hG hbd (by lia) (sh3.trans s4) st4 (gj st3 hP3 s4) hl2 (by lia) k4 fun H5 hm=>⟨hm,some (.int (0+(i:Nat))),some (.int (q:Nat)),rfl⟩
   ·rintro σ H2 ⟨hm,v4,v5,rfl⟩
    exact wq hm
theorem Br {J:It} {H1:Hp} {D:Addr} {σ:L2.St} {vs:List Nat} {g:TG} {te:TE} {Qf:Hp→Prop} (n:Nat) (hn:n≤sizeLine) (Pv:Nat→List V→Hp→Prop) (h0:Pv 0 [] (upd H1 D (.lst [])))
  (hgo: ∀i acc H,i<n→Pv i acc H→J.go i H) (hstop: ∀acc H,Pv n acc H→J.stop n H)
  (turn: ∀i acc H x H',i<n→Pv i acc H→H D=some (.lst acc)→acc.length=i→J.dw i H x H'→ ∀C:VK,(∀y H4,H4 D=some (.lst acc)→Pv (i+1) (acc++ [y]) (upd H4 D (.lst (acc++ [y])))→C y H4)→g x (wipe σ vs) H' fun σ2 H2=>wipe σ2 vs=wipe σ vs∧te σ2 H2 C)
  (fin: ∀acc H,Pv n acc H→H D=some (.lst acc)→acc.length=n→Qf H):
  ∃W:Nat→Nat→Hp→Prop,(∃m,W 0 m (upd H1 D (.lst [])))∧ ∀i m H,W i m H→
   (J.stop i H∧Qf H)∨(J.go i H∧ ∃Nx:Hp→Prop,(∀H',Nx H'→ ∃m',m'<m∧W (i+1) m' H')∧ ∀x H',J.dw i H x H'→g x (wipe σ vs) H' fun σ2 H2=>wipe σ2 vs=wipe σ vs∧pj σ2 H2 fun b H3=>
    if b=true then te σ2 H3 fun y H4=> ∃acc,H4 D=some (.lst acc)∧acc.length<sizeLine∧Nx (upd H4 D (.lst (acc++ [y]))) else Nx H3):=by
 refine ⟨fun i m H=>i+m=n∧ ∃acc,Pv i acc H∧H D=some (.lst acc)∧acc.length=i,⟨n,by lia, [],h0,ak,rfl⟩,?_⟩
 rintro i m H ⟨hm,acc,hp,hD,hl⟩
 by_cases hi:i=n
 ·subst hi
  exact .inl ⟨hstop acc H hp,fin acc H hp hD hl⟩
 ·refine .inr ⟨hgo i acc H (by lia) hp,fun H'=> ∃acc',Pv (i+1) acc' H'∧H' D=some (.lst acc')∧acc'.length=i+1,fun H' h=>⟨m-1,by lia,by lia,h⟩,fun x H' hy=>?_⟩
  refine turn i acc H x H' (by lia) hp hD hl hy _ fun y H4 hD4 hp4=>⟨acc,hD4,by lia,acc++ [y],hp4,ak,by rw[List.length_append,hl];rfl⟩
theorem fK {α:Type} {one:List α→Sound.Bits→Sound.Got α}: ∀{n:Nat} {acc xs:List α} {l r:Sound.Bits},Sound.takeMany one n acc l= .ok xs r→xs.length=acc.length+n
 |0,acc,xs,l,r,h=>by unfold Sound.takeMany at h;cases h;rfl
 |n+1,acc,xs,l,r,h=>by
  rw[ka] at h
  cases e:one acc l with
  |ok x l'=>
   rw[e] at h
   have:=fK (show Sound.takeMany one n (x::acc) l'= .ok xs r from h)
   rw[this,List.length_cons];lia
  |bad=>rw[e] at h;cases h
  |short=>rw[e] at h;cases h
theorem sJ {w z:Nat} {may:Nat→Int→Bool} {a:List Int} {h cnt:Nat} {ys xs:List Int} {l r:Sound.Bits} (e:gD w z may a h cnt ys l= .ok xs r):xs.length=ys.length+cnt:=by
 unfold gD at e
 cases e1:Sound.takeU 5 l with
 |ok g l1=>
  rw[e1] at e
  have e:(if g=31 then (Sound.takeU 6 l1).then_ fun (v:Nat) (l:Sound.Bits)=>if 40<v then .bad else Sound.takeMany (gh w z may a h g v) cnt ys l else Sound.takeMany (gh w z may a h g 0) cnt ys l1)= .ok xs r:=e
  split at e
  ·cases e2:Sound.takeU 6 l1 with
   |ok v l2=>
    rw[e2] at e
    have e:(if 40<v then .bad else Sound.takeMany (gh w z may a h g v) cnt ys l2)= .ok xs r:=e
    split at e
    ·cases e
    ·exact fK e
   |bad=>rw[e2] at e;cases e
   |short=>rw[e2] at e;cases e
  ·exact fK e
 |bad=>rw[e1] at e;cases e
 |short=>rw[e1] at e;cases e
theorem qP (w z n p r:Nat) (a:List Int) (h:Nat) (may:Nat→Int→Bool) (k i:Nat) (ys:List Int) (l:Sound.Bits):Sound.takeGroups w z n p r a h may (k+1) i ys l=(gD w z may a h (n/2^r-(if i=0 then p else 0)) ys l).then_ fun (ys:List Int) (l:Sound.Bits)=>Sound.takeGroups w z n p r a h may k (i+1) ys l:=by
 conv=>lhs;unfold Sound.takeGroups
 unfold gD
 rw[then_assoc]
 congr 1
 funext g l
 by_cases hg:g=31
 ·rw[if_pos hg,if_pos hg,then_assoc]
  congr 1
  funext v l
  by_cases hv:40<v
  ·rw[if_pos hv,if_pos hv];rfl
  ·rw[if_neg hv,if_neg hv];rfl
 ·rw[if_neg hg,if_neg hg];rfl
def d4 (w z n:Nat) (may:Nat→Int→Bool) (p:Nat) (a:List Int) (h:Nat) (ys:List Int) (l:Sound.Bits):Sound.Got (List Int):=(Sound.takeU 3 l).then_ fun (r:Nat) (l:Sound.Bits)=>if 6<r∨Sound.mayCut n p r=false then (.bad:Sound.Got (List Int)) else Sound.takeGroups w z n p r a h may (2^r) 0 ys l
theorem yo (n p r:Nat):kR n p r=true↔ ¬(6<r∨Sound.mayCut n p r=false):=by
 unfold kR Sound.mayCut
 have e:n/2^r*2^r=n↔n%2^r=0:=by
  have:=Nat.div_add_mod n (2^r)
  rw[Nat.mul_comm] at this
  lia
 simp only [Bool.and_eq_true,decide_eq_true_eq,not_or,Nat.not_lt,Bool.not_eq_false,beq_iff_eq,e]
def xT (K:PySem.W.Frag) (A:aY):Sp:=fun vs H Q E=> ∃(H0:Hp) (R:bw) (p:dk) (ga:Addr) (a:List Int) (h:Nat) (ys:List Int) (l:Sound.Bits),vs= [.ref R.r, .int p.n, .int (a.length:Nat), .ref p.x]∧ae H0 H∧cw K H0 R∧eL K A H0 p∧we K A H0 ga a h ys.length∧aV A.aJ H R l∧bz A H p (.ref ga) ys∧(ys.length=a.length∧a.length≤4)∧
 bt A H0 R (d4 p.wd p.z p.n p.may a.length a h ys.reverse l) (fun acc H'=>bz A H' p (.ref ga) acc.reverse→Q .au H') E
theorem jU:aG ["reader", "n", "order", "part", "r", "size", "count", "group"] ["reader", "n", "order", "part"] (aB A6):=⟨rfl,rfl,rfl,by decide+kernel,rfl,by decide+kernel,by decide+kernel⟩
theorem Ld (T:Txt K mg A):aA P w K mg base (bu P w) 7 A.nk A.kY ["reader", "n", "order", "part"] (xT K A):=by
 refine T.xq.bx jU (fun vs H Q E h=>?_) (fun cdv Ar outer s H vs Q E hr h=>?_)
 ·obtain ⟨H0,R,p,ga,a,h,ys,l,rfl,_⟩:=h
  rfl
 ·obtain ⟨H0,R,p,ga,a,h,ys,l,rfl,s0,hI,hp,hGs,hS,hP,⟨hyl,ha4⟩,k⟩:=h
  have hr1':aF 1 _:=hr.mono (by decide)
  refine ⟨_,ai (aC (i:=4) jU.nd rfl (Or.inl rfl) (bf (pv 0) T.bF T.dH (dO T) hr1' T.dG .nil bb (aa ao ah)))
   (ai (bc (jj (oV (aL (JI T) hr1' rfl T.K2 T.yt.kp T.IM .nil aI (aa (pv 1) (aa (pv 2) (aa (pv 4) ah)))))) (aj (eA rfl rfl T.eJ T.d9.exc dZ)) bA)
   (ai (aC (i:=5) jU.nd rfl (Or.inl rfl) (aq fg (pv 1) (pv 4)))
   (ai (aC (i:=6) jU.nd rfl (Or.inl rfl) (aq cZ (pv 5) (pv 2)))
   (aj (cj PassesOwn.leaving rfl (eN rfl T.dJ (aa (aq je ao (pv 4)) ah)) (aN (i:=7) jU.nd rfl (Or.inl rfl))
    (ai (bR (aL (MO T) hr rfl T.QP T.AZ.kp T.Nd .nil bb (aa (pv 0) (aa (pv 6) (aa (pv 3) ah)))))
    (aj (aC (i:=6) jU.nd rfl (Or.inl rfl) (pv 5))))))))),?_⟩
  have hnn:=hp.2.2
  have e62:(2:Int)^62=4611686018427387904:=by decide
  obtain ⟨px,hx⟩:=hS.obj
  obtain ⟨sh,hIh⟩:=hI.ax s0
  unfold d4 at k
  refine (bE rfl hx rfl ⟨Wg.ax [R.r] H,R,3,l,rfl,bK _ _,hIh,hS,by decide,k.cJ sh fun r l1 H1 er s1 st1 k1=>?_⟩)
  have hP1:=gj hS hP s1
  have s01:=sh.trans s1
  have hr8:r<8:=jM er
  refine ⟨_,rfl,_,rfl,_,rfl,p.n,a.length,r,rfl,⟨by lia,by lia⟩,_,rfl,?_⟩
  cases hcs:kR p.n a.length r with
  |false=>
   rw[if_pos (Classical.byContradiction fun z=>by rw[(yo _ _ _).mpr z] at hcs;cases hcs)] at k1
   exact aW (k1 H1 s01)
  |true=>
   have hcs2:=(yo _ _ _).mp hcs
   rw[if_neg hcs2] at k1
   have h6:r≤6:=Nat.le_of_not_lt fun z=>hcs2 (.inl z)
   have hmc:p.n%2^r=0∧a.length≤p.n/2^r:=by
    have:Sound.mayCut p.n a.length r=true:=by
     cases q:Sound.mayCut p.n a.length r with
     |true=>rfl
     |false=>exact absurd (.inr q) hcs2
    unfold Sound.mayCut at this
    rw[Bool.and_eq_true,beq_iff_eq,decide_eq_true_eq] at this
    exact this
   have hdiv:p.n/2^r*2^r=p.n:=Nat.div_mul_cancel (Nat.dvd_of_mod_eq_zero hmc.1)
   have e64:(2:Nat)^64=18446744073709551616:=by decide
   refine aZ ⟨_,rfl,_,rfl,_,_,rfl,rfl,(by lia),?_⟩
   have e1:((p.n:Nat):Int)/2^((r:Nat):Int).toNat=((p.n/2^r:Nat):Int):=by rw[Int.toNat_natCast];simp
   dsimp only
   rw[e1]
   have h2r:2^r≤64:=Nat.le_trans (Nat.pow_le_pow_right (by decide) h6) (by decide)
   have h2p:0<2^r:=Nat.two_pow_pos r
   generalize hsz:p.n/2^r=sz at*
   refine ⟨_,rfl,_,rfl,_,_,rfl,rfl,?_⟩
   dsimp only
   rw[show ((sz:Nat):Int)-((a.length:Nat):Int)=((sz-a.length:Nat):Int) by lia]
   have e2:(1:Int)*2^((r:Nat):Int).toNat=((2^r:Nat):Int):=by rw[Int.one_mul,Int.toNat_natCast];simp
   refine ⟨_,rfl,_,_,rfl,rfl,⟨by lia,by lia,by decide⟩,((2^r:Nat):Int),(by show [V.int ((1:Int)*2^((r:Nat):Int).toNat)]=_;rw[e2]),by lia,by lia,?_⟩
   rw[Int.toNat_natCast]
   refine fM (lo:=0) (n:=2^r) (fun i σ H'=>(∃(ys1:List Int) (l2:Sound.Bits),ae H0 H'∧aV A.aJ H' R l2∧bz A H' p (.ref ga) ys1∧ys1.length=(if i=0 then a.length else i*sz)∧bt A H0 R (Sound.takeGroups p.wd p.z p.n a.length r a h p.may (2^r-i) i ys1.reverse l2) (fun acc H'=>bz A H' p (.ref ga) acc.reverse→Q .au H') E)∧
     ∃v7:Option V,σ= [some (.ref R.r),some (.int (p.n:Nat)),some (.int (a.length:Nat)),some (.ref p.x),some (.int (r:Nat)),some (.int (sz:Nat)),some (.int ((sz-(if i=0 then a.length else 0):Nat):Int)),v7]) ⟨⟨ys,l1,s01,st1,hP1,by rw[if_pos rfl];exact hyl,k1⟩,none,rfl⟩ ?_ ?_
   ·rintro i σ H2 hi ⟨⟨ys1,l2,s2,st2,hP2,hl2,k2⟩,v7,rfl⟩
    rw[show 2^r-i=(2^r-(i+1))+1 by lia,qP,hsz] at k2
    have hroom:ys1.length+(sz-(if i=0 then a.length else 0))≤p.n∧a.length≤ys1.length∧ys1.length+(sz-(if i=0 then a.length else 0))=(i+1)*sz:=by
     have hm:(i+1)*sz≤2^r*sz:=Nat.mul_le_mul_right _ (by lia)
     have hc:2^r*sz=p.n:=by rw[Nat.mul_comm];exact hdiv
     by_cases h0:i=0
     ·subst h0
      rw[if_pos rfl] at hl2⊢
      rw[Nat.zero_add,Nat.one_mul] at hm⊢
      lia
     ·rw[if_neg h0] at hl2⊢
      have:(i+1)*sz=i*sz+sz:=by rw[Nat.add_mul,Nat.one_mul]
      have h1:sz≤i*sz:=Nat.le_mul_of_pos_left sz (by lia)
      lia
    refine ⟨_,rfl,_,rfl,_,rfl,H0,R,p,ga,a,h,_,ys1,l2,rfl,s2,hI,hp,⟨hGs.1,hGs.2.1,hroom.2.1⟩,st2,hP2,hroom.1,k2.seq fun xs l3 H3 exs s3 st3 k3 hP3=>?_⟩
    have hxl:=sJ exs
    rw[List.length_reverse] at hxl
    refine ⟨_,rfl,⟨xs.reverse,l3,s3,st3,hP3,?_,?_⟩,some (.int (0+(i:Nat))),?_⟩
    ·rw[List.length_reverse,hxl,if_neg (show¬i+1=0 by lia)];exact hroom.2.2
    ·rw[List.reverse_reverse];exact k3
    ·rw[if_neg (show¬i+1=0 by lia),Nat.sub_zero];rfl
   ·rintro σ H2 ⟨⟨ys1,l2,s2,st2,hP2,hl2,k2⟩,v7,rfl⟩
    rw[Nat.sub_self] at k2
    have k3:bz A H2 p (.ref ga) ys1.reverse.reverse→Q .au H2:=k2 H2 s2 st2
    rw[List.reverse_reverse] at k3
    exact k3 hP2
def gB (x z n:Nat) (may:Nat→Int→Bool) (kind:Nat) (l:Sound.Bits):Sound.Got (List Int):=
 if kind≤6 then (if n<kind-2 then .bad else (Sound.takeMany (fQ x z may) (kind-2) [] l).then_ fun (ys:List Int) (l:Sound.Bits)=>d4 x z n may (kind-2) (Sound.FIXED.getD (kind-2) []) 0 ys l)
 else if n<kind-6 then .bad else (Sound.takeMany (fQ x z may) (kind-6) [] l).then_ fun (ys:List Int) (l:Sound.Bits)=>(Sound.takeU 4 l).then_ fun (h:Nat) (l:Sound.Bits)=>(Sound.takeMany (fun (_:List Int) (l:Sound.Bits)=>Sound.takeS 12 l) (kind-6) [] l).then_ fun (a:List Int) (l:Sound.Bits)=>d4 x z n may (kind-6) a.reverse h ys l
theorem LW {p:Nat} (h:p≤4):(Sound.FIXED.getD p []).length=p∧Bd 2048 (Sound.FIXED.getD p []):=by
 have: ∀p:Nat,p≤4→(Sound.FIXED.getD p []).length=p∧ ∀x∈Sound.FIXED.getD p [],-2048≤x∧x≤2048:=by decide
 exact this p h
theorem BB {n:Nat} {l:Sound.Bits} {x:Int} {r:Sound.Bits} (h:Sound.takeS n l= .ok x r) (h1:1≤n):Sound.fits n x=true:=by
 unfold Sound.takeS at h
 split at h
 ·cases h
 ·rename_i hl
  have hlen:(l.take n).length=n:=by
   rw[List.length_take]
   have: ¬l.length<n:=fun z=>hl ((jk n l).mpr z)
   lia
  cases h
  generalize l.take n=m at*
  cases m with
  |nil=>simp at hlen;lia
  |cons b m=>
   have v:=jJ m
   rw[List.length_cons] at hlen
   have hn:n-1=m.length:=by lia
   unfold Sound.fits Sound.svalue
   rw[hn,rX]
   have e2:(2:Int)^(m.length+1)=2*2^m.length:=by rw[Int.pow_succ,Int.mul_comm]
   have ec:((2^m.length:Nat):Int)=(2:Int)^m.length:=by simp
   cases b with
   |true=>
    simp only [List.head?_cons,if_true,List.length_cons,Nat.one_mul,e2]
    rw[Bool.and_eq_true,decide_eq_true_eq,decide_eq_true_eq,←ec]
    lia
   |false=>
    simp only [List.head?_cons,Option.some.injEq,Bool.false_eq_true,if_false,Nat.zero_mul,Nat.zero_add]
    rw[Bool.and_eq_true,decide_eq_true_eq,decide_eq_true_eq,←ec]
    lia
theorem Mv {l:Sound.Bits} {x:Int} {r:Sound.Bits} (h:Sound.takeS 12 l= .ok x r): -2048≤x∧x≤2048:=by
 have:=BB h (by decide)
 unfold Sound.fits at this
 rw[Bool.and_eq_true,decide_eq_true_eq,decide_eq_true_eq] at this
 have e:(2:Int)^(12-1)=2048:=by decide
 lia
theorem OS {H0 H:Hp} {R:bw} {p:dk} (hI:cw K H0 R) (hp:eL K A H0 p) (s:ae H0 H):ae H0 (Wg.ax [R.r,p.x,p.t] H)∧cw K (Wg.ax [R.r,p.x,p.t] H) R∧eL K A (Wg.ax [R.r,p.x,p.t] H) p:=by
 have s1:ae H0 (Wg.ax [R.r,p.x,p.t] H):=s.ax fun b hb=>by
  rcases List.mem_cons.mp hb with rfl|hb
  ·exact hI.2.1
  ·rcases List.mem_cons.mp hb with rfl|hb
   ·exact hp.1.1
   ·rcases List.mem_cons.mp hb with rfl|hb
    ·exact hp.1.2
    ·cases hb
 exact ⟨s1,hI.same s1 (fX (by simp)),⟨fX (by simp),fX (by simp)⟩,hp.2.1.same s1,hp.2.2⟩
theorem xg (wd z pn g t g':V):bD "guess" g' (fw wd z pn g t)=fw wd z pn g' t:=rfl
def IV (K:PySem.W.Frag) (A:aY):Sp:=fun vs H Q E=> ∃(H0:Hp) (R:bw) (p:dk) (kind:Nat) (l:Sound.Bits),vs= [.ref R.r, .int p.n, .int kind, .ref p.x]∧ae H0 H∧cw K H0 R∧eL K A H0 p∧aV A.aJ H R l∧bz A H p .au []∧(2≤kind∧kind≤10)∧
 bt A H0 R (gB p.wd p.z p.n p.may kind l) (fun acc H'=>(∃g,bz A H' p g acc.reverse)→Q .au H') E
theorem nG:aG ["reader", "n", "kind", "part", "order", "shift", "place"] ["reader", "n", "kind", "part"] (aB A7):=⟨rfl,rfl,rfl,by decide+kernel,rfl,by decide+kernel,by decide+kernel⟩
theorem ND {H1:Hp} {R:bw} {p:dk} {g:V} {ys:List Int} {l:Sound.Bits} {o:HO} (st:aV A.aJ H1 R l) (hP:bz A H1 p g ys) (H2:Hp):ae (newOf H1 H2) (Wg.ax [R.r,p.x,p.t] (upd H2 p.x o)):=fun b u h=>by
 obtain ⟨h1,h2⟩:=wk h
 obtain ⟨i,hx⟩:=st.obj
 have n1:b≠R.r:=fun z=>by rw[z,hx] at h1;cases h1
 have n2:b≠p.x:=fun z=>by rw[z,hP.1] at h1;cases h1
 have n3:b≠p.t:=fun z=>by rw[z,hP.2.1] at h1;cases h1
 rw[cG (by simp [n1,n2,n3]),ay n2]
 exact h2
theorem CW {H0 H:Hp} {R:bw} {p:dk} {ga:Addr} {a ys:List Int} {h:Nat} {l:Sound.Bits} {Qn:Hp→Prop} {E:XK} (hI:cw K H0 R) (hp:eL K A H0 p) (s:ae H0 H) (st:aV A.aJ H R l) (hP:bz A H p (.ref ga) ys) (hG:gn K A.cc (Wg.ax [R.r,p.x,p.t] H) ga a h) (hb:Bd 2048 a) (ha:ys.length=a.length∧a.length≤4)
  (k:bt A H0 R (d4 p.wd p.z p.n p.may a.length a h ys.reverse l) (fun acc H'=>(∃g,bz A H' p g acc.reverse)→Qn H') E):xT K A [.ref R.r, .int p.n, .int (a.length:Nat), .ref p.x] H (fun v H'=>Qn H') E:=by
 obtain ⟨s1,hI1,hp1⟩:=OS hI hp s
 refine ⟨Wg.ax [R.r,p.x,p.t] H,R,p,ga,a,h,ys,l,rfl,bK _ _,hI1,hp1,⟨hG,hb,by lia⟩,st,hP,ha,?_⟩
 have k1:=k.low s1
 generalize d4 p.wd p.z p.n p.may a.length a h ys.reverse l=g at*
 cases g with
 |ok x l=>exact fun H' s' st' hq=>k1 H' s' st' ⟨_,hq⟩
 |bad=>exact k1
 |short=>exact k1
theorem Oh (T:Txt K mg A):aA P w K mg base (bu P w) 8 A.m8 A.ly ["reader", "n", "kind", "part"] (IV K A):=by
 refine T.CB.bx nG (fun vs H Q E h=>?_) (fun cdv Ar outer s H vs Q E hr h=>?_)
 ·obtain ⟨H0,R,p,kind,l,rfl,_⟩:=h
  rfl
 ·obtain ⟨H0,R,p,kind,l,rfl,s0,hI,hp,hS,hP,⟨hk1,hk2⟩,k⟩:=h
  have hr1':aF 1 _:=hr.mono (by decide)
  have hr2':aF 2 _:=hr.mono (by decide)
  have hr3':aF 3 _:=hr.mono (by decide)
  have hr4':aF 4 _:=hr.mono (by decide)
  refine ⟨_,ai (aC (i:=4) nG.nd rfl (Or.inl rfl) (aL (Nm T) hr1' rfl T.KR T.AB.kp T.FD .nil aI (aa (pv 2) ah)))
   (ai (bc (aU fH (pv 4) (pv 1) (aT _)) (aj (eA rfl rfl T.eJ T.d9.exc dZ)) bA)
   (ai (bR (aL (yX T) hr4' rfl T.Dn T.vY.kp T.zV .nil bb (aa (pv 0) (aa (pv 4) (aa (pv 3) ah)))))
   (ai (bc (aU nX (pv 2) (bp rfl T.uu) (aT _)) (aj (bY (pv 3) (aL (G8 T) hr3' rfl T.ES T.zi.kp T.KC .nil aI (aa (pv 4) ah)) rfl))
    (ai (aC (i:=5) nG.nd rfl (Or.inl rfl) (bf (pv 0) T.bF T.dH (dO T) hr1' T.dG .nil bb (aa ao ah)))
    (aj (bY (pv 3) (gN T.AD (zw T) hr2' rfl T.Ac T.yP .nil aI (aa (Q5 (own:= [("place",6)]) rfl rfl rfl oE rfl nG.nd (eN rfl T.dJ (aa (pv 4) ah)) (cv (by kernel_rfl)) (fun _ _ _ _ _ _=>aN (i:=6) nG.nd rfl (Or.inl rfl)) (fun _ _ _ _ _ _=>c9)
     (fun _ _ _ _ _ _ hp=>bf (pv 0) T.bF T.rH (qZ T) hr2' T.rG .nil hp (aa (bp rfl T.Ma) ah))) (aa (pv 5) ah))) rfl))))
   (aj (bR (aL (Ld T) hr rfl T.K5 T.xq.kp T.FU .nil bb (aa (pv 0) (aa (pv 1) (aa (pv 4) (aa (pv 3) ah)))))))))),?_⟩
  have hnn:=hp.2.2
  have e62:(2:Int)^62=4611686018427387904:=by decide
  refine ⟨_,rfl,kind,rfl,⟨hk1,hk2⟩,?_⟩
  generalize ho:(if kind≤6 then kind-2 else kind-6)=o at*
  have ho4:o≤4:=by rw[←ho];split<;>lia
  refine ⟨_,rfl,_,rfl,_,_,rfl,rfl,_,rfl,?_⟩
  unfold gB at k
  refine bX (fun hc=>?_) fun hc=>?_
  ·have hc:((p.n:Nat):Int)<((o:Nat):Int):=of_decide_eq_true hc
   by_cases h6:kind≤6
   ·rw[if_pos h6] at k ho
    rw[if_pos (by lia)] at k
    exact k H s0
   ·rw[if_neg h6] at k ho
    rw[if_pos (by lia)] at k
    exact k H s0
  ·have hc: ¬((p.n:Nat):Int)<((o:Nat):Int):=fun z=>hc (decide_eq_true z)
   by_cases h6:kind≤6
   ·rw[if_pos h6] at k ho
    rw[if_neg (by lia),ho] at k
    refine ⟨_,rfl,_,rfl,_,rfl,H0,R,p, .au,o, [],l,rfl,s0,hI,hp,hS,hP,(by show 0+o≤_;lia),k.seq fun ys l1 H1 ey s1 st1 k1 hP1=>?_⟩
    have hyl:=fK ey
    have hyl:ys.length=o:=by rw[hyl];show 0+o=o;lia
    refine ⟨_,rfl,_,_,rfl,rfl,_,rfl,?_⟩
    rw[decide_eq_true (show ((kind:Nat):Int)<7 by lia)]
    refine aW ⟨_,rfl,o,rfl,ho4,fun ga H2 hga s2 hG=>?_⟩
    have hx2:=s2 _ _ hP1.1
    refine ⟨_,rfl,p.x,A.bB,p.dx,_,rfl,hx2,T.b7,T.p9,(by show 5<1000;decide),?_⟩
    rw[xg]
    have htx:=hP1.ne
    have hP3:bz A (upd H2 p.x (.ins A.bB p.dx (fw (.int p.wd) (.int p.z) p.pn (.ref ga) (.ref p.t)))) p (.ref ga) ys.reverse:=⟨ak,by rw[ay htx];exact s2 _ _ hP1.2.1,hP1.2.2⟩
    have s3:ae H0 (upd H2 p.x (.ins A.bB p.dx (fw (.int p.wd) (.int p.z) p.pn (.ref ga) (.ref p.t)))):=cP (s1.trans s2) hp.1.1
    have st3:aV A.aJ (upd H2 p.x (.ins A.bB p.dx (fw (.int p.wd) (.int p.z) p.pn (.ref ga) (.ref p.t)))) R l1:=by
     have n1:=nE st1 hP1
     obtain ⟨i,ei,hi,hxr⟩:=st1
     exact ⟨i,ei,hi,by rw[ay (fun z=>n1 (by rw[z];simp))];exact s2 _ _ hxr⟩
    have hG3:=hG.same (ND (o:= .ins A.bB p.dx (fw (.int p.wd) (.int p.z) p.pn (.ref ga) (.ref p.t))) st1 hP1 H2)
    obtain ⟨fl,fb⟩:=LW ho4
    have:=CW (Qn:=fun H'=>Q .au H') hI hp s3 st3 hP3 hG3 fb ⟨by rw[List.length_reverse,fl,hyl],by lia⟩ (by rw[List.reverse_reverse,fl];exact k1)
    rw[fl] at this
    exact ⟨_,rfl,_,rfl,_,rfl,_,rfl,this⟩
   ·rw[if_neg h6] at k ho
    rw[if_neg (by lia),ho] at k
    refine ⟨_,rfl,_,rfl,_,rfl,H0,R,p, .au,o, [],l,rfl,s0,hI,hp,hS,hP,(by show 0+o≤_;lia),k.seq fun ys l1 H1 ey s1 st1 k1 hP1=>?_⟩
    have hyl:=fK ey
    have hyl:ys.length=o:=by rw[hyl];show 0+o=o;lia
    refine ⟨_,rfl,_,_,rfl,rfl,_,rfl,?_⟩
    rw[decide_eq_false (show¬((kind:Nat):Int)<7 by lia)]
    obtain ⟨px,hx⟩:=st1.obj
    obtain ⟨sh,hIh⟩:=hI.ax s1
    refine aZ (bE rfl hx rfl ⟨Wg.ax [R.r] H1,R,4,l1,rfl,bK _ _,hIh,st1,by decide,k1.cJ sh fun hh l2 H2 _ s2 st2 k2=>?_⟩)
    have hP2:=gj st1 hP1 s2
    have s02:=sh.trans s2
    refine ⟨_,rfl,((o:Nat):Int),rfl,by lia,by lia,fun D hD=>?_⟩
    rw[Int.toNat_natCast]
    have hD0:H0 D=none:=s02.none hD
    refine Br o (by rw[sizeLine_eq];lia) (fun i acc H'=> ∃(as:List Int) (l':Sound.Bits),acc=as.reverse.map V.int∧ae (Wg.ax [R.r] H2) H'∧aV A.aJ H' R l'∧as.length=i∧Bd 2048 as∧bt A H0 R ((Sound.takeMany (fun (_:List Int) (l:Sound.Bits)=>Sound.takeS 12 l) (o-i) as l').then_ fun (a:List Int) (l:Sound.Bits)=>d4 p.wd p.z p.n p.may o a.reverse hh ys l) (fun acc H'=>(∃g,bz A H' p g acc.reverse)→Q .au H') E) ?_ ?_ ?_ ?_ ?_
    ·refine ⟨[],l2,rfl,fun b u e=>?_,?_,rfl,(fun x hx=>by cases hx),k2⟩
     ·have:=bK _ _ b u e
      rw[ay (bZ this hD)];exact this
     ·obtain ⟨i,ei,hi,hxr⟩:=st2
      exact ⟨i,ei,hi,by rw[ay (bZ hxr hD)];exact hxr⟩
    ·exact fun i acc H' hi _=>hi
    ·exact fun acc H' _=>Nat.le_refl _
    ·rintro i acc H3 x H3' hi ⟨as,l3,rfl,s3,st3,hl3,hb3,k3⟩ hDx hal ⟨hH3,rfl⟩ C hC
     rw[hH3]
     obtain ⟨px3,hx3⟩:=st3.obj
     rw[show o-i=(o-(i+1))+1 by lia,ka,then_assoc] at k3
     obtain ⟨sh2,_⟩:=hI.ax s02
     obtain ⟨sh3,hIh3⟩:=hI.ax (sh2.trans s3)
     refine ⟨rfl,bE rfl hx3 rfl ⟨Wg.ax [R.r] H3,R,12,l3,rfl,bK _ _,hIh3,st3,by decide,k3.cJ sh3 fun y l4 H4 ey4 s4 st4 k4=>?_⟩⟩
     have nDr:D≠R.r:=fun z=>by rw[z,hx3] at hDx;cases hDx
     refine hC _ H4 (s4 _ _ (by rw[cG (by simpa using nDr)];exact hDx)) ⟨y::as,l4,by simp,?_,?_,by rw[List.length_cons,hl3],?_,k4⟩
     ·intro b u e
      have e3:=s3 b u e
      by_cases hb:b=D
      ·subst hb
       have:=bK _ _ _ u e
       rw[hD] at this;cases this
      ·rw[ay hb]
       refine s4 _ _ ?_
       rw[cG (fun z=>by
        rw[List.mem_singleton.mp z,fX (by simp)] at e;cases e)]
       exact e3
     ·obtain ⟨j,ej,hj,hxr⟩:=st4
      exact ⟨j,ej,hj,by rw[ay (Ne.symm nDr)];exact hxr⟩
     ·intro z hz
      rcases List.mem_cons.mp hz with rfl|hz
      ·exact Mv ey4
      ·exact hb3 z hz
    ·rintro acc H3 ⟨as,l3,rfl,s3,st3,hl3,hb3,k3⟩ hDx hal
     rw[Nat.sub_self] at k3
     have k3:bt A H0 R (d4 p.wd p.z p.n p.may o as.reverse hh ys l3) (fun acc H'=>(∃g,bz A H' p g acc.reverse)→Q .au H') E:=k3
     obtain ⟨sh2,_⟩:=hI.ax s02
     have s03:=sh2.trans s3
     have hP3:=gj st2 hP2 s3
     refine ⟨_,rfl,fun ga dga hga hdga hne=>(⟨ga,dga,_,_,rfl,ak,rfl,?_⟩)⟩
     rw[iS]
     have s4:ae H3 (upd (upd H3 dga (.own ga)) ga (.ins A.cc dga (gf (.ref D) (.int (hh:Nat))))):=eG hga hdga
     have hG4:upd (upd H3 dga (.own ga)) ga (.ins A.cc dga (gf (.ref D) (.int (hh:Nat)))) ga=some (.ins A.cc dga (gf (.ref D) (.int (hh:Nat)))):=ak
     have hD4:=s4 _ _ hDx
     generalize upd (upd H3 dga (.own ga)) ga (.ins A.cc dga (gf (.ref D) (.int (hh:Nat))))=H4 at*
     have hx4:=s4 _ _ hP3.1
     refine ⟨_,rfl,p.x,A.bB,p.dx,_,rfl,hx4,T.b7,T.p9,(by show 5<1000;decide),?_⟩
     rw[xg]
     have htx:=hP3.ne
     have n1:=nE st3 hP3
     obtain ⟨jr,ejr,hjr,hxr⟩:=id st3
     have gx:ga≠p.x:=fun z=>by rw[z,hP3.1] at hga;cases hga
     have gt:ga≠p.t:=fun z=>by rw[z,hP3.2.1] at hga;cases hga
     have gr:ga≠R.r:=fun z=>by rw[z,hxr] at hga;cases hga
     have Dx:D≠p.x:=fun z=>by rw[z,hP3.1] at hDx;cases hDx
     have Dr:D≠R.r:=fun z=>by rw[z,hxr] at hDx;cases hDx
     have Dt:D≠p.t:=fun z=>by
      have:=hP2.2.1
      rw[←z,hD] at this;cases this
     have hP5:bz A (upd H4 p.x (.ins A.bB p.dx (fw (.int p.wd) (.int p.z) p.pn (.ref ga) (.ref p.t)))) p (.ref ga) ys.reverse:=⟨ak,by rw[ay htx];exact s4 _ _ hP3.2.1,hP3.2.2⟩
     have s5:ae H0 (upd H4 p.x (.ins A.bB p.dx (fw (.int p.wd) (.int p.z) p.pn (.ref ga) (.ref p.t)))):=cP (s03.trans s4) hp.1.1
     have st5:aV A.aJ (upd H4 p.x (.ins A.bB p.dx (fw (.int p.wd) (.int p.z) p.pn (.ref ga) (.ref p.t)))) R l3:=⟨jr,ejr,hjr,by rw[ay (fun z=>n1 (by rw[z];simp))];exact s4 _ _ hxr⟩
     have hG5:gn K A.cc (Wg.ax [R.r,p.x,p.t] (upd H4 p.x (.ins A.bB p.dx (fw (.int p.wd) (.int p.z) p.pn (.ref ga) (.ref p.t))))) ga as.reverse hh:=by
      refine ⟨dga,D,?_,af.of ?_⟩
      ·rw[cG (by simp [gr,gx,gt]),ay gx];exact hG4
      ·rw[cG (by simp [Dr,Dx,Dt]),ay Dx];exact hD4
     have hal2:as.reverse.length=o:=by rw[List.length_reverse,hl3]
     have:=CW (Qn:=fun H'=>Q .au H') hI hp s5 st5 hP5 hG5 (fun z hz=>hb3 z (List.mem_reverse.mp hz)) ⟨by rw[List.length_reverse,hal2,hyl],by lia⟩ (by rw[List.reverse_reverse,hal2];exact k3)
     rw[hal2] at this
     exact ⟨_,rfl,_,rfl,_,rfl,_,rfl,this⟩
def sf (w:Nat) (l:Sound.Bits):Sound.Got Nat:=(Sound.takeU 1 l).then_ fun (fl:Nat) (l:Sound.Bits)=>if fl=0 then Sound.Got.ok 0 l else (Sound.takeRun (w-1) 0 l).then_ fun (q:Nat) (l:Sound.Bits)=> .ok (q+1) l
def kindS (x n:Nat) (may:Nat→Int→Bool) (z kind:Nat) (l:Sound.Bits):Sound.Got (List Int):=
 if kind=0 then (Sound.takeS x l).then_ fun (y:Int) (l:Sound.Bits)=>if ((List.range n).all fun (i:Nat)=>may i (y*2^z))=true then .ok (List.replicate n y) l else .bad
 else if kind=1 then Sound.takeMany (fQ x z may) n [] l else if 10<kind then .bad else gB x z n may kind l
theorem zZ (w n:Nat) (may:Nat→Int→Bool) (l:Sound.Bits):Sound.takePart w n may l=(sf w l).then_ fun (z:Nat) (l:Sound.Bits)=>(Sound.takeU 4 l).then_ fun (kind:Nat) (l:Sound.Bits)=>(kindS (w-z) n may z kind l).then_ fun (ys:List Int) (l:Sound.Bits)=> .ok (ys.reverse.map fun (y:Int)=>y*2^z) l:=by
 unfold Sound.takePart sf
 rw[then_assoc]
 congr 1
 funext fl l
 congr 1
 funext z l
 congr 1
 funext kind l
 unfold kindS
 by_cases h0:kind=0
 ·rw[if_pos h0,if_pos h0]
 ·rw[if_neg h0,if_neg h0]
  by_cases h1:kind=1
  ·rw[if_pos h1,if_pos h1];rfl
  ·rw[if_neg h1,if_neg h1]
   by_cases h6:kind≤6
   ·rw[if_pos h6,if_neg (show¬10<kind by lia)]
    unfold gB
    rw[if_pos h6]
    by_cases hn:n<kind-2
    ·rw[if_pos hn,if_pos hn];rfl
    ·rw[if_neg hn,if_neg hn];rfl
   ·rw[if_neg h6]
    by_cases h10:10<kind
    ·rw[if_pos (.inl h10),if_pos h10];rfl
    ·rw[if_neg h10]
     unfold gB
     rw[if_neg h6]
     by_cases hn:n<kind-6
     ·rw[if_pos (.inr hn),if_pos hn];rfl
     ·rw[if_neg (fun z=>z.elim h10 hn),if_neg hn];rfl
theorem xm {m:Nat}: ∀{l:Sound.Bits} {q x:Nat} {r:Sound.Bits},Sound.takeRun m q l= .ok x r→q<m→x<m
 | [],q,x,r,h,hq=>by unfold Sound.takeRun at h;cases h
 |true::l,q,x,r,h,hq=>by unfold Sound.takeRun at h;cases h;exact hq
 |false::l,q,x,r,h,hq=>by
  have e:Sound.takeRun m q (false::l)=if m≤q+1 then .bad else Sound.takeRun m (q+1) l:=rfl
  rw[e] at h
  split at h
  ·cases h
  ·exact xm h (by lia)
theorem MR {w:Nat} {l:Sound.Bits} {z:Nat} {r:Sound.Bits} (h:sf w l= .ok z r) (hw:2≤w):z<w:=by
 unfold sf at h
 cases e1:Sound.takeU 1 l with
 |ok fl l1=>
  rw[e1] at h
  have h:(if fl=0 then Sound.Got.ok 0 l1 else (Sound.takeRun (w-1) 0 l1).then_ fun (q:Nat) (l:Sound.Bits)=> .ok (q+1) l)= .ok z r:=h
  split at h
  ·cases h;lia
  ·cases e2:Sound.takeRun (w-1) 0 l1 with
   |ok q l2=>
    rw[e2] at h
    cases h
    have:=xm e2 (by lia)
    lia
   |bad=>rw[e2] at h;cases h
   |short=>rw[e2] at h;cases h
 |bad=>rw[e1] at h;cases h
 |short=>rw[e1] at h;cases h
theorem DI {w z n p r:Nat} {a:List Int} {h:Nat} {may:Nat→Int→Bool}: ∀{k i:Nat} {ys xs:List Int} {l l':Sound.Bits},Sound.takeGroups w z n p r a h may k i ys l= .ok xs l'→xs.length≤ys.length+k*n
 |0,i,ys,xs,l,l',e=>by unfold Sound.takeGroups at e;cases e;lia
 |k+1,i,ys,xs,l,l',e=>by
  rw[qP] at e
  cases e1:gD w z may a h (n/2^r-(if i=0 then p else 0)) ys l with
  |ok ys1 l1=>
   rw[e1] at e
   have h1:=sJ e1
   have h2:=DI (show Sound.takeGroups w z n p r a h may k (i+1) ys1 l1= .ok xs l' from e)
   have h3:n/2^r≤n:=Nat.div_le_self _ _
   rw[Nat.add_mul,Nat.one_mul]
   lia
  |bad=>rw[e1] at e;cases e
  |short=>rw[e1] at e;cases e
theorem Cy {w z n:Nat} {may:Nat→Int→Bool} {p:Nat} {a:List Int} {h:Nat} {ys xs:List Int} {l l':Sound.Bits} (e:d4 w z n may p a h ys l= .ok xs l'):xs.length≤ys.length+64*n:=by
 unfold d4 at e
 cases e1:Sound.takeU 3 l with
 |ok r l1=>
  rw[e1] at e
  have e:(if 6<r∨Sound.mayCut n p r=false then (.bad:Sound.Got (List Int)) else Sound.takeGroups w z n p r a h may (2^r) 0 ys l1)= .ok xs l':=e
  split at e
  ·cases e
  ·rename_i hr
   have h1:=DI e
   have h2:2^r≤64:=Nat.le_trans (Nat.pow_le_pow_right (by decide) (show r≤6 from Nat.le_of_not_lt fun z=>hr (.inl z))) (by decide)
   have h3:=Nat.mul_le_mul_right n h2
   lia
 |bad=>rw[e1] at e;cases e
 |short=>rw[e1] at e;cases e
theorem Ml {x z n:Nat} {may:Nat→Int→Bool} {kind:Nat} {l l':Sound.Bits} {xs:List Int} (e:gB x z n may kind l= .ok xs l') (hn:n≤256):xs.length≤100000:=by
 have go: ∀{o:Nat} {f:List Int→Sound.Bits→Sound.Got (List Int)},(∀ys l,f ys l= .ok xs l'→xs.length≤ys.length+64*n)→o≤n→(Sound.takeMany (fQ x z may) o [] l).then_ f= .ok xs l'→xs.length≤100000:=fun {o f} hf ho e=>by
  cases e1:Sound.takeMany (fQ x z may) o [] l with
  |ok ys l1=>
   rw[e1] at e
   have h1:=fK e1
   have h2:=hf ys l1 e
   have h1:ys.length=0+o:=h1
   lia
  |bad=>rw[e1] at e;cases e
  |short=>rw[e1] at e;cases e
 unfold gB at e
 split at e
 ·split at e
  ·cases e
  ·rename_i h
   exact go (fun ys l h=>Cy h) (by lia) e
 ·split at e
  ·cases e
  ·rename_i h
   refine go (fun ys l h=>?_) (by lia) e
   cases e1:Sound.takeU 4 l with
   |ok hh l1=>
    rw[e1] at h
    have h:((Sound.takeMany (fun (_:List Int) (l:Sound.Bits)=>Sound.takeS 12 l) (kind-6) [] l1).then_ fun (a:List Int) (l:Sound.Bits)=>d4 x z n may (kind-6) a.reverse hh ys l)= .ok xs l':=h
    cases e2:Sound.takeMany (fun (_:List Int) (l:Sound.Bits)=>Sound.takeS 12 l) (kind-6) [] l1 with
    |ok a l2=>
     rw[e2] at h
     exact Cy h
    |bad=>rw[e2] at h;cases h
    |short=>rw[e2] at h;cases h
   |bad=>rw[e1] at h;cases h
   |short=>rw[e1] at h;cases h
def M6 (K:PySem.W.Frag) (A:aY):Sp:=fun vs H Q E=> ∃(H0:Hp) (R:bw) (wd n:Nat) (pn:V) (may:Nat→Int→Bool) (l:Sound.Bits),vs= [.ref R.r, .int n, .int wd,pn]∧ae H0 H∧cw K H0 R∧iF K A H0 pn n may∧aV A.aJ H R l∧(2≤wd∧wd≤25∧n≤256)∧
 bt A H0 R (Sound.takePart wd n may l) (fun ys H'=> ∀D,H0 D=none→H' D=some (.lst (ys.map V.int))→Q (.ref D) H') E
theorem jt:aG ["reader", "n", "width", "partner", "part", "kind", "number", "place"] ["reader", "n", "width", "partner"] (aB BH):=⟨rfl,rfl,rfl,by decide+kernel,rfl,by decide+kernel,by decide+kernel⟩
theorem yx {n:Nat} {f:Nat→Bool}:((List.range n).all f)=true↔ ∀i,i<n→f i=true:=by
 rw[List.all_eq_true]
 exact ⟨fun h i hi=>h i (List.mem_range.mpr hi),fun h i hi=>h i (List.mem_range.mp hi)⟩
theorem uC (T:Txt K mg A):aA P w K mg base (bu P w) 9 A.kx A.kM ["reader", "n", "width", "partner"] (M6 K A):=by
 refine T.rT.bx jt (fun vs H Q E h=>?_) (fun cdv Ar outer s H vs Q E hr h=>?_)
 ·obtain ⟨H0,R,wd,n,pn,may,l,rfl,_⟩:=h
  rfl
 ·obtain ⟨H0,R,wd,n,pn,may,l,rfl,s0,hI,hM,hS,⟨hw1,hw2,hn⟩,k⟩:=h
  have hr1':aF 1 _:=hr.mono (by decide)
  have hr2':aF 2 _:=hr.mono (by decide)
  have hr3':aF 3 _:=hr.mono (by decide)
  have hr4':aF 4 _:=hr.mono (by decide)
  refine ⟨_,ai (aC (i:=4) jt.nd rfl (Or.inr rfl) (gN T.Ke (Fn T) hr2' rfl T.Rm T.M1 .nil aI (aa (pv 2) (aa (aL (MP T) hr3' rfl T.RP T.xC.kp T.EA .nil bb (aa (pv 0) (aa (pv 2) ah))) (aa (pv 3) ah)))))
   (ai (aC (i:=5) jt.nd rfl (Or.inl rfl) (bf (pv 0) T.bF T.dH (dO T) hr1' T.dG .nil bb (aa ao ah)))
   (ai (bc (aU fH (pv 5) (bp rfl T.Qo) (aT _)) (aj (eA rfl rfl T.eJ T.d9.exc dZ)) bA)
   (ai (bc (aU cH (pv 5) (bp rfl T.R1) (aT _))
    (ai (aC (i:=6) jt.nd rfl (Or.inl rfl) (bf (pv 0) T.bF T.rH (qZ T) hr2' T.rG .nil bb (aa (bI (pv 4) rfl) ah)))
    (aj (cj PassesOwn.leaving rfl (eN rfl T.dJ (aa (pv 1) ah)) (aN (i:=7) jt.nd rfl (Or.inl rfl)) (aj (bR (bf (pv 4) T.b7 T.wU (tR T) hr3' T.wA .nil bb (aa (pv 6) ah)))))))
    (aj (bc (aU cH (pv 5) (bp rfl T.FG) (aT _)) (aj (bR (aL (yX T) hr4' rfl T.Dn T.vY.kp T.zV .nil bb (aa (pv 0) (aa (pv 1) (aa (pv 4) ah))))))
     (aj (bR (aL (Oh T) hr rfl T.Mb T.CB.kp T.FN .nil bb (aa (pv 0) (aa (pv 1) (aa (pv 5) (aa (pv 4) ah))))))))))
   (aj (aM (dB (own:= [("number",6)]) rfl jt.nd (gK (bI (pv 4) rfl)) (cv (by kernel_rfl)) (fun _ _ _ _ _=>aN (i:=6) jt.nd rfl (Or.inl rfl)) (fun _ _ _ _ _=>c9) (fun _ _ _ _ _=>aq je (pv 6) (Me (K:=K) rfl (pv 4) rfl)))))))),?_⟩
  have e62:(2:Int)^62=4611686018427387904:=by decide
  rw[zZ] at k
  refine ⟨_,rfl,_,rfl,_,rfl,H0,R,wd,l,rfl,s0,hI,hS,hw1,k.seq fun z l1 H1 ez s1 st1 k1=>⟨_,rfl,fun x dx hx hdx hne=>?_⟩⟩
  have hzw:=MR ez hw1
  refine (⟨x,dx,_,_,_,rfl,ak,fun t H2 ht hk hx2 ht2=>⟨rfl,?_⟩⟩)
  have sm:=eG (o:= .own x) (u:= .ins A.bB dx []) hx hdx
  have s12:ae H1 H2:=fun b o e=>hk b o (sm b o e) (bZ e hx)
  have s2:=s1.trans s12
  have ht1:H1 t=none:=sm.none ht
  rw[show ((wd:Nat):Int)-((z:Nat):Int)=((wd-z:Nat):Int) by lia] at hx2
  obtain ⟨p,hpx,hpd,hpt,hpw,hpz,hpn,hpp,hpm⟩: ∃p:dk,p.x=x∧p.dx=dx∧p.t=t∧p.wd=wd-z∧p.z=z∧p.n=n∧p.pn=pn∧p.may=may:=⟨⟨x,dx,t,wd-z,z,n,pn,may⟩,rfl,rfl,rfl,rfl,rfl,rfl,rfl,rfl⟩
  have hP2:bz A H2 p .au []:=⟨by rw[hpx,hpd,hpw,hpz,hpp,hpt];exact hx2,by rw[hpt];exact ht2,fun y hy=>by cases hy⟩
  have hp:eL K A H0 p:=⟨⟨by rw[hpx];exact s1.none hx,by rw[hpt];exact s1.none ht1⟩,by rw[hpp,hpn,hpm];exact hM,by lia⟩
  have st2:aV A.aJ H2 R l1:=by
   obtain ⟨i,ei,hi,hxr⟩:=st1
   exact ⟨i,ei,hi,s12 _ _ hxr⟩
  clear hx2 ht2 hk sm
  subst hpx hpd hpt hpz hpn hpp hpm
  rw[←hpw] at k1
  obtain ⟨px,hxr⟩:=st2.obj
  obtain ⟨sh,hIh⟩:=hI.ax s2
  refine (bE rfl hxr rfl ⟨Wg.ax [R.r] H2,R,4,l1,rfl,bK _ _,hIh,st2,by decide,k1.cJ sh fun kind l2 H3 _ s3 st3 k3=>?_⟩)
  have hP3:=gj st2 hP2 s3
  have s03:=sh.trans s3
  have fin: ∀(v6 v7:Option V) (H':Hp) (acc:List Int) (g:V) (l':Sound.Bits),ae H0 H'→aV A.aJ H' R l'→bz A H' p g acc.reverse→acc.length≤100000→bt A H0 R (.ok (acc.reverse.map fun (y:Int)=>y*2^p.z) l':Sound.Got (List Int)) (fun ys H'=> ∀D,H0 D=none→H' D=some (.lst (ys.map V.int))→Q (.ref D) H') E→
    zb (gQ (tF K (kc K (fi 4) "taken")) (iX 6) pj (gw (rI uN fun i j=> .int (i*2^j.toNat)) (fi 6) (kc K (fi 4) "z")) [6]) {nx:=fun x H'=>Q V.au H',rt:=Q} [some (.ref R.r),some (.int (p.n:Nat)),some (.int (wd:Nat)),some p.pn,some (.ref p.x),some (.int (kind:Nat)),v6,v7] H':=fun v6 v7 H' acc g l' sF stF hPF hal kF=>by
   refine (az rfl hPF.1 T.b7 T.km rfl ⟨p.t,rfl,⟨_,af.of hPF.2.1⟩,fun D hD=>?_⟩)
   refine eZ (J:=cY K p.t) hD acc.reverse.length (by rw[List.length_reverse,sizeLine_eq];lia) (fun i=> .int (acc.reverse.getD i 0*2^p.z)) (fun i Hh hi t1=>⟨_,_,t1.seq (af.of hPF.2.1),kd hi⟩) (fun Hh t1=>⟨_,t1.seq (af.of hPF.2.1),by rw[List.length_map];exact Nat.le_refl _⟩) ?_ ?_
   ·rintro i Hh y H5 hi t1 ⟨rfl,hy⟩ C hC
    obtain ⟨rfl,_⟩:=rM (hy _ (t1.seq (af.of hPF.2.1)))
    have hyf:=hPF.2.2 (acc.reverse.getD i 0) (by rw[List.getD_eq_getElem?_getD,List.getElem?_eq_getElem hi];exact List.getElem_mem hi)
    have hpb:=hp.2.2
    exact ⟨rfl,_,rfl,az rfl (t1 _ _ hPF.1) T.b7 T.tZ rfl (⟨_,_,rfl,rfl,⟨by lia,by lia,BP hyf hpb.2.1⟩,hC _ (ae.refl _)⟩)⟩
   ·intro H5 s5 hx5
    have st5:aV A.aJ H5 R l':=by
     obtain ⟨i,ei,hi,hxr⟩:=stF
     exact ⟨i,ei,hi,s5 _ _ hxr⟩
    refine kF H5 (sF.trans s5) st5 D (sF.none hD) (hx5.trans ?_)
    congr 2
    rw[List.map_map]
    refine List.ext_getElem (by simp) fun i h1 h2=>?_
    simp at h2
    simp [List.getD_eq_getElem?_getD,List.getElem?_eq_getElem (show i<acc.reverse.length by rw[List.length_reverse];exact h2)]
  refine ⟨_,rfl,_,_,rfl,rfl,_,rfl,?_⟩
  unfold kindS at k3
  have hpb:=hp.2.2
  refine bX (fun hc=>?_) fun hc10=>?_
  ·have hc:(10:Int)<((kind:Nat):Int):=of_decide_eq_true hc
   rw[if_neg (by lia),if_neg (by lia),if_pos (by lia)] at k3
   exact k3 H3 s03
  ·have hc10: ¬(10:Int)<((kind:Nat):Int):=fun z=>hc10 (decide_eq_true z)
   refine ⟨_,rfl,rfl,_,rfl,?_⟩
   have e0:=ik kind 0
   refine bX (fun hc0=>?_) fun hc0=>?_
   ·have hc0:kind=0:=of_decide_eq_true (e0.symm.trans hc0)
    rw[if_pos hc0,then_assoc] at k3
    obtain ⟨px3,hx3⟩:=st3.obj
    obtain ⟨sh3,hIh3⟩:=hI.ax s03
    refine (bE rfl hx3 rfl (az rfl hP3.1 T.b7 T.qS rfl ⟨Wg.ax [R.r] H3,R,p.wd,l2,rfl,bK _ _,hIh3,st3,by lia,k3.cJ sh3 fun y l4 H4 ey s4 st4 k4=>?_⟩))
    have hP4:=gj st3 hP3 s4
    have s04:=sh3.trans s4
    have hfy:=BB ey hpb.1
    refine ⟨_,rfl,((p.n:Nat):Int),rfl,by lia,by lia,?_⟩
    rw[Int.toNat_natCast]
    refine fM (lo:=0) (n:=p.n) (fun i σ H'=>(ae H0 H'∧aV A.aJ H' R l4∧bz A H' p .au (List.replicate i y)∧ ∀j,j<i→p.may j (y*2^p.z)=true)∧ ∃v7:Option V,σ= [some (.ref R.r),some (.int (p.n:Nat)),some (.int (wd:Nat)),some p.pn,some (.ref p.x),some (.int (kind:Nat)),some (.int y),v7]) ⟨⟨s04,st4,hP4,fun j hj=>by lia⟩,none,rfl⟩ ?_ ?_
    ·rintro i σ H5 hi ⟨⟨s5,st5,hP5,hall⟩,v7,rfl⟩
     obtain ⟨s6,hp6⟩:=hp.ax s5
     refine (bE rfl hP5.1 rfl ⟨_,rfl,Wg.ax [p.x,p.t] H5,p.x,p.dx,p.t,p.wd,p.z,p.n,p.pn, .au,List.replicate i y,p.may,y,rfl,bK _ _,hp6.1,hP5,hp6.2.1,⟨hpb.1,hpb.2.1,hpb.2.2.1,by rw[List.length_replicate];exact hi,hpb.2.2.2⟩,?_⟩)
     rw[hfy,Bool.true_and,List.length_replicate]
     by_cases hm:p.may i (y*2^p.z)=true
     ·rw[if_pos hm]
      refine fun H6 s7 hP6=>⟨⟨s6.trans s7,st5.ax hP5 s7,?_,fun j hj=>?_⟩,some (.int (0+(i:Nat))),rfl⟩
      ·rw[List.replicate_succ'];exact hP6
      ·rcases (by lia:j<i∨j=i) with q|rfl
       ·exact hall j q
       ·exact hm
     ·rw[if_neg hm]
      rw[if_neg (fun z=>hm (yx.mp z i hi))] at k4
      exact fun H6 s7=>k4 H6 (s6.trans s7)
    ·rintro σ H5 ⟨⟨s5,st5,hP5,hall⟩,v7,rfl⟩
     rw[if_pos (yx.mpr hall)] at k4
     exact fin _ _ H5 (List.replicate p.n y) .au l4 s5 st5 (by rw[List.reverse_replicate];exact hP5) (by rw[List.length_replicate];lia) k4
   ·have n0: ¬kind=0:=fun z=>hc0 (e0.trans (decide_eq_true z))
    rw[if_neg n0] at k3
    refine ⟨_,rfl,rfl,_,rfl,?_⟩
    have e1:=ik kind 1
    refine bX (fun hc1=>?_) fun hc1=>?_
    ·have hc1:kind=1:=of_decide_eq_true (e1.symm.trans hc1)
     rw[if_pos hc1] at k3
     refine ⟨_,rfl,_,rfl,_,rfl,H0,R,p, .au,p.n, [],l2,rfl,s03,hI,hp,st3,hP3,(by show 0+p.n≤_;lia),k3.seq fun ys l4 H4 ey s4 st4 k4 hP4=>?_⟩
     have hyl:=fK ey
     exact fin _ _ H4 ys .au l4 s4 st4 hP4 (by rw[hyl];show 0+p.n≤_;lia) k4
    ·have n1: ¬kind=1:=fun z=>hc1 (e1.trans (decide_eq_true z))
     rw[if_neg n1,if_neg (by lia)] at k3
     refine ⟨_,rfl,_,rfl,_,rfl,_,rfl,H0,R,p,kind,l2,rfl,s03,hI,hp,st3,hP3,⟨by lia,by lia⟩,k3.seq fun ys l4 H4 ey s4 st4 k4 ⟨g,hP4⟩=>?_⟩
     exact fin _ _ H4 ys g l4 s4 st4 hP4 (Ml ey hn) k4
theorem C8 {w z n p r:Nat} {a:List Int} {h:Nat} {may:Nat→Int→Bool}: ∀{k i:Nat} {ys xs:List Int} {l l':Sound.Bits},Sound.takeGroups w z n p r a h may k (i+1) ys l= .ok xs l'→xs.length=ys.length+k*(n/2^r)
 |0,i,ys,xs,l,l',e=>by unfold Sound.takeGroups at e;cases e;lia
 |k+1,i,ys,xs,l,l',e=>by
  rw[qP,if_neg (by lia),Nat.sub_zero] at e
  cases e1:gD w z may a h (n/2^r) ys l with
  |ok ys1 l1=>
   rw[e1] at e
   have h1:=sJ e1
   have h2:=C8 (show Sound.takeGroups w z n p r a h may k (i+1+1) ys1 l1= .ok xs l' from e)
   rw[Nat.add_mul,Nat.one_mul]
   lia
  |bad=>rw[e1] at e;cases e
  |short=>rw[e1] at e;cases e
theorem C6 {w z n:Nat} {may:Nat→Int→Bool} {p:Nat} {a:List Int} {h:Nat} {ys xs:List Int} {l l':Sound.Bits} (e:d4 w z n may p a h ys l= .ok xs l') (hy:ys.length=p):xs.length=n:=by
 unfold d4 at e
 cases e1:Sound.takeU 3 l with
 |ok r l1=>
  rw[e1] at e
  have e:(if 6<r∨Sound.mayCut n p r=false then (.bad:Sound.Got (List Int)) else Sound.takeGroups w z n p r a h may (2^r) 0 ys l1)= .ok xs l':=e
  split at e
  ·cases e
  ·rename_i hr
   have hmc:n%2^r=0∧p≤n/2^r:=by
    have:Sound.mayCut n p r=true:=by
     cases q:Sound.mayCut n p r with
     |true=>rfl
     |false=>exact absurd (.inr q) hr
    unfold Sound.mayCut at this
    rw[Bool.and_eq_true,beq_iff_eq,decide_eq_true_eq] at this
    exact this
   have hdiv:n/2^r*2^r=n:=Nat.div_mul_cancel (Nat.dvd_of_mod_eq_zero hmc.1)
   have h2p:0<2^r:=Nat.two_pow_pos r
   obtain ⟨m,hm⟩: ∃m,2^r=m+1:=⟨2^r-1,by lia⟩
   rw[hm,qP,if_pos rfl] at e
   cases e2:gD w z may a h (n/2^r-p) ys l1 with
   |ok ys1 l2=>
    rw[e2] at e
    have h1:=sJ e2
    have h2:=C8 (show Sound.takeGroups w z n p r a h may m (0+1) ys1 l2= .ok xs l' from e)
    have hdiv2:(m+1)*(n/2^r)=n:=by rw[←hm,Nat.mul_comm];exact hdiv
    rw[Nat.add_mul,Nat.one_mul] at hdiv2
    have hp:=hmc.2
    generalize n/2^r=sz at*
    lia
   |bad=>rw[e2] at e;cases e
   |short=>rw[e2] at e;cases e
 |bad=>rw[e1] at e;cases e
 |short=>rw[e1] at e;cases e
theorem Lz {x z n:Nat} {may:Nat→Int→Bool} {kind:Nat} {l l':Sound.Bits} {xs:List Int} (e:gB x z n may kind l= .ok xs l'):xs.length=n:=by
 have go: ∀{o:Nat} {f:List Int→Sound.Bits→Sound.Got (List Int)},(∀ys l,ys.length=o→f ys l= .ok xs l'→xs.length=n)→(Sound.takeMany (fQ x z may) o [] l).then_ f= .ok xs l'→xs.length=n:=fun {o f} hf e=>by
  cases e1:Sound.takeMany (fQ x z may) o [] l with
  |ok ys l1=>
   rw[e1] at e
   have h1:=fK e1
   exact hf ys l1 (by rw[h1];show 0+o=o;lia) e
  |bad=>rw[e1] at e;cases e
  |short=>rw[e1] at e;cases e
 unfold gB at e
 split at e
 ·split at e
  ·cases e
  ·exact go (fun ys l hy h=>C6 h hy) e
 ·split at e
  ·cases e
  ·refine go (fun ys l hy h=>?_) e
   cases e1:Sound.takeU 4 l with
   |ok hh l1=>
    rw[e1] at h
    have h:((Sound.takeMany (fun (_:List Int) (l:Sound.Bits)=>Sound.takeS 12 l) (kind-6) [] l1).then_ fun (a:List Int) (l:Sound.Bits)=>d4 x z n may (kind-6) a.reverse hh ys l)= .ok xs l':=h
    cases e2:Sound.takeMany (fun (_:List Int) (l:Sound.Bits)=>Sound.takeS 12 l) (kind-6) [] l1 with
    |ok a l2=>
     rw[e2] at h
     exact C6 h hy
    |bad=>rw[e2] at h;cases h
    |short=>rw[e2] at h;cases h
   |bad=>rw[e1] at h;cases h
   |short=>rw[e1] at h;cases h
theorem bW {α β:Type} {g:Sound.Got α} {f:α→Sound.Bits→Sound.Got β} {y:β} {r:Sound.Bits} (h:g.then_ f= .ok y r): ∃x l,g= .ok x l∧f x l= .ok y r:=by
 cases g with
 |ok x l=>exact (⟨x,l,rfl,h⟩)
 |bad=>cases h
 |short=>cases h
theorem nQ {w n:Nat} {may:Nat→Int→Bool} {l l':Sound.Bits} {ys:List Int} (e:Sound.takePart w n may l= .ok ys l'):ys.length=n:=by
 rw[zZ] at e
 obtain ⟨z,l1,_,e⟩:=bW e
 obtain ⟨kind,l2,_,e⟩:=bW e
 obtain ⟨xs,l3,e3,e⟩:=bW e
 cases e
 rw[List.length_map,List.length_reverse]
 unfold kindS at e3
 split at e3
 ·obtain ⟨y,l4,_,e4⟩:=bW e3
  split at e4
  ·cases e4;rw[List.length_replicate]
  ·cases e4
 ·split at e3
  ·have:=fK e3
   rw[this];show 0+n=n;lia
  ·split at e3
   ·cases e3
   ·exact Lz e3
def jD (d n m:Nat) (l:Sound.Bits):Sound.Got (List (Int×Int)):=(Sound.takePart (jc m d) n (fun _ _=>true) l).then_ fun (a:List Int) (l:Sound.Bits)=>(Sound.takePart (i9 m d) n (jE m d a) l).then_ fun (b:List Int) (l:Sound.Bits)=> .ok (List.zipWith (Sound.unpair m) a b) l
def Ja (K:PySem.W.Frag) (A:aY):Sp:=fun vs H Q E=> ∃(H0:Hp) (R:bw) (d n m:Nat) (l:Sound.Bits),vs= [.int d, .int n, .int m, .ref R.r]∧ae H0 H∧cw K H0 R∧aV A.aJ H R l∧(4≤d∧d≤24∧m<4∧n≤256)∧
 bt A H0 R (jD d n m l) (fun ps H'=> ∀D a b,(H0 D=none∧H0 a=none∧H0 b=none)→H' D=some (.lst [.ref a, .ref b])→H' a=some (.lst ((ps.map fun x=>x.1).map V.int))→H' b=some (.lst ((ps.map fun x=>x.2).map V.int))→Q (.ref D) H') E
theorem fF:aG ["depth", "n", "mode", "reader", "first", "partner", "second", "pairs", "x", "y", "pair"] ["depth", "n", "mode", "reader"] (aB BQ):=⟨rfl,rfl,rfl,by decide+kernel,rfl,by decide+kernel,by decide+kernel⟩
theorem aV.same {H H':Hp} {R:bw} {l:Sound.Bits} (h:aV A.aJ H R l) (s:ae H H'):aV A.aJ H' R l:=by
 obtain ⟨i,ei,hi,hxr⟩:=h
 exact ⟨i,ei,hi,s _ _ hxr⟩
theorem EY (T:Txt K mg A):aA P w K mg base (bu P w) 10 A.lx A.pI ["depth", "n", "mode", "reader"] (Ja K A):=by
 refine T.zP.bx fF (fun vs H Q E h=>?_) (fun cdv Ar outer s H vs Q E hr h=>?_)
 ·obtain ⟨H0,R,d,n,m,l,rfl,_⟩:=h
  rfl
 ·obtain ⟨H0,R,d,n,m,l,rfl,s0,hI,hS,⟨hd1,hd2,hm,hn⟩,k⟩:=h
  have hr1':aF 1 _:=hr.mono (by decide)
  have hr2':aF 2 _:=hr.mono (by decide)
  refine ⟨_,ai (aC (i:=4) fF.nd rfl (Or.inl rfl) (aL (uC T) hr rfl T.vV T.rT.kp T.uh .nil bb (aa (pv 3) (aa (pv 1) (aa (aL (MJ T) hr1' rfl T.OB T.Bb.kp T.Le .nil aI (aa (pv 2) (aa (pv 0) ah))) (aa fh ah))))))
   (ai (aC (i:=5) fF.nd rfl (Or.inl rfl) (gN T.FP (Pa T) hr2' rfl T.E6 T.MS .nil aI (aa (pv 2) (aa (pv 0) (aa (pv 4) ah)))))
   (ai (aC (i:=6) fF.nd rfl (Or.inl rfl) (aL (uC T) hr rfl T.vV T.rT.kp T.uh .nil bb (aa (pv 3) (aa (pv 1) (aa (aL (F7 T) hr1' rfl T.OD T.AU.kp T.Em .nil aI (aa (pv 2) (aa (pv 0) ah))) (aa (pv 5) ah))))))
   (ai (mj (i:=7) (own:= [("x",8),("y",9)]) rfl fF.nd rfl rfl rfl (wZ rfl T.qx (aa (pv 4) (aa (pv 6) ah))) (cv (by kernel_rfl))
    (fun _ _ _ _ _=>i5 (K:=K) (n:=2) rfl rfl (dR (aN (i:=8) fF.nd rfl (Or.inl rfl)) (dR (aN (i:=9) fF.nd rfl (Or.inl rfl)) jl))) (fun _ _ _ _ _=>c9)
    (fun _ _ _ _ _=>aL (Ay T) hr1' rfl T.Cg T.uw.kp T.A3 .nil aI (aa (pv 2) (aa (pv 8) (aa (pv 9) ah)))))
   (aj (aM (dy (aa (dB (own:= [("pair",10)]) rfl fF.nd (gK (pv 7)) (cv (by kernel_rfl)) (fun _ _ _ _ _=>aN (i:=10) fF.nd rfl (Or.inl rfl)) (fun _ _ _ _ _=>c9) (fun _ _ _ _ _=>bS (qe (K:=K) rfl) (pv 10) ao (fun _ _=>rfl)))
    (aa (dB (own:= [("pair",10)]) rfl fF.nd (gK (pv 7)) (cv (by kernel_rfl)) (fun _ _ _ _ _=>aN (i:=10) fF.nd rfl (Or.inl rfl)) (fun _ _ _ _ _=>c9) (fun _ _ _ _ _=>bS (qe (K:=K) rfl) (pv 10) ao (fun _ _=>rfl))) ah)))))))),?_⟩
  have hw1:2≤jc m d∧jc m d≤25:=by unfold jc;split<;>lia
  have hw2:2≤i9 m d∧i9 m d≤25:=by unfold i9;split<;>lia
  unfold jD at k
  refine ⟨_,rfl,_,rfl,_,rfl,_,rfl,m,d,rfl,H0,R,jc m d,n, .au,_,l,rfl,s0,hI, .inl ⟨rfl,rfl⟩,hS,⟨hw1.1,hw1.2,hn⟩,k.seq fun a l1 H1 ea s1 st1 k1 D1 hD1 hx1=>?_⟩
  have hal:=nQ ea
  refine ⟨_,rfl,_,rfl,_,rfl,fun pa dpa hpa hdpa hne=>(⟨pa,dpa,_,_,_,rfl,ak,rfl,?_⟩)⟩
  rw[iS]
  have s2:ae H1 (upd (upd H1 dpa (.own pa)) pa (.ins A.cU dpa (jN (.int (m:Nat)) (.int (d:Nat)) (.ref D1)))):=eG hpa hdpa
  have hpa2:upd (upd H1 dpa (.own pa)) pa (.ins A.cU dpa (jN (.int (m:Nat)) (.int (d:Nat)) (.ref D1))) pa=some (.ins A.cU dpa (jN (.int (m:Nat)) (.int (d:Nat)) (.ref D1))):=ak
  generalize upd (upd H1 dpa (.own pa)) pa (.ins A.cU dpa (jN (.int (m:Nat)) (.int (d:Nat)) (.ref D1)))=H2 at*
  have s02:=s1.trans s2
  have st2:=st1.same s2
  obtain ⟨sh,hIh⟩:=hI.ax s02
  obtain ⟨ir,hxr⟩:=st2.obj
  have hD12:=s2 _ _ hx1
  have nD:D1≠R.r:=fun z=>by rw[z,hxr] at hD12;cases hD12
  have nP:pa≠R.r:=fun z=>by rw[z,(st1.obj).choose_spec] at hpa;cases hpa
  have hM:iF K A (Wg.ax [R.r] H2) (.ref pa) n (jE m d a):= .inr ⟨pa,m,d,a,rfl,⟨dpa,D1,by rw[cG (by simpa using nP)];exact hpa2,af.of (by rw[cG (by simpa using nD)];exact hD12)⟩,⟨hm,hd1,hd2,hal⟩,rfl⟩
  refine ⟨_,rfl,_,rfl,_,rfl,_,rfl,m,d,rfl,_,rfl,Wg.ax [R.r] H2,R,i9 m d,n,(.ref pa),_,l1,rfl,bK _ _,hIh,hM,st2,⟨hw2.1,hw2.2,hn⟩,k1.cJ sh fun b l2 H3 eb s3 st3 k3 D2 hD2 hx3=>?_⟩
  have hbl:=nQ eb
  have hD13:H3 D1=some (.lst (a.map V.int)):=s3 _ _ (by rw[cG (by simpa using nD)];exact hD12)
  have s03:=sh.trans s3
  have q1:af K H3 D1 (a.map V.int):=af.of hD13
  have q2:af K H3 D2 (b.map V.int):=af.of hx3
  refine ⟨_,rfl,_,rfl,D1,D2,_,_,rfl,q1,q2,fun D hD=>?_⟩
  refine j7 (J:=lq K D1 D2) hD n (by rw[sizeLine_eq];lia) (fun i v H'=> ∃t,v= .ref t∧H' t=some (.tup [.int (Sound.unpair m (a.getD i 0) (b.getD i 0)).1, .int (Sound.unpair m (a.getD i 0) (b.getD i 0)).2])) (fun i v H' H'' _ s ⟨t,e,h⟩=>⟨t,e,s _ _ h⟩)
   (fun i Hh hi t1=>⟨_,_,_,_,t1.seq q1,t1.seq q2,kd (by lia),kd (by lia)⟩) (fun Hh t1=>⟨_,_,t1.seq q1,t1.seq q2, .inl (by rw[List.length_map];lia)⟩) ?_ ?_
  ·rintro i Hh z H' hi t1 ⟨lst,hlst⟩ ⟨t,x1,y1,rfl,ht,rfl,hxx,hyy⟩ C hC
   obtain ⟨rfl,_⟩:=rM (hxx _ (t1.seq q1))
   obtain ⟨rfl,_⟩:=rM (hyy _ (t1.seq q2))
   have st:ae Hh (upd Hh t (.tup [V.int (a.getD i 0),V.int (b.getD i 0)])):=aE ht
   refine (⟨t,_,rfl,aP.of ak,rfl,_,_,rfl,_,_,rfl,rfl,rfl,_,rfl,_,rfl,_,rfl,m,_,_,rfl,hm,fun D5 H5 hD5 s5 hx5=>?_⟩)
   refine hC _ H5 (st.trans s5) ⟨D5,rfl,?_⟩
   have n5:D5≠D:=fun z=>by
    have:=st _ _ hlst
    rw[←z,hD5] at this;cases this
   rw[hide_ne n5];exact hx5
  intro H4 xs s4 hxl hxp hDx
  have st4:=st3.same s4
  have s04:=s03.trans s4
  have hD4:af K H4 D xs:=af.of hDx
  have zl:(List.zipWith (Sound.unpair m) a b).length=n:=by rw[List.length_zipWith];lia
  have zg: ∀i,i<n→(List.zipWith (Sound.unpair m) a b)[i]?=some (Sound.unpair m (a.getD i 0) (b.getD i 0)):=fun i hi=>by
   rw[List.getElem?_zipWith,List.getElem?_eq_getElem (show i<a.length by lia),List.getElem?_eq_getElem (show i<b.length by lia),List.getD_eq_getElem?_getD,List.getD_eq_getElem?_getD,List.getElem?_eq_getElem (show i<a.length by lia),List.getElem?_eq_getElem (show i<b.length by lia)];rfl
  have item: ∀i,i<n→ ∃t,xs[i]?=some (.ref t)∧H4 t=some (.tup [.int (Sound.unpair m (a.getD i 0) (b.getD i 0)).1, .int (Sound.unpair m (a.getD i 0) (b.getD i 0)).2]):=fun i hi=>by
   have e:=List.getElem?_eq_getElem (l:=xs) (i:=i) (by lia)
   obtain ⟨t,et,ht⟩:=hxp i _ e
   exact ⟨t,by rw[e,et],ht⟩
  have vals: ∀(f:Int×Int→Int),(List.range n).map (fun i=>V.int (f (Sound.unpair m (a.getD i 0) (b.getD i 0))))=((List.zipWith (Sound.unpair m) a b).map f).map V.int:=fun f=>by
   refine List.ext_getElem? fun i=>?_
   by_cases hi:i<n
   ·rw[List.getElem?_map,List.getElem?_range hi,List.getElem?_map,List.getElem?_map,zg i hi];rfl
   ·rw[List.getElem?_eq_none (by rw[List.length_map,List.length_range];lia),List.getElem?_eq_none (by rw[List.length_map,List.length_map,zl];lia)]
  refine ⟨_,rfl,D,rfl,⟨_,hD4⟩,fun E1 hE1=>?_⟩
  refine eZ (J:=cY K D) hE1 n (by rw[sizeLine_eq];lia) (fun i=> .int (Sound.unpair m (a.getD i 0) (b.getD i 0)).1) (fun i Hh hi t1=>by
   obtain ⟨t,e,_⟩:=item i hi
   exact ⟨_,_,t1.seq hD4,e⟩) (fun Hh t1=>⟨_,t1.seq hD4,by lia⟩) ?_ ?_
  ·rintro i Hh z H' hi t1 ⟨rfl,hz⟩ C hC
   obtain ⟨t,e,ht⟩:=item i hi
   have ez:=hz _ (t1.seq hD4)
   rw[e] at ez;cases ez
   exact ⟨rfl,_,rfl,t,_,_,_,rfl,rfl,aP.of (t1 _ _ ht),bL (j:=0) rfl,hC _ (ae.refl _)⟩
  intro H5 s5 hE1x
  rw[vals (fun x=>x.1)] at hE1x
  refine ⟨_,rfl,D,rfl,⟨_,s5.seq hD4⟩,fun E2 hE2=>?_⟩
  refine eZ (J:=cY K D) hE2 n (by rw[sizeLine_eq];lia) (fun i=> .int (Sound.unpair m (a.getD i 0) (b.getD i 0)).2) (fun i Hh hi t1=>by
   obtain ⟨t,e,_⟩:=item i hi
   exact ⟨_,_,(s5.trans t1).seq hD4,e⟩) (fun Hh t1=>⟨_,(s5.trans t1).seq hD4,by lia⟩) ?_ ?_
  ·rintro i Hh z H' hi t1 ⟨rfl,hz⟩ C hC
   obtain ⟨t,e,ht⟩:=item i hi
   have ez:=hz _ ((s5.trans t1).seq hD4)
   rw[e] at ez;cases ez
   exact ⟨rfl,_,rfl,t,_,_,_,rfl,rfl,aP.of ((s5.trans t1) _ _ ht),bL (j:=1) rfl,hC _ (ae.refl _)⟩
  intro H6 s6 hE2x
  rw[vals (fun x=>x.2)] at hE2x
  refine ⟨by rw[sizeLine_eq];show 2≤_;lia,fun D7 hD7=>?_⟩
  have s7:=aE (o:= .lst [V.ref E1,V.ref E2]) hD7
  have s06:=s04.trans (s5.trans s6)
  exact k3 _ (s06.trans s7) ((st4.same (s5.trans s6)).same s7) D7 E1 E2 ⟨s06.none hD7,s04.none hE1,(s04.trans s5).none hE2⟩ ak (s7 _ _ (s6 _ _ hE1x)) (s7 _ _ hE2x)
def kn (c d b o g s:V):List (Str×V):= [("channels",c),("depth",d),("block",b),("order",o),("group",g),("spare",s)]
def d5 (C:Addr) (H:Hp) (f:Addr) (F:Sound.Form):Prop:= ∃dx,H f=some (.ins C dx (kn (.int F.channels) (.int F.depth) (.int F.block) (.int F.order) (.int F.group) (.int F.spare)))
theorem d5.same {C:Addr} {H H':Hp} {f:Addr} {F:Sound.Form} (h:d5 C H f F) (s:ae H H'):d5 C H' f F:=by
 obtain ⟨dx,h⟩:=h
 exact ⟨dx,s _ _ h⟩
def IA (K:PySem.W.Frag) (C:Addr):Sp:=fun vs H Q _=> ∃(p dx q:Addr) (c d b o g s:Int),vs= [.ref p, .ref q]∧H p=some (.ins C dx [])∧af K H q [.int c, .int d, .int b, .int o, .int g, .int s]∧Q .au (upd H p (.ins C dx (kn (.int c) (.int d) (.int b) (.int o) (.int g) (.int s))))
theorem NI:aG ["self", "form"] ["self", "form"] (aB xj):=⟨rfl,rfl,rfl,by decide+kernel,rfl,by decide+kernel,by decide+kernel⟩
theorem Ox (T:Txt K mg A):aA P w K mg base aQ 1 A.nL A.lE ["self", "form"] (IA K A.bj):=by
 refine T.LM.ok NI (fun vs H Q E h=>?_) (fun cdv Ar outer s H vs Q E hr h=>?_)
 ·obtain ⟨p,dx,q,c,d,b,o,g,s,rfl,_⟩:=h
  rfl
 ·obtain ⟨p,dx,q,c,d,b,o,g,s,rfl,hp,hq,k⟩:=h
  refine ⟨_,ai (bY (pv 0) (bS fR (pv 1) ao (fun _ _=>rfl)) rfl) (ai (bY (pv 0) (bS fR (pv 1) ao (fun _ _=>rfl)) rfl) (ai (bY (pv 0) (bS fR (pv 1) ao (fun _ _=>rfl)) rfl)
   (ai (bY (pv 0) (bS fR (pv 1) ao (fun _ _=>rfl)) rfl) (ai (bY (pv 0) (bS fR (pv 1) ao (fun _ _=>rfl)) rfl) (aj (bY (pv 0) (bS fR (pv 1) ao (fun _ _=>rfl)) rfl)))))),?_⟩
  have sq: ∀fs,af K (upd H p (.ins A.bj dx fs)) q [.int c, .int d, .int b, .int o, .int g, .int s]:=fun fs=>by
   rcases hq with (h|⟨ob,h⟩)|h
   ·exact .inl (.inl (by rw[ay (fD h hp (by intro e;cases e))];exact h))
   ·exact .inl (.inr ⟨ob,by rw[ay (fD h hp (by intro e;cases e))];exact h⟩)
   ·exact .inr h
  refine ⟨_,rfl,q,_,_,_,rfl,rfl,hq,bL (j:=0) rfl,_,rfl,p,A.bj,dx, [],rfl,hp,T.bP,T.sj,(by show 0<1000;decide),?_⟩
  refine ⟨_,rfl,q,_,_,_,rfl,rfl,sq _,bL (j:=1) rfl,_,rfl,p,A.bj,dx,_,rfl,ak,T.bP,T.vK,(by show 1<1000;decide),?_⟩
  rw[cM]
  refine ⟨_,rfl,q,_,_,_,rfl,rfl,sq _,bL (j:=2) rfl,_,rfl,p,A.bj,dx,_,rfl,ak,T.bP,T.jw,(by show 2<1000;decide),?_⟩
  rw[cM]
  refine ⟨_,rfl,q,_,_,_,rfl,rfl,sq _,bL (j:=3) rfl,_,rfl,p,A.bj,dx,_,rfl,ak,T.bP,T.Gq,(by show 3<1000;decide),?_⟩
  rw[cM]
  refine ⟨_,rfl,q,_,_,_,rfl,rfl,sq _,bL (j:=4) rfl,_,rfl,p,A.bj,dx,_,rfl,ak,T.bP,T.ox,(by show 4<1000;decide),?_⟩
  rw[cM]
  refine ⟨_,rfl,q,_,_,_,rfl,rfl,sq _,bL (j:=5) rfl,_,rfl,p,A.bj,dx,_,rfl,ak,T.bP,T.wI,(by show 5<1000;decide),?_⟩
  rw[cM]
  exact k
theorem xD (F:Sound.Form) (n m:Nat) (ms:List Nat) (acc:List (List Int)) (l:Sound.Bits):Sound.takeChannels F n (m::ms) acc l=(jD F.depth n m l).then_ fun (ps:List (Int×Int)) (l:Sound.Bits)=>Sound.takeChannels F n ms (acc++ [ps.map fun (x:Int×Int)=>x.1,ps.map fun (x:Int×Int)=>x.2]) l:=by
 unfold jD
 rw[then_assoc]
 conv=>lhs;unfold Sound.takeChannels
 congr 1
 funext a l
 rw[then_assoc]
 rfl
def dA (H:Hp) (D:Addr) (cs:List (List Int)):Prop:= ∃as:List Addr,H D=some (.lst (as.map V.ref))∧as.length=cs.length∧ ∀(k:Nat) (a:Addr),as[k]?=some a→a≠D∧H a=some (.lst ((cs.getD k []).map V.int))
theorem dA.same {H H':Hp} {D:Addr} {cs:List (List Int)} (h:dA H D cs) (s:ae H H'):dA H' D cs:=by
 obtain ⟨as,h1,h2,h3⟩:=h
 exact ⟨as,s _ _ h1,h2,fun k a e=>⟨(h3 k a e).1,s _ _ (h3 k a e).2⟩⟩
theorem dA.add {H:Hp} {D:Addr} {cs:List (List Int)} {bs:List Addr} {ds:List (List Int)} (h:dA H D cs) (hl:bs.length=ds.length) (hb: ∀(k:Nat) (a:Addr),bs[k]?=some a→a≠D∧H a=some (.lst ((ds.getD k []).map V.int))): ∃as:List Addr,H D=some (.lst (as.map V.ref))∧dA (upd H D (.lst (as.map V.ref++bs.map V.ref))) D (cs++ds):=by
 obtain ⟨as,h1,h2,h3⟩:=h
 refine ⟨as,h1,as++bs,by rw[ak,List.map_append],by rw[List.length_append,List.length_append,h2,hl],fun k a e=>?_⟩
 by_cases hk:k<as.length
 ·rw[List.getElem?_append_left hk] at e
  obtain ⟨z1,z2⟩:=h3 k a e
  refine ⟨z1,?_⟩
  rw[ay z1,z2,List.getD_eq_getElem?_getD,List.getD_eq_getElem?_getD,List.getElem?_append_left (by lia)]
 ·rw[List.getElem?_append_right (by lia)] at e
  obtain ⟨z1,z2⟩:=hb _ a e
  refine ⟨z1,?_⟩
  rw[ay z1,z2,List.getD_eq_getElem?_getD,List.getD_eq_getElem?_getD,List.getElem?_append_right (by lia),h2]
theorem dA.ax {H H':Hp} {D:Addr} {cs:List (List Int)} {R:bw} {l:Sound.Bits} (h:dA H D cs) (st:aV A.aJ H R l) (s:ae (Wg.ax [R.r] H) H'):dA H' D cs:=by
 obtain ⟨as,h1,h2,h3⟩:=h
 obtain ⟨i,hx⟩:=st.obj
 have keep: ∀b xs,H b=some (.lst xs)→H' b=some (.lst xs):=fun b xs e=>s _ _ (by rw[cG (fun z=>by rw[List.mem_singleton.mp z,hx] at e;cases e)];exact e)
 exact ⟨as,keep _ _ h1,h2,fun k a e=>⟨(h3 k a e).1,keep _ _ (h3 k a e).2⟩⟩
def K0 (K:PySem.W.Frag) (A:aY):Sp:=fun vs H Q E=> ∃(H0:Hp) (R:bw) (f:Addr) (F:Sound.Form) (n:Nat) (l:Sound.Bits),vs= [.ref f, .int n, .ref R.r]∧ae H0 H∧cw K H0 R∧d5 A.bj H0 f F∧aV A.aJ H R l∧(F.ok=true∧n≤256)∧
 bt A H0 R ((Sound.takeMany (fun (_:List Nat) (l:Sound.Bits)=>Sound.takeU 2 l) (Sound.pairs F) [] l).then_ fun (ms:List Nat) (l:Sound.Bits)=>Sound.takeChannels F n ms.reverse [] l) (fun cs H'=> ∀D,H0 D=none→dA H' D cs→Q (.ref D) H') E
theorem nM:aG ["form", "n", "reader", "modes", "channels", "mode", "pair"] ["form", "n", "reader"] (aB Cr):=⟨rfl,rfl,rfl,by decide+kernel,rfl,by decide+kernel,by decide+kernel⟩
theorem dX {F:Sound.Form} (h:F.ok=true):(1≤F.channels∧F.channels≤4)∧(4≤F.depth∧F.depth≤24)∧(16≤F.block∧F.block≤256)∧F.order≤4∧(1≤F.group∧F.group≤8)∧F.spare≤4:=by
 unfold Sound.Form.ok at h
 simp only [Bool.and_eq_true,decide_eq_true_eq] at h
 lia
theorem QI (T:Txt K mg A):aA P w K mg base (bu P w) 11 A.kE A.kP ["form", "n", "reader"] (K0 K A):=by
 refine T.B5.bx nM (fun vs H Q E h=>?_) (fun cdv Ar outer s H vs Q E hr h=>?_)
 ·obtain ⟨H0,R,f,F,n,l,rfl,_⟩:=h
  rfl
 ·obtain ⟨H0,R,f,F,n,l,rfl,s0,hI,hF,hS,⟨ag,hn⟩,k⟩:=h
  have hr1':aF 1 _:=hr.mono (by decide)
  have hr9':aF 9 _:=hr.mono (by decide)
  refine ⟨_,ai (Iy (i:=3) (own:= [("pair",6)]) rfl rfl rfl oE rfl nM.nd rfl rfl rfl (eN rfl T.dJ (aa (aq iU (bI (pv 0) rfl) ao) ah)) (cv (by kernel_rfl)) (fun _ _ _ _ _ _=>aN (i:=6) nM.nd rfl (Or.inl rfl)) (fun _ _ _ _ _ _=>c9)
    (fun _ _ _ _ _ _ hp=>bf (pv 2) T.bF T.dH (dO T) hr1' T.dG .nil hp (aa ao ah)))
   (ai (aC (i:=4) nM.nd rfl (Or.inl rfl) (dy ah))
   (ai (cj PassesOwn.leaving rfl (gK (pv 3)) (aN (i:=5) nM.nd rfl (Or.inl rfl))
    (aj (bR (pq PySem.F.plainAttrs_list PySem.F.slot_list_extend PySem.F.type_list_extend r6 (pv 4) (aa (aL (EY T) hr rfl T.F6 T.zP.kp T.F8 .nil bb (aa (bI (pv 0) rfl) (aa (pv 1) (aa (pv 5) (aa (pv 2) ah))))) ah)))))
   (ai (bc (aU cH (aq l8 (bI (pv 0) rfl) ao) ao (aT _)) (aj (bR (pq PySem.F.plainAttrs_list PySem.F.slot_list_append PySem.F.type_list_append rn (pv 4) (aa (aL (uC T) hr9' rfl T.vV T.rT.kp T.uh .nil bb (aa (pv 2) (aa (pv 1) (aa (bI (pv 0) rfl) (aa fh ah))))) ah)))) bA)
   (aj (aM (pv 4)))))),?_⟩
  obtain ⟨⟨hc1,hc2⟩,⟨hd1,hd2⟩,_⟩:=dX ag
  have e62:(2:Int)^62=4611686018427387904:=by decide
  obtain ⟨df,hf⟩:=hF
  have hfH:=s0 _ _ hf
  refine (az rfl hfH T.bP T.sj rfl (⟨_,_,rfl,rfl,⟨by decide,by decide⟩,((F.channels/2:Nat):Int),(by show [V.int (((F.channels:Nat):Int)/2)]=_;congr 2),by lia,by lia,fun D hD=>?_⟩))
  rw[Int.toNat_natCast]
  have hD0:H0 D=none:=s0.none hD
  have hpr:Sound.pairs F=F.channels/2:=rfl
  rw[hpr] at k
  refine Br (F.channels/2) (by rw[sizeLine_eq];lia) (fun i acc H'=> ∃(ms:List Nat) (l':Sound.Bits),acc=vN ms.reverse∧ae (Wg.ax [R.r] H) H'∧aV A.aJ H' R l'∧ms.length=i∧(∀m∈ms,m<4)∧bt A H0 R ((Sound.takeMany (fun (_:List Nat) (l:Sound.Bits)=>Sound.takeU 2 l) (F.channels/2-i) ms l').then_ fun (ms:List Nat) (l:Sound.Bits)=>Sound.takeChannels F n ms.reverse [] l) (fun cs H'=> ∀D,H0 D=none→dA H' D cs→Q (.ref D) H') E) ?_ ?_ ?_ ?_ ?_
  ·refine ⟨[],l,rfl,fun b u e=>?_,?_,rfl,(fun m hm=>by cases hm),k⟩
   ·have:=bK _ _ b u e
    rw[ay (bZ this hD)];exact this
   ·obtain ⟨i,ei,hi,hxr⟩:=hS
    exact ⟨i,ei,hi,by rw[ay (bZ hxr hD)];exact hxr⟩
  ·exact fun i acc H' hi _=>hi
  ·exact fun acc H' _=>Nat.le_refl _
  ·rintro i acc H3 x H3' hi ⟨ms,l3,rfl,s3,st3,hl3,hm3,k3⟩ hDx hal ⟨hH3,rfl⟩ C hC
   rw[hH3]
   obtain ⟨px3,hx3⟩:=st3.obj
   rw[show F.channels/2-i=(F.channels/2-(i+1))+1 by lia,ka,then_assoc] at k3
   obtain ⟨sh2,_⟩:=hI.ax s0
   obtain ⟨sh3,hIh3⟩:=hI.ax (sh2.trans s3)
   refine ⟨rfl,bE rfl hx3 rfl ⟨Wg.ax [R.r] H3,R,2,l3,rfl,bK _ _,hIh3,st3,by decide,k3.cJ sh3 fun y l4 H4 ey4 s4 st4 k4=>?_⟩⟩
   have nDr:D≠R.r:=fun z=>by rw[z,hx3] at hDx;cases hDx
   refine hC _ H4 (s4 _ _ (by rw[cG (by simpa using nDr)];exact hDx)) ⟨y::ms,l4,?_,?_,?_,by rw[List.length_cons,hl3],?_,k4⟩
   ·rw[List.reverse_cons,jV];rfl
   ·intro b u e
    have e3:=s3 b u e
    by_cases hb:b=D
    ·subst hb
     have:=bK _ _ _ u e
     rw[hD] at this;cases this
    ·rw[ay hb]
     refine s4 _ _ ?_
     rw[cG (fun z=>by
      rw[List.mem_singleton.mp z,fX (by simp)] at e;cases e)]
     exact e3
   ·obtain ⟨j,ej,hj,hxr⟩:=st4
    exact ⟨j,ej,hj,by rw[ay (Ne.symm nDr)];exact hxr⟩
   ·intro z hz
    rcases List.mem_cons.mp hz with rfl|hz
    ·exact jM ey4
    ·exact hm3 z hz
  ·rintro acc H3 ⟨ms,l3,rfl,s3,st3,hl3,hm3,k3⟩ hDx hal
   rw[Nat.sub_self] at k3
   have k3:bt A H0 R (Sound.takeChannels F n ms.reverse [] l3) (fun cs H'=> ∀D,H0 D=none→dA H' D cs→Q (.ref D) H') E:=k3
   obtain ⟨sh2,_⟩:=hI.ax s0
   have s03:=sh2.trans s3
   have hml:ms.reverse.length≤2:=by rw[List.length_reverse,hl3];lia
   have hm4: ∀m∈ms.reverse,m<4:=fun m hm=>hm3 m (List.mem_reverse.mp hm)
   generalize ms.reverse=mr at*
   refine ⟨by rw[sizeLine_eq];show 0≤_;lia,fun D2 hD2=>?_⟩
   have s4:=aE (o:= .lst []) hD2
   have hD20:H0 D2=none:=s03.none hD2
   have hDx4:upd H3 D2 (.lst []) D=some (.lst (vN mr)):=s4 _ _ hDx
   have hCh:dA (upd H3 D2 (.lst [])) D2 []:=⟨[],ak,rfl,fun k a e=>by simp at e⟩
   have st4:=st3.same s4
   have s04:=s03.trans s4
   have nD2:D≠D2:=fun z=>by rw[←z,hDx] at hD2;cases hD2
   generalize upd H3 D2 (.lst [])=H4 at*
   refine ⟨_,rfl,D,rfl,⟨_,af.of hDx4⟩,?_⟩
   refine fA (K:=K) (a:=D) (xs:=vN mr) (fun i σ H'=>(ae H0 H'∧H' D=some (.lst (vN mr))∧ ∃(l':Sound.Bits) (cs:List (List Int)),aV A.aJ H' R l'∧dA H' D2 cs∧cs.length=2*i∧bt A H0 R (Sound.takeChannels F n (mr.drop i) cs l') (fun cs H'=> ∀D,H0 D=none→dA H' D cs→Q (.ref D) H') E)∧ ∃v5 v6:Option V,σ= [some (.ref f),some (.int (n:Nat)),some (.ref R.r),some (.ref D),some (.ref D2),v5,v6])
    ⟨⟨s04,hDx4,l3, [],st4,hCh,rfl,k3⟩,none,none,rfl⟩ (fun i σ H' _ ⟨⟨_,e,_⟩,_⟩=>af.of e) ?_ ?_
   ·rintro i x σ H5 hi ⟨⟨s5,hDx5,l5,cs,st5,hC5,hcl,k5⟩,v5,v6,rfl⟩
    obtain ⟨rfl,hil⟩:=dD hi
    have hmi:mr.getD i 0<4:=sr hm4 hil
    have ed:mr.drop i=mr.getD i 0::mr.drop (i+1):=by
     rw[List.drop_eq_getElem_cons hil,getD_at hil]
    rw[ed,xD] at k5
    obtain ⟨as,has,_⟩:=id hC5
    obtain ⟨sh5,hIh5⟩:=hI.ax s5
    obtain ⟨ir,hxr⟩:=st5.obj
    have hf5:=s5 _ _ hf
    refine ⟨_,rfl, .inl ⟨rfl,_,af.of has⟩,az rfl hf5 T.bP T.vK rfl ⟨_,rfl,_,rfl,_,rfl,Wg.ax [R.r] H5,R,F.depth,n,mr.getD i 0,l5,rfl,bK _ _,hIh5,st5,⟨hd1,hd2,hmi,hn⟩,k5.cJ sh5 fun ps l6 H6 _ s6 st6 k6 E1 a b ⟨hE1,ha,hb⟩ hxE hxa hxb=>?_⟩⟩
    have hC6:=hC5.ax st5 s6
    have nr: ∀c xs,H5 c=some (.lst xs)→H6 c=some (.lst xs):=fun c xs e=>s6 _ _ (by rw[cG (fun z=>by rw[List.mem_singleton.mp z,hxr] at e;cases e)];exact e)
    have na:a≠D2:=fun z=>by
     have:Wg.ax [R.r] H5 D2=some (.lst (as.map V.ref)):=by rw[cG (fun z=>by rw[List.mem_singleton.mp z,hxr] at has;cases has)];exact has
     rw[←z,ha] at this;cases this
    have nb:b≠D2:=fun z=>by
     have:Wg.ax [R.r] H5 D2=some (.lst (as.map V.ref)):=by rw[cG (fun z=>by rw[List.mem_singleton.mp z,hxr] at has;cases has)];exact has
     rw[←z,hb] at this;cases this
    obtain ⟨as2,h2,hC7⟩:=hC6.add (bs:= [a,b]) (ds:= [ps.map fun x=>x.1,ps.map fun x=>x.2]) rfl (fun k c e=>by
     match k,e with
     |0,e=>cases e;exact ⟨na,hxa⟩
     |1,e=>cases e;exact ⟨nb,hxb⟩)
    have hal2:as2.length=cs.length:=by
     obtain ⟨as3,h3,h4,_⟩:=hC6
     rw[h2] at h3
     injection h3 with h3
     injection h3 with h3
     have:=congrArg List.length h3
     rw[List.length_map,List.length_map] at this
     lia
    have hil2:i<2:=by lia
    refine (⟨D2,E1,_,_,rfl,rfl,h2,hxE,(by rw[List.length_map,hal2,hcl,sizeLine_eq];show _+2≤_;lia),⟨cP (sh5.trans s6) hD20,?_,l6,cs++ [ps.map fun x=>x.1,ps.map fun x=>x.2],?_,hC7,by rw[List.length_append,hcl];show 2*i+2=_;lia,k6⟩,some (.int (mr.getD i 0:Nat)),v6,rfl⟩)
    ·rw[ay nD2];exact nr _ _ hDx5
    ·obtain ⟨j,ej,hj,hxr6⟩:=st6
     exact ⟨j,ej,hj,by rw[ay (fun z=>by rw[←z,hxr6] at h2;cases h2)];exact hxr6⟩
   ·rintro σ H5 ⟨⟨s5,hDx5,l5,cs,st5,hC5,hcl,k5⟩,v5,v6,rfl⟩
    rw[aR,List.drop_length] at k5
    rw[aR] at hcl
    have hf5:=s5 _ _ hf
    refine (az rfl hf5 T.bP T.sj rfl (⟨_,_,rfl,rfl,(by show (0:Int)<2;decide),rfl,_,rfl,?_⟩))
    unfold Sound.takeChannels at k5
    refine bX (fun hc=>?_) fun hc=>?_
    ·have hc:=V.int.inj (of_decide_eq_true hc)
     rw[if_pos (by lia)] at k5
     obtain ⟨as,has,_⟩:=id hC5
     obtain ⟨sh5,hIh5⟩:=hI.ax s5
     obtain ⟨ir,hxr⟩:=st5.obj
     refine ⟨_,rfl, .inl ⟨rfl,_,af.of has⟩,_,rfl,_,rfl,az rfl hf5 T.bP T.vK rfl ⟨Wg.ax [R.r] H5,R,F.depth,n, .au,_,l5,rfl,bK _ _,hIh5, .inl ⟨rfl,rfl⟩,st5,⟨by lia,by lia,hn⟩,k5.cJ sh5 fun ys l6 H6 _ s6 st6 k6 E1 hE1 hxE=>?_⟩⟩
     have hC6:=hC5.ax st5 s6
     have na:E1≠D2:=fun z=>by
      have:Wg.ax [R.r] H5 D2=some (.lst (as.map V.ref)):=by rw[cG (fun z=>by rw[List.mem_singleton.mp z,hxr] at has;cases has)];exact has
      rw[←z,hE1] at this;cases this
     obtain ⟨as2,h2,hC7⟩:=hC6.add (bs:= [E1]) (ds:= [ys]) rfl (fun k c e=>by
      match k,e with
      |0,e=>cases e;exact ⟨na,hxE⟩)
     have hal2:as2.length=cs.length:=by
      obtain ⟨as3,h3,h4,_⟩:=hC6
      rw[h2] at h3
      injection h3 with h3
      injection h3 with h3
      have:=congrArg List.length h3
      rw[List.length_map,List.length_map] at this
      lia
     refine (⟨D2,_,_,rfl,rfl,h2,(by rw[List.length_map,hal2,hcl,sizeLine_eq];lia),_,rfl,?_⟩)
     refine k6 _ (cP (sh5.trans s6) hD20) ?_ D2 hD20 hC7
     obtain ⟨j,ej,hj,hxr6⟩:=st6
     exact ⟨j,ej,hj,by rw[ay (fun z=>by rw[←z,hxr6] at h2;cases h2)];exact hxr6⟩
    ·have hc: ¬((F.channels:Nat):Int)%2=1:=fun z=>hc (decide_eq_true (show V.int (((F.channels:Nat):Int)%2)=V.int 1 by rw[z]))
     rw[if_neg (by lia)] at k5
     exact ⟨_,rfl,k5 H5 s5 st5 D2 hD20 hC5⟩
theorem vD {a b:Nat} (h:(!decide (V.int ((a:Nat):Int)=V.int ((b:Nat):Int)))=true):a≠b:=fun q=>by
 rw[q,decide_eq_true rfl] at h;cases h
theorem tV {a b:Nat} (h: ¬(!decide (V.int ((a:Nat):Int)=V.int ((b:Nat):Int)))=true):a=b:=Classical.byContradiction fun q=>h (by rw[ik,decide_eq_false q];rfl)
def jP (B:Sound.Bytes) (l:Sound.Bits):Sound.Got Nat:=(Sound.takeU (l.length%8) l).then_ fun (z:Nat) (l:Sound.Bits)=>if z≠0 then .bad else (Sound.takeU 16 l).then_ fun (c:Nat) (l':Sound.Bits)=>if c≠Sound.crc16 (B.take (B.length-l.length/8)) then .bad else .ok (B.length-l.length/8+2) l'
def MX (K:PySem.W.Frag) (A:aY):Sp:=fun vs H Q E=> ∃(H0:Hp) (R:bw) (l:Sound.Bits),vs= [.ref R.r]∧ae H0 H∧cw K H0 R∧aV A.aJ H R l∧bt A H0 R (jP R.B l) (fun z H'=>H' R.r=some (.ins A.aJ R.dr (eX (.ref R.q) (.int ((8*z:Nat):Int))))→Q .au H') E
theorem zd:aG ["reader", "check"] ["reader"] (aB zr):=⟨rfl,rfl,rfl,by decide+kernel,rfl,by decide+kernel,by decide+kernel⟩
theorem rP {n:Nat} {l:Sound.Bits} {x:Nat} {r:Sound.Bits} (h:Sound.takeU n l= .ok x r):r=l.drop n∧n≤l.length:=by
 unfold Sound.takeU at h
 split at h
 ·cases h
 ·rename_i hc
  cases h
  exact ⟨rfl,Nat.le_of_not_lt fun z=>hc ((jk _ _).mpr z)⟩
theorem wV {H:Hp} {R:bw} {l:Sound.Bits} (h:aV A.aJ H R l):l.length≤8*R.B.length∧H R.r=some (.ins A.aJ R.dr (eX (.ref R.q) (.int ((8*R.B.length-l.length:Nat):Int)))):=by
 obtain ⟨i,rfl,hi,hx⟩:=h
 rw[List.length_drop,iO]
 exact ⟨by lia,by rw[hx];congr 6;lia⟩
theorem Lu (T:Txt K mg A):aA P w K mg base (bu P w) 2 A.mF A.mW ["reader"] (MX K A):=by
 refine T.CT.bx zd (fun vs H Q E h=>?_) (fun cdv Ar outer s H vs Q E hr h=>?_)
 ·obtain ⟨H0,R,l,rfl,_⟩:=h
  rfl
 ·obtain ⟨H0,R,l,rfl,s0,hI,hS,k⟩:=h
  refine ⟨_,ai (bc (aU iT (bf (pv 0) T.bF T.dH (dO T) hr T.dG .nil bb (aa (aq l8 (gS gR (bI (pv 0) rfl)) ao) ah)) ao (aT _)) (aj (eA rfl rfl T.eJ T.d9.exc dZ)) bA)
   (ai (aC (i:=1) zd.nd rfl (Or.inl rfl) (aL (Fs T) hr rfl T.FX T.Az.kp T.RS .nil aI (aa (di pf (bI (pv 0) rfl) iz (bV (aq iU (bI (pv 0) rfl) ao))) ah)))
   (aj (bc (aU iT (bf (pv 0) T.bF T.dH (dO T) hr T.dG .nil bb (aa ao ah)) (pv 1) (aT _)) (aj (eA rfl rfl T.eJ T.d9.exc dZ)) bA))),?_⟩
  obtain ⟨hle,hx⟩:=wV hS
  obtain ⟨sh,hIh⟩:=hI.ax s0
  unfold jP at k
  refine (bE rfl hx rfl (az rfl hx T.bF T.iV rfl ⟨_,rfl,_,_,rfl,rfl,(by show (0:Int)<8;decide),Wg.ax [R.r] H,R,l.length%8,l,?_,bK _ _,hIh,hS,by lia,?_⟩))
  ·show [V.ref R.r,V.int ((-((8*R.B.length-l.length:Nat):Int))%8)]=_
   congr 3;lia
  refine k.cJ sh fun z l1 H1 ez s1 st1 k1=>?_
  obtain ⟨rfl,hz8⟩:=rP ez
  refine ⟨rfl,_,rfl,?_⟩
  have s01:=sh.trans s1
  refine bX (fun hc=>?_) fun hc=>?_
  ·have hc: ¬z=0:=vD hc
   rw[if_pos hc] at k1
   exact k1 H1 s01
  ·have hc:z=0:=tV hc
   rw[if_neg (fun q=>q hc)] at k1
   obtain ⟨hle1,hx1⟩:=wV st1
   generalize hl1:l.drop (l.length%8)=l1 at*
   have hl18:l1.length%8=0:=by rw[←hl1,List.length_drop];lia
   have hq1:=s01.seq hI.1
   refine (az rfl hx1 T.bF T.rB rfl (az rfl hx1 T.bF T.iV rfl (⟨_,_,rfl,rfl,⟨by decide,by decide⟩,_,rfl,R.q,_,rfl,hq1,fun p hp=>?_⟩)))
   have e1:((8*R.B.length-l1.length:Nat):Int)/8=((R.B.length-l1.length/8:Nat):Int):=by lia
   have e2:dS (vN (bn R.B)) none (some (((8*R.B.length-l1.length:Nat):Int)/8))=vN (bn (R.B.take (R.B.length-l1.length/8))):=by rw[e1,qa,eM]
   rw[e2]
   have s2:=aE (o:= .lst (vN (bn (R.B.take (R.B.length-l1.length/8))))) hp
   refine (⟨p,_,rfl,af.of ak,fU _,?_⟩)
   have ec:qf (bn (R.B.take (R.B.length-l1.length/8)))=Sound.crc16 (R.B.take (R.B.length-l1.length/8)):=Q9 _
   rw[ec]
   have st2:=st1.same s2
   have s02:=s01.trans s2
   obtain ⟨sh2,hIh2⟩:=hI.ax s02
   obtain ⟨i2,hx2⟩:=st2.obj
   generalize upd H1 p (.lst (vN (bn (R.B.take (R.B.length-l1.length/8)))))=H2 at*
   refine (bE rfl hx2 rfl ⟨Wg.ax [R.r] H2,R,16,l1,rfl,bK _ _,hIh2,st2,by decide,k1.cJ sh2 fun c l3 H3 e3 s3 st3 k3=>?_⟩)
   obtain ⟨rfl,hl16⟩:=rP e3
   obtain ⟨hle3,hx3⟩:=wV st3
   have s03:=sh2.trans s3
   refine ⟨_,rfl,rfl,_,rfl,?_⟩
   refine bX (fun hc2=>?_) fun hc2=>?_
   ·have hc2:c≠Sound.crc16 (R.B.take (R.B.length-l1.length/8)):=vD hc2
    rw[if_pos hc2] at k3
    exact k3 H3 s03
   ·have hc2:c=Sound.crc16 (R.B.take (R.B.length-l1.length/8)):=tV hc2
    rw[if_neg (fun q=>q hc2)] at k3
    refine k3 H3 s03 st3 ?_
    rw[hx3,List.length_drop]
    congr 6;lia
def wN (s k n d:V):List (Str×V):= [("size",s),("k",k),("n",n),("numbers",d)]
def qr (C:Addr) (H:Hp) (o:Addr) (x:Sound.Frame):Prop:= ∃dx D,H o=some (.ins C dx (wN (.int x.size) (.int x.k) (.int x.n) (.ref D)))∧H D=some (.lst (x.s.map V.int))
def Qz (C:Addr):Sp:=fun vs H Q _=> ∃(p dx:Addr) (a b c d:V),vs= [.ref p,a,b,c,d]∧H p=some (.ins C dx [])∧Q .au (upd H p (.ins C dx (wN a b c d)))
theorem Ip:aG ["self", "size", "k", "n", "numbers"] ["self", "size", "k", "n", "numbers"] (aB yG):=⟨rfl,rfl,rfl,by decide+kernel,rfl,by decide+kernel,by decide+kernel⟩
theorem Ls (T:Txt K mg A):aA P w K mg base aQ 1 A.pN A.oK ["self", "size", "k", "n", "numbers"] (Qz A.c7):=by
 refine T.NU.ok Ip (fun vs H Q E h=>?_) (fun cdv Ar outer s H vs Q E hr h=>?_)
 ·obtain ⟨p,dx,a,b,c,d,rfl,_⟩:=h
  rfl
 ·obtain ⟨p,dx,a,b,c,d,rfl,hp,k⟩:=h
  refine ⟨_,ai (bY (pv 0) (pv 1) rfl) (ai (bY (pv 0) (pv 2) rfl) (ai (bY (pv 0) (pv 3) rfl) (aj (bY (pv 0) (pv 4) rfl)))),?_⟩
  refine ⟨_,rfl,_,rfl,p,A.c7,dx, [],rfl,hp,T.dI,T.r8,(by show 0<1000;decide),?_⟩
  refine ⟨_,rfl,_,rfl,p,A.c7,dx,_,rfl,ak,T.dI,T.jT,(by show 1<1000;decide),?_⟩
  refine ⟨_,rfl,_,rfl,p,A.c7,dx,_,rfl,ak,T.dI,T.C5,(by show 2<1000;decide),?_⟩
  refine ⟨_,rfl,_,rfl,p,A.c7,dx,_,rfl,ak,T.dI,T.wO,(by show 3<1000;decide),?_⟩
  rw[cM,cM,cM]
  exact k
theorem Gy {d n m:Nat} {l l':Sound.Bits} {ps:List (Int×Int)} (h:jD d n m l= .ok ps l'):ps.length=n:=by
 unfold jD at h
 obtain ⟨a,l1,e1,h⟩:=bW h
 obtain ⟨b,l2,e2,h⟩:=bW h
 cases h
 rw[List.length_zipWith,nQ e1,nQ e2];lia
theorem uk {F:Sound.Form} {n:Nat}: ∀{ms:List Nat} {acc cs:List (List Int)} {l l':Sound.Bits},Sound.takeChannels F n ms acc l= .ok cs l'→(∀c∈acc,c.length=n)→(∀c∈cs,c.length=n)∧cs.length≤acc.length+2*ms.length+1
 | [],acc,cs,l,l',h,ha=>by
  unfold Sound.takeChannels at h
  split at h
  ·obtain ⟨y,l1,e1,h⟩:=bW h
   cases h
   refine ⟨fun c hc=>?_,by rw[List.length_append];show _+1≤_;lia⟩
   rcases List.mem_append.mp hc with hc|hc
   ·exact ha c hc
   ·rw[List.mem_singleton.mp hc];exact nQ e1
  ·cases h
   exact ⟨ha,by lia⟩
 |m::ms,acc,cs,l,l',h,ha=>by
  rw[xD] at h
  obtain ⟨ps,l1,e1,h⟩:=bW h
  have hp:=Gy e1
  obtain ⟨h1,h2⟩:=uk h (fun c hc=>by
   rcases List.mem_append.mp hc with hc|hc
   ·exact ha c hc
   ·rcases List.mem_cons.mp hc with rfl|hc
    ·rw[List.length_map];exact hp
    ·rw[List.mem_singleton.mp hc,List.length_map];exact hp)
  refine ⟨h1,?_⟩
  rw[List.length_append] at h2
  have h2:cs.length≤acc.length+2+2*ms.length+1:=h2
  rw[List.length_cons];lia
theorem qm: ∀(n:Nat) (cs:List (List Int)),Sound.woven n cs=(List.range n).flatMap fun t=>cs.map fun (c:List Int)=>c.getD t 0
 |0,cs=>rfl
 |n+1,cs=>by
  unfold Sound.woven
  rw[qm n,List.range_succ_eq_map,List.flatMap_cons,List.flatMap_map]
  congr 1
  ·refine List.map_congr_left fun c _=>?_
   cases c<;>rfl
  ·congr 1
   funext t
   rw[List.map_map]
   refine List.map_congr_left fun c _=>?_
   cases c<;>simp
theorem Dj (cs:List (List Int)) (t:Nat):((List.range (t+1)).flatMap fun t=>cs.map fun (c:List Int)=>c.getD t 0)=((List.range t).flatMap fun t=>cs.map fun (c:List Int)=>c.getD t 0)++cs.map fun (c:List Int)=>c.getD t 0:=by
 rw[List.range_succ,List.flatMap_append]
 congr 1
 rw[List.flatMap_cons,List.flatMap_nil,List.append_nil]
theorem vo (cs:List (List Int)): ∀n,(Sound.woven n cs).length=n*cs.length
 |0=>by rw[Nat.zero_mul];rfl
 |n+1=>by
  have h:=vo cs n
  rw[qm] at h⊢
  rw[Dj,List.length_append,h,List.length_map,Nat.add_mul,Nat.one_mul]
theorem pH (F:Sound.Form) (B:Sound.Bytes):Sound.takeFrame F B=(Sound.takeU 16 (Sound.bitsOf B)).then_ fun (x:Nat) (l:Sound.Bits)=>if x≠0x4B57 then .bad else
  (Sound.takeU 20 l).then_ fun (k:Nat) (l:Sound.Bits)=>(Sound.takeU 8 l).then_ fun (n:Nat) (l:Sound.Bits)=>if F.block<n+1 then .bad else
  ((Sound.takeMany (fun (_:List Nat) (l:Sound.Bits)=>Sound.takeU 2 l) (Sound.pairs F) [] l).then_ fun (ms:List Nat) (l:Sound.Bits)=>Sound.takeChannels F (n+1) ms.reverse [] l).then_ fun (cs:List (List Int)) (l:Sound.Bits)=>(jP B l).then_ fun (z:Nat) (l:Sound.Bits)=> .ok ⟨k,n+1,Sound.woven (n+1) cs,z⟩ l:=by
 unfold Sound.takeFrame
 congr 1
 funext x l
 split
 ·rfl
 ·congr 1
  funext k l
  congr 1
  funext n l
  split
  ·rfl
  ·rw[then_assoc]
   congr 1
   funext ms l
   congr 1
   funext cs l
   unfold jP
   rw[then_assoc]
   congr 1
   funext z l
   split
   ·rfl
   ·show ((Sound.takeU 16 l).then_ fun (c:Nat) (l':Sound.Bits)=>if c≠Sound.crc16 (B.take (B.length-l.length/8)) then (.bad:Sound.Got Sound.Frame) else .ok (⟨k,n+1,Sound.woven (n+1) cs,B.length-l.length/8+2⟩:Sound.Frame) l')=_
    rw[then_assoc]
    congr 1
    funext c l'
    split<;>rfl
def Ii (K:PySem.W.Frag) (A:aY):Sp:=fun vs H Q E=> ∃(H0:Hp) (R:bw) (f:Addr) (F:Sound.Form),vs= [.ref f, .ref R.r]∧ae H0 H∧cw K H0 R∧d5 A.bj H0 f F∧aV A.aJ H R (Sound.bitsOf R.B)∧F.ok=true∧
 bt A H0 R (Sound.takeFrame F R.B) (fun x H'=> ∀o,H0 o=none→qr A.c7 H' o x→Q (.ref o) H') E
theorem ij:aG ["form", "reader", "k", "n", "channels", "numbers", "t", "channel"] ["form", "reader"] (aB CA):=⟨rfl,rfl,rfl,by decide+kernel,rfl,by decide+kernel,by decide+kernel⟩
theorem GF (T:Txt K mg A):aA P w K mg base (bu P w) 12 A.pA A.pz ["form", "reader"] (Ii K A):=by
 refine T.zW.bx ij (fun vs H Q E h=>?_) (fun cdv Ar outer s H vs Q E hr h=>?_)
 ·obtain ⟨H0,R,f,F,rfl,_⟩:=h
  rfl
 ·obtain ⟨H0,R,f,F,rfl,s0,hI,hF,hS,ag,k⟩:=h
  have hr1':aF 1 _:=hr.mono (by decide)
  have hr2':aF 2 _:=hr.mono (by decide)
  refine ⟨_,ai (bc (aU iT (bf (pv 1) T.bF T.dH (dO T) hr1' T.dG .nil bb (aa ao ah)) (bp rfl T.GS) (aT _)) (aj (eA rfl rfl T.eJ T.d9.exc dZ)) bA)
   (ai (aC (i:=2) ij.nd rfl (Or.inl rfl) (bf (pv 1) T.bF T.dH (dO T) hr1' T.dG .nil bb (aa ao ah)))
   (ai (aC (i:=3) ij.nd rfl (Or.inl rfl) (aq bT (bf (pv 1) T.bF T.dH (dO T) hr1' T.dG .nil bb (aa ao ah)) ao))
   (ai (bc (aU fH (pv 3) (bI (pv 0) rfl) (aT _)) (aj (eA rfl rfl T.eJ T.d9.exc dZ)) bA)
   (ai (aC (i:=4) ij.nd rfl (Or.inl rfl) (aL (QI T) hr rfl T.PH T.B5.kp T.Ft .nil bb (aa (pv 0) (aa (pv 3) (aa (pv 1) ah)))))
   (ai (bR (aL (Lu T) hr2' rfl T.LQ T.CT.kp T.MY .nil bb (aa (pv 1) ah)))
   (ai (aC (i:=5) ij.nd rfl (Or.inl rfl) (dy ah))
   (ai (cj PassesOwn.leaving rfl (eN rfl T.dJ (aa (pv 3) ah)) (aN (i:=6) ij.nd rfl (Or.inr rfl))
    (aj (bR (pq PySem.F.plainAttrs_list PySem.F.slot_list_extend PySem.F.type_list_extend r6 (pv 5) (aa (dB (own:= [("channel",7)]) rfl ij.nd (gK (pv 4)) (cv (by kernel_rfl)) (fun _ _ _ _ _=>aN (i:=7) ij.nd rfl (Or.inl rfl)) (fun _ _ _ _ _=>c9) (fun _ _ _ _ _=>bS (QL (K:=K) rfl) (pv 7) (pv 6) (fun _ _=>rfl))) ah)))))
   (aj (aM (gN T.Pq (Ls T) hr2' rfl T.QB T.MI .nil aI (aa (aq iU (bI (pv 1) rfl) ao) (aa (pv 2) (aa (pv 3) (aa (pv 5) ah)))))))))))))),?_⟩
  obtain ⟨⟨hc1,hc2⟩,_,⟨hb1,hb2⟩,_⟩:=dX ag
  have e62:(2:Int)^62=4611686018427387904:=by decide
  obtain ⟨df,hf⟩:=id hF
  obtain ⟨i0,hx⟩:=hS.obj
  obtain ⟨sh,hIh⟩:=hI.ax s0
  rw[pH] at k
  refine (bE rfl hx rfl ⟨Wg.ax [R.r] H,R,16,_,rfl,bK _ _,hIh,hS,by decide,k.cJ sh fun x l1 H1 _ s1 st1 k1=>?_⟩)
  have s01:=sh.trans s1
  refine ⟨rfl,_,rfl,?_⟩
  refine bX (fun hc=>?_) fun hc=>?_
  ·have hc:x≠0x4B57:=vD hc
   rw[if_pos hc] at k1
   exact k1 H1 s01
  have hc:x=0x4B57:=tV hc
  rw[if_neg (fun q=>q hc)] at k1
  obtain ⟨i1,hx1⟩:=st1.obj
  obtain ⟨sh1,hIh1⟩:=hI.ax s01
  refine (bE rfl hx1 rfl ⟨Wg.ax [R.r] H1,R,20,_,rfl,bK _ _,hIh1,st1,by decide,k1.cJ sh1 fun kk l2 H2 _ s2 st2 k2=>?_⟩)
  have s02:=sh1.trans s2
  obtain ⟨i2,hx2⟩:=st2.obj
  obtain ⟨sh2,hIh2⟩:=hI.ax s02
  refine (bE rfl hx2 rfl ⟨Wg.ax [R.r] H2,R,8,_,rfl,bK _ _,hIh2,st2,by decide,k2.cJ sh2 fun n l3 H3 e3 s3 st3 k3=>?_⟩)
  have s03:=sh2.trans s3
  have hn8:n<256:=jM e3
  refine (⟨_,_,rfl,rfl,?_⟩)
  dsimp only
  rw[show ((n:Nat):Int)+1=((n+1:Nat):Int) by lia]
  have hf3:=s03 _ _ hf
  refine ⟨_,rfl,az rfl hf3 T.bP T.jw rfl (⟨_,_,rfl,rfl,_,rfl,?_⟩)⟩
  refine bX (fun hcb=>?_) fun hcb=>?_
  ·have hcb:((F.block:Nat):Int)<((n+1:Nat):Int):=of_decide_eq_true hcb
   rw[if_pos (by lia)] at k3
   exact k3 H3 s03
  have hcb: ¬((F.block:Nat):Int)<((n+1:Nat):Int):=fun q=>hcb (decide_eq_true q)
  rw[if_neg (by lia)] at k3
  refine ⟨_,rfl,_,rfl,_,rfl,H0,R,f,F,(n+1),l3,rfl,s03,hI,hF,st3,⟨ag,by lia⟩,k3.seq fun cs l4 H4 e4 s4 st4 k4 C4 hC40 hCh=>?_⟩
  have hcs:(∀c∈cs,c.length=n+1)∧cs.length≤10:=by
   obtain ⟨ms,l5,e5,e6⟩:=bW e4
   have h1:=fK e5
   obtain ⟨h2,h3⟩:=uk e6 (fun c hc=>by cases hc)
   rw[List.length_reverse,h1] at h3
   unfold Sound.pairs at h3
   have h3:cs.length≤0+2*(0+F.channels/2)+1:=h3
   exact ⟨h2,by lia⟩
  obtain ⟨sh4,hIh4⟩:=hI.ax s4
  refine ⟨_,rfl,Wg.ax [R.r] H4,R,l4,rfl,bK _ _,hIh4,st4,k4.cJ sh4 fun z l5 H5 _ s5 st5 k5 hx5=>?_⟩
  have hCh5:=hCh.ax st4 s5
  have s05:=sh4.trans s5
  refine ⟨by rw[sizeLine_eq];show 0≤_;lia,fun D hD=>?_⟩
  have s6:=aE (o:= .lst []) hD
  have hD0:H0 D=none:=s05.none hD
  refine ⟨_,rfl,((n+1:Nat):Int),rfl,by lia,by lia,?_⟩
  rw[Int.toNat_natCast]
  have hx6:=s6 _ _ hx5
  have hCh6:=hCh5.same s6
  have st6:=st5.same s6
  have s06:=s05.trans s6
  have nDC:C4≠D:=fun q=>by
   obtain ⟨as,h1,_⟩:=hCh5
   rw[q,hD] at h1;cases h1
  have nAs: ∀as:List Addr,H5 C4=some (.lst (as.map V.ref))→True:=fun _ _=>trivial
  refine fM (lo:=0) (n:=n+1) (fun t σ H'=>(ae H0 H'∧aV A.aJ H' R l5∧H' R.r=some (.ins A.aJ R.dr (eX (.ref R.q) (.int ((8*z:Nat):Int))))∧ae H5 (Wg.ax [D] H')∧H' D=some (.lst ((Sound.woven t cs).map V.int)))∧ ∃v6 v7:Option V,σ= [some (.ref f),some (.ref R.r),some (.int (kk:Nat)),some (.int ((n+1:Nat):Int)),some (.ref C4),some (.ref D),v6,v7])
   ⟨⟨s06,st6,hx6,s6.ax (fun b hb=>by rw[List.mem_singleton.mp hb];exact hD),ak⟩,none,none,rfl⟩ ?_ ?_
  ·rintro t σ H7 ht ⟨⟨s7,st7,hx7,sh7,hD7⟩,v6,v7,rfl⟩
   have hCh7:dA H7 C4 cs:=(hCh5.same sh7).same (bK _ _)
   obtain ⟨as,ha1,ha2,ha3⟩:=id hCh7
   have hwl:=vo cs t
   have hwl2:t*cs.length≤256*10:=Nat.mul_le_mul (by lia) hcs.2
   refine ⟨_,rfl, .inl ⟨rfl,_,af.of hD7⟩,_,rfl,C4,rfl,⟨_,af.of ha1⟩,fun D2 hD2=>?_⟩
   refine eZ (J:=cY K C4) hD2 cs.length (by rw[sizeLine_eq];lia) (fun i=> .int ((cs.getD i []).getD t 0)) (fun i Hh hi t1=>?_) (fun Hh t1=>⟨_,t1.seq (af.of ha1),by rw[List.length_map];lia⟩) ?_ ?_
   ·obtain ⟨a,h1,_⟩:=e9 (as:=as) (i:=i) (by lia)
    exact ⟨_,_,t1.seq (af.of ha1),h1⟩
   ·rintro i Hh y H8 hi t1 ⟨rfl,hy⟩ C hC
    obtain ⟨a,rfl,hai⟩:=gi (hy _ (t1.seq (af.of ha1)))
    have hci:(cs.getD i []).length=n+1:=hcs.1 _ (by rw[List.getD_eq_getElem?_getD,List.getElem?_eq_getElem hi];exact List.getElem_mem hi)
    refine ⟨rfl,_,rfl,_,rfl,a,_,_,_,rfl,rfl,af.of (t1 _ _ (ha3 i a hai).2),?_,hC _ (ae.refl _)⟩
    rw[Int.zero_add]
    exact bL (kd (by lia))
   ·intro H8 s8 hx8
    have e8:(List.range cs.length).map (fun i=>V.int ((cs.getD i []).getD t 0))=(cs.map fun c=>c.getD t 0).map V.int:=by
     rw[List.map_map]
     refine List.ext_getElem (by simp) fun i h1 h2=>?_
     simp at h2
     simp [List.getD_eq_getElem?_getD,List.getElem?_eq_getElem h2]
    rw[e8] at hx8
    have hD8:=s8 _ _ hD7
    refine (⟨D,D2,_,_,rfl,rfl,hD8,hx8,(by rw[List.length_map,List.length_map,List.length_map,hwl,sizeLine_eq];lia),⟨cP (s7.trans s8) hD0,?_,?_,?_,?_⟩,some (.int (0+(t:Nat))),v7,rfl⟩)
    ·obtain ⟨j,ej,hj,hxr⟩:=st7
     exact ⟨j,ej,hj,by rw[ay (fun q=>by rw[q,hD7] at hxr;cases hxr)];exact s8 _ _ hxr⟩
    ·rw[ay (fun q=>by rw[q,hD7] at hx7;cases hx7)];exact s8 _ _ hx7
    ·intro b o e
     have e7:=sh7 b o e
     have nb:b≠D:=fun q=>by rw[q,fX (by simp)] at e7;cases e7
     rw[cG (by simpa using nb),ay nb]
     exact s8 _ _ (bK _ _ _ _ e7)
    ·rw[ak,qm,qm,Dj,List.map_append]
  ·rintro σ H7 ⟨⟨s7,st7,hx7,sh7,hD7⟩,v6,v7,rfl⟩
   refine (az rfl hx7 T.bF T.iV rfl (⟨_,_,rfl,rfl,⟨by decide,by decide⟩,_,rfl,_,rfl,_,rfl,fun o dx ho hdx hne=>(⟨o,dx,_,_,_,_,rfl,ak,rfl,?_⟩)⟩))
   rw[iS]
   have s8:ae H7 (upd (upd H7 dx (.own o)) o (.ins A.c7 dx (wN (.int (((8*z:Nat):Int)/8)) (.int (kk:Nat)) (.int ((n+1:Nat):Int)) (.ref D)))):=eG ho hdx
   refine k5 _ (s7.trans s8) (st7.same s8) o (s7.none ho) ⟨dx,D,?_,s8 _ _ hD7⟩
   rw[ak]
   congr 5
   show ((8*z:Nat):Int)/8=((z:Nat):Int)
   lia
theorem Gj {X:Cx} {K:PySem.W.Frag} (h:X.K=K):mz X (oA K):=by subst h;exact pf
theorem RY {F:Sound.Form} {B:Sound.Bytes} {x:Sound.Frame} {l:Sound.Bits} (ag:F.ok=true) (h:Sound.takeFrame F B= .ok x l):x.s.length≤2560:=by
 rw[pH] at h
 obtain ⟨m,l1,_,h⟩:=bW h
 split at h
 ·cases h
 obtain ⟨k,l2,_,h⟩:=bW h
 obtain ⟨n,l3,e3,h⟩:=bW h
 have hn8:n<256:=jM e3
 split at h
 ·cases h
 obtain ⟨cs,l4,e4,h⟩:=bW h
 obtain ⟨z,l5,_,h⟩:=bW h
 cases h
 obtain ⟨ms,l6,e5,e6⟩:=bW e4
 have h1:=fK e5
 obtain ⟨h2,h3⟩:=uk e6 (fun c hc=>by cases hc)
 rw[List.length_reverse,h1] at h3
 unfold Sound.pairs at h3
 have h3:cs.length≤0+2*(0+F.channels/2)+1:=h3
 obtain ⟨⟨hc1,hc2⟩,_⟩:=dX ag
 show (Sound.woven (n+1) cs).length≤_
 rw[vo]
 exact Nat.mul_le_mul (n₁:=n+1) (n₂:=256) (m₁:=cs.length) (m₂:=10) (by lia) (by lia)
theorem xJ {F:Sound.Form} {B:Sound.Bytes} {x:Sound.Frame} (ag:F.ok=true) (h:Sound.unframe F B= .frame x):x.s.length≤2560:=by
 unfold Sound.unframe at h
 split at h
 ·rename_i e;cases h;exact RY ag e
 ·cases h
 ·split at h<;>cases h
def yZ (A:aY) (H:Hp) (r:Sound.Read) (Q:VK) (E:XK):Prop:=match r with
 | .frame x=> ∀o H',H o=none→ae H H'→qr A.c7 H' o x→Q (.ref o) H'
 | .bad=> ∀H',ae H H'→E (.ref A.eT) none H'
 | .short=> ∀H',ae H H'→E (.ref A.ie) none H'
def MF (K:PySem.W.Frag) (A:aY):Sp:=fun vs H Q E=> ∃(f q:Addr) (F:Sound.Form) (B:Sound.Bytes),vs= [.ref f, .ref q]∧d5 A.bj H f F∧af K H q (vN (bn B))∧F.ok=true∧yZ A H (Sound.unframe F B) Q E
theorem OJ:aG ["form", "data"] ["form", "data"] (aB zC):=⟨rfl,rfl,rfl,by decide+kernel,rfl,by decide+kernel,by decide+kernel⟩
theorem RO (T:Txt K mg A):aA P w K mg base (bu P w) 13 A.lJ A.nH ["form", "data"] (MF K A):=by
 refine T.zf.bx OJ (fun vs H Q E h=>?_) (fun cdv Ar outer s H vs Q E hr h=>?_)
 ·obtain ⟨f,q,F,B,rfl,_⟩:=h
  rfl
 ·obtain ⟨f,q,F,B,rfl,hF,hq,ag,k⟩:=h
  have hr2':aF 2 _:=hr.mono (by decide)
  refine ⟨_,aj (tD rfl rfl rfl (fun E pn xe hp ho=>aj (aM (uI (GF T) hr rfl T.Qp T.zW.kp T.G4 .nil hp (aa (pv 0) (aa (gN T.Lb (O1 T) hr2' rfl T.Rn T.Md .nil aI (aa (di (Gj (K:=K) rfl) (pv 1) iz (bV (bp rfl T.vB))) ah)) ah)))))
   (Mp rfl oE T.rZ rfl T.qp (fun x ps n hpc=>ai (bc (aU qB (bQ (wG (K:=K) rfl) (by rfl) T.b6 PySem.boot_len (aa (pv 1) ah)) (bp rfl T.vB) (aT _)) (aj (zI (B6 hpc) rfl T.eJ T.d9.exc (Ei hr.hd rfl rfl rfl oE))) bA)
    (aj (zI (B6 hpc) rfl T.qp T.rZ.exc (Ei hr.hd rfl rfl rfl oE)))))),?_⟩
  refine ⟨_,rfl,_,rfl,_,rfl,q,_,rfl,hq,fun p hp=>?_⟩
  have e0:dS (vN (bn B)) none (some 4096)=vN (bn (B.take 4096)):=by
   rw[show (4096:Int)=((4096:Nat):Int) from rfl,qa,eM]
  rw[e0]
  have s1:=aE (o:= .lst (vN (bn (B.take 4096)))) hp
  have hx1:upd H p (.lst (vN (bn (B.take 4096)))) p=some (.lst (vN (bn (B.take 4096)))):=ak
  generalize upd H p (.lst (vN (bn (B.take 4096))))=H1 at*
  intro o dx ho hdx hne
  refine ⟨o,dx,_,rfl,ak,rfl,?_⟩
  rw[iS]
  have s2:ae H1 (upd (upd H1 dx (.own o)) o (.ins A.aJ dx (eX (.ref p) (.int 0)))):=eG ho hdx
  refine ⟨H1,⟨o,dx,p,B.take 4096⟩,f,F,rfl,s2,⟨af.of hx1,ho,by rw[List.length_take];lia⟩,hF.same s1,⟨0,rfl,by lia,ak⟩,ag,?_⟩
  unfold Sound.unframe at k
  show bt A H1 _ (Sound.takeFrame F (B.take Sound.LONGEST)) _ _
  cases e:Sound.takeFrame F (B.take Sound.LONGEST) with
  |ok x l=>
   rw[e] at k
   exact fun H' s3 _ o' ho' hI=>k o' H' (s1.none ho') (s1.trans s3) hI
  |bad=>
   rw[e] at k
   exact fun H' s3=> .inr ⟨⟨_,rfl,T.d9⟩,fun z=>T.xU.symm (by injection z),k H' (s1.trans s3)⟩
  |short=>
   rw[e] at k
   dsimp only at k
   refine fun H' s3=> .inl ⟨rfl,?_⟩
   have hq':=(s1.trans s3).seq hq
   refine ⟨_,rfl,q,_,rfl, .inl hq',_,_,rfl,rfl,_,rfl,?_⟩
   rw[aR,bM]
   refine bX (fun hc=>?_) fun hc=>?_
   ·have hc:(4096:Int)≤((B.length:Nat):Int):=of_decide_eq_true hc
    rw[if_pos (show Sound.LONGEST≤B.length by show 4096≤_;lia)] at k
    exact k H' (s1.trans s3)
   ·have hc: ¬(4096:Int)≤((B.length:Nat):Int):=fun q=>hc (decide_eq_true q)
    rw[if_neg (show¬Sound.LONGEST≤B.length by show¬4096≤_;lia)] at k
    exact k H' (s1.trans s3)
theorem ou {F:Sound.Form} (n:Nat) (hb:1≤F.block):Sound.framesOf F n≤n:=by
 unfold Sound.framesOf
 rcases Nat.eq_zero_or_pos n with h|h
 ·rw[h,Nat.div_eq_of_lt (by lia)];exact Nat.le_refl _
 ·refine Nat.div_le_of_le_mul ?_
  have:=Nat.mul_le_mul (show 1≤F.block from hb) (show 1≤n from h)
  obtain ⟨b,hb'⟩: ∃b,F.block=b+1:=⟨F.block-1,by lia⟩
  obtain ⟨m,hm⟩: ∃m,n=m+1:=⟨n-1,by lia⟩
  rw[hb',hm,Nat.add_mul,Nat.mul_add]
  lia
def Ll (C:Addr):Sp:=fun vs H Q _=> ∃(f:Addr) (F:Sound.Form) (n:Nat),vs= [.ref f, .int (n:Nat)]∧d5 C H f F∧(1≤F.block∧F.block≤256)∧Q (.int (Sound.framesOf F n:Nat)) H
theorem OL:aG ["self", "samples"] ["self", "samples"] (aB Du):=⟨rfl,rfl,rfl,by decide+kernel,rfl,by decide+kernel,by decide+kernel⟩
theorem zH (T:Txt K mg A):aA P w K mg base aQ 1 A.lu A.ky ["self", "samples"] (Ll A.bj):=by
 refine T.Fe.ok OL (fun vs H Q E h=>?_) (fun cdv Ar outer s H vs Q E hr h=>?_)
 ·obtain ⟨f,F,n,rfl,_⟩:=h
  rfl
 ·obtain ⟨f,F,n,rfl,⟨df,hf⟩,hb,k⟩:=h
  refine ⟨_,aj (aM (aq iU (aq cZ (aq bT (pv 1) (aK (K:=K) rfl (pv 0) rfl)) ao) (aK (K:=K) rfl (pv 0) rfl))),?_⟩
  refine ⟨_,rfl,az rfl hf T.bP T.jw rfl (⟨_,_,rfl,rfl,_,_,rfl,rfl,az rfl hf T.bP T.jw rfl (⟨_,_,rfl,rfl,⟨by lia,by lia⟩,?_⟩)⟩)⟩
  have e:((n:Nat):Int)+((F.block:Nat):Int)-1=((n+F.block-1:Nat):Int):=by lia
  dsimp only
  rw[e,←Int.natCast_ediv]
  exact k
theorem Ad (f:Sound.Form) (b:Sound.Bytes):Sound.unframe f (b.take 4096)=Sound.unframe f b:=by
 unfold Sound.unframe Sound.LONGEST
 rw[List.take_take,Nat.min_self]
 have:4096≤(b.take 4096).length↔4096≤b.length:=by rw[List.length_take];lia
 simp only [this]
theorem EM {F:Sound.Form} {B:Sound.Bytes} {x:Sound.Frame} {l:Sound.Bits} (h:Sound.takeFrame F B= .ok x l):1≤x.n∧x.k<2^20:=by
 rw[pH] at h
 obtain ⟨m,l1,_,h⟩:=bW h
 split at h
 ·cases h
 obtain ⟨k,l2,e2,h⟩:=bW h
 obtain ⟨n,l3,e3,h⟩:=bW h
 split at h
 ·cases h
 obtain ⟨cs,l4,e4,h⟩:=bW h
 obtain ⟨z,l5,_,h⟩:=bW h
 cases h
 exact ⟨by show 1≤n+1;lia,jM e2⟩
theorem y8 {F:Sound.Form} {B:Sound.Bytes} {x:Sound.Frame} (h:Sound.unframe F B= .frame x):1≤x.n∧x.k<2^20:=by
 unfold Sound.unframe at h
 split at h
 ·rename_i e;cases h;exact EM e
 ·cases h
 ·split at h<;>cases h
def Qb (C:Addr):Sp:=fun vs H Q _=> ∃(f:Addr) (F:Sound.Form) (k n:Nat),vs= [.ref f, .int (k:Nat), .int (n:Nat)]∧d5 C H f F∧F.block≤256∧Q (.int (min (F.block:Int) ((n:Int)-(k:Int)*(F.block:Int)))) H
theorem Nj:aG ["self", "k", "samples"] ["self", "k", "samples"] (aB xS):=⟨rfl,rfl,rfl,by decide+kernel,rfl,by decide+kernel,by decide+kernel⟩
theorem sX (T:Txt K mg A):aA P w K mg base aQ 1 A.mT A.kQ ["self", "k", "samples"] (Qb A.bj):=by
 refine T.Kb.ok Nj (fun vs H Q E h=>?_) (fun cdv Ar outer s H vs Q E hr h=>?_)
 ·obtain ⟨f,F,k,n,rfl,_⟩:=h
  rfl
 ·obtain ⟨f,F,k,n,rfl,⟨df,hf⟩,hb,q⟩:=h
  refine ⟨_,aj (aM (bQ (JN rfl) (by rfl) T.ME (by decide+kernel:bootBuiltins "min" =some (.builtin "min")) (aa (aK (K:=K) rfl (pv 0) rfl) (aa (aq cZ (pv 2) (aq gz (pv 1) (aK (K:=K) rfl (pv 0) rfl))) ah)))),?_⟩
  have e64:(2:Int)^64=18446744073709551616:=by decide
  refine (az rfl hf T.bP T.jw rfl ⟨_,rfl,_,rfl,az rfl hf T.bP T.jw rfl (⟨_,_,rfl,rfl, .inr ⟨by lia,by lia⟩,_,_,rfl,rfl,aS _ _ ⟨rfl,?_⟩⟩)⟩)
  have e:(if (n:Int)-(k:Int)*(F.block:Int)<(F.block:Int) then (n:Int)-(k:Int)*(F.block:Int) else (F.block:Int))=min (F.block:Int) ((n:Int)-(k:Int)*(F.block:Int)):=by
   split<;>lia
  dsimp only
  rw[e]
  exact q
def eu (F:Sound.Form) (n:Nat) (B:Sound.Bytes):Option Sound.Frame:=match Sound.unframe F B with
 | .frame x=>if x.n=Sound.frameLen F n x.k then some x else none
 |_=>none
def kI (A:aY) (H:Hp) (r:Option Sound.Frame) (Q:VK):Prop:=match r with
 |some x=> ∀o H',H o=none→ae H H'→qr A.c7 H' o x→Q (.ref o) H'
 |none=> ∀H',ae H H'→Q .au H'
def EK (K:PySem.W.Frag) (A:aY):Sp:=fun vs H Q _=> ∃(f q:Addr) (F:Sound.Form) (n:Nat) (B:Sound.Bytes),vs= [.ref f, .int (n:Nat), .ref q]∧d5 A.bj H f F∧af K H q (vN (bn B))∧F.ok=true∧kI A H (eu F n B) Q
theorem xO:aG ["form", "samples", "data", "taken"] ["form", "samples", "data"] (aB yy):=⟨rfl,rfl,rfl,by decide+kernel,rfl,by decide+kernel,by decide+kernel⟩
theorem Cj (T:Txt K mg A):aA P w K mg base aQ 14 A.lK A.oG ["form", "samples", "data"] (EK K A):=by
 refine T.wF.ok xO (fun vs H Q E h=>?_) (fun cdv Ar outer s H vs Q E hr h=>?_)
 ·obtain ⟨f,q,F,n,B,rfl,_⟩:=h
  rfl
 ·obtain ⟨f,q,F,n,B,rfl,hF,hq,ag,k⟩:=h
  have hr1':aF 1 _:=hr.mono (by decide)
  refine ⟨_,ai (tD rfl rfl rfl (fun E pn xe hp ho=>aj (aC (i:=3) xO.nd rfl (Or.inl rfl) (uI (RO (K:=K) T) hr rfl T.PB T.zf.kp T.OT .nil hp (aa (pv 0) (aa (pv 2) ah)))))
    (Gv rfl T.d9 rfl T.eJ (fun x ps n _=>aj (aM fh))
     T.rZ rfl T.qp (fun x ps n _=>aj (aM fh)) T.xU.symm))
   (aj (aM (jL (aU cH (aK (K:=K) rfl (pv 3) rfl) (bf (pv 0) T.bP T.u5 (sX (K:=K) T) hr1' T.wg .nil aI (aa (aK (K:=K) rfl (pv 3) rfl) (aa (pv 1) ah))) (aT _)) (pv 3) fh))),?_⟩
  obtain ⟨df,hf⟩:=id hF
  refine ⟨_,rfl,_,rfl,cC f q F B ⟨rfl,hF,hq,ag,?_⟩⟩
  unfold yZ
  unfold eu at k
  cases e:Sound.unframe F B with
  |bad=>
   rw[e] at k
   exact fun H3 s3=> .inl ⟨rfl,k _ s3⟩
  |short=>
   rw[e] at k
   exact fun H3 s3=> .inr ⟨rfl,k _ s3⟩
  |frame x=>
   rw[e] at k
   dsimp only at k⊢
   intro o H1 ho s1 hx
   obtain ⟨dx,D,h1,h2⟩:=id hx
   obtain ⟨hn1,hk20⟩:=y8 e
   obtain ⟨_,_,⟨hb1,hb2⟩,_⟩:=dX ag
   refine (az rfl h1 T.dI T.C5 rfl (bE rfl (s1 _ _ hf) rfl (az rfl h1 T.dI T.jT rfl ⟨_,rfl,cC f F x.k n ⟨rfl,⟨df,s1 _ _ hf⟩,by lia,rfl,_,rfl,?_⟩⟩)))
   have el:decide (V.int ((x.n:Nat):Int)=V.int (min (F.block:Int) ((n:Int)-(x.k:Int)*(F.block:Int))))=decide (x.n=Sound.frameLen F n x.k):=by
    unfold Sound.frameLen
    have e1:((x.k*F.block:Nat):Int)=(x.k:Int)*(F.block:Int):=by lia
    by_cases c:x.n=min F.block (n-x.k*F.block)
    ·rw[decide_eq_true c,decide_eq_true]
     congr 1
     rw[←e1];lia
    ·rw[decide_eq_false c,decide_eq_false]
     intro z
     have z:=V.int.inj z
     rw[←e1] at z
     exact c (by lia)
   rw[el]
   by_cases c:x.n=Sound.frameLen F n x.k
   ·rw[decide_eq_true c]
    rw[if_pos c] at k
    exact aW ⟨_,rfl,k o H1 ho s1 hx⟩
   ·rw[decide_eq_false c]
    rw[if_neg c] at k
    exact aZ (k H1 s1)
theorem R5 {B:Sound.Bytes} {l r:Sound.Bits} {z:Nat} (hB:2≤B.length) (h:jP B l= .ok z r):2≤z∧z≤B.length:=by
 unfold jP at h
 obtain ⟨x,l1,e1,h⟩:=bW h
 split at h
 ·cases h
 obtain ⟨c,l2,e2,h⟩:=bW h
 split at h
 ·cases h
 ·obtain ⟨q3,q4⟩:=rP e2
  cases h
  lia
theorem LJ {F:Sound.Form} {B:Sound.Bytes} {x:Sound.Frame} {l:Sound.Bits} (h:Sound.takeFrame F B= .ok x l):2≤x.size∧x.size≤B.length:=by
 rw[pH] at h
 obtain ⟨m,l1,e0,h⟩:=bW h
 have hB:=(rP e0).2
 rw[iO] at hB
 split at h
 ·cases h
 obtain ⟨k,l2,e2,h⟩:=bW h
 obtain ⟨n,l3,e3,h⟩:=bW h
 split at h
 ·cases h
 obtain ⟨cs,l4,e4,h⟩:=bW h
 obtain ⟨z,l5,e5,h⟩:=bW h
 cases h
 exact R5 (by lia) e5
theorem qW {F:Sound.Form} {B:Sound.Bytes} {x:Sound.Frame} (h:Sound.unframe F B= .frame x):2≤x.size∧x.size≤4096∧x.size≤B.length:=by
 unfold Sound.unframe at h
 split at h
 ·rename_i e
  cases h
  have:=LJ e
  rw[List.length_take,show Sound.LONGEST=4096 from rfl] at this
  lia
 ·cases h
 ·split at h<;>cases h
set_option genInjectivity false in
structure En where
 (k:Nat) (s:List Int) (B:Sound.Bytes) (b a:Addr)
set_option genInjectivity false in
structure Pn where
 (p:Sound.Piece) (a:Addr)
set_option genInjectivity false in
structure Fx where
 (f df fm a d1 d2 d3:Addr) (F:Sound.Form) (n:Nat)
def En.x (e:En):Nat×List Int×Sound.Bytes:=(e.k,e.s,e.B)
def aH (L:List En) (k:Nat):Option En:=L.find? fun e=>e.k==k
def za (X:Fx):List (Str×V):= [("form", .ref X.fm),("samples", .int (X.n:Nat)),("frame_numbers", .ref X.a),("frames", .ref X.d1),("sounds", .ref X.d2),("pieces", .ref X.d3)]
def gU (L:List En):List (Key×V):=L.map fun e=>(Sum.inl ((e.k:Nat):Int),V.ref e.b)
def iK (L:List En):List (Key×V):=L.map fun e=>(Sum.inl ((e.k:Nat):Int),V.ref e.a)
def ju (M:List Pn):List (List Key×V):=M.map fun e=>([Sum.inl ((e.p.g:Nat):Int),Sum.inl ((e.p.j:Nat):Int)],V.ref e.a)
def dc (M:List Pn) (g j:Nat):Option Pn:=M.find? fun e=>e.p.g==g&&e.p.j==j
theorem rQ {κ α:Type} [DecidableEq κ] (f:α→κ) (h:α→V) (k:κ): ∀L:List α,cI (L.map fun e=>(f e,h e)) k=(L.find? fun e=>decide (f e=k)).map h
 | []=>rfl
 |e::L=>by
  rw[List.map_cons,List.find?_cons]
  by_cases c:f e=k
  ·rw[qb (p:=(f e,h e)) c,decide_eq_true c];rfl
  ·rw[qo (p:=(f e,h e)) c,decide_eq_false c,rQ f h k L]
theorem rR (a b:Nat):decide ((Sum.inl ((a:Nat):Int):Key)=Sum.inl ((b:Nat):Int))=(a==b):=by
 by_cases c:a=b
 ·rw[c,decide_eq_true rfl,beq_self_eq_true]
 ·rw[decide_eq_false (fun z=>c (by injection z with z;lia)),beq_false_of_ne c]
theorem mK (L:List En) (k:Nat):cI (gU L) (Sum.inl ((k:Nat):Int))=(aH L k).map fun e=>V.ref e.b:=by
 unfold gU aH
 rw[rQ]
 simp only [rR]
theorem wY (L:List En) (k:Nat):cI (iK L) (Sum.inl ((k:Nat):Int))=(aH L k).map fun e=>V.ref e.a:=by
 unfold iK aH
 rw[rQ]
 simp only [rR]
theorem RN (a b c d:Nat):decide (([Sum.inl ((a:Nat):Int),Sum.inl ((b:Nat):Int)]:List Key)= [Sum.inl ((c:Nat):Int),Sum.inl ((d:Nat):Int)])=(a==c&&b==d):=by
 rw[←rR,←rR,←Bool.decide_and]
 congr 1
 rw[List.cons.injEq,List.cons.injEq]
 simp
theorem vh (M:List Pn) (g j:Nat):cI (ju M) [Sum.inl ((g:Nat):Int),Sum.inl ((j:Nat):Int)]=(dc M g j).map fun e=>V.ref e.a:=by
 unfold ju dc
 rw[rQ]
 simp only [RN]
structure br (K:PySem.W.Frag) (A:aY) (H:Hp) (X:Fx) (L:List En) (M:List Pn):Prop where
 hf:H X.f=some (.ins A.bO X.df (za X))
 hm:d5 A.bj H X.fm X.F
 ha:H X.a=some (.lst (vN (List.range (Sound.framesOf X.F X.n))))
 h1:H X.d1=some (.dK (gU L))
 h2:H X.d2=some (.dK (iK L))
 h3:H X.d3=some (.dT (ju M))
 he: ∀e∈L,H e.b=some (.lst (vN (bn e.B)))∧H e.a=some (.lst (e.s.map V.int))
 hp: ∀e∈M,gY K A.cE H e.a e.p
 ne:X.d1≠X.d2
theorem br.same {H H':Hp} {X:Fx} {L:List En} {M:List Pn} (h:br K A H X L M) (s:ae H H'):br K A H' X L M:=
 ⟨s _ _ h.hf,let ⟨d,e⟩:=h.hm;⟨d,s _ _ e⟩,s _ _ h.ha,s _ _ h.h1,s _ _ h.h2,s _ _ h.h3,fun e m=>⟨s _ _ (h.he e m).1,s _ _ (h.he e m).2⟩,fun e m=>(h.hp e m).same s,h.ne⟩
def Fx.hd (X:Fx) (H:Hp):Hp:=fun y=>if y=X.d1∨y=X.d2∨y=X.d3 then none else H y
theorem dY {X:Fx} {H:Hp} {y:Addr} {o:HO} (h:X.hd H y=some o):(y≠X.d1∧y≠X.d2∧y≠X.d3)∧H y=some o:=by
 unfold Fx.hd at h
 split at h
 ·cases h
 ·rename_i c
  exact ⟨⟨fun z=>c (.inl z),fun z=>c (.inr (.inl z)),fun z=>c (.inr (.inr z))⟩,h⟩
theorem iM {X:Fx} {H:Hp} {y:Addr} {o:HO} (n:y≠X.d1∧y≠X.d2∧y≠X.d3) (h:H y=some o):X.hd H y=some o:=by
 unfold Fx.hd
 rw[if_neg (fun z=>z.elim n.1 fun z=>z.elim n.2.1 n.2.2)]
 exact h
theorem jH (X:Fx) (H:Hp):ae (X.hd H) H:=fun _ _ h=>(dY h).2
theorem gE {X:Fx} {H H':Hp} (s:ae H H'):ae (X.hd H) H':=(jH X H).trans s
theorem qJ {X:Fx} {H H1 H2:Hp} (s1:ae (X.hd H) H1) (s2:ae (X.hd H1) H2):ae (X.hd H) H2:=fun y o h=>s2 _ _ (iM (dY h).1 (s1 _ _ h))
def wx:HO→Bool
 | .dK _=>false
 | .dT _=>false
 |_=>true
theorem br.zD {H:Hp} {X:Fx} {L:List En} {M:List Pn} (h:br K A H X L M) {y:Addr} {o:HO} (e:H y=some o) (d:wx o=true):y≠X.d1∧y≠X.d2∧y≠X.d3:=by
 refine ⟨fun z=>?_,fun z=>?_,fun z=>?_⟩
 ·rw[z,h.h1] at e;cases e;cases d
 ·rw[z,h.h2] at e;cases e;cases d
 ·rw[z,h.h3] at e;cases e;cases d
theorem br.kp {H:Hp} {X:Fx} {L:List En} {M:List Pn} (h:br K A H X L M) {y:Addr} {o:HO} (e:H y=some o) (d:wx o=true):X.hd H y=some o:=iM (h.zD e d) e
theorem br.seq {H H':Hp} {X:Fx} {L:List En} {M:List Pn} (h:br K A H X L M) (s:ae (X.hd H) H') {q:Addr} {xs:List V} (e:af K H q xs):af K H' q xs:=by
 rcases e with (e|⟨o,e⟩)|e
 ·exact .inl (.inl (s _ _ (h.kp e rfl)))
 ·exact .inl (.inr ⟨o,s _ _ (h.kp e rfl)⟩)
 ·exact .inr e
theorem br.mv {H H':Hp} {X:Fx} {L L':List En} {M M':List Pn} (h:br K A H X L M) (s:ae (X.hd H) H') (e1:H' X.d1=some (.dK (gU L'))) (e2:H' X.d2=some (.dK (iK L'))) (e3:H' X.d3=some (.dT (ju M')))
  (hL: ∀e∈L',e∈L∨(H' e.b=some (.lst (vN (bn e.B)))∧H' e.a=some (.lst (e.s.map V.int)))) (hM: ∀e∈M',e∈M∨gY K A.cE H' e.a e.p):br K A H' X L' M':=by
 refine ⟨s _ _ (h.kp h.hf rfl),let ⟨d,e⟩:=h.hm;⟨d,s _ _ (h.kp e rfl)⟩,s _ _ (h.kp h.ha rfl),e1,e2,e3,fun e m=>?_,fun e m=>?_,h.ne⟩
 ·rcases hL e m with m|m
  ·exact ⟨s _ _ (h.kp (h.he e m).1 rfl),s _ _ (h.kp (h.he e m).2 rfl)⟩
  ·exact m
 ·rcases hM e m with m|m
  ·obtain ⟨dx,q,q1,q2⟩:=h.hp e m
   exact (aS dx q ⟨s _ _ (h.kp q1 rfl),s _ _ (h.kp q2 rfl)⟩)
  ·exact m
def dM (L:List En) (e:En):List En:=if (aH L e.k).isSome=true then L else L++ [e]
def ft (M:List Pn) (e:Pn):List Pn:=if (dc M e.p.g e.p.j).isSome=true then M else M++ [e]
theorem yq (L:List En) (e:En):(dM L e).length≤L.length+1:=by
 unfold dM;split
 ·lia
 ·rw[List.length_append];exact Nat.le_refl _
theorem La (M:List Pn) (e:Pn):(ft M e).length≤M.length+1:=by
 unfold ft;split
 ·lia
 ·rw[List.length_append];exact Nat.le_refl _
theorem Cz {L:List En} {e y:En} (h:aH L e.k=some y):dM L e=L:=by unfold dM;rw[h];exact if_pos rfl
theorem Bm {L:List En} {e:En} (h:aH L e.k=none):dM L e=L++ [e]:=by unfold dM;rw[h,if_neg (by intro z;cases z)]
theorem Lf {M:List Pn} {e y:Pn} (h:dc M e.p.g e.p.j=some y):ft M e=M:=by unfold ft;rw[h];exact if_pos rfl
theorem Jw {M:List Pn} {e:Pn} (h:dc M e.p.g e.p.j=none):ft M e=M++ [e]:=by unfold ft;rw[h,if_neg (by intro z;cases z)]
def R0 (K:PySem.W.Frag) (A:aY):Sp:=fun vs H Q _=> ∃(X:Fx) (L:List En) (M:List Pn) (t b:Addr) (x:Sound.Frame) (B:Sound.Bytes),vs= [.ref X.f, .ref t, .ref b]∧br K A H X L M∧qr A.c7 H t x∧H b=some (.lst (vN (bn B)))∧L.length≤1000000∧
 ∀H' D,ae (X.hd H) H'→br K A H' X (dM L ⟨x.k,x.s,B,b,D⟩) M→Q .au H'
theorem EB:aG ["self", "taken", "written"] ["self", "taken", "written"] (aB Ed):=⟨rfl,rfl,rfl,by decide+kernel,rfl,by decide+kernel,by decide+kernel⟩
theorem zS (T:Txt K mg A):aA P w K mg base aQ 1 A.pk A.pB ["self", "taken", "written"] (R0 K A):=by
 refine T.GL.ok EB (fun vs H Q E h=>?_) (fun cdv Ar outer s H vs Q E hr h=>?_)
 ·obtain ⟨X,L,M,t,b,x,B,rfl,_⟩:=h
  rfl
 ·obtain ⟨X,L,M,t,b,x,B,rfl,hi,⟨dt,D,ht,hD⟩,hb,hl,k⟩:=h
  refine ⟨_,ai (bR (uz (gP hr) (aK (K:=K) rfl (pv 0) rfl) (aK (K:=K) rfl (pv 1) rfl) (pv 2) ⟨rfl,rfl,rfl,rfl⟩)) (aj (bR (uz (gP hr) (aK (K:=K) rfl (pv 0) rfl) (aK (K:=K) rfl (pv 1) rfl) (aK (K:=K) rfl (pv 1) rfl) ⟨rfl,rfl,rfl,rfl⟩))),?_⟩
  refine az rfl hi.hf T.bo T.oW rfl ⟨_,rfl, .inl ⟨_, .inl hi.h1⟩,az rfl ht T.dI T.jT rfl ⟨_,rfl,?_⟩⟩
  have g1:=cg.k (k:=Sum.inl ((x.k:Nat):Int)) hi.h1
  rw[mK] at g1
  have k:=fun H'=>k H' D
  have lz: ∀{κ:Type} {l:List (κ×V)},l.length=L.length→l.length<sizeLine:=fun e=>by rw[e,sizeLine_eq];lia
  cases e:aH L x.k with
  |some y=>
   rw[e] at g1
   rw[Cz (by exact e)] at k
   have g2:=cg.k (k:=Sum.inl ((x.k:Nat):Int)) hi.h2
   rw[wY,e] at g2
   exact .there _ g1 (.inl ⟨_,hi.h1⟩) (az rfl hi.hf T.bo T.sC rfl ⟨_,rfl, .inl ⟨_, .inl hi.h2⟩,az rfl ht T.dI T.jT rfl (az rfl ht T.dI T.wO rfl (.there _ g2 (.inl ⟨_,hi.h2⟩) (k H (jH X H) hi)))⟩)
  |none=>
   rw[e] at g1
   rw[Bm (by exact e)] at k
   have n1:cI (gU L) (Sum.inl ((x.k:Nat):Int))=none:=by rw[mK,e];rfl
   have n2:cI (iK L) (Sum.inl ((x.k:Nat):Int))=none:=by rw[wY,e];rfl
   refine .new _ g1 (iB.k (k:=Sum.inl ((x.k:Nat):Int)) hi.h1 (lz (List.length_map _))) ?_
   rw[vS _ n1]
   have kp: ∀{y:Addr} {o:HO},H y=some o→wx o=true→upd H X.d1 (.dK (gU L++ [(Sum.inl ((x.k:Nat):Int),V.ref b)])) y=some o:=fun h d=>by rw[ay (hi.zD h d).1];exact h
   have h2':upd H X.d1 (.dK (gU L++ [(Sum.inl ((x.k:Nat):Int),V.ref b)])) X.d2=some (.dK (iK L)):=by rw[ay hi.ne.symm];exact hi.h2
   have g2:=cg.k (k:=Sum.inl ((x.k:Nat):Int)) h2'
   rw[n2] at g2
   refine az rfl (kp hi.hf rfl) T.bo T.sC rfl ⟨_,rfl, .inl ⟨_, .inl h2'⟩,az rfl (kp ht rfl) T.dI T.jT rfl (az rfl (kp ht rfl) T.dI T.wO rfl (.new _ g2 (iB.k (k:=Sum.inl ((x.k:Nat):Int)) h2' (lz (List.length_map _))) ?_))⟩
   rw[vS _ n2]
   have sm:ae (X.hd H) (upd (upd H X.d1 (.dK (gU L++ [(Sum.inl ((x.k:Nat):Int),V.ref b)]))) X.d2 (.dK (iK L++ [(Sum.inl ((x.k:Nat):Int),V.ref D)]))):=fun y o h=>by
    obtain ⟨⟨a1,a2,a3⟩,h⟩:=dY h
    rw[ay a2,ay a1];exact h
   refine k _ sm (hi.mv sm ?_ ?_ ?_ (fun e m=>?_) (fun e m=> .inl m))
   ·rw[ay hi.ne,ak]
    unfold gU;rw[List.map_append];rfl
   ·rw[ak]
    unfold iK;rw[List.map_append];rfl
   ·have d31:X.d3≠X.d1:=fD hi.h3 hi.h1 (fun z=>nomatch z)
    have d32:X.d3≠X.d2:=fD hi.h3 hi.h2 (fun z=>nomatch z)
    rw[ay d32,ay d31];exact hi.h3
   ·rcases List.mem_append.mp m with m|m
    ·exact .inl m
    ·rw[List.mem_singleton.mp m]
     exact .inr ⟨sm _ _ (hi.kp hb rfl),sm _ _ (hi.kp hD rfl)⟩
def F9 (K:PySem.W.Frag) (A:aY):Sp:=fun vs H Q _=> ∃(X:Fx) (L:List En) (M:List Pn) (t:Addr) (p:Sound.Piece),vs= [.ref X.f, .ref t]∧br K A H X L M∧gY K A.cE H t p∧M.length≤1000000∧
 ∀H',ae (X.hd H) H'→br K A H' X L (ft M ⟨p,t⟩)→Q .au H'
theorem Ot:aG ["self", "piece"] ["self", "piece"] (aB yF):=⟨rfl,rfl,rfl,by decide+kernel,rfl,by decide+kernel,by decide+kernel⟩
theorem Ik (T:Txt K mg A):aA P w K mg base aQ 1 A.lr A.nq ["self", "piece"] (F9 K A):=by
 refine T.LG.ok Ot (fun vs H Q E h=>?_) (fun cdv Ar outer s H vs Q E hr h=>?_)
 ·obtain ⟨X,L,M,t,p,rfl,_⟩:=h
  rfl
 ·obtain ⟨X,L,M,t,p,rfl,hi,hp,hl,k⟩:=h
  refine ⟨_,aj (bR (uz (gP hr) (aK (K:=K) rfl (pv 0) rfl) (kf (aa (aK (K:=K) rfl (pv 1) rfl) (aa (aK (K:=K) rfl (pv 1) rfl) ah))) (pv 1) ⟨rfl,rfl,rfl,rfl⟩)),?_⟩
  obtain ⟨dt,q,ht,hq⟩:=id hp
  refine az rfl hi.hf T.bo T.rV rfl ⟨_,rfl, .inr ⟨_, .inl hi.h3⟩,az rfl ht T.dQ T.uF rfl (az rfl ht T.dQ T.kX rfl ⟨by rw[sizeLine_eq];show 2≤_;lia,fun u hu=>⟨_,rfl,?_⟩⟩)⟩
  have s1:=aE (o:= .tup [V.int ((p.g:Nat):Int),V.int ((p.j:Nat):Int)]) hu
  have hu':upd H u (.tup [V.int ((p.g:Nat):Int),V.int ((p.j:Nat):Int)]) u=some (.tup (([Sum.inl ((p.g:Nat):Int),Sum.inl ((p.j:Nat):Int)]:List Key).map kV)):=ak
  generalize upd H u (.tup [V.int ((p.g:Nat):Int),V.int ((p.j:Nat):Int)])=H1 at*
  have hi1:=hi.same s1
  have g:=cg.t hi1.h3 hu'
  rw[vh] at g
  cases e:dc M p.g p.j with
  |some y=>
   rw[e] at g
   rw[Lf (by exact e)] at k
   exact .there _ g (.inr ⟨_,hi1.h3⟩) (k H1 (gE s1) hi1)
  |none=>
   rw[e] at g
   rw[Jw (by exact e)] at k
   refine .new _ g (iB.t hi1.h3 hu' (by unfold ju;rw[List.length_map,sizeLine_eq];lia)) ?_
   rw[vS _ (by rw[vh,e];rfl)]
   have sm:ae (X.hd H1) (upd H1 X.d3 (.dT (ju M++ [([Sum.inl ((p.g:Nat):Int),Sum.inl ((p.j:Nat):Int)],V.ref t)]))):=fun y o h=>by
    obtain ⟨⟨a1,a2,a3⟩,h⟩:=dY h
    rw[ay a3];exact h
   refine k _ (fun y o h=>sm _ _ (iM (dY h).1 (s1 _ _ (dY h).2))) (hi1.mv sm ?_ ?_ ?_ (fun e m=> .inl m) (fun e m=>?_))
   ·rw[ay (fD hi1.h1 hi1.h3 (fun z=>nomatch z))];exact hi1.h1
   ·rw[ay (fD hi1.h2 hi1.h3 (fun z=>nomatch z))];exact hi1.h2
   ·rw[ak]
    unfold ju;rw[List.map_append];rfl
   ·rcases List.mem_append.mp m with m|m
    ·exact .inl m
    ·rw[List.mem_singleton.mp m]
     exact .inr (aS dt q ⟨sm _ _ (hi1.kp (s1 _ _ ht) rfl),sm _ _ (hi1.kp (s1 _ _ hq) rfl)⟩)
theorem ko {H H':Hp} {p:Addr} {o:HO} (s:ae (hide p H) H'):ae (hide p H) (upd H' p o):=fun b u e=>by rw[ay (vc e).2];exact s b u e
theorem ng {H H':Hp} {p q:Addr} {o:HO} (s:ae (hide p H) H') (h:H' q=none):ae (hide p H) (upd H' q o):=s.trans (aE h)
theorem gk {H:Hp} {p q:Addr} {o u v:HO} (h:H q=some u) (hp:H p=some v) (d:u≠v):upd H p o q=some u:=by rw[ay (fD h hp d)];exact h
def NL (C:Addr):Sp:=fun vs H Q _=> ∃(f:Addr) (F:Sound.Form) (n:Nat),vs= [.ref f, .int (n:Nat)]∧d5 C H f F∧F.ok=true∧Q (.int (Sound.groupsOf F n:Nat)) H
theorem RH:aG ["self", "samples"] ["self", "samples"] (aB yI):=⟨rfl,rfl,rfl,by decide+kernel,rfl,by decide+kernel,by decide+kernel⟩
theorem zB (T:Txt K mg A):aA P w K mg base aQ 2 A.pE A.pW ["self", "samples"] (NL A.bj):=by
 refine T.Iv.ok RH (fun vs H Q E h=>?_) (fun cdv Ar outer s H vs Q E hr h=>?_)
 ·obtain ⟨f,F,n,rfl,_⟩:=h
  rfl
 ·obtain ⟨f,F,n,rfl,hF,ag,k⟩:=h
  refine ⟨_,aj (aM (aq iU (aq cZ (aq bT (bf (pv 0) T.bP T.xY (zH (K:=K) T) hr T.Df .nil aI (aa (pv 1) ah)) (aK (K:=K) rfl (pv 0) rfl)) ao) (aK (K:=K) rfl (pv 0) rfl))),?_⟩
  obtain ⟨_,_,⟨hb1,hb2⟩,_,⟨hg1,hg2⟩,_⟩:=dX ag
  obtain ⟨df,hf⟩:=id hF
  refine bE rfl hf rfl ⟨_,rfl,cV f F n ⟨rfl,hF,⟨by lia,by lia⟩,az rfl hf T.bP T.ox rfl ⟨_,_,rfl,rfl,_,_,rfl,rfl,az rfl hf T.bP T.ox rfl ⟨_,_,rfl,rfl,⟨by lia,by lia⟩,?_⟩⟩⟩⟩
  dsimp only
  rw[show ((Sound.framesOf F n:Nat):Int)+((F.group:Nat):Int)-1=((Sound.framesOf F n+F.group-1:Nat):Int) by lia,←Int.natCast_ediv]
  exact k
def OV (K:PySem.W.Frag) (A:aY):Sp:=fun vs H Q _=> ∃(p dp f:Addr) (F:Sound.Form) (n:Nat),vs= [.ref p, .ref f, .int (n:Nat)]∧H p=some (.ins A.bO dp [])∧d5 A.bj H f F∧(F.ok=true∧n≤2048)∧
 ∀H' a d1 d2 d3,ae (hide p H) H'→br K A H' ⟨p,dp,f,a,d1,d2,d3,F,n⟩ [] []→Q .au H'
theorem Jo:aG ["self", "form", "samples"] ["self", "form", "samples"] (aB DU):=⟨rfl,rfl,rfl,by decide+kernel,rfl,by decide+kernel,by decide+kernel⟩
theorem IG (T:Txt K mg A):aA P w K mg base aQ 2 A.o6 A.n9 ["self", "form", "samples"] (OV K A):=by
 refine T.IH.ok Jo (fun vs H Q E h=>?_) (fun cdv Ar outer s H vs Q E hr h=>?_)
 ·obtain ⟨p,dp,f,F,n,rfl,_⟩:=h
  rfl
 ·obtain ⟨p,dp,f,F,n,rfl,hp,⟨df,hf⟩,⟨ag,hn⟩,k⟩:=h
  refine ⟨_,ai (f9 (K:=K) rfl (pv 0) (pv 1) rfl) (ai (f9 (K:=K) rfl (pv 0) (pv 2) rfl) (ai (f9 (K:=K) rfl (pv 0) (xa (Gb rfl) rfl T.vi (by decide+kernel:bootBuiltins "list" =some (.type "list")) (aa (JY rfl T.dJ (aa (bf (pv 1) T.bP T.xY (zH (K:=K) T) hr T.Df .nil aI (aa (pv 2) ah)) ah)) ah)) rfl) (ai (f9 (K:=K) rfl (pv 0) zq rfl) (ai (f9 (K:=K) rfl (pv 0) zq rfl) (aj (f9 (K:=K) rfl (pv 0) Ph rfl)))))),?_⟩
  obtain ⟨_,_,⟨hb1,hb2⟩,_⟩:=dX ag
  have hfp:f≠p:=fD hf hp (by intro e;injection e with _ _ e;cases e)
  have hNn:=ou n (F:=F) (by lia)
  have h0:hide p H f=some (.ins A.bj df (kn (.int F.channels) (.int F.depth) (.int F.block) (.int F.order) (.int F.group) (.int F.spare))):=by rw[hide_ne hfp];exact hf
  refine ⟨_,rfl,_,rfl,p,A.bO,dp, [],rfl,hp,T.bo,T.fj,(by show 0<1000;decide),?_⟩
  refine ⟨_,rfl,_,rfl,p,A.bO,dp,_,rfl,ak,T.bo,T.kb,(by show 1<1000;decide),?_⟩
  rw[cM]
  have s1:ae (hide p H) (upd H p (.ins A.bO dp (bD "samples" (.int (n:Nat)) (bD "form" (.ref f) [])))):=ko (dF p H)
  have hp1:upd H p (.ins A.bO dp (bD "samples" (.int (n:Nat)) (bD "form" (.ref f) []))) p=some (.ins A.bO dp [("form", .ref f),("samples", .int (n:Nat))]):=ak
  generalize upd H p (.ins A.bO dp (bD "samples" (.int (n:Nat)) (bD "form" (.ref f) [])))=H1 at*
  refine bE rfl (s1 _ _ h0) rfl ⟨_,rfl,cV f F n ⟨rfl,⟨df,s1 _ _ h0⟩,⟨by lia,by lia⟩,_,rfl,fun r hr'=>(cV r 0 _ ⟨rfl,ak,⟨by decide,by decide,by lia,by lia⟩,by lia,fun a ha=>?_⟩)⟩⟩
  have ea:(List.range ((((Sound.framesOf F n:Nat):Int)-0).toNat)).map (fun k=>V.int (0+((k:Nat):Int)))=vN (List.range (Sound.framesOf F n)):=by
   rw[Int.sub_zero,Int.toNat_natCast]
   unfold vN
   exact List.map_congr_left fun k _=>by rw[Int.zero_add]
  rw[ea]
  have s2:=ng (o:= .lst (vN (List.range (Sound.framesOf F n)))) (ng (o:= .fu 0 (Sound.framesOf F n:Nat)) s1 hr') ha
  have hp2:=aE (o:= .lst (vN (List.range (Sound.framesOf F n)))) ha _ _ (aE (o:= .fu 0 (Sound.framesOf F n:Nat)) hr' _ _ hp1)
  have ha2:upd (upd H1 r (.fu 0 (Sound.framesOf F n:Nat))) a (.lst (vN (List.range (Sound.framesOf F n)))) a=some (.lst (vN (List.range (Sound.framesOf F n)))):=ak
  generalize upd (upd H1 r (.fu 0 (Sound.framesOf F n:Nat))) a (.lst (vN (List.range (Sound.framesOf F n))))=H2 at*
  refine ⟨_,rfl,p,A.bO,dp,_,rfl,hp2,T.bo,T.sE,(by show 2<1000;decide),?_⟩
  generalize e3:upd H2 p _=H3
  have s3:ae (hide p H) H3:=by rw[←e3];exact ko s2
  have ha3:H3 a=some (.lst (vN (List.range (Sound.framesOf F n)))):=by rw[←e3];exact gk ha2 hp2 (fun z=>nomatch z)
  have hp3:H3 p=some (.ins A.bO dp [("form", .ref f),("samples", .int (n:Nat)),("frame_numbers", .ref a)]):=by rw[←e3];exact ak
  intro d1 hd1
  have s4:=ng (o:= .dK []) s3 hd1
  have ha4:=aE (o:= .dK []) hd1 _ _ ha3
  have hp4:=aE (o:= .dK []) hd1 _ _ hp3
  have h14:upd H3 d1 (.dK []) d1=some (.dK []):=ak
  generalize upd H3 d1 (.dK [])=H4 at*
  refine ⟨_,rfl,p,A.bO,dp,_,rfl,hp4,T.bo,T.oW,(by show 3<1000;decide),?_⟩
  generalize e5:upd H4 p _=H5
  have s5:ae (hide p H) H5:=by rw[←e5];exact ko s4
  have ha5:H5 a=some (.lst (vN (List.range (Sound.framesOf F n)))):=by rw[←e5];exact gk ha4 hp4 (fun z=>nomatch z)
  have h15:H5 d1=some (.dK []):=by rw[←e5];exact gk h14 hp4 (fun z=>nomatch z)
  have hp5:H5 p=some (.ins A.bO dp [("form", .ref f),("samples", .int (n:Nat)),("frame_numbers", .ref a),("frames", .ref d1)]):=by rw[←e5];exact ak
  intro d2 hd2
  have n12:d1≠d2:=bZ h15 hd2
  have s6:=ng (o:= .dK []) s5 hd2
  have ha6:=aE (o:= .dK []) hd2 _ _ ha5
  have h16:=aE (o:= .dK []) hd2 _ _ h15
  have hp6:=aE (o:= .dK []) hd2 _ _ hp5
  have h26:upd H5 d2 (.dK []) d2=some (.dK []):=ak
  generalize upd H5 d2 (.dK [])=H6 at*
  refine ⟨_,rfl,p,A.bO,dp,_,rfl,hp6,T.bo,T.sC,(by show 4<1000;decide),?_⟩
  generalize e7:upd H6 p _=H7
  have s7:ae (hide p H) H7:=by rw[←e7];exact ko s6
  have ha7:H7 a=some (.lst (vN (List.range (Sound.framesOf F n)))):=by rw[←e7];exact gk ha6 hp6 (fun z=>nomatch z)
  have h17:H7 d1=some (.dK []):=by rw[←e7];exact gk h16 hp6 (fun z=>nomatch z)
  have h27:H7 d2=some (.dK []):=by rw[←e7];exact gk h26 hp6 (fun z=>nomatch z)
  have hp7:H7 p=some (.ins A.bO dp [("form", .ref f),("samples", .int (n:Nat)),("frame_numbers", .ref a),("frames", .ref d1),("sounds", .ref d2)]):=by rw[←e7];exact ak
  intro d3 hd3
  have s8:=ng (o:= .dT []) s7 hd3
  have ha8:=aE (o:= .dT []) hd3 _ _ ha7
  have h18:=aE (o:= .dT []) hd3 _ _ h17
  have h28:=aE (o:= .dT []) hd3 _ _ h27
  have hp8:=aE (o:= .dT []) hd3 _ _ hp7
  have h38:upd H7 d3 (.dT []) d3=some (.dT []):=ak
  generalize upd H7 d3 (.dT [])=H8 at*
  refine ⟨_,rfl,p,A.bO,dp,_,rfl,hp8,T.bo,T.rV,(by show 5<1000;decide),?_⟩
  have s9:ae (hide p H) (upd H8 p (.ins A.bO dp (za ⟨p,dp,f,a,d1,d2,d3,F,n⟩))):=ko s8
  exact k _ a d1 d2 d3 s9 ⟨ak,⟨df,s9 _ _ h0⟩,gk ha8 hp8 (fun z=>nomatch z),gk h18 hp8 (fun z=>nomatch z),gk h28 hp8 (fun z=>nomatch z),gk h38 hp8 (fun z=>nomatch z),fun e m=>(by cases m),fun e m=>(by cases m),n12⟩
theorem Lo (b:Sound.Bytes) (h:bg (bn (b.take 2))=19287):b.take 2=Sound.high 2 0x4B57:=by
 have hl:(b.take 2).length≤2:=by rw[List.length_take];lia
 generalize b.take 2=l at*
 match l,hl,h with
 | [],_,h=>exact absurd h (by decide)
 | [x],_,h=>
  have h:256*0+x.toNat=19287:=h
  have:=x.toNat_lt
  lia
 | [x,y],_,h=>
  have h:256*(256*0+x.toNat)+y.toNat=19287:=h
  have:=x.toNat_lt
  have:=y.toNat_lt
  have h1:x.toNat=75:=by lia
  have h2:y.toNat=87:=by lia
  have e1:x=75:=UInt8.toNat_inj.mp (by rw[h1];rfl)
  have e2:y=87:=UInt8.toNat_inj.mp (by rw[h2];rfl)
  rw[e1,e2];decide
 |_::_::_::_,hl,_=>simp at hl
theorem Ni {F:Sound.Form} {b:Sound.Bytes} {x:Sound.Frame} (h:Sound.unframe F b= .frame x):b.take 2=Sound.high 2 0x4B57:=by
 unfold Sound.unframe at h
 split at h
 ·rename_i e
  rw[pH] at e
  obtain ⟨m,l1,e0,e⟩:=bW e
  split at e
  ·cases e
  ·rename_i hm
   have hm:m=0x4B57:=Classical.byContradiction hm
   unfold Sound.takeU at e0
   split at e0
   ·cases e0
   ·injection e0 with e0 _
    have q:=uD ((b.take Sound.LONGEST)) 2
    rw[show 8*2=16 from rfl] at q
    rw[←q,vW,List.take_take,show min 2 Sound.LONGEST=2 from rfl,hm] at e0
    exact Lo b e0
 ·cases h
 ·split at h<;>cases h
theorem NC {F:Sound.Form} {n k:Nat} (hb:1≤F.block) (h:1≤Sound.frameLen F n k):k<Sound.framesOf F n:=by
 unfold Sound.frameLen at h
 unfold Sound.framesOf
 rw[Nat.lt_iff_add_one_le,Nat.le_div_iff_mul_le hb,Nat.add_mul,Nat.one_mul]
 lia
theorem Ou {F:Sound.Form} {n:Nat} {b:Sound.Bytes} (hb:1≤F.block):Sound.goodFrame F n b=eu F n (b.take 4096):=by
 unfold Sound.goodFrame eu
 rw[Ad]
 cases e:Sound.unframe F b with
 |bad=>split<;>rfl
 |short=>split<;>rfl
 |frame x=>
  dsimp only
  rw[if_neg (fun z=>z (Ni e))]
  by_cases c:x.n=Sound.frameLen F n x.k
  ·rw[if_pos c,if_pos ⟨NC hb (by have:=(y8 e).1;lia),c⟩]
  ·rw[if_neg c,if_neg (fun z=>c z.2)]
theorem Rw {F:Sound.Form} {n:Nat} {b:Sound.Bytes}:Sound.goodPiece F n b=match pieceAt b with
  |none=>none
  |some p=>if p.g<Sound.groupsOf F n∧p.j<F.spare then some (p,11+p.row.length) else none:=by
 rw[IS]
 unfold Sound.goodPiece
 cases e:Sound.takePiece b with
 |none=>rfl
 |some y=>
  obtain ⟨p,m⟩:=y
  dsimp only
  have hm:=(take_size e).1
  by_cases c:3≤p.row.length∧p.row.length≤4098
  ·rw[if_pos c]
   dsimp only
   by_cases c2:p.g<Sound.groupsOf F n∧p.j<F.spare
   ·rw[if_pos c2,if_pos ⟨c2.1,c2.2,c.1,c.2⟩,hm]
   ·rw[if_neg c2,if_neg (fun z=>c2 ⟨z.1,z.2.1⟩)]
  ·rw[if_neg c,if_neg (fun z=>c ⟨z.2.2.1,z.2.2.2⟩)]
theorem Fc {F:Sound.Form} {n:Nat} {b:Sound.Bytes} {x:UInt8} {r:Sound.Bytes} (e:b=x::r) (h:x.toNat≠75):Sound.goodFrame F n b=none∧Sound.goodPiece F n b=none:=by
 have key: ∀(y:Nat),b.take 2=Sound.high 2 (75*256+y)→y<256→False:=fun y z hy=>by
  rw[e,List.take_succ_cons] at z
  have:(Sound.high 2 (75*256+y)).head?=some x:=by rw[←z];rfl
  rw[show Sound.high 2 (75*256+y)= [UInt8.ofNat ((75*256+y)/256^1%256),UInt8.ofNat ((75*256+y)/256^0%256)] from rfl] at this
  have:=Option.some.inj this
  rw[show (75*256+y)/256^1%256=75 by lia] at this
  rw[←this] at h
  exact h rfl
 constructor
 ·unfold Sound.goodFrame
  rw[if_pos (fun z=>key 87 z (by decide))]
 ·unfold Sound.goodPiece Sound.takePiece
  simp only
  rw[if_pos (.inl (fun z=>key 80 z (by decide)))]
def tj (K:PySem.W.Frag) (A:aY) (H:Hp) (X:Fx) (L:List En) (M:List Pn) (b:Sound.Bytes) (Q:VK):Prop:=match Sound.goodFrame X.F X.n b with
 |some x=> ∀H' c D,ae (X.hd H) H'→br K A H' X (dM L ⟨x.k,x.s,b.take x.size,c,D⟩) M→Q (.int (x.size:Nat)) H'
 |none=>match Sound.goodPiece X.F X.n b with
  |some (p,m)=> ∀H' t,ae (X.hd H) H'→br K A H' X L (ft M ⟨p,t⟩)→Q (.int (m:Nat)) H'
  |none=> ∀H',ae (X.hd H) H'→br K A H' X L M→Q (.int 1) H'
def E8 (K:PySem.W.Frag) (A:aY):Sp:=fun vs H Q _=> ∃(X:Fx) (L:List En) (M:List Pn) (q:Addr) (B:Sound.Bytes) (pl:Nat),vs= [.ref X.f, .ref q, .int (pl:Nat)]∧br K A H X L M∧af K H q (vN (bn B))∧(X.F.ok=true∧B.length≤16384∧pl<B.length∧L.length≤1000000∧M.length≤1000000)∧tj K A H X L M (B.drop pl) Q
theorem uU:aG ["finds", "data", "place", "taken", "piece"] ["finds", "data", "place"] (aB CD):=⟨rfl,rfl,rfl,by decide+kernel,rfl,by decide+kernel,by decide+kernel⟩
theorem F1 (T:Txt K mg A):aA P w K mg base aQ 15 A.lH A.lA ["finds", "data", "place"] (E8 K A):=by
 refine T.AL.ok uU (fun vs H Q E h=>?_) (fun cdv Ar outer s H vs Q E hr h=>?_)
 ·obtain ⟨X,L,M,q,B,pl,rfl,_⟩:=h
  rfl
 ·obtain ⟨X,L,M,q,B,pl,rfl,hi,hq,⟨ag,hBl,hpl,hL,hM⟩,k⟩:=h
  have hr1:aF 1 _:=hr.mono (by decide)
  have hr2:aF 2 _:=hr.mono (by decide)
  have hr3:aF 3 _:=hr.mono (by decide)
  refine ⟨_,ai (bc (aU iT (bS (eP (K:=K) rfl) (pv 1) (pv 2) (fun _ _=>rfl)) (bp rfl T.Q2) (aT _)) (aj (aM ao)) bA)
   (ai (aC (i:=3) uU.nd rfl (Or.inl rfl) (aL (Cj (K:=K) T) hr rfl T.DV T.wF.kp T.x6 .nil aI (aa (aK (K:=K) rfl (pv 0) rfl) (aa (aK (K:=K) rfl (pv 0) rfl) (aa (di (eD (K:=K) rfl) (pv 1) (bV (pv 2)) (bV (aq bT (pv 2) (bp rfl T.vB)))) ah)))))
   (ai (bc (aU AH (pv 3) fh (aT _)) (ai (bR (bf (pv 0) T.bo T.xw (zS (K:=K) T) hr1 T.B1 .nil aI (aa (pv 3) (aa (di (eD (K:=K) rfl) (pv 1) (bV (pv 2)) (bV (aq bT (pv 2) (aK (K:=K) rfl (pv 3) rfl)))) ah)))) (aj (aM (aK (K:=K) rfl (pv 3) rfl)))) bA)
   (ai (aC (i:=4) uU.nd rfl (Or.inl rfl) (aL (QM (K:=K) T) hr3 rfl T.GR T.CZ.kp T.QY .nil aI (aa (pv 1) (aa (pv 2) ah))))
   (ai (bc (PW.pt (jG (aU JQ (pv 4) fh (aT _)) (jG (aU qB (aK (K:=K) rfl (pv 4) rfl) (bf (aK (K:=K) rfl (pv 0) rfl) T.bP T.Ek (zB (K:=K) T) hr2 T.El .nil aI (aa (aK (K:=K) rfl (pv 0) rfl) ah)) (aT _)) (pF (aU qB (aK (K:=K) rfl (pv 4) rfl) (aK (K:=K) rfl (aK (K:=K) rfl (pv 0) rfl) rfl) (aT _)))))) (aj (aM ao)) bA)
   (ai (bR (bf (pv 0) T.bo T.JP (Ik (K:=K) T) hr1 T.Rz .nil aI (aa (pv 4) ah)))
   (aj (aM (aK (K:=K) rfl (pv 4) rfl)))))))),?_⟩
  obtain ⟨_,_,⟨hb1,hb2⟩,_⟩:=dX ag
  have hdr:(bn B).getD pl 0=(B[pl]).toNat:=by rw[getD_at (by rw[bM];exact hpl)];simp [bn]
  refine ⟨_,rfl,_,rfl,q,_,_,_,rfl,rfl,hq,bL (dE (by rw[bM];exact hpl)),rfl,_,rfl,?_⟩
  rw[hdr]
  have hdrop:B.drop pl=B[pl]::B.drop (pl+1):=List.drop_eq_getElem_cons hpl
  unfold tj at k
  by_cases c:(B[pl]).toNat=75
  rotate_left
  ·obtain ⟨e1,e2⟩:=Fc (F:=X.F) (n:=X.n) hdrop c
   rw[e1,e2] at k
   rw[decide_eq_false (fun z=>c (by have:=V.int.inj z;lia))]
   exact aW (k H (jH X H) hi)
  rw[decide_eq_true (by rw[c];rfl)]
  refine aZ ?_
  refine az rfl hi.hf T.bo T.fj rfl (az rfl hi.hf T.bo T.kb rfl ⟨_,rfl,_,rfl,_,rfl,_,rfl,_,_,rfl,rfl,_,rfl,q,_,rfl,hq,fun D hD=>?_⟩)
  rw[show ((pl:Nat):Int)+4096=((pl+4096:Nat):Int) by lia,gg,Nat.add_sub_cancel_left,fY,eM]
  have s1:=aE (o:= .lst (vN (bn ((B.drop pl).take 4096)))) hD
  have hD1:upd H D (.lst (vN (bn ((B.drop pl).take 4096)))) D=_:=ak
  generalize upd H D (.lst (vN (bn ((B.drop pl).take 4096))))=H1 at*
  refine (gH X.fm D X.F X.n _ ⟨rfl,(hi.same s1).hm,af.of hD1,ag,?_⟩)
  rw[Ou (by lia)] at k
  have hu: ∀x,eu X.F X.n ((B.drop pl).take 4096)=some x→Sound.unframe X.F (B.drop pl)= .frame x:=fun x e=>by
   unfold eu at e
   rw[Ad] at e
   split at e
   ·rename_i e1
    split at e
    ·cases e;exact e1
    ·cases e
   ·cases e
  cases er:eu X.F X.n ((B.drop pl).take 4096) with
  |some x=>
   rw[er] at k
   dsimp only [kI] at k⊢
   intro o H2 ho s2 hx
   have s12:=s1.trans s2
   obtain ⟨do_,Do,h1,h2⟩:=id hx
   obtain ⟨hz1,hz2,hz3⟩:=qW (hu x er)
   refine ⟨_,rfl,rfl,_,rfl,?_⟩
   rw[decide_eq_false (by intro z;cases z)]
   have hi2:=hi.same s12
   refine aW (bE rfl hi2.hf rfl ⟨_,rfl,_,rfl,_,rfl,_,rfl,_,rfl,az rfl h1 T.dI T.r8 rfl ⟨_,_,rfl,rfl,_,rfl,q,_,rfl,s12.seq hq,fun D3 hD3=>?_⟩⟩)
   dsimp only
   rw[show ((pl:Nat):Int)+((x.size:Nat):Int)=((pl+x.size:Nat):Int) by lia,gg,Nat.add_sub_cancel_left,fY,eM]
   have s3:=aE (o:= .lst (vN (bn ((B.drop pl).take x.size)))) hD3
   refine (yM X L M o D3 x _ ⟨rfl,hi2.same s3,(aS do_ Do ⟨s3 _ _ h1,s3 _ _ h2⟩),ak,hL,fun H4 D4 s4 hi4=>?_⟩)
   refine az rfl (s4 _ _ ((hi2.same s3).kp (s3 _ _ h1) rfl)) T.dI T.r8 rfl (k H4 D3 D4 ?_ hi4)
   exact fun y o h=>s4 _ _ (iM (dY h).1 (s12.trans s3 _ _ (dY h).2))
  |none=>
   rw[er] at k
   dsimp only [kI] at k⊢
   intro H2 s2
   have s12:=s1.trans s2
   have hi2:=hi.same s12
   refine ⟨_,rfl,rfl,_,rfl,?_⟩
   rw[decide_eq_true rfl]
   refine aZ ⟨_,rfl,_,rfl,cV q B pl ⟨rfl,s12.seq hq,⟨hBl,by lia⟩,?_⟩⟩
   rw[Rw] at k
   unfold wu
   cases ep:pieceAt (B.drop pl) with
   |none=>
    rw[ep] at k
    dsimp only at k⊢
    intro H3 s3
    exact ⟨_,rfl,rfl,_,rfl,aW (aW (k H3 (gE (s12.trans s3)) (hi2.same s3)))⟩
   |some p=>
    rw[ep] at k
    dsimp only at k⊢
    intro t H3 s3 hp
    have hp3:=hp.same (GU H2 H3)
    have hi3:=hi2.same s3
    obtain ⟨dt,rt,ht1,ht2⟩:=id hp3
    obtain ⟨dm,hm⟩:=hi3.hm
    refine ⟨_,rfl,rfl,_,rfl,?_⟩
    rw[decide_eq_false (by intro z;cases z)]
    refine aZ (az rfl ht1 T.dQ T.uF rfl (az rfl hi3.hf T.bo T.fj rfl (mJ hm rfl (az rfl hi3.hf T.bo T.kb rfl (cV X.fm X.F X.n ⟨rfl,hi3.hm,ag,_,_,rfl,rfl,_,rfl,?_⟩)))))
    refine bX (fun c1=>?_) fun c1=>?_
    ·have c1:((Sound.groupsOf X.F X.n:Nat):Int)≤((p.g:Nat):Int):=of_decide_eq_true c1
     rw[if_neg (by lia)] at k
     exact aW (k H3 (gE (s12.trans s3)) hi3)
    ·have c1: ¬((Sound.groupsOf X.F X.n:Nat):Int)≤((p.g:Nat):Int):=fun z=>c1 (decide_eq_true z)
     refine az rfl ht1 T.dQ T.kX rfl (az rfl hi3.hf T.bo T.fj rfl (fI hm T.bP T.wI rfl ⟨_,_,rfl,rfl,_,rfl,?_⟩))
     refine bX (fun c2=>?_) fun c2=>?_
     ·have c2:((X.F.spare:Nat):Int)≤((p.j:Nat):Int):=of_decide_eq_true c2
      rw[if_neg (by lia)] at k
      exact k H3 (gE (s12.trans s3)) hi3
     ·have c2: ¬((X.F.spare:Nat):Int)≤((p.j:Nat):Int):=fun z=>c2 (decide_eq_true z)
      rw[if_pos (by lia)] at k
      dsimp only at k
      refine bE rfl hi3.hf rfl ⟨_,rfl,gH X L M t p ⟨rfl,hi3,hp3,hM,fun H4 s4 hi4=>?_⟩⟩
      refine az rfl (s4 _ _ (hi3.kp ht1 rfl)) T.dQ T.DX rfl (k H4 t ?_ hi4)
      exact fun y o h=>s4 _ _ (iM (dY h).1 (s12.trans s3 _ _ (dY h).2))
def bH (L:List En) (M:List Pn):Sound.Found:=⟨L.map En.x,M.map fun e=>e.p⟩
theorem tT (L:List En) (M:List Pn) (k:Nat):Sound.frameFound (bH L M) k=(aH L k).map En.x:=by
 unfold Sound.frameFound bH aH
 rw[List.find?_map];rfl
theorem any_eq (L:List En) (M:List Pn) (g j:Nat):((bH L M).pieces.any fun (q:Sound.Piece)=>q.g==g&&q.j==j)=(dc M g j).isSome:=by
 unfold bH dc
 rw[List.any_map,List.isSome_find?];rfl
theorem IY (L:List En) (M:List Pn) (e:En):bH (dM L e) M=if (Sound.frameFound (bH L M) e.k).isSome=true then bH L M else ⟨(bH L M).frames++ [e.x],(bH L M).pieces⟩:=by
 rw[tT,Option.isSome_map]
 unfold dM
 split
 ·rfl
 ·unfold bH;rw[List.map_append];rfl
theorem GK (L:List En) (M:List Pn) (e:Pn):bH L (ft M e)=if ((bH L M).pieces.any fun (q:Sound.Piece)=>q.g==e.p.g&&q.j==e.p.j)=true then bH L M else ⟨(bH L M).frames,(bH L M).pieces++ [e.p]⟩:=by
 rw[any_eq]
 unfold ft
 split
 ·rfl
 ·unfold bH;rw[List.map_append];rfl
theorem yY {L:List En} {e y:En} (h:y∈dM L e):y∈L∨y=e:=by
 unfold dM at h
 split at h
 ·exact .inl h
 ·rcases List.mem_append.mp h with h|h
  ·exact .inl h
  ·exact .inr (List.mem_singleton.mp h)
theorem GZ {M:List Pn} {e y:Pn} (h:y∈ft M e):y∈M∨y=e:=by
 unfold ft at h
 split at h
 ·exact .inl h
 ·rcases List.mem_append.mp h with h|h
  ·exact .inl h
  ·exact .inr (List.mem_singleton.mp h)
def bx (e:En):Prop:=1≤e.B.length∧e.B.length≤4096∧e.s.length≤2560
def gu (F:Sound.Form) (e:Pn):Prop:=e.p.j<F.spare∧3≤e.p.row.length∧e.p.row.length≤4098
theorem PN (F:Sound.Form) (n k:Nat) (b:Sound.Bytes) (w:Sound.Found) (h:b≠ []):Sound.search F n (k+1) b w=match Sound.goodFrame F n b with
  |some x=>Sound.search F n k (b.drop x.size) (if (Sound.frameFound w x.k).isSome=true then w else ⟨w.frames++ [(x.k,x.s,b.take x.size)],w.pieces⟩)
  |none=>match Sound.goodPiece F n b with
   |some (p,m)=>Sound.search F n k (b.drop m) (if (w.pieces.any fun (q:Sound.Piece)=>q.g==p.g&&q.j==p.j)=true then w else ⟨w.frames,w.pieces++ [p]⟩)
   |none=>Sound.search F n k (b.drop 1) w:=by
 conv=>lhs;unfold Sound.search
 rw[if_neg (by simpa using h)]
 cases Sound.goodFrame F n b with
 |some x=>rfl
 |none=>cases Sound.goodPiece F n b<;>rfl
theorem Jp (F:Sound.Form) (n k:Nat) (w:Sound.Found):Sound.search F n (k+1) [] w=w:=by
 unfold Sound.search;rfl
theorem KH {F:Sound.Form} {n:Nat} {b:Sound.Bytes} {x:Sound.Frame} (ag:F.ok=true) (h:Sound.goodFrame F n b=some x):(2≤x.size∧x.size≤4096∧x.size≤b.length)∧x.s.length≤2560:=by
 unfold Sound.goodFrame at h
 split at h
 ·cases h
 ·split at h
  ·rename_i e
   split at h
   ·cases h;exact ⟨qW e,xJ ag e⟩
   ·cases h
  ·cases h
theorem G5 {F:Sound.Form} {n m:Nat} {b:Sound.Bytes} {p:Sound.Piece} (h:Sound.goodPiece F n b=some (p,m)):(11≤m∧m≤b.length)∧p.j<F.spare∧3≤p.row.length∧p.row.length≤4098:=by
 unfold Sound.goodPiece at h
 split at h
 ·rename_i e
  split at h
  ·rename_i c
   cases h
   have:=take_size e
   exact ⟨⟨by lia,by lia⟩,c.2.1,c.2.2.1,c.2.2.2⟩
  ·cases h
 ·cases h
def NT (K:PySem.W.Frag) (A:aY):Sp:=fun vs H Q _=> ∃(X:Fx) (q:Addr) (B:Sound.Bytes),vs= [.ref X.f, .ref q]∧br K A H X [] []∧af K H q (vN (bn B))∧(X.F.ok=true∧B.length≤16384)∧
 ∀H' L M,ae (X.hd H) H'→br K A H' X L M→Sound.search X.F X.n (B.length+1) B ⟨[], []⟩=bH L M→L.length≤16384→(∀e∈L,bx e)→(∀e∈M,gu X.F e)→Q .au H'
theorem sQ:aG ["finds", "data", "place"] ["finds", "data"] (aB z7):=⟨rfl,rfl,rfl,by decide+kernel,rfl,by decide+kernel,by decide+kernel⟩
theorem Lp (T:Txt K mg A):aA P w K mg base aQ 16 A.n6 A.oP ["finds", "data"] (NT K A):=by
 refine T.BX.ok sQ (fun vs H Q E h=>?_) (fun cdv Ar outer s H vs Q E hr h=>?_)
 ·obtain ⟨X,q,B,rfl,_⟩:=h
  rfl
 ·obtain ⟨X,q,B,rfl,hi,hq,⟨ag,hBl⟩,k⟩:=h
  refine ⟨_,ai (aC (i:=2) sQ.nd rfl (Or.inl rfl) ao)
   (aj (yR PassesOwn.never (aU nX (pv 2) (bQ (dq (K:=K) rfl) (by rfl) T.b6 PySem.boot_len (aa (pv 1) ah)) (aT _))
    (aj (f7 (i:=2) sQ.nd rfl (Or.inl rfl) (aL (F1 (K:=K) T) hr rfl T.PZ T.AL.kp T.Es .nil aI (aa (pv 0) (aa (pv 1) (aa (pv 2) ah)))) qF)))),?_⟩
  refine zF (fun σ H'=> ∃(pl fuel:Nat) (L:List En) (M:List Pn),σ= [some (.ref X.f),some (.ref q),some (.int (pl:Nat))]∧(pl≤B.length∧B.length-pl<fuel∧L.length≤pl∧M.length≤pl)∧Sound.search X.F X.n (B.length+1) B ⟨[], []⟩=Sound.search X.F X.n fuel (B.drop pl) (bH L M)∧(ae (X.hd H) H'∧br K A H' X L M)∧(∀e∈L,bx e)∧ ∀e∈M,gu X.F e) (qH 2 B.length)
   (cC 0 (B.length+1) ([]) ([]) ⟨rfl,⟨Nat.zero_le _,by lia,Nat.le_refl _,Nat.le_refl _⟩,rfl,⟨jH X H,hi⟩,fun e m=>(by cases m),fun e m=>(by cases m)⟩) ?_
  rintro σ H1 ⟨pl,fuel,L,M,rfl,⟨hpl,hfu,hL,hM⟩,heq,⟨s1,hi1⟩,hE,hP⟩ C hT hN
  refine ⟨_,rfl,_,rfl,q,_,rfl, .inl (hi.seq s1 hq),_,_,rfl,rfl,_,rfl,?_⟩
  rw[aR,bM]
  obtain ⟨fuel,rfl⟩: ∃m,fuel=m+1:=⟨fuel-1,by lia⟩
  by_cases hc:((pl:Nat):Int)<((B.length:Nat):Int)
  ·rw[decide_eq_true hc]
   refine hT _ ?_
   have hne:B.drop pl≠ []:=fun z=>by
    have:=congrArg List.length z
    rw[List.length_drop] at this;simp at this;lia
   rw[PN _ _ _ _ _ hne] at heq
   refine ⟨_,rfl,_,rfl,_,rfl,_,rfl,jn X L M q B pl ⟨rfl,hi1,hi.seq s1 hq,⟨ag,hBl,by lia,by lia,by lia⟩,?_⟩⟩
   have fin: ∀(z:Nat) H2 L' M',ae (X.hd H1) H2→br K A H2 X L' M'→(1≤z∧pl+z≤B.length)→L'.length≤L.length+1→M'.length≤M.length+1→Sound.search X.F X.n (B.length+1) B ⟨[], []⟩=Sound.search X.F X.n fuel ((B.drop pl).drop z) (bH L' M')→(∀e∈L',bx e)→(∀e∈M',gu X.F e)→
     (∃(pl' fuel:Nat) (L:List En) (M:List Pn), [some (V.ref X.f),some (.ref q),some (.int (((pl:Nat):Int)+((z:Nat):Int)))]= [some (.ref X.f),some (.ref q),some (.int (pl':Nat))]∧(pl'≤B.length∧B.length-pl'<fuel∧L.length≤pl'∧M.length≤pl')∧Sound.search X.F X.n (B.length+1) B ⟨[], []⟩=Sound.search X.F X.n fuel (B.drop pl') (bH L M)∧(ae (X.hd H) H2∧br K A H2 X L M)∧(∀e∈L,bx e)∧ ∀e∈M,gu X.F e)∧
      qH 2 B.length [some (V.ref X.f),some (.ref q),some (.int (((pl:Nat):Int)+((z:Nat):Int)))] H2<qH 2 B.length [some (V.ref X.f),some (.ref q),some (.int (pl:Nat))] H1:=by
    intro z H2 L' M' s2 hi2 hz hL' hM' heq' hE' hP'
    refine ⟨(cC (pl+z) fuel L' M' ⟨?_,⟨by lia,by lia,by lia,by lia⟩,?_,⟨qJ s1 s2,hi2⟩,hE',hP'⟩),?_⟩
    ·rw[show ((pl:Nat):Int)+((z:Nat):Int)=((pl+z:Nat):Int) by lia]
    ·rw[heq',List.drop_drop]
    ·show B.length-(((pl:Nat):Int)+((z:Nat):Int)).toNat<B.length-((pl:Nat):Int).toNat
     lia
   have hdl:(B.drop pl).length=B.length-pl:=List.length_drop
   unfold tj
   cases e1:Sound.goodFrame X.F X.n (B.drop pl) with
   |some x=>
    rw[e1] at heq
    dsimp only at heq⊢
    obtain ⟨⟨z1,z2,z3⟩,z4⟩:=KH ag e1
    intro H2 c D s2 hi2
    refine ⟨_,_,rfl,rfl,fin x.size H2 _ M s2 hi2 ⟨by lia,by lia⟩ (yq _ _) (by lia) ?_ (fun e m=>?_) hP⟩
    ·rw[heq,IY];rfl
    ·rcases yY m with m|rfl
     ·exact hE e m
     ·refine ⟨?_,?_,z4⟩
      ·show 1≤((B.drop pl).take x.size).length
       rw[List.length_take];lia
      ·show ((B.drop pl).take x.size).length≤4096
       rw[List.length_take];lia
   |none=>
    rw[e1] at heq
    dsimp only at heq⊢
    cases e2:Sound.goodPiece X.F X.n (B.drop pl) with
    |some y=>
     obtain ⟨p,m⟩:=y
     rw[e2] at heq
     dsimp only at heq⊢
     obtain ⟨⟨z1,z2⟩,z4⟩:=G5 e2
     intro H2 t s2 hi2
     refine ⟨_,_,rfl,rfl,fin m H2 L _ s2 hi2 ⟨by lia,by lia⟩ (by lia) (La _ _) ?_ hE (fun e m=>?_)⟩
     ·rw[heq,GK]
     ·rcases GZ m with m|rfl
      ·exact hP e m
      ·exact z4
    |none=>
     rw[e2] at heq
     dsimp only at heq⊢
     intro H2 s2 hi2
     exact ⟨_,_,rfl,rfl,fin 1 H2 L M s2 hi2 ⟨by lia,by lia⟩ (by lia) (by lia) heq hE hP⟩
  ·rw[decide_eq_false hc]
   refine hN _ (k H1 L M s1 hi1 ?_ (by lia) hE hP)
   rw[heq,List.drop_of_length_le (by lia),Jp]
theorem vX {α β:Type} (f:Nat→Option α) (h:α→β) (d:β): ∀l:List Nat,(l.filter fun i=>(f i).isSome).map (fun i=>((f i).map h).getD d)=(l.filterMap f).map h
 | []=>rfl
 |i::l=>by
  rw[List.filter_cons,List.filterMap_cons]
  cases e:f i with
  |none=>exact vX f h d l
  |some y=>
   rw[Option.isSome_some,if_pos rfl,List.map_cons,List.map_cons,vX f h d l,e];rfl
theorem Nn {α:Type} (l:List α) (d:α):(List.range l.length).map (fun i=>l.getD i d)=l:=by
 refine List.ext_getElem (by simp) fun i h1 h2=>?_
 simp [List.getD_eq_getElem?_getD,List.getElem?_eq_getElem h2]
theorem RQ {α β:Type} (l:List α) (d:α) (c:α→Bool) (h:α→β):((List.range l.length).filter fun i=>c (l.getD i d)).map (fun i=>h (l.getD i d))=(l.filter c).map h:=by
 conv=>rhs;rw[←Nn l d,List.filter_map,List.map_map]
 rfl
def cN (F:Sound.Form) (M:List Pn) (g:Nat):List Pn:=(List.range F.spare).filterMap fun j=>dc M g j
def d7:Pn:=⟨fS,0⟩
def cnt (l:List Pn):List Pn:=l.filter fun e=>e.p.row.length==(l.getD 0 d7).p.row.length
theorem nW {M:List Pn} {g j:Nat} {e:Pn} (h:dc M g j=some e):e∈M∧e.p.g=g∧e.p.j=j:=by
 unfold dc at h
 have h1:=List.mem_of_find?_eq_some h
 have h2:=List.find?_some h
 rw[Bool.and_eq_true,beq_iff_eq,beq_iff_eq] at h2
 exact ⟨h1,h2⟩
theorem N4 {F:Sound.Form} {L:List En} {M:List Pn} {g:Nat} (hs:F.spare≤4) (hM: ∀e∈M,gu F e):Sound.groupPieces (bH L M) g=(cnt (cN F M g)).map fun e=>e.p:=by
 have e1:(List.range 4).filterMap (fun (j:Nat)=>(bH L M).pieces.find? fun (p:Sound.Piece)=>p.g==g&&p.j==j)=(cN F M g).map fun e=>e.p:=by
  have e2:(fun (j:Nat)=>(bH L M).pieces.find? fun (p:Sound.Piece)=>p.g==g&&p.j==j)=fun j=>(dc M g j).map fun e=>e.p:=by
   funext j
   unfold bH dc
   rw[List.find?_map];rfl
  rw[e2]
  unfold cN
  rw[List.map_filterMap]
  have:List.range 4=List.range F.spare++(List.range (4-F.spare)).map (F.spare+ ·):=by
   rw[←List.range_add,show F.spare+(4-F.spare)=4 by lia]
  rw[this,List.filterMap_append]
  have z:((List.range (4-F.spare)).map (F.spare+ ·)).filterMap (fun j=>(dc M g j).map fun e=>e.p)= []:=by
   rw[List.filterMap_eq_nil_iff]
   intro j hj
   obtain ⟨i,_,rfl⟩:=List.mem_map.mp hj
   cases e:dc M g (F.spare+i) with
   |none=>rfl
   |some y=>
    obtain ⟨h1,_,h3⟩:=nW e
    have:=(hM y h1).1
    lia
  rw[z,List.append_nil]
 unfold Sound.groupPieces
 simp only
 rw[e1]
 unfold cnt
 rw[List.filter_map]
 have e3:(((cN F M g).map fun e=>e.p).headD ⟨0,0, []⟩)=((cN F M g).getD 0 d7).p:=by
  cases cN F M g<;>rfl
 rw[e3];rfl
theorem O2 {F:Sound.Form} {M:List Pn} {g:Nat} (hs:F.spare≤4) (hM: ∀e∈M,gu F e):l0 g ((cnt (cN F M g)).map fun e=>e.p):=by
 have h1: ∀e∈cN F M g,z8 g e.p:=fun e he=>by
  unfold cN at he
  obtain ⟨j,hj,h⟩:=List.mem_filterMap.mp he
  obtain ⟨h1,h2,h3⟩:=nW h
  obtain ⟨q1,q2,q3⟩:=hM e h1
  exact ⟨h2,by lia,q2,q3⟩
 have h2:(cN F M g).Pairwise fun p q=>p.p.j≠q.p.j:=by
  unfold cN
  rw[List.pairwise_filterMap]
  refine List.pairwise_lt_range.imp fun {a b} hab x hx y hy=>?_
  rw[(nW hx).2.2,(nW hy).2.2];lia
 have hm: ∀e∈cnt (cN F M g),e∈cN F M g∧e.p.row.length=((cN F M g).getD 0 d7).p.row.length:=fun e he=>by
  obtain ⟨q1,q2⟩:=List.mem_filter.mp he
  exact ⟨q1,beq_iff_eq.mp q2⟩
 constructor
 ·intro p hp
  obtain ⟨e,he,rfl⟩:=List.mem_map.mp hp
  exact h1 e (hm e he).1
 ·rw[List.pairwise_map]
  refine List.Pairwise.imp_of_mem (R:=fun p q:Pn=>p.p.j≠q.p.j) (fun {a b} ha hb q=>⟨q,?_⟩) (h2.filter _)
  rw[(hm a ha).2,(hm b hb).2]
def Gh (K:PySem.W.Frag) (A:aY):Sp:=fun vs H Q _=> ∃(X:Fx) (L:List En) (M:List Pn) (g:Nat),vs= [.ref X.f, .int (g:Nat)]∧br K A H X L M∧X.F.ok=true∧
 ∀D H',ae H H'→Bc K A.cE H' D ((cnt (cN X.F M g)).map fun e=>e.p)→Q (.ref D) H'
theorem iy:aG ["finds", "g", "keys", "pieces", "j", "key", "piece"] ["finds", "g"] (aB AS):=⟨rfl,rfl,rfl,by decide+kernel,rfl,by decide+kernel,by decide+kernel⟩
theorem E4 (T:Txt K mg A):aA P w K mg base aQ 1 A.oJ A.lF ["finds", "g"] (Gh K A):=by
 refine T.CM.ok iy (fun vs H Q E h=>?_) (fun cdv Ar outer s H vs Q E hr h=>?_)
 ·obtain ⟨X,L,M,g,rfl,_⟩:=h
  rfl
 ·obtain ⟨X,L,M,g,rfl,hi,ag,k⟩:=h
  refine ⟨_,ai (mj (i:=2) (own:= [("j",4)]) rfl iy.nd rfl rfl rfl (eN rfl T.dJ (aa (aK (K:=K) rfl (aK (K:=K) rfl (pv 0) rfl) rfl) ah)) (cv (by kernel_rfl))
    (fun _ _ _ _ _=>aN (i:=4) iy.nd rfl (Or.inl rfl)) (fun _ _ _ _ _=>c9) (fun _ _ _ _ _=>kf (aa (pv 1) (aa (pv 4) ah))))
   (ai (aC (i:=3) iy.nd rfl (Or.inr rfl) (dB (own:= [("key",5)]) rfl iy.nd (dn (K:=K) rfl (pv 2)) (cv (by kernel_rfl))
    (fun _ _ _ _ _=>aN (i:=5) iy.nd rfl (Or.inl rfl)) (fun _ _ _ _ _=>qA (qj (Et (gP hr) (pv 5) (aK (K:=K) rfl (pv 0) rfl)))) (fun _ _ _ _ _=>Ep (gP hr) (aK (K:=K) rfl (pv 0) rfl) (pv 5) (fun _ _=>rfl))))
   (aj (aM (dB (own:= [("piece",6)]) rfl iy.nd (dn (K:=K) rfl (pv 3)) (cv (by kernel_rfl))
    (fun _ _ _ _ _=>aN (i:=6) iy.nd rfl (Or.inl rfl)) (fun _ _ _ _ _=>qA (aU cH (bQ (wG (K:=K) rfl) (by rfl) T.b6 PySem.boot_len (aa (aK (K:=K) rfl (pv 6) rfl) ah)) (bQ (wG (K:=K) rfl) (by rfl) T.b6 PySem.boot_len (aa (aK (K:=K) rfl (bS (eP (K:=K) rfl) (pv 3) ao (fun _ _=>rfl)) rfl) ah)) (aT _))) (fun _ _ _ _ _=>pv 6))))),?_⟩
  obtain ⟨_,_,_,_,_,hsp⟩:=dX ag
  obtain ⟨dm,hm⟩:=hi.hm
  refine az rfl hi.hf T.bo T.fj rfl (fI hm T.bP T.wI rfl ⟨_,rfl,by lia,by lia,fun D hD=>?_⟩)
  rw[Int.toNat_natCast]
  refine j7 (J:=jq 0 X.F.spare) hD X.F.spare (by rw[sizeLine_eq];lia) (fun i v H'=> ∃b,v= .ref b∧H' b=some (.tup (([Sum.inl ((g:Nat):Int),Sum.inl ((i:Nat):Int)]:List Key).map kV))) (fun i v Ha Hb _ sab ⟨b,e1,e2⟩=>⟨b,e1,sab _ _ e2⟩) (fun i Hh hi t1=>?_) (fun Hh t1=>?_) ?_ ?_
  ·exact hi
  ·exact Nat.le_refl _
  ·rintro i Hh z H' hii t1 ⟨acc,hacc⟩ ⟨rfl,rfl⟩ C hC
   refine ⟨rfl,_,rfl,_,rfl,by rw[sizeLine_eq];show 2≤_;lia,fun p hp=>hC _ _ (aE hp) ⟨p,rfl,?_⟩⟩
   rw[hide_ne (fun z=>by rw[z,hacc] at hp;cases hp),ak,Int.zero_add];rfl
  ·intro H1 ks s1 hkl hks hD1
   have hi1:=hi.same s1
   refine ⟨_,rfl,D,rfl,⟨_,af.of hD1⟩,fun D2 hD2=>?_⟩
   refine rY (J:=cY K D) hD2 X.F.spare (by rw[sizeLine_eq];lia) (fun i=>(dc M g i).isSome) (fun i=>((dc M g i).map fun e=>V.ref e.a).getD .au) (fun i Hh hii t1=>(aS _ _ ⟨t1.seq (af.of hD1),List.getElem?_eq_getElem (by lia)⟩)) (fun Hh t1=>⟨_,t1.seq (af.of hD1),by lia⟩) ?_ ?_
   ·rintro i Hh z H' hii t1 ⟨rfl,hz⟩ C N hC hN
    obtain ⟨b,rfl,hb⟩:=hks i z (hz _ (t1.seq (af.of hD1)))
    have hih:=hi1.same t1
    have dg:=cg.t hih.h3 (t1 _ _ hb)
    rw[vh] at dg
    refine ⟨rfl,_,rfl,az rfl hih.hf T.bo T.rV rfl (aS _ _ ⟨rfl,dg,_,rfl,?_⟩)⟩
    cases e:dc M g i with
    |none=>
     rw[e] at hN
     exact aZ (hN rfl _ (ae.refl _))
    |some y=>
     rw[e] at hC dg
     exact aW (az rfl hih.hf T.bo T.rV rfl ⟨_,rfl,aS _ _ ⟨rfl,dg,hC rfl _ (ae.refl _)⟩⟩)
   ·intro H2 s2 hD2'
    rw[vX] at hD2'
    have hi2:=hi1.same s2
    have hpl:(cN X.F M g).length≤X.F.spare:=by
     have:=List.length_filterMap_le (fun j=>dc M g j) (List.range X.F.spare)
     rwa [List.length_range] at this
    have hpm: ∀e∈cN X.F M g,e∈M:=fun e he=>by
     obtain ⟨j,_,h⟩:=List.mem_filterMap.mp he
     exact (nW h).1
    have hD2':H2 D2=some (.lst ((cN X.F M g).map fun e=>V.ref e.a)):=hD2'
    generalize hPl:cN X.F M g=Pl at*
    have get: ∀i,i<Pl.length→(Pl.map fun e=>V.ref e.a)[i]?=some (.ref (Pl.getD i d7).a)∧gY K A.cE H2 (Pl.getD i d7).a (Pl.getD i d7).p:=fun i hil=>by
     have e:Pl.getD i d7=Pl[i]:=by rw[List.getD_eq_getElem?_getD,List.getElem?_eq_getElem hil];rfl
     rw[e,List.getElem?_map,List.getElem?_eq_getElem hil]
     exact ⟨rfl,hi2.hp _ (hpm _ (List.getElem_mem hil))⟩
    refine ⟨_,rfl,D2,rfl,⟨_,af.of hD2'⟩,fun D3 hD3=>?_⟩
    refine rY (J:=cY K D2) hD3 Pl.length (by rw[sizeLine_eq];lia) (fun i=>(Pl.getD i d7).p.row.length==(Pl.getD 0 d7).p.row.length) (fun i=> .ref (Pl.getD i d7).a) (fun i Hh hii t1=>(aS _ _ ⟨t1.seq (af.of hD2'),(get i hii).1⟩)) (fun Hh t1=>⟨_,t1.seq (af.of hD2'),by rw[List.length_map];lia⟩) ?_ ?_
    ·rintro i Hh z H' hii t1 ⟨rfl,hz⟩ C N hC hN
     have hz:=hz _ (t1.seq (af.of hD2'))
     rw[(get i hii).1] at hz
     cases hz
     obtain ⟨d1,r1,q1,q2⟩:=(get i hii).2.same t1
     obtain ⟨d0,r0,p1,p2⟩:=(get 0 (by lia)).2.same t1
     refine ⟨rfl,az rfl q1 T.dQ T.oZ rfl ⟨_,_,rfl, .inl (af.of q2),_,rfl,D2,_,_,_,rfl,rfl,t1.seq (af.of hD2'),bL (j:=0) (get 0 (by lia)).1,fI p1 T.dQ T.oZ rfl ⟨_,_,rfl, .inl (af.of p2),rfl,_,rfl,?_⟩⟩⟩
     rw[aR,aR,bM,bM]
     by_cases c:(Pl.getD i d7).p.row.length=(Pl.getD 0 d7).p.row.length
     ·rw[decide_eq_true (by rw[c])]
      exact aW ⟨_,rfl,hC (by rw[c,beq_self_eq_true]) _ (ae.refl _)⟩
     ·rw[decide_eq_false (fun z=>c (by have:=V.int.inj z;lia))]
      exact aZ (hN (beq_false_of_ne c) _ (ae.refl _))
    ·intro H3 s3 hD3'
     rw[RQ Pl d7 (fun e=>e.p.row.length==(Pl.getD 0 d7).p.row.length) fun e=>V.ref e.a] at hD3'
     have hD3':H3 D3=some (.lst ((cnt Pl).map fun e=>V.ref e.a)):=hD3'
     refine k D3 H3 (s1.trans (s2.trans s3)) ⟨(cnt Pl).map fun e=>e.a,af.of (by rw[hD3',List.map_map];rfl),by rw[List.length_map,List.length_map],fun i a e=>?_⟩
     rw[List.getElem?_map] at e
     rw[List.getD_eq_getElem?_getD,List.getElem?_map]
     cases ee:(cnt Pl)[i]? with
     |none=>rw[ee] at e;cases e
     |some y=>
      rw[ee] at e
      cases e
      exact (hi2.same s3).hp y (hpm y (List.mem_filter.mp (List.mem_of_getElem? ee)).1)
def gL (F:Sound.Form) (n k:Nat) (B:Sound.Bytes):Option Sound.Frame:=match eu F n B with
 |some x=>if x.k=k∧x.size=B.length then some x else none
 |none=>none
def wC (K:PySem.W.Frag) (A:aY) (H:Hp) (X:Fx) (L:List En) (M:List Pn) (k:Nat) (b:Addr) (B:Sound.Bytes) (Q:VK):Prop:=match gL X.F X.n k B with
 |some x=> ∀H' D,ae (X.hd H) H'→br K A H' X (dM L ⟨k,x.s,B,b,D⟩) M→Q .au H'
 |none=> ∀H',ae (X.hd H) H'→br K A H' X L M→Q .au H'
def Oe (K:PySem.W.Frag) (A:aY):Sp:=fun vs H Q _=> ∃(X:Fx) (L:List En) (M:List Pn) (k:Nat) (b:Addr) (B:Sound.Bytes),vs= [.ref X.f, .int (k:Nat), .ref b]∧br K A H X L M∧H b=some (.lst (vN (bn B)))∧(X.F.ok=true∧L.length≤1000000)∧wC K A H X L M k b B Q
theorem BV:aG ["finds", "k", "written", "taken"] ["finds", "k", "written"] (aB Dz):=⟨rfl,rfl,rfl,by decide+kernel,rfl,by decide+kernel,by decide+kernel⟩
theorem GC (T:Txt K mg A):aA P w K mg base aQ 15 A.kZ A.o7 ["finds", "k", "written"] (Oe K A):=by
 refine T.Al.ok BV (fun vs H Q E h=>?_) (fun cdv Ar outer s H vs Q E hr h=>?_)
 ·obtain ⟨X,L,M,k,b,B,rfl,_⟩:=h
  rfl
 ·obtain ⟨X,L,M,k,b,B,rfl,hi,hb,⟨ag,hL⟩,q⟩:=h
  have hr1:aF 1 _:=hr.mono (by decide)
  refine ⟨_,ai (aC (i:=3) BV.nd rfl (Or.inl rfl) (aL (Cj (K:=K) T) hr rfl T.DV T.wF.kp T.x6 .nil aI (aa (aK (K:=K) rfl (pv 0) rfl) (aa (aK (K:=K) rfl (pv 0) rfl) (aa (pv 2) ah)))))
   (aj (bc (PW.pt (Cp (aU AH (pv 3) fh (aT _)) (Cp (aU cH (aK (K:=K) rfl (pv 3) rfl) (pv 1) (aT _)) (Fj (aU cH (aK (K:=K) rfl (pv 3) rfl) (bQ (dq (K:=K) rfl) (by rfl) T.b6 PySem.boot_len (aa (pv 2) ah)) (aT _))))))
    (aj (bR (bf (pv 0) T.bo T.xw (zS (K:=K) T) hr1 T.B1 .nil aI (aa (pv 3) (aa (pv 2) ah))))) bA)),?_⟩
  refine az rfl hi.hf T.bo T.fj rfl (az rfl hi.hf T.bo T.kb rfl ⟨_,rfl,gH X.fm b X.F X.n B ⟨rfl,hi.hm,af.of hb,ag,?_⟩⟩)
  unfold wC gL at q
  cases e:eu X.F X.n B with
  |none=>
   rw[e] at q
   dsimp only [kI] at q⊢
   intro H1 s1
   refine ⟨_,rfl,rfl,_,rfl,?_⟩
   rw[decide_eq_true rfl]
   exact aZ (aZ (q H1 (gE s1) (hi.same s1)))
  |some x=>
   rw[e] at q
   dsimp only [kI] at q⊢
   intro o H1 ho s1 hx
   have hi1:=hi.same s1
   obtain ⟨do_,Do,h1,h2⟩:=id hx
   refine ⟨_,rfl,rfl,_,rfl,?_⟩
   rw[decide_eq_false (by intro z;cases z)]
   refine aW (az rfl h1 T.dI T.jT rfl ⟨_,rfl,rfl,_,rfl,?_⟩)
   by_cases c1:x.k=k
   rotate_left
   ·rw[decide_eq_false (fun z=>c1 (by have:=V.int.inj z;lia))]
    rw[if_neg (fun z=>c1 z.1)] at q
    exact aZ (aZ (q H1 (gE s1) hi1))
   rw[decide_eq_true (by rw[c1])]
   refine aW (az rfl h1 T.dI T.r8 rfl ⟨_,rfl,b,_,rfl, .inl (af.of (s1 _ _ hb)),rfl,_,rfl,?_⟩)
   rw[aR,bM]
   by_cases c2:x.size=B.length
   rotate_left
   ·rw[decide_eq_false (fun z=>c2 (by have:=V.int.inj z;lia))]
    rw[if_neg (fun z=>c2 z.2)] at q
    exact aZ (q H1 (gE s1) hi1)
   rw[decide_eq_true (by rw[c2])]
   rw[if_pos ⟨c1,c2⟩] at q
   dsimp only at q
   subst c1
   exact aW (bE rfl hi1.hf rfl ⟨_,rfl,_,rfl,yM X L M o b x B ⟨rfl,hi1,hx,s1 _ _ hb,hL,fun H2 D s2 hi2=>q H2 D (fun y o h=>s2 _ _ (iM (dY h).1 (s1 _ _ (dY h).2))) hi2⟩⟩)
def cq (F:Sound.Form) (n g:Nat):Nat:=min F.group (Sound.framesOf F n-g*F.group)
def cS (F:Sound.Form) (n:Nat) (L:List En) (g:Nat):List Sound.Bytes:=(List.range (cq F n g)).map fun i=>((aH L (g*F.group+i)).map fun e=>e.B).getD []
theorem Qg (F:Sound.Form) (n:Nat) (L:List En) (M:List Pn) (g:Nat):Sound.groupFound F n (bH L M) g=cS F n L g:=by
 unfold Sound.groupFound cS cq
 refine List.map_congr_left fun i _=>?_
 rw[tT,Option.map_map];rfl
theorem uJ (F:Sound.Form) (n:Nat) (L:List En) (g:Nat):(cS F n L g).length=cq F n g:=by unfold cS;rw[List.length_map,List.length_range]
theorem BG {F:Sound.Form} {n:Nat} {L:List En} {g i:Nat} (h:i<cq F n g):(cS F n L g).getD i []=((aH L (g*F.group+i)).map fun e=>e.B).getD []:=by
 unfold cS
 rw[List.getD_eq_getElem?_getD,List.getElem?_map,List.getElem?_range h];rfl
theorem kq {L:List En} {k:Nat} {e:En} (h:aH L k=some e):e∈L∧e.k=k:=by
 unfold aH at h
 have h2:=List.find?_some h
 exact ⟨List.mem_of_find?_eq_some h,beq_iff_eq.mp h2⟩
theorem G6 {F:Sound.Form} {n:Nat} {L:List En} {g:Nat} (hE: ∀e∈L,bx e): ∀b∈cS F n L g,b.length≤4096:=fun b hb=>by
 obtain ⟨i,_,rfl⟩:=List.mem_map.mp hb
 cases e:aH L (g*F.group+i) with
 |none=>exact Nat.zero_le _
 |some y=>exact (hE y (kq e).1).2.1
theorem N7 {F:Sound.Form} {n:Nat} {L:List En} {g:Nat} (hE: ∀e∈L,bx e):Sound.lostOf (cS F n L g)=(List.range (cq F n g)).filter fun i=>!(aH L (g*F.group+i)).isSome:=by
 rw[nc,uJ]
 refine List.filter_congr fun i hi=>?_
 rw[BG (List.mem_range.mp hi)]
 cases e:aH L (g*F.group+i) with
 |none=>rfl
 |some y=>
  have:=(hE y (kq e).1).1
  exact beq_false_of_ne (by show y.B.length≠0;lia)
def bk (F:Sound.Form) (n:Nat) (L:List En) (made:List Sound.Bytes) (a i:Nat):Option (List Int):=match aH L (a+i) with
 |some e=>some e.s
 |none=>(gL F n (a+i) (made.getD i [])).map fun x=>x.s
def iI (fs:List Sound.Bytes) (ps:List Sound.Piece):List Sound.Bytes:=if (Sound.lostOf fs).isEmpty=true∨ps.length<(Sound.lostOf fs).length then [] else (Sound.anew fs ps).getD []
theorem A9 (F:Sound.Form) (n:Nat):eu F n []=none:=by
 unfold eu
 split
 ·rename_i e
  have:=qW e
  simp at this;lia
 ·rfl
theorem Fw (F:Sound.Form) (n:Nat) (L:List En) (M:List Pn) (g:Nat):Sound.groupBack F n (bH L M) g=(List.range (cq F n g)).map fun i=>bk F n L (iI (cS F n L g) (Sound.groupPieces (bH L M) g)) (g*F.group) i:=by
 unfold Sound.groupBack
 simp only
 rw[Qg,uJ]
 refine List.map_congr_left fun i _=>?_
 unfold bk iI
 rw[tT]
 generalize (if (Sound.lostOf (cS F n L g)).isEmpty=true∨(Sound.groupPieces (bH L M) g).length<(Sound.lostOf (cS F n L g)).length then ([]:List Sound.Bytes) else (Sound.anew (cS F n L g) (Sound.groupPieces (bH L M) g)).getD [])=made
 cases aH L (g*F.group+i) with
 |some e=>rfl
 |none=>
  dsimp only [Option.map_none]
  generalize made.getD i []=b
  unfold gL
  split
  ·rename_i c
   rw[List.isEmpty_iff.mp c,A9];rfl
  ·unfold eu
   cases Sound.unframe F b with
   |bad=>rfl
   |short=>rfl
   |frame x=>
    dsimp only
    by_cases c1:x.k=g*F.group+i
    ·rw[←c1]
     by_cases c2:x.n=Sound.frameLen F n x.k
     ·rw[if_pos c2]
      dsimp only
      by_cases c3:x.size=b.length
      ·rw[if_pos ⟨rfl,c2,c3⟩,if_pos ⟨rfl,c3⟩];rfl
      ·rw[if_neg (fun z=>c3 z.2.2),if_neg (fun z=>c3 z.2)];rfl
     ·rw[if_neg c2,if_neg (fun z=>c2 z.2.1)];rfl
    ·rw[if_neg (fun z=>c1 z.1)]
     split
     ·rename_i e
      split at e
      ·cases e;rw[if_neg (fun z=>c1 z.1)];rfl
      ·cases e
     ·rfl
theorem xo (F:Sound.Form) (n:Nat) (L:List En) (a i:Nat):(aH L (a+i)).map (fun e=>e.s)=bk F n L [] a i:=by
 unfold bk
 cases aH L (a+i) with
 |some e=>rfl
 |none=>
  unfold gL
  rw[show ([]:List Sound.Bytes).getD i []= [] from rfl,A9];rfl
theorem zA (L:List En) (e:En) (k:Nat):aH (dM L e) k=if e.k=k then (match aH L k with|some y=>some y|none=>some e) else aH L k:=by
 by_cases c:e.k=k
 ·rw[if_pos c]
  cases h:aH L k with
  |some y=>rw[Cz (y:=y) (by rw[c];exact h)];exact h
  |none=>
   rw[Bm (by rw[c];exact h)]
   unfold aH at h⊢
   rw[List.find?_append,h,Option.none_or,List.find?_cons,c,beq_self_eq_true]
 ·rw[if_neg c]
  unfold dM
  split
  ·rfl
  ·unfold aH
   rw[List.find?_append,List.find?_cons,beq_false_of_ne c]
   cases L.find? fun e=>e.k==k<;>rfl
theorem Kj (N a m:Nat):((List.range N).drop a).take m=(List.range (min m (N-a))).map (a+ ·):=by
 refine List.ext_getElem ?_ fun i h1 h2=>?_
 ·rw[List.length_take,List.length_drop,List.length_range,List.length_map,List.length_range]
 ·rw[List.getElem_take,List.getElem_drop,List.getElem_range,List.getElem_map,List.getElem_range]
theorem F0 {F:Sound.Form} {n:Nat} {B:Sound.Bytes} {x:Sound.Frame} (ag:F.ok=true) (h:eu F n B=some x):x.s.length≤2560∧2≤x.size:=by
 unfold eu at h
 split at h
 ·rename_i e
  split at h
  ·cases h;exact ⟨xJ ag e,(qW e).1⟩
  ·cases h
 ·cases h
theorem P4 {F:Sound.Form} {n k:Nat} {B:Sound.Bytes} {x:Sound.Frame} (ag:F.ok=true) (h:gL F n k B=some x):x.s.length≤2560∧1≤B.length:=by
 unfold gL at h
 split at h
 ·rename_i y e
  split at h
  ·rename_i c
   cases h
   have:=F0 ag e
   exact ⟨this.1,by lia⟩
  ·cases h
 ·cases h
theorem GI {H:Hp} {xs:List V} {f:Nat→List V} (h: ∀(k:Nat) (v:V),xs[k]?=some v→ ∃b,v= .ref b∧H b=some (.lst (f k))): ∃bs:List Addr,xs=bs.map V.ref∧ ∀(k:Nat) (b:Addr),bs[k]?=some b→H b=some (.lst (f k)):=by
 refine ⟨xs.map fun v=>match v with| .ref b=>b|_=>0,?_,fun k b e=>?_⟩
 ·refine List.ext_getElem (by simp) fun k k1 k2=>?_
  simp at k2
  obtain ⟨b,hb,_⟩:=h k _ (List.getElem?_eq_getElem k2)
  simp [hb]
 ·rw[List.getElem?_map] at e
  obtain ⟨v,hv,rfl⟩:=Option.map_eq_some_iff.mp e
  obtain ⟨b,rfl,hb⟩:=h k v hv
  exact hb
theorem Fo {F:Sound.Form} {n g:Nat} (hg1:1≤F.group) (hg:g<Sound.groupsOf F n):1≤cq F n g:=by
 unfold Sound.groupsOf at hg
 rw[Nat.lt_iff_add_one_le,Nat.le_div_iff_mul_le hg1,Nat.add_mul,Nat.one_mul] at hg
 unfold cq
 lia
structure AO (F:Sound.Form) (n g:Nat) (L:List En) (M:List Pn) (L':List En):Prop where
 out: ∀k,(k<g*F.group∨g*F.group+cq F n g≤k)→aH L' k=aH L k
 ins: ∀i,i<cq F n g→(aH L' (g*F.group+i)).map (fun e=>e.s)=bk F n L (iI (cS F n L g) (Sound.groupPieces (bH L M) g)) (g*F.group) i
 len:L'.length≤L.length+8
 ok: ∀e∈L',bx e
def P6 (K:PySem.W.Frag) (A:aY):Sp:=fun vs H Q _=> ∃(X:Fx) (L:List En) (M:List Pn) (g:Nat),vs= [.ref X.f, .int (g:Nat)]∧br K A H X L M∧(X.F.ok=true∧X.n≤2048∧g<Sound.groupsOf X.F X.n∧L.length≤500000)∧((∀e∈L,bx e)∧ ∀e∈M,gu X.F e)∧
 ∀H' L',ae (X.hd H) H'→br K A H' X L' M→AO X.F X.n g L M L'→Q .au H'
theorem gp:aG ["finds", "g", "first", "group", "lost", "pieces", "whole", "k"] ["finds", "g"] (aB yl):=⟨rfl,rfl,rfl,by decide+kernel,rfl,by decide+kernel,by decide+kernel⟩
theorem R9 (T:Txt K mg A):aA P w K mg base aQ 16 A.oH A.oq ["finds", "g"] (P6 K A):=by
 refine T.CU.ok gp (fun vs H Q E h=>?_) (fun cdv Ar outer s H vs Q E hr h=>?_)
 ·obtain ⟨X,L,M,g,rfl,_⟩:=h
  rfl
 ·obtain ⟨X,L,M,g,rfl,hi,⟨ag,hn,hg,hL⟩,⟨hE,hM⟩,q⟩:=h
  have hr1:aF 1 _:=hr.mono (by decide)
  have hr5:aF 5 _:=hr.mono (by decide)
  refine ⟨_,ai (aC (i:=2) gp.nd rfl (Or.inl rfl) (aq gz (pv 1) (aK (K:=K) rfl (aK (K:=K) rfl (pv 0) rfl) rfl)))
   (ai (aC (i:=3) gp.nd rfl (Or.inl rfl) (di (eD (K:=K) rfl) (aK (K:=K) rfl (pv 0) rfl) (bV (pv 2)) (bV (aq bT (pv 2) (aK (K:=K) rfl (aK (K:=K) rfl (pv 0) rfl) rfl)))))
   (ai (mj (i:=4) (own:= [("k",7)]) rfl gp.nd rfl rfl rfl (dn (K:=K) rfl (pv 3)) (cv (by kernel_rfl))
    (fun _ _ _ _ _=>aN (i:=7) gp.nd rfl (Or.inl rfl)) (fun _ _ _ _ _=>qA (qj (zT (gP hr) (pv 7) (aK (K:=K) rfl (pv 0) rfl)))) (fun _ _ _ _ _=>pv 7))
   (ai (aC (i:=5) gp.nd rfl (Or.inl rfl) (aL (E4 (K:=K) T) hr1 rfl T.G0 T.CM.kp T.GH .nil aI (aa (pv 0) (aa (pv 1) ah))))
   (ai (bc (jj (vI gI gI ao (bQ (dq (K:=K) rfl) (by rfl) T.b6 PySem.boot_len (aa (pv 4) ah)) (bQ (dq (K:=K) rfl) (by rfl) T.b6 PySem.boot_len (aa (pv 5) ah)))) (aj vP) bA)
   (ai (tD rfl rfl rfl (fun E pn xe hp ho=>aj (aC (i:=6) gp.nd rfl (Or.inl rfl) (uI (Oq (K:=K) T) hr5 rfl T.N2 T.CH.kp T.JH .nil hp
     (aa (dB (own:= [("k",7)]) rfl gp.nd (dn (K:=K) rfl (pv 3)) (cv (by kernel_rfl)) (fun _ _ _ _ _=>aN (i:=7) gp.nd rfl (Or.inl rfl)) (fun _ _ _ _ _=>c9)
      (fun _ _ _ _ _=>Ck (gP hr) (aK (K:=K) rfl (pv 0) rfl) (pv 7) (dy ah) ⟨rfl,rfl,rfl,rfl⟩))
     (aa (di (eD (K:=K) rfl) (pv 5) iz (bV (bQ (dq (K:=K) rfl) (by rfl) T.b6 PySem.boot_len (aa (pv 4) ah)))) ah)))))
    (Km rfl T.tM rfl T.vx (fun x ps n _=>aj vP)))
   (aj (cj PassesOwn.never rfl (dn (K:=K) rfl (pv 4)) (aN (i:=7) gp.nd rfl (Or.inl rfl))
    (aj (bR (aL (GC (K:=K) T) hr rfl T.Rj T.Al.kp T.JF .nil aI (aa (pv 0) (aa (pv 7) (aa (bS (eP (K:=K) rfl) (pv 6) (aq cZ (pv 7) (pv 2)) (fun _ _=>rfl)) ah))))))))))))),?_⟩
  obtain ⟨_,_,⟨hb1,hb2⟩,_,⟨hg1,hg2⟩,hsp⟩:=dX ag
  obtain ⟨dm,hm⟩:=hi.hm
  have hm1:1≤cq X.F X.n g:=Fo (by lia) hg
  have hm8:cq X.F X.n g≤8:=by unfold cq;lia
  have hgk:g≤2048:=by
   have h1:g*1≤g*X.F.group:=Nat.mul_le_mul_left _ hg1
   have h2:=ou X.n (F:=X.F) (by lia)
   unfold cq at hm1
   lia
  refine ⟨_,rfl,az rfl hi.hf T.bo T.fj rfl (fI hm T.bP T.ox rfl ⟨_,_,rfl,rfl, .inr ⟨by lia,by lia⟩,?_⟩)⟩
  dsimp only
  rw[←Int.natCast_mul]
  refine az rfl hi.hf T.bo T.sE rfl ⟨_,rfl,_,rfl,_,rfl,az rfl hi.hf T.bo T.fj rfl (fI hm T.bP T.ox rfl ⟨_,_,rfl,rfl,_,rfl,X.a,_,rfl,af.of hi.ha,fun D1 hD1=>?_⟩)⟩
  dsimp only
  rw[show ((g*X.F.group:Nat):Int)+((X.F.group:Nat):Int)=((g*X.F.group+X.F.group:Nat):Int) by lia,gg,Nat.add_sub_cancel_left,Kj]
  have hR:=fun L'=>AO.mk (F:=X.F) (n:=X.n) (g:=g) (L:=L) (M:=M) (L':=L')
  have hlf:=N7 (F:=X.F) (n:=X.n) (g:=g) hE
  have hfl:=uJ X.F X.n L g
  have hfg:=fun i (h:i<cq X.F X.n g)=>BG (F:=X.F) (n:=X.n) (L:=L) (g:=g) h
  have hfm:=G6 (F:=X.F) (n:=X.n) (g:=g) hE
  rw[show min X.F.group (Sound.framesOf X.F X.n-g*X.F.group)=cq X.F X.n g from rfl]
  rw[N4 hsp hM] at hR
  have hT:=O2 (g:=g) hsp hM
  have hll:=fun i=>nB (fs:=cS X.F X.n L g) i
  have hso:=DL (cS X.F X.n L g)
  generalize cq X.F X.n g=m at*
  generalize cS X.F X.n L g=fs at*
  generalize g*X.F.group=a at*
  have s1:=aE (o:= .lst (vN ((List.range m).map (a+ ·)))) hD1
  have hD1':upd H D1 (.lst (vN ((List.range m).map (a+ ·)))) D1=_:=ak
  generalize upd H D1 (.lst (vN ((List.range m).map (a+ ·))))=H1 at*
  have hi1:=hi.same s1
  have gget: ∀i,i<m→(vN ((List.range m).map (a+ ·)))[i]?=some (.int ((a+i:Nat):Int)):=fun i h=>by
   rw[dE (by rw[List.length_map,List.length_range];exact h),List.getD_eq_getElem?_getD,List.getElem?_map,List.getElem?_range h];rfl
  have glen:(vN ((List.range m).map (a+ ·))).length=m:=by rw[aR,List.length_map,List.length_range]
  refine ⟨_,rfl,D1,rfl,⟨_,af.of hD1'⟩,fun D2 hD2=>?_⟩
  refine rY (J:=cY K D1) hD2 m (by rw[sizeLine_eq];lia) (fun i=>!(aH L (a+i)).isSome) (fun i=> .int ((a+i:Nat):Int)) (fun i Hh hii t1=>(aS _ _ ⟨t1.seq (af.of hD1'),gget i hii⟩)) (fun Hh t1=>⟨_,t1.seq (af.of hD1'),by lia⟩) ?_ ?_
  ·rintro i Hh z H' hii t1 ⟨rfl,hz⟩ C N hC hN
   have hz:=hz _ (t1.seq (af.of hD1'))
   rw[gget i hii] at hz
   cases hz
   have hih:=hi1.same t1
   have dg:=cg.k (k:=Sum.inl ((a+i:Nat):Int)) hih.h1
   rw[mK] at dg
   refine ⟨rfl,_,rfl,az rfl hih.hf T.bo T.oW rfl (aS _ _ ⟨rfl,dg,_,rfl,?_⟩)⟩
   cases e:aH L (a+i) with
   |none=>
    rw[e] at hC
    exact aW ⟨_,rfl,hC rfl _ (ae.refl _)⟩
   |some y=>
    rw[e] at hN
    exact aZ (hN rfl _ (ae.refl _))
  intro H2 s2 hD2'
  have elk:((List.range m).filter fun i=>!(aH L (a+i)).isSome).map (fun i=>V.int ((a+i:Nat):Int))=vN ((Sound.lostOf fs).map (a+ ·)):=by
   rw[←hlf];unfold vN;rw[List.map_map];rfl
  rw[elk] at hD2'
  have s12:=s1.trans s2
  have hi2:=hi.same s12
  refine ⟨_,rfl,_,rfl,cC X L M g ⟨rfl,hi2,ag,fun D4 H4 s4 hP=>?_⟩⟩
  generalize hps:(cnt (cN X.F M g)).map (fun e=>e.p)=ps at*
  have s14:=s12.trans s4
  have hi4:=hi.same s14
  have hD4:=s4 _ _ hD2'
  have hD14:=(s2.trans s4) _ _ hD1'
  obtain ⟨pa,hpa1,hpa2,hpa3⟩:=id hP
  have stop:((Sound.lostOf fs).length=0∨ps.length<(Sound.lostOf fs).length)→Q .au H4:=fun c=>by
   refine q H4 L (gE s14) hi4 (hR L (fun _ _=>rfl) (fun i _=>?_) (by lia) hE)
   have:iI fs ps= []:=by
    unfold iI
    rw[if_pos]
    rcases c with c|c
    ·exact .inl (by rw[List.isEmpty_iff];exact List.length_eq_zero_iff.mp c)
    ·exact .inr c
   rw[this]
   exact xo X.F X.n L a i
  refine ⟨_,rfl,D2,_,rfl, .inl (af.of hD4),_,_,rfl,rfl,_,rfl,?_⟩
  rw[aR,List.length_map]
  by_cases c1:(1:Int)≤(((Sound.lostOf fs).length:Nat):Int)
  rotate_left
  ·rw[decide_eq_false c1]
   exact aZ ⟨_,rfl,aW (stop (.inl (by lia)))⟩
  rw[decide_eq_true c1]
  refine aW ⟨_,rfl,D4,_,rfl, .inl hpa1,_,_,rfl,rfl,_,rfl,?_⟩
  rw[List.length_map,hpa2]
  by_cases c2:(((Sound.lostOf fs).length:Nat):Int)≤((ps.length:Nat):Int)
  rotate_left
  ·rw[decide_eq_false c2]
   exact aW (stop (.inr (by lia)))
  rw[decide_eq_true c2]
  refine aZ ⟨_,rfl,D1,rfl,⟨_,af.of hD14⟩,fun D5 hD5=>?_⟩
  refine j7 (J:=cY K D1) hD5 m (by rw[sizeLine_eq];lia) (fun i v H'=> ∃b,v= .ref b∧H' b=some (.lst (vN (bn (fs.getD i []))))) (fun i v Ha Hb _ sab ⟨b,e1,e2⟩=>⟨b,e1,sab _ _ e2⟩) (fun i Hh hii t1=>(aS _ _ ⟨t1.seq (af.of hD14),gget i hii⟩)) (fun Hh t1=>⟨_,t1.seq (af.of hD14),by lia⟩) ?_ ?_
  ·rintro i Hh z H' hii t1 ⟨acc,hacc⟩ ⟨rfl,hz⟩ C hC
   have hz:=hz _ (t1.seq (af.of hD14))
   rw[gget i hii] at hz
   cases hz
   have hih:=hi4.same t1
   refine ⟨rfl,az rfl hih.hf T.bo T.oW rfl ⟨_,rfl, .inl ⟨_, .inl hih.h1⟩,_,rfl,by rw[sizeLine_eq];show 0≤_;lia,fun p hp=>?_⟩⟩
   have sp:=aE (o:= .lst []) hp
   have dg:=cg.k (k:=Sum.inl ((a+i:Nat):Int)) (hih.same sp).h1
   rw[mK] at dg
   refine ⟨_,dg,hC _ _ sp ?_⟩
   rw[hfg i hii]
   cases e:aH L (a+i) with
   |none=>exact ⟨p,rfl,by rw[hide_ne (fun z=>by rw[z,hacc] at hp;cases hp),ak];rfl⟩
   |some y=>
    have hy:=(hi4.he y (kq e).1).1
    exact ⟨y.b,rfl,by rw[hide_ne (bZ hy hD5)];exact sp _ _ (t1 _ _ hy)⟩
  intro H5 xs s5 hxl hxp hD5'
  obtain ⟨bs,rfl,hbs⟩:=GI (f:=fun i=>vN (bn (fs.getD i []))) hxp
  rw[List.length_map] at hxl
  have s15:=s14.trans s5
  refine ⟨_,rfl,_,rfl,D2,_,rfl, .inl (af.of (s5 _ _ hD4)),_,rfl,D4,_,rfl,s5.seq hpa1,fun p6 hp6=>?_⟩
  rw[aR,List.length_map,J2,←List.map_take]
  have s6:=aE (o:= .lst ((pa.take (Sound.lostOf fs).length).map V.ref)) hp6
  have s16:=s15.trans s6
  refine (gH D5 p6 g fs (ps.take (Sound.lostOf fs).length) ⟨rfl,⟨bs,s6 _ _ hD5',by rw[iQ];lia,fun i b e=>by rw[k7];exact s6 _ _ (hbs i b e)⟩,⟨_,af.of ak,by rw[List.length_take,List.length_take,hpa2],fun kk b ee=>?_⟩,⟨⟨by lia,by lia⟩,hfm⟩,⟨OE hT _,by rw[List.length_take];lia,by rw[List.length_take];lia⟩,?_⟩)
  ·have hkk:kk<(Sound.lostOf fs).length:=by
    have:=(List.getElem?_eq_some_iff.mp ee).1
    rw[List.length_take] at this;lia
   rw[List.getElem?_take,if_pos hkk] at ee
   rw[List.getD_eq_getElem?_getD,List.getElem?_take,if_pos hkk,←List.getD_eq_getElem?_getD]
   exact (hpa3 kk b ee).same (s5.trans s6)
  rw[Gf (by lia)]
  have hmo:iI fs ps=(Sound.anew fs ps).getD []:=by
   unfold iI
   rw[if_neg]
   rintro (z|z)
   ·rw[List.isEmpty_iff.mp z] at c1;exact absurd c1 (by decide)
   ·lia
  rw[hmo] at hR
  generalize upd H5 p6 (.lst ((pa.take (Sound.lostOf fs).length).map V.ref))=H6 at*
  cases en:Sound.anew fs ps with
  |none=>
   rw[en] at hR
   intro H7 s7
   refine ⟨rfl,q H7 L (gE (s16.trans s7)) (hi.same (s16.trans s7)) (hR L (fun _ _=>rfl) (fun i _=>xo X.F X.n L a i) (by lia) hE)⟩
  |some l=>
   rw[en] at hR
   obtain ⟨hl1,hl2⟩:=O9 hfm en
   intro D7 H7 hD7 s7 hR7
   obtain ⟨wa,hw1,hw2,hw3⟩:=hR7
   rw[iQ] at hw2
   have s17:=s16.trans s7
   have hi7:=hi.same s17
   have hD27:=(s5.trans (s6.trans s7)) _ _ hD4
   refine ⟨_,rfl,D2,rfl,⟨_,af.of hD27⟩,?_⟩
   generalize hlk:(Sound.lostOf fs).map (a+ ·)=lk at*
   have hlkl:lk.length=(Sound.lostOf fs).length:=by rw[←hlk,List.length_map]
   have hlkg: ∀j,j<lk.length→ ∃i,lk.getD j 0=a+i∧i<m∧aH L (a+i)=none:=fun j hj=>by
    have hj':j<(Sound.lostOf fs).length:=by lia
    have e:lk.getD j 0=a+(Sound.lostOf fs).getD j 0:=by
     rw[List.getD_eq_getElem?_getD,←hlk,List.getElem?_map,List.getElem?_eq_getElem hj',getD_at hj'];rfl
    have hmem:(Sound.lostOf fs).getD j 0∈Sound.lostOf fs:=by rw[getD_at hj'];exact List.getElem_mem _
    generalize (Sound.lostOf fs).getD j 0=i at*
    refine ⟨i,e,by have:=hll _ hmem;lia,?_⟩
    rw[hlf] at hmem
    have h2:=(List.mem_filter.mp hmem).2
    cases e3:aH L (a+i) with
    |none=>rfl
    |some y=>rw[e3] at h2;cases h2
   have hlkn: ∀j,j<lk.length→lk.getD j 0∉lk.take j:=fun j hj z=>by
    obtain ⟨i,hi',e⟩:=List.getElem_of_mem z
    rw[List.length_take] at hi'
    rw[List.getElem_take,getD_at hj] at e
    have pw:lk.Pairwise (· < ·):=by rw[←hlk,List.pairwise_map];exact hso.imp fun h=>by lia
    have:=List.pairwise_iff_getElem.mp pw i j (by lia) hj (by lia)
    lia
   refine fA (K:=K) (a:=D2) (xs:=vN lk) (fun j σ H'=> ∃(Lj:List En) (v7:Option V),σ= [some (.ref X.f),some (.int (g:Nat)),some (.int (a:Nat)),some (.ref D1),some (.ref D2),some (.ref D4),some (.ref D7),v7]∧(ae (X.hd H7) H'∧br K A H' X Lj M)∧(Lj.length≤L.length+j∧ ∀e∈Lj,bx e)∧(∀k,k∉lk.take j→aH Lj k=aH L k)∧ ∀k∈lk.take j,(aH Lj k).map (fun e=>e.s)=(gL X.F X.n k (l.getD (k-a) [])).map fun x=>x.s)
    (aS L none ⟨rfl,⟨jH X H7,hi7⟩,⟨Nat.le_refl _,hE⟩,fun _ _=>rfl,fun k h=>(by cases h)⟩) (fun j σ H' _ ⟨Lj,v7,_,⟨s',_⟩,_⟩=>hi7.seq s' (af.of hD27)) ?_ ?_
   ·rintro j x σ H8 hj ⟨Lj,v7,rfl,⟨s8,hi8⟩,⟨hl8,hE8⟩,h1,h2⟩
    obtain ⟨rfl,hjl⟩:=dD hj
    obtain ⟨i,ei,him,hin⟩:=hlkg j hjl
    have hnot:=hlkn j hjl
    have htk:lk.take (j+1)=lk.take j++ [lk.getD j 0]:=by rw[List.take_succ,List.getElem?_eq_getElem hjl,getD_at hjl];rfl
    rw[ei] at hnot htk⊢
    obtain ⟨b,hb1',hb2'⟩:=e9 (as:=wa) (i:=i) (by lia)
    have hbw:=hw3 i b hb2'
    rw[k7] at hbw
    have hbl:(l.getD i []).length≤4096:=hl2 _ (by rw[List.getD_eq_getElem?_getD,List.getElem?_eq_getElem (by lia)];exact List.getElem_mem _)
    refine ⟨_,rfl,_,rfl,_,rfl,_,rfl,_,rfl,_,_,rfl,rfl,D7,_,i,_,rfl,?_,hi7.seq s8 (af.of hw1),bL hb1',?_⟩
    ·show V.int (((a+i:Nat):Int)-((a:Nat):Int))=_
     congr 1;lia
    refine (jn X Lj M (a+i) b (l.getD i []) ⟨rfl,hi8,s8 _ _ (hi7.kp hbw rfl),⟨ag,by have:lk.length≤8:=(by rw[hlkl,hlf];have:=List.length_filter_le (fun i=>!(aH L (a+i)).isSome) (List.range m);rw[List.length_range] at this;lia);lia⟩,?_⟩)
    unfold wC
    have hfn:=h1 _ hnot
    rw[hin] at hfn
    cases em:gL X.F X.n (a+i) (l.getD i []) with
    |none=>
     intro H9 s9 hi9
     refine (aS Lj _ ⟨rfl,⟨qJ s8 s9,hi9⟩,⟨by lia,hE8⟩,fun k hk=>?_,fun k hk=>?_⟩)
     ·exact h1 k fun z=>hk (by rw[htk];exact List.mem_append_left _ z)
     ·rw[htk] at hk
      rcases List.mem_append.mp hk with hk|hk
      ·exact h2 k hk
      ·rw[List.mem_singleton.mp hk,Nat.add_sub_cancel_left,em,hfn];rfl
    |some y=>
     obtain ⟨hy1,hy2⟩:=P4 ag em
     intro H9 D9 s9 hi9
     refine (aS _ _ ⟨rfl,⟨qJ s8 s9,hi9⟩,⟨by have:=yq Lj ⟨a+i,y.s,l.getD i [],b,D9⟩;lia,fun e he=>?_⟩,fun k hk=>?_,fun k hk=>?_⟩)
     ·rcases yY he with he|rfl
      ·exact hE8 e he
      ·exact ⟨hy2,hbl,hy1⟩
     ·rw[htk] at hk
      rw[zA,if_neg (fun z=>hk (List.mem_append_right _ (List.mem_singleton.mpr z.symm)))]
      exact h1 k fun z=>hk (List.mem_append_left _ z)
     ·rw[zA]
      by_cases ck:a+i=k
      ·rw[if_pos ck,←ck,hfn,Nat.add_sub_cancel_left,em];rfl
      ·rw[if_neg ck]
       rw[htk] at hk
       rcases List.mem_append.mp hk with hk|hk
       ·exact h2 k hk
       ·exact absurd (List.mem_singleton.mp hk).symm ck
   ·rintro σ H8 ⟨Lj,v7,rfl,⟨s8,hi8⟩,⟨hl8,hE8⟩,h1,h2⟩
    rw[aR,List.take_length] at h1 h2
    rw[aR] at hl8
    have hl8':lk.length≤8:=by rw[hlkl,hlf];have:=List.length_filter_le (fun i=>!(aH L (a+i)).isSome) (List.range m);rw[List.length_range] at this;lia
    have hmem: ∀i,i<m→aH L (a+i)=none→a+i∈lk:=fun i h e=>by
     rw[←hlk,hlf]
     exact List.mem_map.mpr ⟨i,List.mem_filter.mpr ⟨List.mem_range.mpr h,by rw[e];rfl⟩,rfl⟩
    have hout: ∀k∈lk,∃i,k=a+i∧i<m∧aH L (a+i)=none:=fun k hk=>by
     obtain ⟨j,hj,rfl⟩:=List.getElem_of_mem hk
     rw[←getD_at hj];exact hlkg j hj
    refine q H8 Lj (fun y o h=>s8 _ _ (iM (dY h).1 (s17 _ _ (dY h).2))) hi8 (hR Lj (fun k hk=>h1 k fun z=>?_) (fun i him=>?_) (by lia) hE8)
    ·obtain ⟨i,rfl,him,_⟩:=hout k z
     lia
    ·show _=bk X.F X.n L l a i
     unfold bk
     cases e:aH L (a+i) with
     |none=>
      have:=h2 _ (hmem i him e)
      rw[Nat.add_sub_cancel_left] at this
      exact this
     |some y=>
      rw[h1 (a+i) fun z=>?_,e];rfl
      obtain ⟨i',e1,_,e2⟩:=hout _ z
      have:i=i':=by lia
      rw[this,e2] at e;cases e
theorem AI {α:Type} (f:Nat→α) (N gr:Nat): ∀G:Nat,(List.range G).flatMap (fun g=>(List.range (min gr (N-g*gr))).map fun i=>f (g*gr+i))=(List.range (min N (G*gr))).map f
 |0=>by simp
 |G+1=>by
  rw[List.range_succ,List.flatMap_append,AI f N gr G,List.flatMap_cons,List.flatMap_nil,List.append_nil]
  by_cases c:G*gr≤N
  ·have e:min N ((G+1)*gr)=G*gr+min gr (N-G*gr):=by rw[Nat.add_mul,Nat.one_mul];lia
   rw[e,Nat.min_eq_right c,List.range_add,List.map_append,List.map_map];rfl
  ·rw[show N-G*gr=0 by lia,Nat.min_zero,List.range_zero,List.map_nil,List.append_nil]
   have:N≤(G+1)*gr:=by rw[Nat.add_mul];lia
   rw[Nat.min_eq_left this,Nat.min_eq_left (by lia)]
theorem Rf {F:Sound.Form} {n:Nat} (hg:1≤F.group):Sound.framesOf F n≤Sound.groupsOf F n*F.group:=by
 unfold Sound.groupsOf
 generalize Sound.framesOf F n=N
 have:=Nat.div_add_mod (N+F.group-1) F.group
 have h2:=Nat.mod_lt (N+F.group-1) (show F.group>0 by lia)
 rw[Nat.mul_comm] at this
 lia
theorem JB {F:Sound.Form} {n g:Nat} {L L':List En} (h: ∀k,g*F.group≤k→aH L k=aH L' k):cS F n L g=cS F n L' g:=by
 unfold cS
 exact List.map_congr_left fun i _=>by rw[h _ (Nat.le_add_right _ _)]
theorem NA {F:Sound.Form} {n g i:Nat} {L L':List En} {m:List Sound.Bytes} (h: ∀k,g*F.group≤k→aH L k=aH L' k):bk F n L m (g*F.group) i=bk F n L' m (g*F.group) i:=by
 unfold bk
 rw[h _ (Nat.le_add_right _ _)]
def Cn (F:Sound.Form) (n:Nat) (L:List En) (M:List Pn) (g i:Nat):Option (List Int):=bk F n L (iI (cS F n L g) (Sound.groupPieces (bH L M) g)) (g*F.group) i
theorem Ov {F:Sound.Form} {n:Nat} {B:Sound.Bytes} {L0 L:List En} {M:List Pn} (hg:1≤F.group) (hs:Sound.search F n (B.length+1) B ⟨[], []⟩=bH L0 M)
  (h: ∀g,g<Sound.groupsOf F n→ ∀i,i<cq F n g→(aH L (g*F.group+i)).map (fun e=>e.s)=Cn F n L0 M g i):Sound.mended F n B=(List.range (Sound.framesOf F n)).map fun k=>(aH L k).map fun e=>e.s:=by
 unfold Sound.mended
 simp only
 rw[hs,←Nat.min_eq_left (Rf (n:=n) hg),←AI (fun k=>(aH L k).map fun e=>e.s)]
 rw[List.flatMap_def,List.flatMap_def]
 congr 1
 refine List.map_congr_left fun g hg'=>?_
 rw[Fw]
 refine List.map_congr_left fun i hi=>?_
 exact (h g (List.mem_range.mp hg') i (List.mem_range.mp hi)).symm
def Fh (K:PySem.W.Frag) (A:aY):Sp:=fun vs H Q _=> ∃(f q:Addr) (F:Sound.Form) (n:Nat) (B:Sound.Bytes),vs= [.ref f, .int (n:Nat), .ref q]∧d5 A.bj H f F∧af K H q (vN (bn B))∧(F.ok=true∧n≤2048∧B.length≤16384)∧
 ∀X H' L M,br K A H' X L M→X.F=F→X.n=n→(∀e∈L,bx e)→Sound.mended F n B=(List.range (Sound.framesOf F n)).map (fun k=>(aH L k).map fun e=>e.s)→Q (.ref X.f) H'
theorem tX:aG ["form", "samples", "data", "finds", "g"] ["form", "samples", "data"] (aB yA):=⟨rfl,rfl,rfl,by decide+kernel,rfl,by decide+kernel,by decide+kernel⟩
theorem Pe (T:Txt K mg A):aA P w K mg base aQ 17 A.k8 A.mB ["form", "samples", "data"] (Fh K A):=by
 refine T.xV.ok tX (fun vs H Q E h=>?_) (fun cdv Ar outer s H vs Q E hr h=>?_)
 ·obtain ⟨f,q,F,n,B,rfl,_⟩:=h
  rfl
 ·obtain ⟨f,q,F,n,B,rfl,hF,hq,⟨ag,hn,hBl⟩,k⟩:=h
  have hr2:aF 2 _:=hr.mono (by decide)
  have hr3:aF 3 _:=hr.mono (by decide)
  refine ⟨_,ai (aC (i:=3) tX.nd rfl (Or.inl rfl) (gN T.OU (IG (K:=K) T) hr3 rfl T.Jc T.EH .nil aI (aa (pv 0) (aa (pv 1) ah))))
   (ai (bR (aL (Lp (K:=K) T) hr rfl T.FL T.BX.kp T.K1 .nil aI (aa (pv 3) (aa (pv 2) ah))))
   (ai (cj PassesOwn.never rfl (eN rfl T.dJ (aa (bf (pv 0) T.bP T.Ek (zB (K:=K) T) hr2 T.El .nil aI (aa (pv 1) ah)) ah)) (aN (i:=4) tX.nd rfl (Or.inl rfl))
    (aj (bR (aL (R9 (K:=K) T) hr rfl T.KO T.CU.kp T.Pw .nil aI (aa (pv 3) (aa (pv 4) ah))))))
   (aj (aM (pv 3))))),?_⟩
  obtain ⟨_,_,⟨hb1,hb2⟩,_,⟨hg1,hg2⟩,hsp⟩:=dX ag
  obtain ⟨df,hf⟩:=id hF
  refine ⟨_,rfl,_,rfl,fun x dx hx hdx hne=>?_⟩
  have sm:ae H (upd (upd H dx (.own x)) x (.ins A.bO dx [])):=eG hx hdx
  refine (gH x dx f F n ⟨rfl,ak,⟨df,sm _ _ hf⟩,⟨ag,hn⟩,fun H1 a d1 d2 d3 s1 hi1=>⟨rfl,?_⟩⟩)
  have s01:ae H H1:=fun y o e=>s1 y o (by rw[hide_ne (bZ e hx)];exact sm y o e)
  generalize hX:(⟨x,dx,f,a,d1,d2,d3,F,n⟩:Fx)=X at*
  rw[show x=X.f by rw[←hX]]
  have eF:X.F=F:=by rw[←hX]
  have en:X.n=n:=by rw[←hX]
  have ef:X.fm=f:=by rw[←hX]
  refine ⟨_,rfl,_,rfl,cV X q B ⟨rfl,hi1,s01.seq hq,⟨by rw[eF];exact ag,hBl⟩,fun H2 L0 M s2 hi2 hsr hL0 hE0 hM=>?_⟩⟩
  have hf2:=s2 _ _ (hi1.kp (s01 _ _ hf) rfl)
  refine bE rfl hf2 rfl ⟨_,rfl,cV f F n ⟨rfl,⟨df,hf2⟩,ag,_,rfl,by lia,by have h2:=ou n (F:=F) (by lia);have:Sound.groupsOf F n≤Sound.framesOf F n+F.group-1:=Nat.div_le_self _ _;lia,?_⟩⟩
  rw[Int.toNat_natCast]
  have hGl:Sound.groupsOf F n≤2056:=by have h2:=ou n (F:=F) (by lia);have:Sound.groupsOf F n≤Sound.framesOf F n+F.group-1:=Nat.div_le_self _ _;lia
  refine fM (n:=Sound.groupsOf F n) (fun g σ H'=> ∃(L:List En) (v4:Option V),σ= [some (.ref f),some (.int (n:Nat)),some (.ref q),some (.ref X.f),v4]∧(ae (X.hd H2) H'∧br K A H' X L M)∧(L.length≤16384+8*g∧ ∀e∈L,bx e)∧(∀k,g*F.group≤k→aH L k=aH L0 k)∧ ∀g',g'<g→ ∀i,i<cq F n g'→(aH L (g'*F.group+i)).map (fun e=>e.s)=Cn F n L0 M g' i)
   (aS L0 none ⟨rfl,⟨jH X H2,hi2⟩,⟨by lia,hE0⟩,fun _ _=>rfl,fun g' h=>absurd h (Nat.not_lt_zero _)⟩) ?_ ?_
  ·rintro g σ H3 hgG ⟨L,v4,rfl,⟨s3,hi3⟩,⟨hL3,hE3⟩,h1,h2⟩
   rw[show (0:Int)+((g:Nat):Int)=((g:Nat):Int) by lia]
   refine ⟨_,rfl,_,rfl,cC X L M g ⟨rfl,hi3,⟨by rw[eF];exact ag,by lia,by rw[eF,en];exact hgG,by lia⟩,⟨hE3,hM⟩,fun H4 L4 s4 hi4 hR=>?_⟩⟩
   rw[eF,en] at hR
   have hcg:cq F n g≤F.group:=by unfold cq;lia
   refine (aS L4 _ ⟨rfl,⟨qJ s3 s4,hi4⟩,⟨by have:=hR.len;lia,hR.ok⟩,fun kk hk=>?_,fun g' hg' i hi'=>?_⟩)
   ·rw[Nat.add_mul,Nat.one_mul] at hk
    rw[hR.out kk (.inr (by lia)),h1 kk (by lia)]
   ·by_cases c:g'=g
    ·subst c
     rw[hR.ins i hi',NA h1,JB h1];rfl
    ·have hc':cq F n g'≤F.group:=by unfold cq;lia
     have hm:(g'+1)*F.group≤g*F.group:=Nat.mul_le_mul_right _ (by lia)
     rw[Nat.add_mul,Nat.one_mul] at hm
     rw[hR.out _ (.inl (by lia))]
     exact h2 g' (by lia) i hi'
  ·rintro σ H3 ⟨L,v4,rfl,⟨s3,hi3⟩,⟨hL3,hE3⟩,h1,h2⟩
   rw[eF,en] at hsr
   exact ⟨_,rfl,k X H3 L M hi3 eF en hE3 (Ov hg1 hsr h2)⟩
def fc (bl a0 m0 k:Nat) (T:List (Nat×Nat)):List (Nat×Nat):=match T with
 | []=> [(a0,m0)]
 |(a,m)::z=>if a=k*bl then (a0,m0+m)::z else (a0,m0)::(a,m)::z
theorem qY (F:Sound.Form) (n k:Nat) (r:List (Option (List Int))):Sound.stretches F n k (none::r)=fc F.block (k*F.block) (Sound.frameLen F n k) (k+1) (Sound.stretches F n (k+1) r):=by
 conv=>lhs;unfold Sound.stretches
 unfold fc
 cases Sound.stretches F n (k+1) r<;>rfl
theorem KU (bl a0 m0 k:Nat) (T:List (Nat×Nat)): ∃m z,fc bl a0 m0 k T=(a0,m)::z:=by
 unfold fc
 split
 ·exact (aS _ _ rfl)
 ·split<;>exact (aS _ _ rfl)
theorem BF (F:Sound.Form) (n:Nat): ∀(r:List (Option (List Int))) (k a m:Nat) (z:List (Nat×Nat)),Sound.stretches F n k r=(a,m)::z→k*F.block≤a
 | [],k,a,m,z,h=>by unfold Sound.stretches at h;cases h
 |some x::r,k,a,m,z,h=>by
  have:=BF F n r (k+1) a m z h
  rw[Nat.add_mul] at this;lia
 |none::r,k,a,m,z,h=>by
  rw[qY] at h
  obtain ⟨m',z',e⟩:=KU F.block (k*F.block) (Sound.frameLen F n k) (k+1) (Sound.stretches F n (k+1) r)
  rw[e] at h
  cases h
  exact Nat.le_refl _
theorem Nz (bl a0 m0 k f:Nat) (T:List (Nat×Nat)):fc bl a0 m0 k (fc bl (k*bl) f (k+1) T)=fc bl a0 (m0+f) (k+1) T:=by
 cases T with
 |nil=>
  show (if k*bl=k*bl then [(a0,m0+f)] else _)= [(a0,m0+f)]
  rw[if_pos rfl]
 |cons y z=>
  obtain ⟨a,m⟩:=y
  unfold fc
  dsimp only
  by_cases c:a=(k+1)*bl
  ·rw[if_pos c,if_pos c]
   dsimp only
   rw[if_pos rfl,Nat.add_assoc]
  ·rw[if_neg c,if_neg c]
   dsimp only
   rw[if_pos rfl]
inductive eC (F:Sound.Form) (n:Nat) (xs:List (Option (List Int))) (k:Nat) (b:Int):List (Nat×Nat)→Prop
 |out {S:List (Nat×Nat)} (h:Sound.stretches F n 0 xs=S++Sound.stretches F n k (xs.drop k)) (hb:b<((k*F.block:Nat):Int)):eC F n xs k b S
 |jW {S:List (Nat×Nat)} {a m:Nat} (h:Sound.stretches F n 0 xs=S++fc F.block a m k (Sound.stretches F n k (xs.drop k))) (hb:k<xs.length→b=((k*F.block:Nat):Int)):eC F n xs k b (S++ [(a,m)])
theorem eC.got {F:Sound.Form} {n:Nat} {xs:List (Option (List Int))} {k:Nat} {b:Int} {S:List (Nat×Nat)} {y:List Int} (h:eC F n xs k b S) (hb1:1≤F.block) (hk:k<xs.length) (e:xs[k]?=some (some y)):eC F n xs (k+1) b S:=by
 have ed:xs.drop k=some y::xs.drop (k+1):=by
  rw[List.getElem?_eq_getElem hk] at e
  rw[List.drop_eq_getElem_cons hk,Option.some.inj e]
 have es:Sound.stretches F n k (xs.drop k)=Sound.stretches F n (k+1) (xs.drop (k+1)):=by rw[ed];rfl
 cases h with
 |out h hb=>
  rw[es] at h
  exact .out h (by rw[Nat.add_mul];lia)
 | @jW S0 a m h hb=>
  rw[es] at h
  refine .out ?_ (by rw[hb hk,Nat.add_mul];lia)
  rw[h,List.append_assoc]
  congr 1
  unfold fc
  cases e2:Sound.stretches F n (k+1) (xs.drop (k+1)) with
  |nil=>rfl
  |cons q z=>
   obtain ⟨c,d⟩:=q
   have:=BF F n _ _ _ _ _ e2
   dsimp only
   rw[if_neg (by rw[Nat.add_mul] at this;lia)];rfl
theorem Ci {F:Sound.Form} {n k:Nat} (hb:1≤F.block) (h:k+1<Sound.framesOf F n):Sound.frameLen F n k=F.block:=by
 unfold Sound.framesOf at h
 rw[Nat.lt_iff_add_one_le,Nat.le_div_iff_mul_le hb,Nat.add_mul,Nat.add_mul] at h
 unfold Sound.frameLen
 lia
theorem eC.begun {F:Sound.Form} {n:Nat} {xs:List (Option (List Int))} {k:Nat} {b:Int} {S:List (Nat×Nat)} (h:eC F n xs k b S) (hb1:1≤F.block) (hx:xs.length=Sound.framesOf F n) (hk:k<xs.length) (e:xs[k]?=some none) (hc:b≠((k*F.block:Nat):Int)):
  eC F n xs (k+1) (((k*F.block:Nat):Int)+((Sound.frameLen F n k:Nat):Int)) (S++ [(k*F.block,Sound.frameLen F n k)]):=by
 have ed:xs.drop k=none::xs.drop (k+1):=by
  rw[List.getElem?_eq_getElem hk] at e
  rw[List.drop_eq_getElem_cons hk,Option.some.inj e]
 cases h with
 |out h hb=>
  rw[ed,qY] at h
  refine .jW h fun hk1=>?_
  rw[Ci hb1 (by lia),Nat.add_mul];lia
 |jW h hb=>exact absurd (hb hk) hc
theorem eC.more {F:Sound.Form} {n:Nat} {xs:List (Option (List Int))} {k:Nat} {b:Int} {S:List (Nat×Nat)} (h:eC F n xs k b S) (hb1:1≤F.block) (hx:xs.length=Sound.framesOf F n) (hk:k<xs.length) (e:xs[k]?=some none) (hc:b=((k*F.block:Nat):Int)):
  ∃S0 a m,S=S0++ [(a,m)]∧eC F n xs (k+1) (((k*F.block:Nat):Int)+((Sound.frameLen F n k:Nat):Int)) (S0++ [(a,m+Sound.frameLen F n k)]):=by
 have ed:xs.drop k=none::xs.drop (k+1):=by
  rw[List.getElem?_eq_getElem hk] at e
  rw[List.drop_eq_getElem_cons hk,Option.some.inj e]
 cases h with
 |out h hb=>lia
 | @jW S0 a m h hb=>
  rw[ed,qY,Nz] at h
  refine (cV S0 a m ⟨rfl, .jW h fun hk1=>?_⟩)
  rw[Ci hb1 (by lia),Nat.add_mul];lia
theorem eC.done {F:Sound.Form} {n:Nat} {xs:List (Option (List Int))} {b:Int} {S:List (Nat×Nat)} (h:eC F n xs xs.length b S):Sound.stretches F n 0 xs=S:=by
 have e:Sound.stretches F n xs.length (xs.drop xs.length)= []:=by rw[List.drop_length];rfl
 cases h with
 |out h hb=>rw[h,e,List.append_nil]
 |jW h hb=>rw[h,e];rfl
def c6 (S:List (Nat×Nat)):List (List Nat):=S.map fun y=> [y.1,y.2]
structure eU (H H':Hp) (R:Addr) (rs:List Addr) (S:List (Nat×Nat)):Prop where
 hR:H' R=some (.lst (rs.map V.ref))
 len:rs.length=S.length
 at_: ∀(j:Nat) (r:Addr),rs[j]?=some r→H' r=some (.lst (vN ((c6 S).getD j [])))
 nd:(R::rs).Nodup
 new: ∀r∈R::rs,H r=none
theorem eU.rows {H H':Hp} {R:Addr} {rs:List Addr} {S:List (Nat×Nat)} (h:eU H H' R rs S):g0 H' R (c6 S):=⟨rs,h.hR,by unfold c6;rw[List.length_map];exact h.len,h.at_⟩
theorem eU.same {H H1 H2:Hp} {R:Addr} {rs:List Addr} {S:List (Nat×Nat)} (h:eU H H1 R rs S) (s:ae H1 H2):eU H H2 R rs S:=⟨s _ _ h.hR,h.len,fun j r e=>s _ _ (h.at_ j r e),h.nd,h.new⟩
theorem sA (S:List (Nat×Nat)) (y:Nat×Nat):c6 (S++ [y])=c6 S++ [[y.1,y.2]]:=by unfold c6;rw[List.map_append];rfl
theorem ia (S:List (Nat×Nat)):(c6 S).length=S.length:=by unfold c6;rw[List.length_map]
theorem getD_snoc {α:Type} (l:List α) (x d:α) (j:Nat):(l++ [x]).getD j d=if j=l.length then x else l.getD j d:=by
 rw[List.getD_eq_getElem?_getD,List.getD_eq_getElem?_getD]
 by_cases c:j=l.length
 ·rw[if_pos c,c,List.getElem?_concat_length];rfl
 ·rw[if_neg c]
  by_cases c2:j<l.length
  ·rw[List.getElem?_append_left c2]
  ·rw[List.getElem?_append_right (by lia),List.getElem?_eq_none (by simp;lia),List.getElem?_eq_none (l:=l) (by lia)]
theorem eU.add {H H1:Hp} {R p:Addr} {rs:List Addr} {S:List (Nat×Nat)} {y:Nat×Nat} (h:eU H H1 R rs S) (hp:H1 p=some (.lst (vN [y.1,y.2]))) (hn:H p=none) (hpn:p∉R::rs):eU H (upd H1 R (.lst (rs.map V.ref++ [.ref p]))) R (rs++ [p]) (S++ [y]):=by
 have hnd:=h.nd
 rw[List.nodup_cons] at hnd
 refine ⟨by rw[ak];simp,by simp [h.len],fun j r e=>?_,?_,fun r hr=>?_⟩
 ·rw[sA,getD_snoc,ia,←h.len]
  by_cases c:j=rs.length
  ·rw[if_pos c]
   rw[c,List.getElem?_concat_length] at e
   cases e
   rw[ay (fun z=>hpn (by rw[z];exact List.mem_cons_self ..))]
   exact hp
  ·rw[if_neg c]
   have hj:j<rs.length:=by
    have:=(List.getElem?_eq_some_iff.mp e).1
    simp at this;lia
   rw[List.getElem?_append_left hj] at e
   rw[ay (fun z=>hnd.1 (by rw[←z];exact List.mem_of_getElem? e))]
   exact h.at_ j r e
 ·rw[←List.cons_append,List.nodup_append]
  refine ⟨h.nd,by simp,fun a ha b hb=>?_⟩
  rw[List.mem_singleton.mp hb]
  exact fun z=>hpn (z▸ha)
 ·rw[←List.cons_append] at hr
  rcases List.mem_append.mp hr with hr|hr
  ·exact h.new r hr
  ·rw[List.mem_singleton.mp hr];exact hn
theorem eU.set {H H1:Hp} {R r:Addr} {rs:List Addr} {S:List (Nat×Nat)} {y y':Nat×Nat} (h:eU H H1 R rs (S++ [y])) (hr:rs[S.length]?=some r):eU H (upd H1 r (.lst (vN [y'.1,y'.2]))) R rs (S++ [y']):=by
 have hnd:=h.nd
 rw[List.nodup_cons] at hnd
 have hl:=h.len
 simp at hl
 refine ⟨by rw[ay (fun z=>hnd.1 (by rw[z];exact List.mem_of_getElem? hr))];exact h.hR,by simp [hl],fun j q e=>?_,h.nd,h.new⟩
 rw[sA,getD_snoc,ia]
 by_cases c:j=S.length
 ·rw[if_pos c]
  rw[c,hr] at e
  cases e
  exact ak
 ·rw[if_neg c]
  have hq:=h.at_ j q e
  rw[sA,getD_snoc,ia,if_neg c] at hq
  rw[ay (fun z=>c ?_)]
  ·exact hq
  ·obtain ⟨h1,e1⟩:=List.getElem?_eq_some_iff.mp e
   obtain ⟨h2,e2⟩:=List.getElem?_eq_some_iff.mp hr
   exact (List.getElem_inj hnd.2).mp (by rw[e1,e2];exact z)
def M9 (K:PySem.W.Frag) (A:aY):Sp:=fun vs H Q _=> ∃(X:Fx) (L:List En) (M:List Pn),vs= [.ref X.f]∧br K A H X L M∧(X.F.ok=true∧X.n≤2048)∧
 ∀H' R,ae H H'→g0 H' R (c6 (Sound.stretches X.F X.n 0 ((List.range (Sound.framesOf X.F X.n)).map fun k=>(aH L k).map fun e=>e.s)))→(Sound.stretches X.F X.n 0 ((List.range (Sound.framesOf X.F X.n)).map fun k=>(aH L k).map fun e=>e.s)).length≤2048→Q (.ref R) H'
theorem i8:aG ["finds", "stretches", "behind", "k", "begin", "n"] ["finds"] (aB Ao):=⟨rfl,rfl,rfl,by decide+kernel,rfl,by decide+kernel,by decide+kernel⟩
theorem Rl (T:Txt K mg A):aA P w K mg base aQ 2 A.mI A.lO ["finds"] (M9 K A):=by
 refine T.Av.ok i8 (fun vs H Q E h=>?_) (fun cdv Ar outer s H vs Q E hr h=>?_)
 ·obtain ⟨X,L,M,rfl,_⟩:=h
  rfl
 ·obtain ⟨X,L,M,rfl,hi,⟨ag,hn⟩,q⟩:=h
  refine ⟨_,ai (aC (i:=1) i8.nd rfl (Or.inl rfl) (dy ah))
   (ai (aC (i:=2) i8.nd rfl (Or.inl rfl) (gS gR ao))
   (ai (cj PassesOwn.never rfl (dn (K:=K) rfl (aK (K:=K) rfl (pv 0) rfl)) (aN (i:=3) i8.nd rfl (Or.inl rfl))
    (aj (bc (qj (zT (gP hr) (pv 3) (aK (K:=K) rfl (pv 0) rfl)))
     (ai (aC (i:=4) i8.nd rfl (Or.inl rfl) (aq gz (pv 3) (aK (K:=K) rfl (aK (K:=K) rfl (pv 0) rfl) rfl)))
     (ai (aC (i:=5) i8.nd rfl (Or.inl rfl) (bf (aK (K:=K) rfl (pv 0) rfl) T.bP T.u5 (sX (K:=K) T) hr T.wg .nil aI (aa (pv 3) (aa (aK (K:=K) rfl (pv 0) rfl) ah))))
     (ai (bc (aU cH (pv 4) (pv 2) (aT _))
      (aj (Ex (bS (eP (K:=K) rfl) (pv 1) (gS gR ao) (fun _ _=>rfl)) ao Po (pv 5) qF set_list))
      (aj (bR (pS (K:=K) rfl PySem.F.plainAttrs_list PySem.F.slot_list_append PySem.F.type_list_append rn (pv 1) (aa (dy (aa (pv 4) (aa (pv 5) ah))) ah)))))
     (aj (aC (i:=2) i8.nd rfl (Or.inl rfl) (aq bT (pv 4) (pv 5))))))) bA)))
   (aj (aM (pv 1))))),?_⟩
  obtain ⟨_,_,⟨hb1,hb2⟩,_⟩:=dX ag
  have hNn:=ou X.n (F:=X.F) (by lia)
  have hxl:((List.range (Sound.framesOf X.F X.n)).map fun k=>(aH L k).map fun e=>e.s).length=Sound.framesOf X.F X.n:=by rw[List.length_map,List.length_range]
  have hxg: ∀k,k<Sound.framesOf X.F X.n→((List.range (Sound.framesOf X.F X.n)).map fun k=>(aH L k).map fun e=>e.s)[k]?=some ((aH L k).map fun e=>e.s):=fun k hk=>by rw[List.getElem?_map,List.getElem?_range hk];rfl
  generalize ((List.range (Sound.framesOf X.F X.n)).map fun k=>(aH L k).map fun e=>e.s)=xs at*
  refine ⟨by rw[sizeLine_eq];show 0≤_;lia,fun R hR=>⟨_,rfl,?_⟩⟩
  have sR:=aE (o:= .lst []) hR
  refine az rfl (sR _ _ hi.hf) T.bo T.sE rfl ⟨X.a,rfl,⟨_,af.of (sR _ _ hi.ha)⟩,?_⟩
  refine fA (K:=K) (a:=X.a) (xs:=vN (List.range (Sound.framesOf X.F X.n))) (fun i σ H'=> ∃(b:Int) (rs:List Addr) (S:List (Nat×Nat)) (v3 v4 v5:Option V),σ= [some (.ref X.f),some (.ref R),some (.int b),v3,v4,v5]∧ae H H'∧eU H H' R rs S∧S.length≤i∧eC X.F X.n xs i b S)
   (jn (-1) ([]) ([]) none none none ⟨rfl,sR,⟨ak,rfl,fun j r e=>(by simp at e),by simp,fun r hr=>by simp at hr;rw[hr];exact hR⟩,Nat.le_refl _, .out (by rw[List.drop_zero,List.nil_append]) (by rw[Nat.zero_mul];decide)⟩)
   (fun i σ H' _ ⟨b,rs,S,v3,v4,v5,_,s',_⟩=>s'.seq (af.of hi.ha)) ?_ ?_
  ·rintro i x σ H1 hix ⟨b,rs,S,v3,v4,v5,rfl,s1,hP,hSl,hS⟩
   obtain ⟨rfl,hil⟩:=dD hix
   rw[List.length_range] at hil
   rw[show (List.range (Sound.framesOf X.F X.n)).getD i 0=i by rw[List.getD_eq_getElem?_getD,List.getElem?_range hil];rfl]
   have hi1:=hi.same s1
   have dg:=cg.k (k:=Sum.inl ((i:Nat):Int)) hi1.h1
   rw[mK] at dg
   have hxi:=hxg i hil
   refine ⟨_,rfl,az rfl hi1.hf T.bo T.oW rfl (aS _ _ ⟨rfl,dg,_,rfl,?_⟩)⟩
   cases e:aH L i with
   |some y=>
    rw[e] at hxi
    exact aZ (jn b rs S _ _ _ ⟨rfl,s1,hP,by lia,hS.got (by lia) (by lia) hxi⟩)
   |none=>
    rw[e] at hxi
    obtain ⟨dm,hm⟩:=id hi1.hm
    refine aW ⟨_,rfl,az rfl hi1.hf T.bo T.fj rfl (fI hm T.bP T.jw rfl ⟨_,_,rfl,rfl, .inr ⟨by lia,by lia⟩,?_⟩)⟩
    refine az rfl hi1.hf T.bo T.fj rfl (mJ hm rfl ⟨_,rfl,az rfl hi1.hf T.bo T.kb rfl (cC X.fm X.F i X.n ⟨rfl,hi1.hm,by lia,?_⟩)⟩)
    have el:min ((X.F.block:Nat):Int) (((X.n:Nat):Int)-((i:Nat):Int)*((X.F.block:Nat):Int))=((Sound.frameLen X.F X.n i:Nat):Int):=by
     have h1:i*X.F.block<X.n:=by
      have h2:=hil
      unfold Sound.framesOf at h2
      rw[Nat.lt_iff_add_one_le,Nat.le_div_iff_mul_le (by lia),Nat.add_mul] at h2
      lia
     unfold Sound.frameLen
     rw[←Int.natCast_mul]
     lia
    rw[el]
    dsimp only
    rw[←Int.natCast_mul]
    refine ⟨_,rfl,_,rfl,rfl,_,rfl,?_⟩
    by_cases c:b=((i*X.F.block:Nat):Int)
    ·rw[decide_eq_true (by rw[c])]
     obtain ⟨S0,a0,m0,rfl,hS'⟩:=hS.more (by lia) hxl (by lia) hxi c
     have hl:=hP.len
     rw[List.length_append] at hl
     obtain ⟨r,hr1,hr2⟩:=e9 (as:=rs) (i:=S0.length) (by rw[hl];show _<_+1;lia)
     have hrh:=hP.at_ _ _ hr2
     rw[sA,getD_snoc,ia,if_pos rfl] at hrh
     have hat:fC (rs.map V.ref) (-1)=some (.ref r):=by
      have:rs.take (S0.length+1)=rs.take S0.length++ [r]:=by rw[List.take_succ,hr2];rfl
      rw[List.take_of_length_le (show rs.length≤S0.length+1 by rw[hl];exact Nat.le_refl _)] at this
      rw[this,List.map_append]
      exact LA _ _
     refine aW ⟨_,rfl,_,rfl,R,_,_,_,rfl,rfl,af.of hP.hR,hat,r,_,1,_,rfl,rfl,hrh,rfl,_,rfl,_,_,rfl,rfl,cC r _ 1 1 ⟨rfl,rfl,hrh,rfl,?_⟩⟩
     have hset:=hP.set (y':=(a0,m0+Sound.frameLen X.F X.n i)) hr2
     have ev:(vN [a0,m0]).set 1 (.int (((m0:Nat):Int)+((Sound.frameLen X.F X.n i:Nat):Int)))=vN [a0,m0+Sound.frameLen X.F X.n i]:=by
      show [V.int _,V.int _]= [V.int _,V.int _]
      rw[Int.natCast_add]
     rw[ev]
     refine ⟨_,rfl,_,rfl,_,_,rfl,rfl,jn _ rs _ _ _ _ ⟨rfl,cP s1 (hP.new r (List.mem_cons_of_mem _ (List.mem_of_getElem? hr2))),hset,?_,hS'⟩⟩
     rw[List.length_append] at hSl⊢
     exact Nat.le_succ_of_le hSl
    ·rw[decide_eq_false (fun z=>c (by have:=V.int.inj z;lia))]
     refine aZ ⟨_,rfl, .inl ⟨rfl,_,af.of hP.hR⟩,_,rfl,_,rfl,by rw[sizeLine_eq];show 2≤_;lia,fun p hp=>?_⟩
     have sp:=aE (o:= .lst [V.int ((i*X.F.block:Nat):Int),V.int ((Sound.frameLen X.F X.n i:Nat):Int)]) hp
     have hP2:=hP.same sp
     refine ⟨R,_,_,rfl,rfl,hP2.hR,by rw[List.length_map,hP.len,sizeLine_eq];lia,?_⟩
     have hpn:p∉R::rs:=fun z=>by
      rcases List.mem_cons.mp z with z|z
      ·rw[z,hP.hR] at hp;cases hp
      ·obtain ⟨j,hj,ej⟩:=List.getElem_of_mem z
       have:=hP.at_ j p (by rw[List.getElem?_eq_getElem hj,ej])
       rw[this] at hp;cases hp
     refine ⟨_,rfl,_,rfl,_,_,rfl,rfl,jn _ (rs++ [p]) _ _ _ _ ⟨rfl,cP (s1.trans sp) hR,hP2.add (y:=(i*X.F.block,Sound.frameLen X.F X.n i)) ak (s1.none hp) hpn,?_,hS.begun (by lia) hxl (by lia) hxi c⟩⟩
     rw[List.length_append];exact Nat.succ_le_succ hSl
  ·rintro σ H1 ⟨b,rs,S,v3,v4,v5,rfl,s1,hP,hSl,hS⟩
   rw[aR,List.length_range] at hS hSl
   rw[←hxl] at hS
   have e:=hS.done
   refine ⟨_,rfl,q H1 R s1 ?_ ?_⟩
   ·rw[e];exact hP.rows
   ·rw[e];lia
def gs (F:Sound.Form) (n:Nat) (L:List En) (k:Nat):List Int:=((aH L k).map fun e=>e.s).getD (List.replicate (F.channels*Sound.frameLen F n k) 0)
theorem Q0 (F:Sound.Form) (n:Nat) (L:List En) (N:Nat):Sound.mendedNumbers F n ((List.range N).map fun k=>(aH L k).map fun e=>e.s)=(List.range N).flatMap (gs F n L):=by
 unfold Sound.mendedNumbers
 have e:((List.range N).map fun k=>(aH L k).map fun e=>e.s).zipIdx=(List.range N).map fun k=>((aH L k).map fun e=>e.s,k):=by
  refine List.ext_getElem (by simp) fun i h1 h2=>?_
  simp
 rw[e,List.flatMap_map];rfl
theorem zQ {F:Sound.Form} {n:Nat} {L:List En} (ag:F.ok=true) (hE: ∀e∈L,bx e) (k:Nat):(gs F n L k).length≤2560:=by
 unfold gs
 obtain ⟨⟨hc1,hc2⟩,_,⟨hb1,hb2⟩,_⟩:=dX ag
 cases e:aH L k with
 |some y=>exact (hE y (kq e).1).2.2
 |none=>
  show (List.replicate _ _).length≤_
  rw[List.length_replicate]
  have:Sound.frameLen F n k≤256:=by unfold Sound.frameLen;lia
  have:=Nat.mul_le_mul hc2 this
  lia
theorem vE {F:Sound.Form} {n:Nat} {L:List En} (ag:F.ok=true) (hE: ∀e∈L,bx e): ∀N,((List.range N).flatMap (gs F n L)).length≤2560*N
 |0=>by simp
 |N+1=>by
  rw[List.range_succ,List.flatMap_append,List.length_append,List.flatMap_cons,List.flatMap_nil,List.append_nil]
  have h1:=vE (n:=n) ag hE N
  have h2:=zQ (n:=n) ag hE N
  lia
theorem CS {F:Sound.Form} {n:Nat} (hb1:16≤F.block) (hb2:F.block≤256) (hn:n≤2048):Sound.framesOf F n≤150:=by
 unfold Sound.framesOf
 have h1:=Nat.div_mul_le_self (n+F.block-1) F.block
 have h2:=Nat.mul_le_mul_left ((n+F.block-1)/F.block) hb1
 lia
theorem rep0 (k:Nat):(List.replicate k [V.int 0]).flatten=(List.replicate k (0:Int)).map V.int:=by
 induction k with
 |zero=>rfl
 |succ k ih=>rw[List.replicate_succ,List.flatten_cons,ih,List.replicate_succ,List.map_cons];rfl
def RT (K:PySem.W.Frag) (A:aY):Sp:=fun vs H Q _=> ∃(X:Fx) (L:List En) (M:List Pn),vs= [.ref X.f]∧br K A H X L M∧(X.F.ok=true∧X.n≤2048)∧(∀e∈L,bx e)∧
 ∀H' D,ae H H'→H' D=some (.lst (((List.range (Sound.framesOf X.F X.n)).flatMap (gs X.F X.n L)).map V.int))→Q (.ref D) H'
theorem qK:aG ["finds", "numbers", "k", "lost"] ["finds"] (aB ze):=⟨rfl,rfl,rfl,by decide+kernel,rfl,by decide+kernel,by decide+kernel⟩
theorem NG (T:Txt K mg A):aA P w K mg base aQ 2 A.m9 A.kN ["finds"] (RT K A):=by
 refine T.Bz.ok qK (fun vs H Q E h=>?_) (fun cdv Ar outer s H vs Q E hr h=>?_)
 ·obtain ⟨X,L,M,rfl,_⟩:=h
  rfl
 ·obtain ⟨X,L,M,rfl,hi,⟨ag,hn⟩,hE,q⟩:=h
  refine ⟨_,ai (aC (i:=1) qK.nd rfl (Or.inl rfl) (dy ah))
   (ai (cj PassesOwn.never rfl (dn (K:=K) rfl (aK (K:=K) rfl (pv 0) rfl)) (aN (i:=2) qK.nd rfl (Or.inl rfl))
    (ai (aC (i:=3) qK.nd rfl (Or.inl rfl) (aq uZ (dy (aa ao ah)) (aq gz (bf (aK (K:=K) rfl (pv 0) rfl) T.bP T.u5 (sX (K:=K) T) hr T.wg .nil aI (aa (pv 2) (aa (aK (K:=K) rfl (pv 0) rfl) ah))) (aK (K:=K) rfl (aK (K:=K) rfl (pv 0) rfl) rfl))))
    (aj (bR (pS (K:=K) rfl PySem.F.plainAttrs_list PySem.F.slot_list_extend PySem.F.type_list_extend r6 (pv 1) (aa (Ck (gP hr) (aK (K:=K) rfl (pv 0) rfl) (pv 2) (pv 3) ⟨rfl,rfl,rfl,rfl⟩) ah))))))
   (aj (aM (pv 1)))),?_⟩
  obtain ⟨⟨hc1,hc2⟩,_,⟨hb1,hb2⟩,_⟩:=dX ag
  have hN:=CS hb1 hb2 hn
  refine ⟨by rw[sizeLine_eq];show 0≤_;lia,fun R hR=>?_⟩
  have sR:=aE (o:= .lst []) hR
  refine az rfl (sR _ _ hi.hf) T.bo T.sE rfl ⟨X.a,rfl,⟨_,af.of (sR _ _ hi.ha)⟩,?_⟩
  refine fA (K:=K) (a:=X.a) (xs:=vN (List.range (Sound.framesOf X.F X.n))) (fun i σ H'=> ∃(v2 v3:Option V),σ= [some (.ref X.f),some (.ref R),v2,v3]∧ae H H'∧H' R=some (.lst (((List.range i).flatMap (gs X.F X.n L)).map V.int)))
   (aS none none ⟨rfl,sR,ak⟩) (fun i σ H' _ ⟨v2,v3,_,s',_⟩=>s'.seq (af.of hi.ha)) ?_ ?_
  ·rintro i x σ H1 hix ⟨v2,v3,rfl,s1,hR1⟩
   obtain ⟨rfl,hil⟩:=dD hix
   rw[List.length_range] at hil
   rw[show (List.range (Sound.framesOf X.F X.n)).getD i 0=i by rw[List.getD_eq_getElem?_getD,List.getElem?_range hil];rfl]
   have hi1:=hi.same s1
   obtain ⟨dm,hm⟩:=id hi1.hm
   have hfl:Sound.frameLen X.F X.n i≤256:=by unfold Sound.frameLen;lia
   have el:min ((X.F.block:Nat):Int) (((X.n:Nat):Int)-((i:Nat):Int)*((X.F.block:Nat):Int))=((Sound.frameLen X.F X.n i:Nat):Int):=by
    have h1:i*X.F.block<X.n:=by
     have h2:=hil
     unfold Sound.framesOf at h2
     rw[Nat.lt_iff_add_one_le,Nat.le_div_iff_mul_le (by lia),Nat.add_mul] at h2
     lia
    unfold Sound.frameLen
    rw[←Int.natCast_mul]
    lia
   have hnl:Sound.frameLen X.F X.n i*X.F.channels≤1024:=Nat.mul_le_mul hfl hc2
   refine ⟨by rw[sizeLine_eq];show 1≤_;lia,fun p hp=>?_⟩
   have sp:=aE (o:= .lst [V.int 0]) hp
   refine az rfl (sp _ _ hi1.hf) T.bo T.fj rfl (mJ (sp _ _ hm) rfl ⟨_,rfl,az rfl (sp _ _ hi1.hf) T.bo T.kb rfl (cC X.fm X.F i X.n ⟨rfl,(hi1.same sp).hm,by lia,?_⟩)⟩)
   rw[el]
   refine az rfl (sp _ _ hi1.hf) T.bo T.fj rfl (fI (sp _ _ hm) T.bP T.sj rfl ⟨_,_,rfl,rfl, .inr ⟨by lia,by lia⟩,p,_,_,rfl,rfl,ak,?_,?_,?_,fun p2 hp2=>?_⟩)
   ·rw[←Int.natCast_mul];lia
   ·rw[←Int.natCast_mul];lia
   ·rw[←Int.natCast_mul,Int.toNat_natCast,sizeLine_eq];show 1*_≤_;lia
   dsimp only
   rw[←Int.natCast_mul,Int.toNat_natCast,rep0,Nat.mul_comm]
   have s2:=s1.trans (sp.trans (aE (o:= .lst ((List.replicate (X.F.channels*Sound.frameLen X.F X.n i) (0:Int)).map V.int)) hp2))
   have hR2:=aE (o:= .lst ((List.replicate (X.F.channels*Sound.frameLen X.F X.n i) (0:Int)).map V.int)) hp2 _ _ (sp _ _ hR1)
   have hp2':upd (upd H1 p (.lst [V.int 0])) p2 (.lst ((List.replicate (X.F.channels*Sound.frameLen X.F X.n i) (0:Int)).map V.int)) p2=_:=ak
   generalize upd (upd H1 p (.lst [V.int 0])) p2 (.lst ((List.replicate (X.F.channels*Sound.frameLen X.F X.n i) (0:Int)).map V.int))=H2 at*
   have hi2:=hi.same s2
   have dg:=cg.k (k:=Sum.inl ((i:Nat):Int)) hi2.h2
   rw[wY] at dg
   have hk: ∃b,(((aH L i).map fun e=>V.ref e.a).getD (.ref p2))=V.ref b∧H2 b=some (.lst ((gs X.F X.n L i).map V.int)):=by
    unfold gs
    cases e:aH L i with
    |none=>exact ⟨p2,rfl,hp2'⟩
    |some y=>exact ⟨y.a,rfl,(hi2.he y (kq e).1).2⟩
   obtain ⟨b,eb,hb⟩:=hk
   refine ⟨_,rfl, .inl ⟨rfl,_,af.of hR2⟩,az rfl hi2.hf T.bo T.sC rfl ⟨_,rfl, .inl ⟨_, .inl hi2.h2⟩,_,rfl,_,rfl,_,dg,?_⟩⟩
   rw[eb]
   have h1:=vE (n:=X.n) ag hE i
   have h2:=zQ (n:=X.n) ag hE i
   refine ⟨R,b,_,_,rfl,rfl,hR2,hb,by rw[List.length_map,List.length_map,sizeLine_eq];lia,aS _ _ ⟨rfl,cP s2 hR,?_⟩⟩
   rw[ak,List.range_succ,List.flatMap_append,List.map_append]
   simp
  ·rintro σ H1 ⟨v2,v3,rfl,s1,hR1⟩
   rw[aR,List.length_range] at hR1
   exact ⟨_,rfl,q H1 R s1 hR1⟩
theorem PD (l:List Nat):Sound.total l=l.sum:=by
 unfold Sound.total
 have key: ∀(l:List Nat) (a:Nat),l.foldl (fun a b=>a+b) a=a+l.sum:=by
  intro l
  induction l with
  |nil=>intro a;rfl
  |cons x l ih=>intro a;rw[List.foldl_cons,ih,List.sum_cons,Nat.add_assoc]
 rw[key,Nat.zero_add]
theorem PU (bl a0 m0 k:Nat) (T:List (Nat×Nat)):((fc bl a0 m0 k T).map fun y=>y.2).sum=m0+(T.map fun y=>y.2).sum:=by
 unfold fc
 split
 ·rfl
 ·split
  ·rw[List.map_cons,List.map_cons,List.sum_cons,List.sum_cons,Nat.add_assoc]
  ·rw[List.map_cons,List.sum_cons]
theorem wR (F:Sound.Form) (n:Nat): ∀(xs:List (Option (List Int))) (k:Nat),((Sound.stretches F n k xs).map fun y=>y.2).sum≤n-k*F.block
 | [],k=>by unfold Sound.stretches;exact Nat.zero_le _
 |some x::r,k=>by
  have:=wR F n r (k+1)
  rw[Nat.add_mul] at this
  show ((Sound.stretches F n (k+1) r).map fun y=>y.2).sum≤_
  lia
 |none::r,k=>by
  have:=wR F n r (k+1)
  rw[Nat.add_mul] at this
  rw[qY,PU]
  unfold Sound.frameLen
  lia
def vp (F:Sound.Form) (n:Nat) (t:List (Nat×Nat)) (s:List Int):List Int:=((n-(t.map fun y=>y.2).sum:Nat):Int)::((t.length:Nat):Int)::(t.flatMap fun y=> [y.1,y.2]).map (fun (m:Nat)=>(m:Int))++((s.length:Nat):Int)::s
theorem LR {n:Int} {fm data:List Int} (h:Sound.formOf (iW fm)=none):PyWqaubg.mend n fm data= [-1]:=by
 show Sound.ofForm (iW fm) _=_
 unfold Sound.ofForm
 rw[h];rfl
theorem Qk {n:Nat} {fm data:List Int} {F:Sound.Form} (h:Sound.formOf (iW fm)=some F) (hl:data.length≤16384):PyWqaubg.mend (n:Int) fm data=if 2048<n*F.channels then [-1] else vp F n (Sound.stretches F n 0 (Sound.mended F n (d6 data))) (Sound.mendedNumbers F n (Sound.mended F n (d6 data))):=by
 have e:PyWqaubg.mend (n:Int) fm data=Sound.ofForm (iW fm) fun f=>if 2048<n*f.channels∨Sound.tooLong (d6 data)=true then [-1] else
  Sound.nats ((n-Sound.total ((Sound.stretches f n 0 (Sound.mended f n (d6 data))).map fun (y:Nat×Nat)=>y.2))::(Sound.stretches f n 0 (Sound.mended f n (d6 data))).length::(Sound.stretches f n 0 (Sound.mended f n (d6 data))).flatMap fun (y:Nat×Nat)=> [y.1,y.2])++Sound.numsOut (Sound.mendedNumbers f n (Sound.mended f n (d6 data))):=rfl
 rw[e]
 unfold Sound.ofForm
 rw[h]
 dsimp only
 rw[Fy hl,PD]
 by_cases c:2048<n*F.channels
 ·rw[if_pos c,if_pos (.inl c)]
 ·rw[if_neg c,if_neg (fun z=>z.elim c (fun y=>by cases y))];rfl
theorem MZ (S:List (Nat×Nat)):(S.flatMap fun y=> [y.1,y.2])=(c6 S).flatten:=by unfold c6;rw[List.flatMap_def]
theorem Oc (F:Sound.Form) (n:Nat) (S:List (Nat×Nat)) (s:List Int):(vp F n S s).map V.int=vN ([n-(S.map fun y=>y.2).sum,S.length]++(c6 S).flatten)++(V.int ((s.length:Nat):Int)::s.map V.int):=by
 unfold vp vN
 rw[MZ]
 simp only [List.map_cons,List.map_append,List.map_map,List.cons_append,List.nil_append,List.map_nil]
 rfl
theorem zz {S:List (Nat×Nat)} {i:Nat} (h:i<S.length):(c6 S).getD i []= [(S.getD i (0,0)).1,(S.getD i (0,0)).2]:=by
 unfold c6
 rw[List.getD_eq_getElem?_getD,List.getD_eq_getElem?_getD,List.getElem?_map,List.getElem?_eq_getElem h];rfl
theorem ON (S:List (Nat×Nat)):(S.map fun y=>((y.2:Nat):Int)).sum=(((S.map fun y=>y.2).sum:Nat):Int):=by
 induction S with
 |nil=>rfl
 |cons y S ih=>rw[List.map_cons,List.sum_cons,ih,List.map_cons,List.sum_cons,Int.natCast_add]
def AE (K:PySem.W.Frag):Sp:=fun vs H Q _=> ∃(n:Int) (b q:Addr) (fm data:List Int),vs= [.int n, .ref b, .ref q]∧af K H b (fm.map V.int)∧af K H q (data.map V.int)∧(0≤n∧n≤4294967295)∧(∀z∈fm,0≤z)∧data.length≤16384∧(∀x∈data,0≤x∧x≤255)∧ ∀(H':Hp) (p:Addr),H' p=some (.lst ((PyWqaubg.mend n fm data).map V.int))→Q (.ref p) H'
theorem jo:aG ["n", "form", "data", "finds", "stretches", "answer", "stretch"] ["n", "form", "data"] (aB CN):=⟨rfl,rfl,rfl,by decide+kernel,rfl,by decide+kernel,by decide+kernel⟩
theorem EC (T:Txt K mg A):aA P w K mg base aQ 18 A.oS A.iY ["n", "form", "data"] (AE K):=by
 refine T.Mt.ok jo (fun vs H Q E h=>?_) (fun cdv Ar outer s H vs Q E hr h=>?_)
 ·obtain ⟨n,b,q,fm,data,rfl,_⟩:=h
  rfl
 ·obtain ⟨n,b,q,fm,data,rfl,hb,hq,⟨hn0,hn1⟩,hfm,hdl,hd,k⟩:=h
  obtain ⟨n,rfl⟩: ∃b:Nat,n=(b:Int):=⟨n.toNat,by lia⟩
  have hr1:aF 1 _:=hr.mono (by decide)
  have hr2:aF 2 _:=hr.mono (by decide)
  refine ⟨_,ai (bc (PW.pt (jG (jj (oV (aL (Qw (K:=K) T) hr1 rfl T.Jl T.CV.kp T.RK .nil aI (aa (pv 1) ah)))) (pF (aU fH (aq gz (pv 0) (bS (eP (K:=K) rfl) (pv 1) ao (fun _ _=>rfl))) (bp rfl T.G3) (aT _))))) (aj (aM (dy (aa (gS gR ao) ah)))) bA)
   (ai (aC (i:=3) jo.nd rfl (Or.inl rfl) (aL (Pe (K:=K) T) hr rfl T.EG T.xV.kp T.LF .nil aI (aa (gN T.Kd (Ox (K:=K) T) hr2 rfl T.P2 T.Pc .nil aI (aa (pv 1) ah)) (aa (pv 0) (aa (pv 2) ah)))))
   (ai (aC (i:=4) jo.nd rfl (Or.inl rfl) (aL (Rl (K:=K) T) hr2 rfl T.RD T.Av.kp T.JG .nil aI (aa (pv 3) ah)))
   (ai (aC (i:=5) jo.nd rfl (Or.inl rfl) (dy (aa (aq cZ (pv 0) (bQ (LH rfl) rfl T.Ql (by decide+kernel:bootBuiltins "sum" =some (.builtin "sum"))
    (aa (dB (own:= [("stretch",6)]) rfl jo.nd (dn (K:=K) rfl (pv 4)) (cv (by kernel_rfl)) (fun _ _ _ _ _=>aN (i:=6) jo.nd rfl (Or.inl rfl)) (fun _ _ _ _ _=>c9) (fun _ _ _ _ _=>bS (eP (K:=K) rfl) (pv 6) ao (fun _ _=>rfl))) ah)))
    (aa (bQ (dq (K:=K) rfl) (by rfl) T.b6 PySem.boot_len (aa (pv 4) ah)) ah))))
   (ai (cj PassesOwn.never rfl (dn (K:=K) rfl (pv 4)) (aN (i:=6) jo.nd rfl (Or.inl rfl))
    (aj (bR (pS (K:=K) rfl PySem.F.plainAttrs_list PySem.F.slot_list_extend PySem.F.type_list_extend r6 (pv 5) (aa (pv 6) ah)))))
   (aj (aM (aq (vQ (K:=K) rfl) (pv 5) (aL (Eu (K:=K) T) hr1 rfl T.IE T.B3.kp T.JU .nil aI (aa (aL (NG (K:=K) T) hr2 rfl T.IU T.Bz.kp T.OG .nil aI (aa (pv 3) ah)) ah))))))))),?_⟩
  rw[Jx hfm] at hb
  rw[JO hd] at hq
  have hB:(d6 data).length≤16384:=by rw[Ds];exact hdl
  have one1:(1:Nat)≤sizeLine:=by rw[sizeLine_eq];lia
  refine ⟨_,rfl,aS b _ ⟨rfl,hb,fun H1 s1=>⟨_,rfl,?_⟩⟩⟩
  cases hform:Sound.formOf (iW fm) with
  |none=>exact aW (aW ⟨1,rfl,one1,fun p hp=>k _ p (by rw[ak,LR hform];rfl)⟩)
  |some F=>
   obtain ⟨hl6,ag⟩:=N6 hform
   obtain ⟨⟨hc1,hc2⟩,_,⟨hb1,hb2⟩,_⟩:=dX ag
   rw[Qk hform hdl] at k
   generalize d6 data=B at*
   rw[hl6] at hb
   refine aZ ⟨_,rfl,_,rfl,b,_,_,_,rfl,rfl,s1.seq hb,bL (j:=0) rfl,_,_,rfl,rfl, .inr ⟨by show _<((F.channels:Nat):Int);lia,by show ((F.channels:Nat):Int)<_;lia⟩,_,_,rfl,rfl,_,rfl,?_⟩
   refine bX (fun c=>?_) fun c=>?_
   ·have c:(2048:Int)<((n:Nat):Int)*((F.channels:Nat):Int):=of_decide_eq_true c
    rw[←Int.natCast_mul] at c
    rw[if_pos (by lia)] at k
    exact ⟨1,rfl,one1,fun p hp=>k _ p (by rw[ak];rfl)⟩
   have c: ¬(2048:Int)<((n:Nat):Int)*((F.channels:Nat):Int):=fun z=>c (decide_eq_true z)
   rw[←Int.natCast_mul] at c
   rw[if_neg (by lia)] at k
   have hn:n≤2048:=by
    have:=Nat.mul_le_mul_left n hc1
    lia
   refine ⟨_,rfl,fun x dx hx hdx hne=>?_⟩
   have sm:ae H1 (upd (upd H1 dx (.own x)) x (.ins A.bj dx [])):=eG hx hdx
   refine (R3 x dx b F.channels F.depth F.block F.order F.group F.spare ⟨rfl,ak,sm.seq (s1.seq hb),rfl,_,rfl,_,rfl,?_⟩)
   rw[iS]
   have s2:ae H (upd (upd H1 dx (.own x)) x (.ins A.bj dx (kn (.int F.channels) (.int F.depth) (.int F.block) (.int F.order) (.int F.group) (.int F.spare)))):=s1.trans (eG hx hdx)
   have hF:d5 A.bj (upd (upd H1 dx (.own x)) x (.ins A.bj dx (kn (.int F.channels) (.int F.depth) (.int F.block) (.int F.order) (.int F.group) (.int F.spare)))) x F:=⟨dx,ak⟩
   generalize upd (upd H1 dx (.own x)) x (.ins A.bj dx (kn (.int F.channels) (.int F.depth) (.int F.block) (.int F.order) (.int F.group) (.int F.spare)))=H2 at*
   refine (gH x q F n B ⟨rfl,hF,s2.seq hq,⟨ag,hn,hB⟩,fun X H3 L M hi3 eF en hE hmd=>?_⟩)
   refine ⟨_,rfl,cV X L M ⟨rfl,hi3,⟨by rw[eF];exact ag,by rw[en];exact hn⟩,fun H4 R s4 hRw hSl=>?_⟩⟩
   rw[eF,en,←hmd] at hRw hSl
   have hnum:(List.range (Sound.framesOf X.F X.n)).flatMap (gs X.F X.n L)=Sound.mendedNumbers F n (Sound.mended F n B):=by rw[hmd,Q0,eF,en]
   have hnl:(Sound.mendedNumbers F n (Sound.mended F n B)).length≤400000:=by
    rw[←hnum,eF,en]
    have h1:=vE (n:=n) ag hE (Sound.framesOf F n)
    have h2:=CS hb1 hb2 hn
    lia
   have hsum:=wR F n (Sound.mended F n B) 0
   generalize Sound.stretches F n 0 (Sound.mended F n B)=S at*
   generalize Sound.mendedNumbers F n (Sound.mended F n B)=nums at*
   rw[Nat.zero_mul,Nat.sub_zero] at hsum
   obtain ⟨as,hR,hal,hat⟩:=hRw
   rw[ia] at hal
   refine ⟨_,rfl,_,rfl,R,rfl,⟨_,af.of hR⟩,fun D5 hD5=>?_⟩
   refine eZ (J:=cY K R) hD5 S.length (by rw[sizeLine_eq];lia) (fun i=> .int ((((S.map fun y=>y.2).getD i 0:Nat)):Int)) (fun i Hh hii t1=>(aS _ _ ⟨t1.seq (af.of hR),(e9 (as:=as) (i:=i) (by lia)).choose_spec.1⟩)) (fun Hh t1=>⟨_,t1.seq (af.of hR),by rw[List.length_map];lia⟩) ?_ ?_
   ·rintro i Hh z H' hii t1 ⟨rfl,hz⟩ C hC
    obtain ⟨r,rfl,hr'⟩:=gi (hz _ (t1.seq (af.of hR)))
    have hrh:=hat i r hr'
    rw[zz hii] at hrh
    refine ⟨rfl,_,rfl,r,_,_,_,rfl,rfl,af.of (t1 _ _ hrh),bL (j:=1) rfl,?_⟩
    have:(S.map fun y=>y.2).getD i 0=(S.getD i (0,0)).2:=by
     rw[List.getD_eq_getElem?_getD,List.getD_eq_getElem?_getD,List.getElem?_map,List.getElem?_eq_getElem hii];rfl
    have hC:=hC _ (ae.refl _)
    rw[this] at hC
    exact hC
   ·intro H5 s5 hD5'
    have em:(List.range S.length).map (fun i=>V.int ((((S.map fun y=>y.2).getD i 0:Nat)):Int))=(S.map fun y=>((y.2:Nat):Int)).map V.int:=by
     have:=map_getD (f:=id) (S.map fun y=>y.2)
     rw[List.length_map] at this
     rw[List.map_map]
     refine this.trans ?_
     unfold vN;rw[List.map_id,List.map_map];rfl
    rw[em] at hD5'
    have hR5:=s5 _ _ hR
    refine (aS D5 _ ⟨rfl,af.of hD5',_,_,rfl,rfl,_,rfl,R,_,rfl, .inl (af.of hR5),by rw[sizeLine_eq];show 2≤_;lia,fun D6 hD6=>?_⟩)
    dsimp only
    rw[ON,List.length_map,hal,show ((n:Nat):Int)-(((S.map fun y=>y.2).sum:Nat):Int)=((n-(S.map fun y=>y.2).sum:Nat):Int) by lia]
    have e2: [V.int ((n-(S.map fun y=>y.2).sum:Nat):Int),V.int ((S.length:Nat):Int)]=vN [n-(S.map fun y=>y.2).sum,S.length]:=rfl
    rw[e2]
    have s6:=aE (o:= .lst (vN [n-(S.map fun y=>y.2).sum,S.length])) hD6
    have hD6':upd H5 D6 (.lst (vN [n-(S.map fun y=>y.2).sum,S.length])) D6=_:=ak
    generalize upd H5 D6 (.lst (vN [n-(S.map fun y=>y.2).sum,S.length]))=H6 at*
    have s46:=s5.trans s6
    have hRD:D6≠R:=(bZ hR5 hD6).symm
    refine ⟨_,rfl,R,rfl,⟨_,af.of (s46 _ _ hR)⟩,?_⟩
    have h4D:H4 D6=none:=s5.none hD6
    have hflen: ∀i,(((c6 S).take i).flatten).length≤2*i:=fun i=>by
     have key: ∀(l:List (Nat×Nat)) (i:Nat),(((c6 l).take i).flatten).length≤2*i:=by
      intro l
      induction l with
      |nil=>intro i;simp [c6]
      |cons y l ih=>
       intro i
       cases i with
       |zero=>simp
       |succ i=>
        have:=ih i
        show (([y.1,y.2]::((c6 l).take i)).flatten).length≤_
        rw[List.flatten_cons,List.length_append]
        show 2+_≤_
        lia
     exact key S i
    refine fA (K:=K) (a:=R) (xs:=as.map V.ref) (fun i σ H'=> ∃v6:Option V,σ= [some (.int (n:Nat)),some (.ref b),some (.ref q),some (.ref X.f),some (.ref R),some (.ref D6),v6]∧ae H4 H'∧H' D6=some (.lst (vN ([n-(S.map fun y=>y.2).sum,S.length]++((c6 S).take i).flatten))))
     ⟨none,rfl,s46,by rw[List.take_zero,List.flatten_nil,List.append_nil];exact hD6'⟩ (fun i σ H' _ ⟨v6,_,s',_⟩=>s'.seq (af.of hR)) ?_ ?_
    ·rintro i z σ H7 hiz ⟨v6,rfl,s7,hD7⟩
     obtain ⟨r,rfl,hr'⟩:=gi hiz
     have hil:i<S.length:=by
      have:=(List.getElem?_eq_some_iff.mp hr').1
      lia
     have hrh:=hat i r hr'
     have hfi:=hflen i
     refine ⟨_,rfl, .inl ⟨rfl,_,af.of hD7⟩,_,rfl,D6,r,_,_,rfl,rfl,hD7,s7 _ _ hrh,?_,_,rfl,cP s7 h4D,?_⟩
     ·rw[aR,aR,List.length_append,zz hil,sizeLine_eq]
      show 2+_+2≤_
      lia
     ·rw[ak,←jV,List.append_assoc,List.take_succ,List.getElem?_eq_getElem (by rw[ia];exact hil),List.flatten_append]
      congr 5
      rw[List.getD_eq_getElem?_getD,List.getElem?_eq_getElem (by rw[ia];exact hil)]
      simp
    ·rintro σ H7 ⟨v6,rfl,s7,hD7⟩
     rw[List.length_map,hal,List.take_of_length_le (by rw[ia];exact Nat.le_refl _)] at hD7
     have hfl:=hflen S.length
     rw[List.take_of_length_le (by rw[ia];exact Nat.le_refl _)] at hfl
     have hi7:=hi3.same (s4.trans s7)
     refine ⟨_,rfl,_,rfl,cV X L M ⟨rfl,hi7,⟨by rw[eF];exact ag,by rw[en];exact hn⟩,hE,fun H8 D8 s8 hD8=>?_⟩⟩
     rw[hnum] at hD8
     refine (aS D8 _ ⟨rfl,af.of hD8,by rw[List.length_map];lia,fun D9 H9 hD9 s9 hD9'=>?_⟩)
     refine ⟨D6,D9,_,_,rfl,rfl,af.of (s9 _ _ (s8 _ _ hD7)),af.of hD9',?_,fun p hp=>k _ p ?_⟩
     ·simp only [aR,List.length_append,List.length_cons,List.length_nil,List.length_map,sizeLine_eq]
      lia
     ·rw[ak,Oc,List.length_map]
end
end Wg
namespace PySem.W.Fast
theorem tw12331583198407108828:True:=⟨⟩
theorem tw16023914134050244628:True:=⟨⟩
theorem tw13647702590568956751:True:=⟨⟩
theorem tw13296608093099513299:True:=⟨⟩
theorem tw15271229174566348484:True:=⟨⟩
theorem tw5985245200228326872:True:=⟨⟩
theorem tw9121425975958752503:True:=⟨⟩
theorem tw7764009120775706502:True:=⟨⟩
theorem tw10966248182214181200:True:=⟨⟩
theorem tw3166705011972834953:True:=⟨⟩
theorem tw8336680301973449018:True:=⟨⟩
theorem tw8522887760896516693:True:=⟨⟩
theorem tw10430535161039617270:True:=⟨⟩
theorem tw1915970103174164262:True:=⟨⟩
theorem tw94919432822475082:True:=⟨⟩
theorem tw783767152067822965:True:=⟨⟩
theorem tw10684006420201497686:True:=⟨⟩
theorem tw17896047972971584965:True:=⟨⟩
theorem tw7936492221996411906:True:=⟨⟩
theorem tw5902744962087067593:True:=⟨⟩
theorem tw14452254678460895035:True:=⟨⟩
theorem tw17651602338662012787:True:=⟨⟩
theorem tw15050443815836886764:True:=⟨⟩
theorem tw2664465014449027240:True:=⟨⟩
theorem tw10821189684850995413:True:=⟨⟩
theorem tw18420249668960736582:True:=⟨⟩
theorem tw8722820826062805814:True:=⟨⟩
theorem tw12160942554311416295:True:=⟨⟩
theorem tw1138812026419123588:True:=⟨⟩
theorem tw9759219303667655184:True:=⟨⟩
theorem tw10955668902940597606:True:=⟨⟩
theorem tw2117421590163357797:True:=⟨⟩
theorem tw8311619527629979815:True:=⟨⟩
theorem tw6436747559407134203:True:=⟨⟩
theorem tw8039263454193958651:True:=⟨⟩
theorem tw12354923673169198538:True:=⟨⟩
theorem tw8812621013481754424:True:=⟨⟩
theorem tw13671782523305235066:True:=⟨⟩
theorem tw1473499644008077550:True:=⟨⟩
theorem tw409983977347124504:True:=⟨⟩
theorem tw13215992925389458221:True:=⟨⟩
theorem tw10575015246378934191:True:=⟨⟩
theorem tw10905454625621513652:True:=⟨⟩
theorem tw6421721007633959885:True:=⟨⟩
theorem tw6685535794479673394:True:=⟨⟩
theorem tw14463092964261062596:True:=⟨⟩
theorem tw16206138541818071680:True:=⟨⟩
theorem tw8404550172187542476:True:=⟨⟩
theorem tw14926968022507261381:True:=⟨⟩
theorem tw10051555545308448690:True:=⟨⟩
theorem tw5883416850142687524:True:=⟨⟩
theorem tw3355194652465918077:True:=⟨⟩
theorem tw13215376751963755980:True:=⟨⟩
theorem tw2445733148413342460:True:=⟨⟩
theorem tw3283304800223374907:True:=⟨⟩
theorem tw4796043289672160480:True:=⟨⟩
theorem tw3085353524879811616:True:=⟨⟩
theorem tw10461706687437902310:True:=⟨⟩
theorem tw11406787676104334461:True:=⟨⟩
theorem tw7040658997600895375:True:=⟨⟩
theorem tw3626559005698621233:True:=⟨⟩
theorem tw15024934405830014652:True:=⟨⟩
theorem tw2282383757502132165:True:=⟨⟩
theorem tw2937954716348700043:True:=⟨⟩
theorem tw12388051514761403555:True:=⟨⟩
theorem tw2054153864093369063:True:=⟨⟩
theorem tw16054619057125326621:True:=⟨⟩
theorem tw3477098287818719355:True:=⟨⟩
theorem tw10685091835855537230:True:=⟨⟩
theorem tw11117195226153099019:True:=⟨⟩
theorem tw12885684309203779512:True:=⟨⟩
theorem tw10172164809196172409:True:=⟨⟩
theorem tw18339770401421118409:True:=⟨⟩
theorem tw8419329678904112410:True:=⟨⟩
theorem tw2754702464819834185:True:=⟨⟩
theorem tw906470300651374479:True:=⟨⟩
theorem tw4868992922053556891:True:=⟨⟩
theorem tw10539297479976784425:True:=⟨⟩
theorem tw14793506484020485610:True:=⟨⟩
theorem tw1147882135268546634:True:=⟨⟩
theorem tw2646361885777310113:True:=⟨⟩
theorem tw2206533293853371496:True:=⟨⟩
theorem tw7803802778587746285:True:=⟨⟩
theorem tw6413399590480480295:True:=⟨⟩
theorem tw10303995458021364629:True:=⟨⟩
theorem tw11380514474819526576:True:=⟨⟩
theorem tw3596855775642331363:True:=⟨⟩
theorem tw594536736582126552:True:=⟨⟩
theorem tw11343829406433272194:True:=⟨⟩
theorem tw15014679321019186494:True:=⟨⟩
theorem tw8596895557882149688:True:=⟨⟩
theorem tw14999931471903683320:True:=⟨⟩
theorem tw3642853010110422459:True:=⟨⟩
theorem tw10571272416436877316:True:=⟨⟩
theorem tw7171870876506338063:True:=⟨⟩
theorem tw247426644853409942:True:=⟨⟩
theorem tw6549286741969798141:True:=⟨⟩
theorem tw10648779886353073464:True:=⟨⟩
theorem tw413006303937550518:True:=⟨⟩
theorem tw4924373237155962343:True:=⟨⟩
theorem tw3447398730019554598:True:=⟨⟩
theorem tw2081556029567248392:True:=⟨⟩
theorem tw16356515325504119761:True:=⟨⟩
theorem tw7707893708138198609:True:=⟨⟩
theorem tw12263726662351837888:True:=⟨⟩
theorem tw11237111257717281472:True:=⟨⟩
theorem tw1187387718298223557:True:=⟨⟩
theorem tw5150470144186460702:True:=⟨⟩
theorem tw17722347812817952207:True:=⟨⟩
theorem tw15466597893976142668:True:=⟨⟩
theorem tw1617046626619186667:True:=⟨⟩
theorem tw7816091249765393471:True:=⟨⟩
theorem tw15642755778389963066:True:=⟨⟩
theorem tw3562986420735380384:True:=⟨⟩
theorem tw1059176039419035488:True:=⟨⟩
theorem tw10611099495868435686:True:=⟨⟩
theorem tw9150773267333019999:True:=⟨⟩
theorem tw16655304246268964496:True:=⟨⟩
theorem tw17021960144952611077:True:=⟨⟩
theorem tw1220851616216126855:True:=⟨⟩
theorem tw13447265222603692871:True:=⟨⟩
theorem tw17678550847683295073:True:=⟨⟩
theorem tw4650646328135053881:True:=⟨⟩
theorem tw10444914126906188113:True:=⟨⟩
theorem tw6912630667445573538:True:=⟨⟩
theorem tw10760503858111591393:True:=⟨⟩
theorem tw4593063311667795161:True:=⟨⟩
theorem tw5954262371146484743:True:=⟨⟩
theorem tw13060696992053651844:True:=⟨⟩
theorem tw10751543941007509996:True:=⟨⟩
theorem tw4488066359373929917:True:=⟨⟩
theorem tw3118850006817978237:True:=⟨⟩
theorem tw1589939334996407470:True:=⟨⟩
theorem tw10109453209322191526:True:=⟨⟩
theorem tw8688810744521821660:True:=⟨⟩
theorem tw5419104300282726459:True:=⟨⟩
theorem tw4495976345089975201:True:=⟨⟩
theorem tw10844056680938885979:True:=⟨⟩
theorem tw10269574578476807983:True:=⟨⟩
theorem tw589980290670222119:True:=⟨⟩
theorem tw6836729733019067234:True:=⟨⟩
theorem tw2356278425198035134:True:=⟨⟩
theorem tw14192901300394787743:True:=⟨⟩
theorem tw7596874853242358822:True:=⟨⟩
theorem tw8302771333825689573:True:=⟨⟩
theorem tw12843878930481688001:True:=⟨⟩
theorem tw1887228995092621176:True:=⟨⟩
theorem tw4646931485495122729:True:=⟨⟩
theorem tw10359733345484601885:True:=⟨⟩
theorem tw9691350454276111873:True:=⟨⟩
theorem tw15345172325478943857:True:=⟨⟩
theorem tw16145291682424194139:True:=⟨⟩
theorem tw4812127030028347485:True:=⟨⟩
theorem tw12851954201048973846:True:=⟨⟩
theorem tw4867583269638708004:True:=⟨⟩
theorem tw394703412804789873:True:=⟨⟩
theorem tw15262044703370140318:True:=⟨⟩
theorem tw1580583401210959944:True:=⟨⟩
theorem tw373632564276720152:True:=⟨⟩
theorem tw17187624544697549094:True:=⟨⟩
theorem tw1006835558744502127:True:=⟨⟩
theorem tw12198721306664664605:True:=⟨⟩
theorem tw8444133356817763232:True:=⟨⟩
theorem tw6547963257509025946:True:=⟨⟩
theorem tw16633215528469615852:True:=⟨⟩
theorem tw11173877274200493394:True:=⟨⟩
theorem tw17987295423128423569:True:=⟨⟩
theorem tw12818833533471086417:True:=⟨⟩
theorem tw16518574152653861490:True:=⟨⟩
theorem tw11912461058505459987:True:=⟨⟩
theorem tw5175504989540348471:True:=⟨⟩
theorem tw3974209796149858180:True:=⟨⟩
theorem tw18353079984790580363:True:=⟨⟩
theorem tw8464396282821765921:True:=⟨⟩
theorem tw6783112042943319989:True:=⟨⟩
theorem tw13347974252526992735:True:=⟨⟩
theorem tw12629794028799871572:True:=⟨⟩
theorem tw18263997696686747662:True:=⟨⟩
theorem tw8312852088499434469:True:=⟨⟩
theorem tw7409819861090230455:True:=⟨⟩
theorem tw3076688861742221160:True:=⟨⟩
theorem tw4647967664545474296:True:=⟨⟩
theorem tw18300893521620699291:True:=⟨⟩
theorem tw6745290727902833697:True:=⟨⟩
theorem tw9733348034620986468:True:=⟨⟩
theorem tw4724917932612147467:True:=⟨⟩
theorem tw16826353988258668202:True:=⟨⟩
theorem tw14675088252840805359:True:=⟨⟩
theorem tw17703956267012787550:True:=⟨⟩
theorem tw12272455728430321848:True:=⟨⟩
theorem tw9602131855070629710:True:=⟨⟩
theorem tw8859414531672949740:True:=⟨⟩
theorem tw13004633800806588840:True:=⟨⟩
theorem tw7486116202249633639:True:=⟨⟩
theorem tw3585718717412423868:True:=⟨⟩
theorem tw10114108069748892821:True:=⟨⟩
theorem tw12137142364355260254:True:=⟨⟩
theorem tw16762862371748814753:True:=⟨⟩
theorem tw11844366498134044289:True:=⟨⟩
theorem tw3864598723312748877:True:=⟨⟩
theorem tw4058175002316766986:True:=⟨⟩
theorem tw1812364409987429541:True:=⟨⟩
theorem tw3688423906215503856:True:=⟨⟩
theorem tw10958549683950470672:True:=⟨⟩
theorem tw9623435456108975116:True:=⟨⟩
theorem tw2578725463802653240:True:=⟨⟩
theorem tw6527786179923464854:True:=⟨⟩
theorem tw6633015511293883399:True:=⟨⟩
theorem tw4622965690991738015:True:=⟨⟩
theorem tw2777159001384474797:True:=⟨⟩
theorem tw2983883818512357900:True:=⟨⟩
theorem tw6708664453956287501:True:=⟨⟩
theorem tw4716442133339339032:True:=⟨⟩
theorem tw946171016799331932:True:=⟨⟩
theorem tw17789136204725211333:True:=⟨⟩
theorem tw4749594639766647083:True:=⟨⟩
theorem tw15225800100871430099:True:=⟨⟩
theorem tw5941218141934710802:True:=⟨⟩
theorem tw8815428166865746491:True:=⟨⟩
theorem tw11658374594781649266:True:=⟨⟩
theorem tw3170315040127317702:True:=⟨⟩
theorem tw13634495826256370906:True:=⟨⟩
theorem tw17811586958962525011:True:=⟨⟩
theorem tw14311113810728172864:True:=⟨⟩
theorem tw14892738220494620168:True:=⟨⟩
theorem tw7213221215852195422:True:=⟨⟩
theorem tw13232935305648301752:True:=⟨⟩
theorem tw4966282839606959437:True:=⟨⟩
theorem tw162366041484997765:True:=⟨⟩
theorem tw11610989121944107828:True:=⟨⟩
theorem tw7807089320198892326:True:=⟨⟩
theorem tw2206431573473351373:True:=⟨⟩
theorem tw3839585667617513292:True:=⟨⟩
theorem tw13542304783419737507:True:=⟨⟩
theorem tw5810422644827102823:True:=⟨⟩
theorem tw14360629182453842552:True:=⟨⟩
theorem tw13333406976062934168:True:=⟨⟩
theorem tw13208876551709465399:True:=⟨⟩
theorem tw3823590624952335355:True:=⟨⟩
theorem tw1982858898007824267:True:=⟨⟩
theorem tw11149451398862719562:True:=⟨⟩
theorem tw2166476327249128288:True:=⟨⟩
theorem tw2931135359511209517:True:=⟨⟩
theorem tw9515264338859644881:True:=⟨⟩
theorem tw5274903225076097212:True:=⟨⟩
theorem tw9845776533252374599:True:=⟨⟩
theorem tw12048354223978520831:True:=⟨⟩
theorem tw17995399066936659129:True:=⟨⟩
theorem tw5432431547825284973:True:=⟨⟩
theorem tw10291448015403050129:True:=⟨⟩
theorem tw9297493227623169942:True:=⟨⟩
theorem tw5079457911399044032:True:=⟨⟩
theorem tw16292306204404240279:True:=⟨⟩
theorem tw9014037349619341338:True:=⟨⟩
theorem tw16031943176549624522:True:=⟨⟩
theorem tw5256067044775717998:True:=⟨⟩
theorem tw99809337985643448:True:=⟨⟩
theorem tw5431310189404521163:True:=⟨⟩
theorem tw14764061947902043264:True:=⟨⟩
theorem tw6819812560394686488:True:=⟨⟩
theorem tw3202719017966426559:True:=⟨⟩
theorem tw736693694560100029:True:=⟨⟩
theorem tw14455891696055593638:True:=⟨⟩
theorem tw14986777711233034483:True:=⟨⟩
theorem tw8324813779092963509:True:=⟨⟩
theorem tw15290382220266405529:True:=⟨⟩
theorem tw17745286429477889059:True:=⟨⟩
theorem tw14599925802190141720:True:=⟨⟩
theorem tw4824547715358079424:True:=⟨⟩
theorem tw13014663006128377985:True:=⟨⟩
theorem tw12288087628714713537:True:=⟨⟩
theorem tw5306566100368049310:True:=⟨⟩
theorem tw8591308736522322643:True:=⟨⟩
theorem tw16790369421439568303:True:=⟨⟩
theorem tw5405569225796161665:True:=⟨⟩
theorem tw2832354209384726833:True:=⟨⟩
theorem tw8469173424549008015:True:=⟨⟩
theorem tw3808348663155352012:True:=⟨⟩
theorem tw1084068806290777110:True:=⟨⟩
theorem tw18057625877837007920:True:=⟨⟩
theorem tw11792721547199601635:True:=⟨⟩
theorem tw1178017586338659959:True:=⟨⟩
theorem tw12872889611455084826:True:=⟨⟩
theorem tw17547158851175051686:True:=⟨⟩
theorem tw12634650779665998064:True:=⟨⟩
theorem tw4320607394284765434:True:=⟨⟩
theorem tw11771429920231591540:True:=⟨⟩
theorem tw9827814429110223370:True:=⟨⟩
theorem tw1459775471455085388:True:=⟨⟩
theorem tw8429116468420102798:True:=⟨⟩
theorem tw2693976077946815017:True:=⟨⟩
theorem tw17829379268816719897:True:=⟨⟩
theorem tw15931191546998360596:True:=⟨⟩
theorem tw11291753019466577243:True:=⟨⟩
theorem tw3493024099909839209:True:=⟨⟩
theorem tw11192183342542684611:True:=⟨⟩
theorem tw15724010734115681571:True:=⟨⟩
theorem tw5015014664958613295:True:=⟨⟩
theorem tw17312108211515992157:True:=⟨⟩
theorem tw10341115055936731960:True:=⟨⟩
theorem tw7128677494725170758:True:=⟨⟩
theorem tw4329261649019564717:True:=⟨⟩
theorem tw1457340585027011357:True:=⟨⟩
theorem tw11497884200483805767:True:=⟨⟩
theorem tw4339344227749630481:True:=⟨⟩
theorem tw5141823571996346284:True:=⟨⟩
theorem tw5706006343481255226:True:=⟨⟩
theorem tw9184486756036837232:True:=⟨⟩
theorem tw4592817279426304096:True:=⟨⟩
theorem tw14442333403484230301:True:=⟨⟩
theorem tw4853694684583972324:True:=⟨⟩
theorem tw2273028879784817177:True:=⟨⟩
theorem tw17251187466455832804:True:=⟨⟩
theorem tw13003404669003403264:True:=⟨⟩
theorem tw14419640582480737769:True:=⟨⟩
theorem tw4893197969806556755:True:=⟨⟩
theorem tw5437256988304276586:True:=⟨⟩
theorem tw135539332071784932:True:=⟨⟩
theorem tw14421052258903275835:True:=⟨⟩
theorem tw1375701737808608753:True:=⟨⟩
theorem tw2644168179003559490:True:=⟨⟩
theorem tw15752629580439666686:True:=⟨⟩
theorem tw8738653210316647093:True:=⟨⟩
theorem tw3202295687366578484:True:=⟨⟩
theorem tw4273064460010768202:True:=⟨⟩
theorem tw12744311938099858695:True:=⟨⟩
theorem tw3433252643569563494:True:=⟨⟩
theorem tw5448979679326499053:True:=⟨⟩
theorem tw985886579222034634:True:=⟨⟩
theorem tw15572789747697193856:True:=⟨⟩
theorem tw7486607738748882071:True:=⟨⟩
theorem tw1590980037269314420:True:=⟨⟩
theorem tw8127548902713138986:True:=⟨⟩
theorem tw18377389629821377596:True:=⟨⟩
theorem tw15524608788635528112:True:=⟨⟩
theorem tw8631744048528602741:True:=⟨⟩
theorem tw4245348916576524319:True:=⟨⟩
theorem tw5791851018418250678:True:=⟨⟩
theorem tw10486753538254361814:True:=⟨⟩
theorem tw12833156342928159563:True:=⟨⟩
theorem tw2096209794669894780:True:=⟨⟩
theorem tw3924037911413710240:True:=⟨⟩
theorem tw14780062948136985747:True:=⟨⟩
theorem tw3082632924167204158:True:=⟨⟩
theorem tw6154478010890571461:True:=⟨⟩
theorem tw13350729552174245069:True:=⟨⟩
theorem tw17387151577569262573:True:=⟨⟩
theorem tw15220957309127993495:True:=⟨⟩
theorem tw10334637459947784360:True:=⟨⟩
theorem tw5391802550519771350:True:=⟨⟩
theorem tw3480465241378245520:True:=⟨⟩
theorem tw9953208838483977183:True:=⟨⟩
theorem tw14858105260386211619:True:=⟨⟩
theorem tw2706361128603533359:True:=⟨⟩
theorem tw8357963636165740321:True:=⟨⟩
theorem tw10174372080315321062:True:=⟨⟩
theorem tw1001702937671416474:True:=⟨⟩
theorem tw5888335114008036355:True:=⟨⟩
theorem tw12238282372698469374:True:=⟨⟩
theorem tw13979663167202317433:True:=⟨⟩
theorem tw13106196853851960827:True:=⟨⟩
theorem tw8579685742368734646:True:=⟨⟩
theorem tw14996165050848656027:True:=⟨⟩
theorem tw16423560696602095941:True:=⟨⟩
theorem tw17186343365425835690:True:=⟨⟩
theorem tw17829988018087423675:True:=⟨⟩
theorem tw17436732803996373234:True:=⟨⟩
theorem tw2363635624038898952:True:=⟨⟩
theorem tw9643383371998175606:True:=⟨⟩
theorem tw14930036543318694110:True:=⟨⟩
theorem tw3082294565715375565:True:=⟨⟩
theorem tw13740234924877257171:True:=⟨⟩
theorem tw11786031160421913778:True:=⟨⟩
theorem tw12214463314383953038:True:=⟨⟩
theorem tw14234247661969825684:True:=⟨⟩
theorem tw1142599193086915898:True:=⟨⟩
theorem tw15340068872326638409:True:=⟨⟩
theorem tw11807168234841726676:True:=⟨⟩
theorem tw12214052559006425971:True:=⟨⟩
theorem tw564727766569008336:True:=⟨⟩
theorem tw16796726393756949138:True:=⟨⟩
theorem tw12427660587416136066:True:=⟨⟩
theorem tw14871797221928738404:True:=⟨⟩
theorem tw668570153843475190:True:=⟨⟩
theorem tw11400301896023357152:True:=⟨⟩
theorem tw10266263559855629697:True:=⟨⟩
theorem tw5238274001438367140:True:=⟨⟩
theorem tw9838248396693136968:True:=⟨⟩
theorem tw8258017556904991815:True:=⟨⟩
theorem tw3708255667070070811:True:=⟨⟩
theorem tw12703228967532081564:True:=⟨⟩
theorem tw9663237294967491037:True:=⟨⟩
theorem tw11953726601231771532:True:=⟨⟩
theorem tw3823049594521536945:True:=⟨⟩
theorem tw11422236895338320697:True:=⟨⟩
theorem tw3944677874273929572:True:=⟨⟩
theorem tw9537796388075521337:True:=⟨⟩
theorem tw12380789399321386034:True:=⟨⟩
theorem tw4042850039502925965:True:=⟨⟩
theorem tw16167108454642513657:True:=⟨⟩
theorem tw5252897699640685472:True:=⟨⟩
theorem tw4348360386502522301:True:=⟨⟩
theorem tw13841558782968169165:True:=⟨⟩
theorem tw14706648764218385737:True:=⟨⟩
theorem tw3725577999675398354:True:=⟨⟩
theorem tw8933663283618351564:True:=⟨⟩
theorem tw932210872302530985:True:=⟨⟩
theorem tw3627718712482513353:True:=⟨⟩
theorem tw17525644853795894418:True:=⟨⟩
theorem tw2614603212073681180:True:=⟨⟩
theorem tw13286980078629148898:True:=⟨⟩
theorem tw5003691535508097958:True:=⟨⟩
theorem tw11186157502685117064:True:=⟨⟩
theorem tw15541420584684318925:True:=⟨⟩
theorem tw12992003738952579773:True:=⟨⟩
theorem tw10940163075185382816:True:=⟨⟩
theorem tw10847362569839216493:True:=⟨⟩
theorem tw9011214983166587342:True:=⟨⟩
theorem tw7990860499937260910:True:=⟨⟩
theorem tw4891913134677539457:True:=⟨⟩
theorem tw18296807337069714977:True:=⟨⟩
theorem tw1137228273597217865:True:=⟨⟩
theorem tw5802675869872107480:True:=⟨⟩
theorem tw3564876661744970636:True:=⟨⟩
theorem tw8060235028363502289:True:=⟨⟩
theorem tw1002377942654573825:True:=⟨⟩
theorem tw6727793794366757145:True:=⟨⟩
theorem tw7811180338341069680:True:=⟨⟩
theorem tw972107639363952100:True:=⟨⟩
theorem tw13272800967115109430:True:=⟨⟩
theorem tw6330273258196784787:True:=⟨⟩
theorem tw10071546587905191752:True:=⟨⟩
theorem tw8031266913350207555:True:=⟨⟩
theorem tw13269716650951659699:True:=⟨⟩
theorem tw15030690156111695655:True:=⟨⟩
theorem tw1406303768543559607:True:=⟨⟩
theorem tw16609591974850802524:True:=⟨⟩
theorem tw3145681499087887251:True:=⟨⟩
theorem tw6349686788168330527:True:=⟨⟩
theorem tw8085695394885291414:True:=⟨⟩
theorem tw4217144785664593021:True:=⟨⟩
theorem tw4434486747471452703:True:=⟨⟩
theorem tw1004275146549831961:True:=⟨⟩
theorem tw1738714091020127038:True:=⟨⟩
theorem tw6977078942219798985:True:=⟨⟩
theorem tw7421959371988323942:True:=⟨⟩
theorem tw2686436328789962047:True:=⟨⟩
theorem tw9556252757253995199:True:=⟨⟩
theorem tw16006654797605349405:True:=⟨⟩
theorem tw8897058885863218892:True:=⟨⟩
theorem tw8468332024945259248:True:=⟨⟩
theorem tw3869697567404074708:True:=⟨⟩
theorem tw9982126486162803333:True:=⟨⟩
theorem tw8234361228738359425:True:=⟨⟩
theorem tw8943294171024914887:True:=⟨⟩
theorem tw17008050126809765172:True:=⟨⟩
theorem tw4554365235165020843:True:=⟨⟩
theorem tw4273710801473211078:True:=⟨⟩
theorem tw15981375629882120796:True:=⟨⟩
theorem tw15447586055281687632:True:=⟨⟩
theorem tw9855800886042472746:True:=⟨⟩
theorem tw11409665582408689271:True:=⟨⟩
theorem tw16839326001700910621:True:=⟨⟩
theorem tw3748394262372101954:True:=⟨⟩
theorem tw1420573615881179856:True:=⟨⟩
theorem tw2176753995913037656:True:=⟨⟩
theorem tw14065210041877906016:True:=⟨⟩
theorem tw2903213905871361891:True:=⟨⟩
theorem tw14113562101534325130:True:=⟨⟩
theorem tw13838656470875150774:True:=⟨⟩
theorem tw6589560354879889476:True:=⟨⟩
theorem tw342927136964400259:True:=⟨⟩
theorem tw1080852225917026229:True:=⟨⟩
theorem tw10727957033304033206:True:=⟨⟩
theorem tw9750557025775428395:True:=⟨⟩
theorem tw4918660302643794722:True:=⟨⟩
theorem tw10232797206356808162:True:=⟨⟩
theorem tw1456849290768432524:True:=⟨⟩
theorem tw5318079770562252857:True:=⟨⟩
theorem tw7733567322939782987:True:=⟨⟩
theorem tw2907838215353191868:True:=⟨⟩
theorem tw9532509626725060746:True:=⟨⟩
theorem tw2996986107704303448:True:=⟨⟩
theorem tw15043452948068329285:True:=⟨⟩
theorem tw12317755830940566559:True:=⟨⟩
theorem tw10261443059733407423:True:=⟨⟩
theorem tw2764729757602058682:True:=⟨⟩
theorem tw13773785565070286943:True:=⟨⟩
theorem tw12482637323441141124:True:=⟨⟩
theorem tw8829613119751794757:True:=⟨⟩
theorem tw12277725925202506052:True:=⟨⟩
theorem tw7074294347160058671:True:=⟨⟩
theorem tw17661911262113312337:True:=⟨⟩
theorem tw1801622732470389831:True:=⟨⟩
theorem tw8466587585936623527:True:=⟨⟩
theorem tw17715442010797960170:True:=⟨⟩
theorem tw16704739930969780698:True:=⟨⟩
theorem tw3816643289785129560:True:=⟨⟩
theorem tw589327744285661531:True:=⟨⟩
theorem tw1900712372077594834:True:=⟨⟩
theorem tw11141497137595107258:True:=⟨⟩
theorem tw17096246210507882101:True:=⟨⟩
theorem tw17674914677178545813:True:=⟨⟩
theorem tw17739281608512696867:True:=⟨⟩
theorem tw10732557582037916069:True:=⟨⟩
theorem tw12697251533298667219:True:=⟨⟩
theorem tw1493173988796931731:True:=⟨⟩
theorem tw2290870647266153567:True:=⟨⟩
theorem tw5164282277360334733:True:=⟨⟩
theorem tw5112540231521561929:True:=⟨⟩
theorem tw15769958728827006934:True:=⟨⟩
theorem tw18051961383908717797:True:=⟨⟩
theorem tw5903880110017510577:True:=⟨⟩
theorem tw4593930322357748923:True:=⟨⟩
theorem tw17408585583335327218:True:=⟨⟩
theorem tw14430077930278878910:True:=⟨⟩
theorem tw16465971818014316609:True:=⟨⟩
theorem tw10107067406350780542:True:=⟨⟩
theorem tw1103060150519410859:True:=⟨⟩
theorem tw13935500168447115103:True:=⟨⟩
theorem tw8918031953341790127:True:=⟨⟩
theorem tw15399741736237523841:True:=⟨⟩
theorem tw15937840423657175894:True:=⟨⟩
theorem tw4370042282514631921:True:=⟨⟩
theorem tw13559337042807082064:True:=⟨⟩
theorem tw10634072406637578709:True:=⟨⟩
theorem tw10026126547732861296:True:=⟨⟩
theorem tw13809883553969852503:True:=⟨⟩
theorem tw9709449689507506090:True:=⟨⟩
theorem tw9430717469160811788:True:=⟨⟩
theorem tw12942399160263883240:True:=⟨⟩
theorem tw4954808657164532664:True:=⟨⟩
theorem tw12963533317668371179:True:=⟨⟩
theorem tw12523876728921863215:True:=⟨⟩
theorem tw3868104408323283126:True:=⟨⟩
theorem tw4269912363206119122:True:=⟨⟩
theorem tw5136512377083090881:True:=⟨⟩
theorem tw2095007942275466760:True:=⟨⟩
theorem tw8165457136809822832:True:=⟨⟩
theorem tw6570127174084775393:True:=⟨⟩
theorem tw1430897801209130682:True:=⟨⟩
theorem tw17513808434630107416:True:=⟨⟩
theorem tw2926093588508883955:True:=⟨⟩
theorem tw8116148754794192913:True:=⟨⟩
theorem tw8207599953845750851:True:=⟨⟩
theorem tw8570270756593545609:True:=⟨⟩
theorem tw2819565979987664167:True:=⟨⟩
theorem tw200043700380365888:True:=⟨⟩
theorem tw10503719968390945255:True:=⟨⟩
theorem tw7837905411671664943:True:=⟨⟩
theorem tw3258121521981734416:True:=⟨⟩
theorem tw17249215975228911251:True:=⟨⟩
theorem tw9265270319622251170:True:=⟨⟩
theorem tw18248095951389949875:True:=⟨⟩
theorem tw15111590231212032430:True:=⟨⟩
theorem tw2462847492632893765:True:=⟨⟩
theorem tw11358878579194270039:True:=⟨⟩
theorem tw14690178252928402845:True:=⟨⟩
theorem tw14173504664295652970:True:=⟨⟩
theorem tw6067013304645597489:True:=⟨⟩
theorem tw6988597522807089040:True:=⟨⟩
theorem tw14124408354183168685:True:=⟨⟩
theorem tw14410339836399166869:True:=⟨⟩
theorem tw9664836768256146863:True:=⟨⟩
theorem tw9281677977985836277:True:=⟨⟩
theorem tw15219689358225986959:True:=⟨⟩
theorem tw1655400636536911101:True:=⟨⟩
theorem tw10911213108800778832:True:=⟨⟩
theorem tw18052218628272047532:True:=⟨⟩
theorem tw4463338169085544825:True:=⟨⟩
theorem tw15374492814674319115:True:=⟨⟩
theorem tw11283644793160994166:True:=⟨⟩
theorem tw17669896326370550401:True:=⟨⟩
theorem tw8623001138579431042:True:=⟨⟩
theorem tw3286824233036445036:True:=⟨⟩
theorem tw13561968351510788842:True:=⟨⟩
theorem tw7025014722896809088:True:=⟨⟩
theorem tw13773047907656817401:True:=⟨⟩
theorem tw12473822423570800088:True:=⟨⟩
theorem tw5884669850787604673:True:=⟨⟩
theorem tw10746278154589705615:True:=⟨⟩
theorem tw17561891861933865775:True:=⟨⟩
theorem tw1805802031899177556:True:=⟨⟩
theorem tw752622994742912101:True:=⟨⟩
theorem tw3391260418531226728:True:=⟨⟩
theorem tw6826382598069248985:True:=⟨⟩
theorem tw1052490533054650637:True:=⟨⟩
theorem tw5321673316433943386:True:=⟨⟩
theorem tw12276555838894082496:True:=⟨⟩
theorem tw7675194894160344941:True:=⟨⟩
theorem tw13012701423487122771:True:=⟨⟩
theorem tw1459172344815579051:True:=⟨⟩
theorem tw5356236265745642245:True:=⟨⟩
theorem tw9107927768726553876:True:=⟨⟩
theorem tw12806688027641791127:True:=⟨⟩
theorem tw13860092709596796788:True:=⟨⟩
theorem tw7539279629665086435:True:=⟨⟩
theorem tw1618257061525177391:True:=⟨⟩
theorem tw15101626397353680889:True:=⟨⟩
theorem tw13804515886879389611:True:=⟨⟩
theorem tw13490842232056313919:True:=⟨⟩
theorem tw15313878965791097445:True:=⟨⟩
theorem tw5796131131521989235:True:=⟨⟩
theorem tw12232531327455420451:True:=⟨⟩
theorem tw10451149608882534429:True:=⟨⟩
theorem tw6053937714420483277:True:=⟨⟩
theorem tw4719171175922174308:True:=⟨⟩
theorem tw1608929597451888126:True:=⟨⟩
end PySem.W.Fast
open PySem PySem.W PyProof.Rows
set_option maxRecDepth 100000 in
set_option maxHeartbeats 0 in
theorem PySem.Challenge.cw_soundkeeping_s14_mend_holds : PySem.Challenge.rw_soundkeeping_s14_mend.Holds := by
 w_on;k_headS;(case hw=>exact ⟨[.int 0, .list [], .list []],by decide+kernel,by decide+kernel⟩)
 k_fillS
 refine L2.Kx (r:=PySem.Challenge.rw_soundkeeping_s14_mend) (k:=18) (CX:=L2.aQ) (ps:= ["n", "form", "data"]) (sp:=Wg.AE) (by decide+kernel) rfl rfl ⟨rfl,by decide,by decide⟩ (fun w h Y=>PySem.W.kIn_of Y) ?F ?S (fun _ _ _ _ z=>z)
 case F=>
  intro w mg fa h Y KX G hmg
  have T: ∃A,Wg.Txt (L2.C1 KX) mg A:=by
   dsimp only [L2.C1]
   apply Wg.RZ
   apply Wg.Txt.mk
   all_goals try dsimp only
   all_goals first
   |(refine PySem.W.mg_of KX G ?_;k_is;done)
   |(refine PySem.W.mg_none_of KX G ?_;k_is;done)
   |(apply L2.RG;all_goals try k_is)
   |exact Wg.KG fun _=>rfl
   |exact Wg.MV fun _ _=>rfl
   |exact Wg.QJ fun _ _ _=>rfl
   |exact Wg.QQ fun _ _ _ _=>rfl
   |exact Wg.Fp fun _ _ _ _ _=>rfl
   |(apply L2.Meth.mk<;>k_is)
   |(apply L2.cT.mk<;>k_is)
   |(apply L2.Mk.mk<;>k_is)
   |(apply L2.Own.mk<;>(try unfold L2.iD)<;>first|k_is|k_exc|rfl)
   |exact beq_eq_false_iff_ne.mp rfl
   |(refine (?_:PySem.W.findIn _ _ _=some none);k_is;done)
   |(apply Wg.Qi;k_is;decide;repeat first|exact .nil|refine .cons rfl ?_|refine .cons ⟨_,rfl⟩ ?_)
   |exact fun s us hu=>match us,hu with| [_,_,_],_=> .of_eq rfl
   |skip
  obtain ⟨A,T⟩:=T
  have e0:=hmg.symm.trans T.Mc
  cases e0
  exact ⟨A.iY,T.entry,fun base _ _=>Wg.EC T⟩
 case S=>
  intro K H xs a hO hwi hask hx
  obtain ⟨x0,x1,x2,u⟩:=a
  cases hx with
  |cons h0 r0=>
   cases r0 with
   |cons h1 r1=>
    cases r1 with
    |cons h2 r2=>
     cases r2
     cases h0
     cases h1 with
     |lst s1 d1=>
      have e1:=L2.va x1 _ d1
      subst e1
      cases h2 with
      |lst s2 d2=>
       have e2:=L2.va x2 _ d2
       subst e2
       have q:(Codec.inInt 0 4294967295 x0&&((Codec.inLen 0 8 x1&&x1.all (Codec.inInt 0 4294967295))&&((Codec.inLen 0 16384 x2&&x2.all (Codec.inInt 0 255))&&true)))=true:=hwi
       simp only [Bool.and_eq_true] at q
       obtain ⟨q0,⟨l1,b1⟩,⟨l2,b2⟩,_⟩:=q
       have q0:=Codec.inInt_iff.mp q0
       have l1:=(Codec.inNat_iff.mp l1).2
       have b1:=fun z hz=>Codec.inInt_iff.mp (List.all_eq_true.mp b1 z hz)
       have l2:=(Codec.inNat_iff.mp l2).2
       have b2:=fun z hz=>Codec.inInt_iff.mp (List.all_eq_true.mp b2 z hz)
       exact ⟨x0,_,_,x1,x2,rfl,s1,s2,q0,fun z hz=>(b1 z hz).1,l2,b2,fun H' p hp=> .lst (L2.af.of hp) (L2.DT _)⟩
#print axioms PySem.Challenge.cw_soundkeeping_s14_mend_holds
